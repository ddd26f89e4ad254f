import PyProof.Rows.All
import Wide.All
import OpenK.AllK
import Wide.FinOn
import HandS.ForMost
import HandS.ForExc
import HandS.IsInst
import HandS.ExcIs
import HandS.Wide
import HandS.Evl
import PySem.Challenge.RW_rentroll_k02_days_follow
set_option Elab.async false
set_option linter.all false
set_option maxRecDepth 100000
set_option maxHeartbeats 2000000
namespace My
open PySem PySem.Spec PyProof.Rows L2
/-! ### rules of two kinds at once -/
section
variable {X : Cx}
def rPlus : R2 := fun x y H Q => rI0 (fun i j => .int (i + j)) x y H Q ∨ rCat x y H Q
theorem op_plus : OpR X (binaryOp .Add) rPlus := op_add.or op_cat
def rIx2 (K : PySem.W.Frag) : R2 := fun x y H Q => rIxL K x y H Q ∨ rIxT K x y H Q
theorem ix_lt : IxR X (rIx2 X.K) := ix_list.or ix_tup
def rEqA (K : PySem.W.Frag) : R2 := fun x y H Q => rEq x y H Q ∨ rEqD K x y H Q
def rNeA (K : PySem.W.Frag) : R2 := fun x y H Q => rNe x y H Q ∨ rNeD K x y H Q
theorem op_eqA (hu : X.A.units + 64 < cLine) : OpR X (compareOp .Eq) (rEqA X.K) := op_eq.or (op_eqD hu)
theorem op_neA (hu : X.A.units + 64 < cLine) : OpR X (compareOp .NotEq) (rNeA X.K) := op_ne.or (op_neD hu)
def rIsN : R2 := fun x y H Q => y = .non ∧ Q (.bl (decide (x = .non))) H
def rNotN : R2 := fun x y H Q => y = .non ∧ Q (.bl (!decide (x = .non))) H
theorem op_isA : OpR X (compareOp .Is) rIsN := op_isN
theorem op_isnotA : OpR X (compareOp .IsNot) rNotN := op_notN
def iLT (K : PySem.W.Frag) (tl : TE) : TI := fun σ H R => iList K tl σ H R ∨ iTup K tl σ H R
theorem pi_lt {tg l : Expr} {tl : TE} (hl : PE X l tl) : PI X tg l (iLT X.K tl) :=
  ⟨fun pins s σ H R I h => h.elim ((pi_list hl).run pins s σ H R I) ((pi_tup hl).run pins s σ H R I)⟩
def rLen (K : PySem.W.Frag) : List V → Hp → VK → Prop := fun xs H Q => ∃ p ys, xs = [.ref p] ∧ (SqL K H p ys ∨ SqT K H p ys) ∧ Q (.int ys.length) H
theorem call_lenA : CallR X (.builtin "len") (rLen X.K) := call_len_seq
def rListOf (K : PySem.W.Frag) : List V → Hp → VK → Prop := fun xs H Q => ∃ p ys, xs = [.ref p] ∧ (SqL K H p ys ∨ SqT K H p ys) ∧ ∀ l, H l = none → Q (.ref l) (upd H l (.lst ys))
theorem call_listA : CallR X (.type "list") (rListOf X.K) := call_list_of
/-- isinstance(e, c) within an except suite, whatever class the caught error has -/
def rIsX (K : PySem.W.Frag) (cls : Value) (d : Option Addr) (a : Addr) : List V → Hp → VK → Prop := fun xs H Q => ∃ D, cls = .ref D ∧ d = none ∧ ExcC K D ∧ rIsE K D a xs H Q
theorem call_isX {a : Addr} {oe : Obj} {cls : Value} {d : Option Addr} {pn : List (Addr × Obj)} (hz : Zc cls d oe) (hf : ∃ vs, oe.data = .fields vs) :
    CallR (X.suite a ((a, oe) :: pn)) (.builtin "isinstance") (rIsX X.K cls d a) := by
  intro pins s σ H xs us Q I r h
  obtain ⟨D, rfl, rfl, C, q⟩ := h
  exact call_isE (X := X) C hz hf pins s σ H xs us Q I r q
end
theorem at_modI {ns : List Int} (z : Int) {n : Int} (hn : (ns.length : Int) = n) (h0 : 0 < n) : atI (ns.map V.int) (z % n) = some (.int (ns.getD (z % n).toNat 0)) := by
  have h1 : 0 ≤ z % n := Int.emod_nonneg _ (by omega)
  have h2 : z % n < n := Int.emod_lt_of_pos _ h0
  obtain ⟨j, hj⟩ : ∃ j : Nat, z % n = (j : Int) := ⟨(z % n).toNat, by omega⟩
  rw [hj]
  have hl : j < ns.length := by omega
  refine atI_nat ?_
  rw [List.getElem?_map, List.getElem?_eq_getElem hl]
  simp [List.getD, hl]
theorem at_modV {xs : List V} (z : Int) {n : Int} (hn : (xs.length : Int) = n) (h0 : 0 < n) : ∃ v, v ∈ xs ∧ atI xs (z % n) = some v := by
  have h1 : 0 ≤ z % n := Int.emod_nonneg _ (by omega)
  have h2 : z % n < n := Int.emod_lt_of_pos _ h0
  obtain ⟨j, hj⟩ : ∃ j : Nat, z % n = (j : Int) := ⟨(z % n).toNat, by omega⟩
  rw [hj]
  have hl : j < xs.length := by omega
  exact ⟨xs[j], List.getElem_mem hl, atI_nat (List.getElem?_eq_getElem hl)⟩
theorem lk_ne {H : Hp} {a b : Addr} {o u : HO} (h : H a = some o) (hb : H b = none) : upd H b u a = some o := (upd_ne (ne_of_none h hb)).trans h
theorem cmul_l {i j : Int} (h0 : -(2 ^ 64) < i) (h1 : i < 2 ^ 64) : CMul i j := .inl ⟨h0, h1⟩
theorem cmul_r {i j : Int} (h0 : -(2 ^ 64) < j) (h1 : j < 2 ^ 64) : CMul i j := .inr ⟨h0, h1⟩
theorem cpow_ok {i j : Int} (h0 : 0 ≤ j) (h1 : j ≤ 1000000) (h2 : i.natAbs < 2 ^ 64) : CPow i j := ⟨h0, h1, h2⟩
theorem getD_all {l : List Int} {R : Int → Prop} (n : Nat) (h : ∀ x, x ∈ l → R x) (h0 : R 0) : R (l.getD n 0) := by
  rw [List.getD]
  cases e : l[n]? with
  | none => exact h0
  | some x => exact h x (List.mem_of_getElem? e)
theorem cdiv_ok {i j : Int} (h0 : 0 < j) (h1 : j < 1073741824) : CDiv i j := ⟨h0, h1⟩
theorem same_new {H : Hp} {p : Addr} {o : HO} (hp : H p = none) : Same H (upd H p o) := fun b u e => by rw [upd_ne (ne_of_none e hp)]; exact e
/-- an object that H does not know may change -/
theorem same_mut {H H' : Hp} {p : Addr} {o : HO} (e : Same H H') (hp : H p = none) : Same H (upd H' p o) := fun b u h => by rw [upd_ne (ne_of_none h hp)]; exact e b u h
theorem same_sqT {K : PySem.W.Frag} {H H' : Hp} {a : Addr} {xs : List V} (e : Same H H') (h : SqT K H a xs) : SqT K H' a xs := by
  rcases h with (h | ⟨o, h⟩) | h
  · exact .inl (.inl (e _ _ h))
  · exact .inl (.inr ⟨o, e _ _ h⟩)
  · exact .inr h
/-! ### a comprehension that makes a list of what its element gives, turn by turn -/
theorem range_more {α : Type} (f : Nat → α) (i : Nat) : (List.range (i + 1)).map f = (List.range i).map f ++ [f i] := by rw [List.range_succ, List.map_append]; rfl
section
variable {K : PySem.W.Frag} {σ : L2.St} {H : Hp} {Q : VK} {te : TE} {vs : List Nat} {j : Nat}
def Made (H : Hp) (D : Addr) (f : Nat → V) (i : Nat) (H' : Hp) : Prop := Same H H' ∧ H' D = some (.lst ((List.range i).map f))
theorem made_turn {H H' : Hp} {D : Addr} {f : Nat → V} {i : Nat} {σ2 : L2.St} (hD : H D = none) (m : Made H D f i H') (hi : i < 100000) (hs : ∀ Q' : VK, (∀ H'', Same H' H'' → Q' (f i) H'') → te σ2 H' Q') :
    te σ2 H' fun y H4 => ∃ acc, H4 D = some (.lst acc) ∧ acc.length < sizeLine ∧ Made H D f (i + 1) (upd H4 D (.lst (acc ++ [y]))) := by
  refine hs _ fun H4 s4 => ⟨_, s4 _ _ m.2, ?_, same_mut (m.1.trans s4) hD, ?_⟩
  · rw [List.length_map, List.length_range]; exact Nat.lt_of_lt_of_le hi (by decide)
  · rw [upd_same, range_more]
theorem lc_r2 {ta : TA} {lo hi : Int} (f : Nat → V) (hta : ∀ Q' : List V → Hp → Prop, Q' [.int lo, .int hi] H → ta σ H Q') (b1 : -100000 ≤ lo ∧ lo ≤ 100000) (b2 : -100000 ≤ hi ∧ hi ≤ 100000) (b3 : hi - lo ≤ 100000)
    (hw : ∀ x, wipe ((wipe σ vs).set j (some x)) vs = wipe σ vs)
    (hs : ∀ (i : Nat) H', lo + i < hi → Same H H' → ∀ Q' : VK, (∀ H'', Same H' H'' → Q' (f i) H'') → te ((wipe σ vs).set j (some (.int (lo + i)))) H' Q')
    (hq : ∀ D H', H D = none → Same H H' → H' D = some (.lst ((List.range (hi - lo).toNat).map f)) → Q (.ref D) H') : tLc (iRng2 ta) (gName j) tYes te vs σ H Q := by
  refine hta _ ⟨lo, hi, rfl, by omega, fun D hD => ?_⟩
  refine lc_range (lo := lo) (n := (hi - lo).toNat) (Made H D f) ⟨same_new hD, upd_same⟩ (fun i H' hi' m => ?_) (fun H' m => hq D H' hD m.1 m.2)
  exact ⟨hw _, made_turn hD m (by omega) (hs i H' (by omega) m.1)⟩
theorem lc_r1 {ta : TA} {hi : Int} (f : Nat → V) (hta : ∀ Q' : List V → Hp → Prop, Q' [.int hi] H → ta σ H Q') (b2 : -100000 ≤ hi ∧ hi ≤ 100000)
    (hw : ∀ x, wipe ((wipe σ vs).set j (some x)) vs = wipe σ vs)
    (hs : ∀ (i : Nat) H', (i : Int) < hi → Same H H' → ∀ Q' : VK, (∀ H'', Same H' H'' → Q' (f i) H'') → te ((wipe σ vs).set j (some (.int (0 + i)))) H' Q')
    (hq : ∀ D H', H D = none → Same H H' → H' D = some (.lst ((List.range hi.toNat).map f)) → Q (.ref D) H') : tLc (iRng1 ta) (gName j) tYes te vs σ H Q := by
  refine hta _ ⟨hi, rfl, by omega, by omega, fun D hD => ?_⟩
  refine lc_range (lo := 0) (n := hi.toNat) (Made H D f) ⟨same_new hD, upd_same⟩ (fun i H' hi' m => ?_) (fun H' m => hq D H' hD m.1 m.2)
  exact ⟨hw _, made_turn hD m (by omega) (hs i H' (by omega) m.1)⟩
theorem lc_L {tl : TE} {a : Addr} {xs : List V} (f : Nat → V) (htl : ∀ Q' : VK, Q' (.ref a) H → tl σ H Q') (hx : SqL K H a xs) (hz : xs.length ≤ 100000)
    (hw : ∀ x, wipe ((wipe σ vs).set j (some x)) vs = wipe σ vs)
    (hs : ∀ (i : Nat) x H', xs[i]? = some x → Same H H' → ∀ Q' : VK, (∀ H'', Same H' H'' → Q' (f i) H'') → te ((wipe σ vs).set j (some x)) H' Q')
    (hq : ∀ D H', H D = none → Same H H' → H' D = some (.lst ((List.range xs.length).map f)) → Q (.ref D) H') : tLc (iLT K tl) (gName j) tYes te vs σ H Q := by
  refine .inl (htl _ ⟨a, rfl, ⟨xs, hx⟩, fun D hD => ?_⟩)
  refine lc_list (K := K) (a := a) (xs := xs) (Made H D f) ⟨same_new hD, upd_same⟩ (fun i H' _ m => m.1.seq hx) (fun i x H' hi' m => ?_) (fun H' m => hq D H' hD m.1 m.2)
  have hl := (List.getElem?_eq_some_iff.mp hi').1
  exact ⟨hw _, made_turn hD m (by omega) (hs i x H' hi' m.1)⟩
theorem lc_T {tl : TE} {a : Addr} {xs : List V} (f : Nat → V) (htl : ∀ Q' : VK, Q' (.ref a) H → tl σ H Q') (hx : SqT K H a xs) (hz : xs.length ≤ 100000)
    (hw : ∀ x, wipe ((wipe σ vs).set j (some x)) vs = wipe σ vs)
    (hs : ∀ (i : Nat) x H', xs[i]? = some x → Same H H' → ∀ Q' : VK, (∀ H'', Same H' H'' → Q' (f i) H'') → te ((wipe σ vs).set j (some x)) H' Q')
    (hq : ∀ D H', H D = none → Same H H' → H' D = some (.lst ((List.range xs.length).map f)) → Q (.ref D) H') : tLc (iLT K tl) (gName j) tYes te vs σ H Q := by
  refine .inr (htl _ ⟨a, rfl, ⟨xs, hx⟩, fun D hD => ?_⟩)
  refine lc_tup (K := K) (a := a) (xs := xs) (Made H D f) ⟨same_new hD, upd_same⟩ (fun i H' _ m => same_sqT m.1 hx) (fun i x H' hi' m => ?_) (fun H' m => hq D H' hD m.1 m.2)
  have hl := (List.getElem?_eq_some_iff.mp hi').1
  exact ⟨hw _, made_turn hD m (by omega) (hs i x H' hi' m.1)⟩
end
/-! ### readings, step by step: a goal «t ⟨nx, rt, bk, ct⟩ σ H», «te σ H Q» -/
section
variable {σ : L2.St} {H : Hp} {i : Nat} {v x y z : V} {ta tb tc te tv : TE} {b : Bool} {K : PySem.W.Frag} {a C dx : Addr} {fs : List (Str × V)} {f : Str} {t u c : TT} {Q : VK}
  {nx bk ct : L2.St → Hp → Prop} {rt : VK} {s1 s2 : TS} {r r' : R2} {g : TG}
theorem g_seq (h : s1 ⟨s2 ⟨nx, rt, bk, ct⟩, rt, bk, ct⟩ σ H) : tSeq s1 s2 ⟨nx, rt, bk, ct⟩ σ H := h
theorem g_next (h : nx σ H) : tNext ⟨nx, rt, bk, ct⟩ σ H := h
theorem g_brk (h : bk σ H) : tBreak ⟨nx, rt, bk, ct⟩ σ H := h
theorem g_cont (h : ct σ H) : tCont ⟨nx, rt, bk, ct⟩ σ H := h
theorem g_set (h : te σ H (fun x H1 => nx (σ.set i (some x)) H1)) : tAsg te (gName i) ⟨nx, rt, bk, ct⟩ σ H := h
theorem g_asg (h : te σ H (fun x H1 => g x σ H1 nx)) : tAsg te g ⟨nx, rt, bk, ct⟩ σ H := h
theorem g_drop (h : te σ H (fun _ H1 => nx σ H1)) : tDrop te ⟨nx, rt, bk, ct⟩ σ H := h
theorem g_ret (h : te σ H rt) : tRet te ⟨nx, rt, bk, ct⟩ σ H := h
theorem g_retN (h : rt .non H) : tRetN ⟨nx, rt, bk, ct⟩ σ H := h
theorem g_ifS (h : c σ H fun b H1 => if b = true then s1 ⟨nx, rt, bk, ct⟩ σ H1 else s2 ⟨nx, rt, bk, ct⟩ σ H1) : tIfS c s1 s2 ⟨nx, rt, bk, ct⟩ σ H := h
theorem g_aug {ti : TIp} (hx : σ[i]? = some (some x)) (h : te σ H fun y H1 => ti x y H1 fun z H2 => nx (σ.set i (some z)) H2) : tAug i te ti ⟨nx, rt, bk, ct⟩ σ H := ⟨x, hx, h⟩
theorem g_ipI {f : Int → Int → Int} {m n : Int} (q : Q (.int (f m n)) H) : ipI f (.int m) (.int n) H Q := ⟨m, n, rfl, rfl, q⟩
theorem g_fldS (h : tv σ H fun y H1 => ta σ H1 fun x H2 => ∃ a C dx fs, x = .ref a ∧ H2 a = some (.ins C dx fs) ∧ Cls K C ∧ NoAttr K C f ∧ fs.length < 1000 ∧ nx σ (upd H2 a (.ins C dx (putF f y fs)))) : sFld K ta tv f ⟨nx, rt, bk, ct⟩ σ H := h
theorem g_var (h : σ[i]? = some (some v)) (q : Q v H) : tVar i σ H Q := ⟨v, h, q⟩
theorem g_c (q : Q v H) : tC v σ H Q := q
theorem g_op (h : ta σ H fun x H1 => tb σ H1 fun y H2 => r x y H2 Q) : tOp r ta tb σ H Q := h
theorem g_un {r : V → Hp → VK → Prop} (h : ta σ H fun x H1 => r x H1 Q) : tUn r ta σ H Q := h
theorem r_int {g : Int → Int → V} {m n : Int} (q : Q (g m n) H) : rI0 g (.int m) (.int n) H Q := ⟨m, n, rfl, rfl, q⟩
theorem r_intC {C : Int → Int → Prop} {g : Int → Int → V} {m n : Int} (hc : C m n) (q : Q (g m n) H) : rI C g (.int m) (.int n) H Q := ⟨m, n, rfl, rfl, hc, q⟩
theorem r_U {g : Int → V} {m : Int} (q : Q (g m) H) : rU g (.int m) H Q := ⟨m, rfl, q⟩
theorem r_plus {m n : Int} (q : Q (.int (m + n)) H) : rPlus (.int m) (.int n) H Q := .inl ⟨m, n, rfl, rfl, q⟩
theorem r_cat {l b : Addr} {xs zs : List V} (h1 : H l = some (.lst xs)) (h2 : H b = some (.lst zs)) (hz : xs.length + zs.length ≤ sizeLine) (q : ∀ p, H p = none → Q (.ref p) (upd H p (.lst (xs ++ zs)))) : rPlus (.ref l) (.ref b) H Q :=
  .inr ⟨l, b, xs, zs, rfl, rfl, h1, h2, hz, q⟩
theorem r_eqS (hs : scal x y = true) (q : Q (.bl (decide (x = y))) H) : rEqA K x y H Q := .inl ⟨hs, q⟩
theorem r_neS (hs : scal x y = true) (q : Q (.bl (!decide (x = y))) H) : rNeA K x y H Q := .inl ⟨hs, q⟩
theorem r_eqI {m n : Int} (q : Q (.bl (decide (m = n))) H) : rEqA K (.int m) (.int n) H Q := .inl ⟨rfl, by
  have e : decide (V.int m = V.int n) = decide (m = n) := by simp
  rw [e]; exact q⟩
theorem r_neI {m n : Int} (q : Q (.bl (!decide (m = n))) H) : rNeA K (.int m) (.int n) H Q := .inl ⟨rfl, by
  have e : decide (V.int m = V.int n) = decide (m = n) := by simp
  rw [e]; exact q⟩
theorem r_eqD {d e : PyData} (h1 : Dp K H x d) (h2 : Dp K H y e) (s1 : SeqAt.shaped d = true) (s2 : SeqAt.shaped e = true) (q : Q (.bl (PyData.eqv d e)) H) : rEqA K x y H Q := .inr ⟨d, e, h1, h2, s1, s2, q⟩
theorem r_neD {d e : PyData} (h1 : Dp K H x d) (h2 : Dp K H y e) (s1 : SeqAt.shaped d = true) (s2 : SeqAt.shaped e = true) (q : Q (.bl (!PyData.eqv d e)) H) : rNeA K x y H Q := .inr ⟨d, e, h1, h2, s1, s2, q⟩
theorem r_eqDD {d : PyData} (h1 : Dp K H x d) (h2 : Dp K H y d) (s1 : SeqAt.shaped d = true) (c : d.canLay0 = true) (q : Q (.bl true) H) : rEqA K x y H Q := r_eqD h1 h2 s1 s1 (by rw [SeqAt.eqv_refl _ c]; exact q)
theorem r_neDD {d : PyData} (h1 : Dp K H x d) (h2 : Dp K H y d) (s1 : SeqAt.shaped d = true) (c : d.canLay0 = true) (q : Q (.bl false) H) : rNeA K x y H Q := r_neD h1 h2 s1 s1 (by rw [SeqAt.eqv_refl _ c]; exact q)
theorem r_isN (q : Q (.bl (decide (x = .non))) H) : rIsN x .non H Q := ⟨rfl, q⟩
theorem r_notN (q : Q (.bl (!decide (x = .non))) H) : rNotN x .non H Q := ⟨rfl, q⟩
theorem r_ixL {l : Addr} {xs : List V} {n : Int} (h : SqL K H l xs) (ha : atI xs n = some v) (q : Q v H) : rIx2 K (.ref l) (.int n) H Q := .inl ⟨l, xs, n, v, rfl, rfl, h, ha, q⟩
theorem r_ixT {l : Addr} {xs : List V} {n : Int} (h : SqT K H l xs) (ha : atI xs n = some v) (q : Q v H) : rIx2 K (.ref l) (.int n) H Q := .inr ⟨l, xs, n, v, rfl, rfl, h, ha, q⟩
theorem g_test {Q : Bool → Hp → Prop} (h : te σ H fun x H' => ∃ k, x = .bl k ∧ Q k H') : tTest te σ H Q := h
theorem g_B {Q : Bool → Hp → Prop} (h : te σ H fun x H' => ∃ k, x = .bl k ∧ Q k H') : tB te σ H Q := h
theorem g_bl {R : Bool → Prop} (q : R b) : ∃ k, V.bl b = .bl k ∧ R k := ⟨b, rfl, q⟩
theorem g_tcut (M : L2.St → Hp → Prop) (h : s1 ⟨M, rt, bk, ct⟩ σ H) (k : ∀ σ' H', M σ' H' → s2 ⟨nx, rt, bk, ct⟩ σ' H') : Evl.tCut s1 s2 ⟨nx, rt, bk, ct⟩ σ H := ⟨M, h, k⟩
theorem g_and {Q : Bool → Hp → Prop} (h : t σ H fun c H1 => if c = true then u σ H1 Q else Q false H1) : tAnd t u σ H Q := h
theorem g_or {Q : Bool → Hp → Prop} (h : t σ H fun c H1 => if c = true then Q true H1 else u σ H1 Q) : tOr t u σ H Q := h
theorem g_not {Q : Bool → Hp → Prop} (h : t σ H fun c H1 => Q (!c) H1) : tNot t σ H Q := h
theorem g_andV (h : ta σ H fun x H1 => ∃ c, x = .bl c ∧ if c = true then tb σ H1 Q else Q (.bl false) H1) : tAndV ta tb σ H Q := h
theorem g_orV (h : ta σ H fun x H1 => ∃ c, x = .bl c ∧ if c = true then Q (.bl true) H1 else tb σ H1 Q) : tOrV ta tb σ H Q := h
theorem g_notV (h : ta σ H fun x H1 => ∃ c, x = .bl c ∧ Q (.bl (!c)) H1) : tNotV ta σ H Q := h
theorem g_blI {A B : Prop} (h : if b = true then A else B) : ∃ c, V.bl b = .bl c ∧ if c = true then A else B := ⟨b, rfl, h⟩
theorem g_ifE (h : t σ H fun c H1 => if c = true then ta σ H1 Q else tb σ H1 Q) : tIf t ta tb σ H Q := h
theorem g_chain (h : ta σ H fun x H1 => tb σ H1 fun y H2 => r x y H2 fun z H3 => ∃ k, z = .bl k ∧ (if k = true then tc σ H3 fun w' H4 => r' y w' H4 Q else Q (.bl false) H3)) : tChain r r' ta tb tc σ H Q := h
theorem g_nil {Q : List V → Hp → Prop} (q : Q [] H) : tNil σ H Q := q
theorem g_cons {tr : TA} {Q : List V → Hp → Prop} (h : ta σ H fun x H1 => tr σ H1 fun xs H2 => Q (x :: xs) H2) : tCons ta tr σ H Q := h
theorem g_CB {r : List V → Hp → VK → Prop} {tr : TA} (h : tr σ H fun vs H1 => r vs H1 Q) : tCB r tr σ H Q := h
theorem g_call {sp : Sp} {E : L2.St → XK} {tr : TA} (h : tr σ H fun vs H1 => sp vs H1 Q (E σ)) : tCallS sp E tr σ H Q := h
theorem g_tup {tr : TA} (h : tr σ H fun xs H1 => xs.length ≤ sizeLine ∧ ∀ p, H1 p = none → Q (.ref p) (upd H1 p (.tup xs))) : tTup tr σ H Q := h
theorem g_lst {tr : TA} (h : tr σ H fun xs H1 => xs.length ≤ sizeLine ∧ ∀ p, H1 p = none → Q (.ref p) (upd H1 p (.lst xs))) : tLst tr σ H Q := h
theorem g_fld (h : ta σ H fun x H1 => ∃ a C dx fs v, x = .ref a ∧ H1 a = some (.ins C dx fs) ∧ Cls K C ∧ NoAttr K C f ∧ fs.lookup f = some v ∧ Q v H1) : tFld K ta f σ H Q := h
theorem g_bm {T : String} {r : V → List V → Hp → VK → Prop} {tr : TA} (h : ta σ H fun x H1 => tyV K T x H1 ∧ tr σ H1 fun xs H2 => r x xs H2 Q) : tBM K T r ta tr σ H Q := h
theorem g_ite {A B : Prop} {c : Prop} [Decidable c] (h1 : c → A) (h2 : ¬ c → B) : if decide c = true then A else B := by
  by_cases h : c
  · rw [if_pos (decide_eq_true h)]; exact h1 h
  · rw [if_neg (by rw [decide_eq_false h]; exact Bool.false_ne_true)]; exact h2 h
theorem g_iteN {A B : Prop} {c : Prop} [Decidable c] (h1 : ¬ c → A) (h2 : c → B) : if (!decide c) = true then A else B := by
  by_cases h : c
  · rw [if_neg (by rw [decide_eq_true h]; exact Bool.false_ne_true)]; exact h2 h
  · rw [if_pos (by rw [decide_eq_false h]; rfl)]; exact h1 h
theorem g_iteB {A B : Prop} {c : Bool} (h1 : c = true → A) (h2 : c = false → B) : if c = true then A else B := by
  cases c with
  | true => exact h1 rfl
  | false => exact h2 rfl
theorem g_iteNB {A B : Prop} {c : Bool} (h1 : c = false → A) (h2 : c = true → B) : if (!c) = true then A else B := by
  cases c with
  | true => exact h2 rfl
  | false => exact h1 rfl
theorem g_cut (v : V) (h : ∀ Q' : VK, Q' v H → te σ H Q') (q : Q v H) : te σ H Q := h Q q
theorem g_cutH (v : V) (R : Hp → Prop) (h : ∀ Q' : VK, (∀ H', R H' → Q' v H') → te σ H Q') (q : ∀ H', R H' → Q v H') : te σ H Q := h Q q
theorem g_cutT {Q : Bool → Hp → Prop} (b : Bool) (h : ∀ Q' : Bool → Hp → Prop, Q' b H → t σ H Q') (q : Q b H) : t σ H Q := h Q q
theorem g_ifB (b : Bool) (h : ∀ Q' : Bool → Hp → Prop, Q' b H → c σ H Q') (h1 : b = true → s1 ⟨nx, rt, bk, ct⟩ σ H) (h2 : b = false → s2 ⟨nx, rt, bk, ct⟩ σ H) : tIfS c s1 s2 ⟨nx, rt, bk, ct⟩ σ H := by
  refine h _ ?_
  cases b with
  | true => exact h1 rfl
  | false => exact h2 rfl
/-- while, by an invariant with a measure -/
theorem g_while (W : Nat → L2.St → Hp → Prop) (m0 : Nat) (h0 : W m0 σ H)
    (hs : ∀ m σ' H', W m σ' H' → c σ' H' fun b H1 => if b = true then ∃ N : L2.St → Hp → Prop, (∀ σ2 H2, N σ2 H2 → ∃ m', m' < m ∧ W m' σ2 H2) ∧ s1 ⟨N, rt, nx, N⟩ σ' H1 else nx σ' H1) : tWhile c s1 ⟨nx, rt, bk, ct⟩ σ H :=
  ⟨W, ⟨m0, h0⟩, hs⟩
theorem g_ifBH (b : Bool) (R : Hp → Prop) (h : ∀ Q' : Bool → Hp → Prop, (∀ H', R H' → Q' b H') → c σ H Q') (h1 : b = true → ∀ H', R H' → s1 ⟨nx, rt, bk, ct⟩ σ H') (h2 : b = false → ∀ H', R H' → s2 ⟨nx, rt, bk, ct⟩ σ H') : tIfS c s1 s2 ⟨nx, rt, bk, ct⟩ σ H := by
  refine h _ fun H' r => ?_
  cases b with
  | true => exact h1 rfl H' r
  | false => exact h2 rfl H' r
theorem g_T {A B : Prop} (h : A) : if true = true then A else B := h
theorem g_F {A B : Prop} (h : B) : if false = true then A else B := h
theorem g_nT {A B : Prop} (h : B) : if (!true) = true then A else B := h
theorem g_nF {A B : Prop} (h : A) : if (!false) = true then A else B := h
end
end My
/-! ### the tactics: go1 one step, go as far as it goes; lk: what stands at an address -/
local macro_rules | `(tactic| walk_at "lk") => `(tactic| first
  | assumption
  | exact L2.upd_same
  | (refine My.lk_ne ?_ (by assumption); walk_at "lk")
  | (refine (show L2.Same _ _ by assumption) _ _ ?_; walk_at "lk"))
local macro_rules | `(tactic| walk_at "sm") => `(tactic| first
  | assumption
  | exact L2.Same.refl _
  | exact My.same_new (by assumption)
  | (refine L2.Same.trans ?_ (My.same_new (by assumption)); walk_at "sm")
  | (refine L2.Same.trans ?_ (show L2.Same _ _ by assumption); walk_at "sm"))
local macro_rules | `(tactic| walk_at "sq") => `(tactic| first
  | assumption
  | (refine L2.SqL.of ?_; walk_at "lk")
  | (refine L2.SqT.of ?_; walk_at "lk"))
local macro_rules | `(tactic| walk_at "go0") => `(tactic| first
  | with_reducible refine My.g_seq ?_
  | with_reducible refine My.g_set ?_
  | with_reducible refine My.g_ret ?_
  | with_reducible refine My.g_next ?_
  | with_reducible refine My.g_brk ?_
  | with_reducible refine My.g_cont ?_
  | with_reducible refine My.g_asg ?_
  | with_reducible refine My.g_drop ?_
  | with_reducible refine My.g_retN ?_
  | (with_reducible refine' My.g_var ?h ?q; (case h => with_unfolding_all rfl))
  | with_reducible refine My.g_c ?_
  | with_reducible refine My.g_op ?_
  | with_reducible refine My.g_un ?_
  | with_reducible refine My.r_int ?_
  | with_reducible refine My.r_U ?_
  | with_reducible refine My.r_plus ?_
  | with_reducible refine My.r_eqI ?_
  | with_reducible refine My.r_neI ?_
  | with_reducible refine My.r_isN ?_
  | with_reducible refine My.r_notN ?_
  | with_reducible refine My.r_intC (by walk_at "side") ?_
  | with_reducible refine My.g_test ?_
  | with_reducible refine My.g_B ?_
  | with_reducible refine My.g_blI ?_
  | with_reducible refine My.g_bl ?_
  | with_reducible refine My.g_and ?_
  | with_reducible refine My.g_or ?_
  | with_reducible refine My.g_not ?_
  | with_reducible refine My.g_andV ?_
  | with_reducible refine My.g_orV ?_
  | with_reducible refine My.g_notV ?_
  | with_reducible refine My.g_ifE ?_
  | with_reducible refine My.g_chain ?_
  | with_reducible refine My.g_nil ?_
  | with_reducible refine My.g_cons ?_
  | with_reducible refine My.g_CB ?_
  | with_reducible refine My.g_call ?_
  | with_reducible refine My.g_tup ?_
  | with_reducible refine My.g_lst ?_
  | with_reducible refine My.g_fld ?_
  | with_reducible refine My.g_fldS ?_
  | with_reducible refine My.g_bm ?_
  | with_reducible refine My.g_ipI ?_
  | with_reducible refine My.g_T ?_
  | with_reducible refine My.g_F ?_
  | with_reducible refine My.g_nT ?_
  | with_reducible refine My.g_nF ?_
  | (with_reducible refine' My.g_aug ?h ?q; (case h => with_unfolding_all rfl))
  | dsimp only)
local macro_rules | `(tactic| walk_at "side") => `(tactic| first
  | decide
  | (show (0 : Int) < _; omega)
  | exact My.cdiv_ok (by omega) (by omega)
  | exact My.cmul_r (by omega) (by omega)
  | exact My.cmul_l (by omega) (by omega)
  | exact My.cpow_ok (by omega) (by omega) (by decide))
local macro_rules | `(tactic| walk_at "go1") => `(tactic| first | (walk_at "go0") | with_reducible refine My.g_ifS ?_)
local macro_rules | `(tactic| walk_at "gos") => `(tactic| repeat (walk_at "go0"))
local macro_rules | `(tactic| walk_at "sz") => `(tactic| exact Nat.le_of_ble_eq_true rfl)
local macro_rules | `(tactic| walk_at "go") => `(tactic| repeat (walk_at "go1"))

namespace NS
open PySem PySem.Spec PyProof.Rows L2 My
def top (i : Nat) : Stmt := PySem.Challenge.pw_rentroll_k02_days_follow.main.body.getD i (.Pass ⟨0, 0, 0, 0⟩)
abbrev s_is_whole : Stmt := top 9
abbrev s_is_within : Stmt := top 10
abbrev s_check_day : Stmt := top 11
abbrev s_month_days : Stmt := top 12
abbrev s_month_of : Stmt := top 13
abbrev s_day_of : Stmt := top 14
abbrev s_is_leap : Stmt := top 15
abbrev s_length : Stmt := top 16
abbrev s_year_start : Stmt := top 17
abbrev s_l_cell_at : Stmt := top 19
abbrev s_l_whole : Stmt := top 20
abbrev s_l_day : Stmt := top 21
abbrev s_l_length : Stmt := top 22
abbrev s_l_date : Stmt := top 23
abbrev s_l_refused : Stmt := top 24
abbrev s_l_none : Stmt := top 25
abbrev s_l_next : Stmt := top 26
abbrev s_law : Stmt := top 27
abbrev N_is_whole : List Str := ["thing"]
theorem sc_is_whole : FnScope N_is_whole ["thing"] (defScope s_is_whole) := ⟨rfl, rfl, rfl, by decide +kernel, rfl, by decide +kernel, by decide +kernel⟩
abbrev N_is_within : List Str := ["thing", "low", "high"]
theorem sc_is_within : FnScope N_is_within ["thing", "low", "high"] (defScope s_is_within) := ⟨rfl, rfl, rfl, by decide +kernel, rfl, by decide +kernel, by decide +kernel⟩
abbrev N_check_day : List Str := ["day"]
theorem sc_check_day : FnScope N_check_day ["day"] (defScope s_check_day) := ⟨rfl, rfl, rfl, by decide +kernel, rfl, by decide +kernel, by decide +kernel⟩
abbrev N_month_days : List Str := ["year", "month"]
theorem sc_month_days : FnScope N_month_days ["year", "month"] (defScope s_month_days) := ⟨rfl, rfl, rfl, by decide +kernel, rfl, by decide +kernel, by decide +kernel⟩
abbrev N_month_of : List Str := ["day", "year", "number", "month"]
theorem sc_month_of : FnScope N_month_of ["day"] (defScope s_month_of) := ⟨rfl, rfl, rfl, by decide +kernel, rfl, by decide +kernel, by decide +kernel⟩
abbrev N_day_of : List Str := ["year", "month", "number", "ahead", "earlier", "day"]
theorem sc_day_of : FnScope N_day_of ["year", "month", "number"] (defScope s_day_of) := ⟨rfl, rfl, rfl, by decide +kernel, rfl, by decide +kernel, by decide +kernel⟩
abbrev N_is_leap : List Str := ["year"]
theorem sc_is_leap : FnScope N_is_leap ["year"] (defScope s_is_leap) := ⟨rfl, rfl, rfl, by decide +kernel, rfl, by decide +kernel, by decide +kernel⟩
abbrev N_length : List Str := ["year", "month"]
theorem sc_length : FnScope N_length ["year", "month"] (defScope s_length) := ⟨rfl, rfl, rfl, by decide +kernel, rfl, by decide +kernel, by decide +kernel⟩
abbrev N_year_start : List Str := ["year", "years", "leaps"]
theorem sc_year_start : FnScope N_year_start ["year"] (defScope s_year_start) := ⟨rfl, rfl, rfl, by decide +kernel, rfl, by decide +kernel, by decide +kernel⟩
abbrev N_l_cell_at : List Str := ["_law_script", "_law_k"]
theorem sc_l_cell_at : FnScope N_l_cell_at ["_law_script", "_law_k"] (defScope s_l_cell_at) := ⟨rfl, rfl, rfl, by decide +kernel, rfl, by decide +kernel, by decide +kernel⟩
abbrev N_l_whole : List Str := ["_law_found"]
theorem sc_l_whole : FnScope N_l_whole ["_law_found"] (defScope s_l_whole) := ⟨rfl, rfl, rfl, by decide +kernel, rfl, by decide +kernel, by decide +kernel⟩
abbrev N_l_day : List Str := ["_law_cell", "_law_near"]
theorem sc_l_day : FnScope N_l_day ["_law_cell"] (defScope s_l_day) := ⟨rfl, rfl, rfl, by decide +kernel, rfl, by decide +kernel, by decide +kernel⟩
abbrev N_l_length : List Str := ["_law_year", "_law_month", "_law_long", "_law_leap"]
theorem sc_l_length : FnScope N_l_length ["_law_year", "_law_month"] (defScope s_l_length) := ⟨rfl, rfl, rfl, by decide +kernel, rfl, by decide +kernel, by decide +kernel⟩
abbrev N_l_date : List Str := ["_law_day_here", "_law_year", "_law_month"]
theorem sc_l_date : FnScope N_l_date ["_law_day_here"] (defScope s_l_date) := ⟨rfl, rfl, rfl, by decide +kernel, rfl, by decide +kernel, by decide +kernel⟩
abbrev N_l_refused : List Str := ["_law_way", "_law_number"]
theorem sc_l_refused : FnScope N_l_refused ["_law_way", "_law_number"] (defScope s_l_refused) := ⟨rfl, rfl, rfl, by decide +kernel, rfl, by decide +kernel, by decide +kernel⟩
abbrev N_l_none : List Str := ["_law_cell", "_law_other", "_law_year", "_law_month", "_law_number", "_law_odd"]
theorem sc_l_none : FnScope N_l_none ["_law_cell", "_law_other"] (defScope s_l_none) := ⟨rfl, rfl, rfl, by decide +kernel, rfl, by decide +kernel, by decide +kernel⟩
abbrev N_l_next : List Str := ["_law_month", "_law_days"]
theorem sc_l_next : FnScope N_l_next ["_law_month", "_law_days"] (defScope s_l_next) := ⟨rfl, rfl, rfl, by decide +kernel, rfl, by decide +kernel, by decide +kernel⟩
abbrev N_law : List Str := ["_law_script", "_law_day_here", "_law_cell", "_law_far", "_law_month", "_law_one", "_law_days", "_law_number"]
theorem sc_law : FnScope N_law ["_law_script"] (defScope s_law) := ⟨rfl, rfl, rfl, by decide +kernel, rfl, by decide +kernel, by decide +kernel⟩
structure Txt (K : PySem.W.Frag) (mg : Str → Option Value) where
  f_is_whole : Addr
  fd_is_whole : FuncData
  F_is_whole : Fun K "is_whole" "is_whole" s_is_whole f_is_whole fd_is_whole
  b_is_whole : Binds K fd_is_whole ["thing"] []
  g_is_whole : mg "is_whole" = some (.ref f_is_whole)
  f_is_within : Addr
  fd_is_within : FuncData
  F_is_within : Fun K "is_within" "is_within" s_is_within f_is_within fd_is_within
  b_is_within : Binds K fd_is_within ["thing", "low", "high"] []
  g_is_within : mg "is_within" = some (.ref f_is_within)
  f_check_day : Addr
  fd_check_day : FuncData
  F_check_day : Fun K "check_day" "check_day" s_check_day f_check_day fd_check_day
  b_check_day : Binds K fd_check_day ["day"] []
  g_check_day : mg "check_day" = some (.ref f_check_day)
  f_month_days : Addr
  fd_month_days : FuncData
  F_month_days : Fun K "month_days" "month_days" s_month_days f_month_days fd_month_days
  b_month_days : Binds K fd_month_days ["year", "month"] []
  g_month_days : mg "month_days" = some (.ref f_month_days)
  f_month_of : Addr
  fd_month_of : FuncData
  F_month_of : Fun K "month_of" "month_of" s_month_of f_month_of fd_month_of
  b_month_of : Binds K fd_month_of ["day"] []
  g_month_of : mg "month_of" = some (.ref f_month_of)
  f_day_of : Addr
  fd_day_of : FuncData
  F_day_of : Fun K "day_of" "day_of" s_day_of f_day_of fd_day_of
  b_day_of : Binds K fd_day_of ["year", "month", "number"] []
  g_day_of : mg "day_of" = some (.ref f_day_of)
  f_is_leap : Addr
  fd_is_leap : FuncData
  F_is_leap : Fun K "_is_leap" "_is_leap" s_is_leap f_is_leap fd_is_leap
  b_is_leap : Binds K fd_is_leap ["year"] []
  g_is_leap : mg "_is_leap" = some (.ref f_is_leap)
  f_length : Addr
  fd_length : FuncData
  F_length : Fun K "_length" "_length" s_length f_length fd_length
  b_length : Binds K fd_length ["year", "month"] []
  g_length : mg "_length" = some (.ref f_length)
  f_year_start : Addr
  fd_year_start : FuncData
  F_year_start : Fun K "_year_start" "_year_start" s_year_start f_year_start fd_year_start
  b_year_start : Binds K fd_year_start ["year"] []
  g_year_start : mg "_year_start" = some (.ref f_year_start)
  f_l_cell_at : Addr
  fd_l_cell_at : FuncData
  F_l_cell_at : Fun K "_law_cell_at" "_law_cell_at" s_l_cell_at f_l_cell_at fd_l_cell_at
  b_l_cell_at : Binds K fd_l_cell_at ["_law_script", "_law_k"] []
  g_l_cell_at : mg "_law_cell_at" = some (.ref f_l_cell_at)
  f_l_whole : Addr
  fd_l_whole : FuncData
  F_l_whole : Fun K "_law_whole" "_law_whole" s_l_whole f_l_whole fd_l_whole
  b_l_whole : Binds K fd_l_whole ["_law_found"] []
  g_l_whole : mg "_law_whole" = some (.ref f_l_whole)
  f_l_day : Addr
  fd_l_day : FuncData
  F_l_day : Fun K "_law_day" "_law_day" s_l_day f_l_day fd_l_day
  b_l_day : Binds K fd_l_day ["_law_cell"] []
  g_l_day : mg "_law_day" = some (.ref f_l_day)
  f_l_length : Addr
  fd_l_length : FuncData
  F_l_length : Fun K "_law_length" "_law_length" s_l_length f_l_length fd_l_length
  b_l_length : Binds K fd_l_length ["_law_year", "_law_month"] []
  g_l_length : mg "_law_length" = some (.ref f_l_length)
  f_l_date : Addr
  fd_l_date : FuncData
  F_l_date : Fun K "_law_date" "_law_date" s_l_date f_l_date fd_l_date
  b_l_date : Binds K fd_l_date ["_law_day_here"] []
  g_l_date : mg "_law_date" = some (.ref f_l_date)
  f_l_refused : Addr
  fd_l_refused : FuncData
  F_l_refused : Fun K "_law_refused" "_law_refused" s_l_refused f_l_refused fd_l_refused
  b_l_refused : Binds K fd_l_refused ["_law_way", "_law_number"] []
  g_l_refused : mg "_law_refused" = some (.ref f_l_refused)
  f_l_none : Addr
  fd_l_none : FuncData
  F_l_none : Fun K "_law_none" "_law_none" s_l_none f_l_none fd_l_none
  b_l_none : Binds K fd_l_none ["_law_cell", "_law_other"] []
  g_l_none : mg "_law_none" = some (.ref f_l_none)
  f_l_next : Addr
  fd_l_next : FuncData
  F_l_next : Fun K "_law_next" "_law_next" s_l_next f_l_next fd_l_next
  b_l_next : Binds K fd_l_next ["_law_month", "_law_days"] []
  g_l_next : mg "_law_next" = some (.ref f_l_next)
  f_law : Addr
  fd_law : FuncData
  F_law : Fun K "law" "law" s_law f_law fd_law
  b_law : Binds K fd_law ["_law_script"] []
  g_law : mg "law" = some (.ref f_law)
  c_RentError : Addr
  g_RentError : mg "RentError" = some (.ref c_RentError)
  c_BadDay : Addr
  g_BadDay : mg "BadDay" = some (.ref c_BadDay)
  x_BadDay : PySem.W.excIn K c_BadDay [.type "ValueError", .type "Exception", .type "BaseException", .type "object"] "ValueError.__new__" = true
  k_BadDay : PySem.W.keepIn K (.ref c_BadDay) = true
  s_BadDay : PySem.W.subIn K (.ref c_BadDay) (.type "BaseException") = some true
  t_BadDay : PySem.W.typeIn K (.ref c_BadDay) = some (.type "type")
  m_BadDay_BadDay : PySem.W.exmOne K (.ref c_BadDay) (.ref c_BadDay) = some true
  tk_FIRST_YEAR : Tok
  g_FIRST_YEAR : mg "FIRST_YEAR" = some (.int 2000 tk_FIRST_YEAR)
  tk_LAST_YEAR : Tok
  g_LAST_YEAR : mg "LAST_YEAR" = some (.int 2273 tk_LAST_YEAR)
  tk_LAST_DAY : Tok
  g_LAST_DAY : mg "LAST_DAY" = some (.int 99999 tk_LAST_DAY)
  tk_LONGEST_YEAR : Tok
  g_LONGEST_YEAR : mg "LONGEST_YEAR" = some (.int 366 tk_LONGEST_YEAR)
  a_LENGTHS : Addr
  g_LENGTHS : mg "LENGTHS" = some (.ref a_LENGTHS)
  q_LENGTHS : ∀ H : Hp, SqT K H a_LENGTHS [.int 31, .int 28, .int 31, .int 30, .int 31, .int 30, .int 31, .int 31, .int 30, .int 31, .int 30, .int 31]
  n_isinstance : mg "isinstance" = none
  n_int : mg "int" = none
  n_bool : mg "bool" = none
  n_sum : mg "sum" = none
  n_range : mg "range" = none
  n_len : mg "len" = none
  n_tuple : mg "tuple" = none

def isI : V → Bool
  | .int _ => true
  | _ => false
def isB : V → Bool
  | .bl _ => true
  | _ => false
def thing (H : Hp) : V → Prop
  | .int _ => True
  | .bl _ => True
  | .str _ => True
  | .non => True
  | .ref a => ∃ xs, H a = some (.tup xs)
  | _ => False
theorem thing_ty {K : PySem.W.Frag} {H : Hp} {x : V} (h : thing H x) : ∃ n : String, TyX K H x (.type n) ∧ kitB n "int" = some (isI x || isB x) ∧ kitB n "bool" = some (isB x) := by
  cases x with
  | int i => exact ⟨"int", .base (.int i), (by decide +kernel : kitB "int" "int" = some true), (by decide +kernel : kitB "int" "bool" = some false)⟩
  | bl i => exact ⟨"bool", .base (.bl i), (by decide +kernel : kitB "bool" "int" = some true), (by decide +kernel : kitB "bool" "bool" = some true)⟩
  | str i => exact ⟨"str", .base (.str i), (by decide +kernel : kitB "str" "int" = some false), (by decide +kernel : kitB "str" "bool" = some false)⟩
  | non => exact ⟨"NoneType", .base .non, by decide +kernel, by decide +kernel⟩
  | ref a => obtain ⟨xs, e⟩ := h; exact ⟨"tuple", .base (.tup e), (by decide +kernel : kitB "tuple" "int" = some false), (by decide +kernel : kitB "tuple" "bool" = some false)⟩
  | _ => exact h.elim
theorem thing_same {H H' : Hp} {x : V} (e : Same H H') (h : thing H x) : thing H' x := by
  cases x with
  | ref a => obtain ⟨xs, q⟩ := h; exact ⟨xs, e _ _ q⟩
  | _ => exact h
theorem isI_not {x : V} (h : isB x = true) : isI x = false := by
  cases x <;> first | rfl | cases h
def within (x : V) (lo hi : Int) : Bool := match x with
  | .int i => decide (lo ≤ i) && decide (i ≤ hi)
  | _ => false
def sp_is_whole : Sp := fun vs H Q _ => ∃ x, vs = [x] ∧ thing H x ∧ Q (.bl (isI x)) H
def sp_is_within : Sp := fun vs H Q _ => ∃ x lo hi, vs = [x, .int lo, .int hi] ∧ thing H x ∧ Q (.bl (within x lo hi)) H
def leap (y : Int) : Bool := if y % 100 = 0 then decide (y % 400 = 0) else decide (y % 4 = 0)
def lens : List Int := [31, 28, 31, 30, 31, 30, 31, 31, 30, 31, 30, 31]
def mlen (y m : Int) : Int := if m = 2 ∧ leap y = true then 29 else lens.getD (m - 1).toNat 0
def sp_is_leap : Sp := fun vs H Q _ => ∃ y, vs = [.int y] ∧ Q (.bl (leap y)) H
def sp_length : Sp := fun vs H Q _ => ∃ y m, vs = [.int y, .int m] ∧ 1 ≤ m ∧ m ≤ 12 ∧ Q (.int (mlen y m)) H
theorem at_lens {m : Int} (h1 : 1 ≤ m) (h2 : m ≤ 12) : atI (lens.map V.int) (m - 1) = some (.int (lens.getD (m - 1).toNat 0)) := by
  obtain rfl | rfl | rfl | rfl | rfl | rfl | rfl | rfl | rfl | rfl | rfl | rfl : m = 1 ∨ m = 2 ∨ m = 3 ∨ m = 4 ∨ m = 5 ∨ m = 6 ∨ m = 7 ∨ m = 8 ∨ m = 9 ∨ m = 10 ∨ m = 11 ∨ m = 12 := by omega
  all_goals rfl
theorem leap_eq (y : Int) : (decide (y % 4 = 0) && (decide (0 < y % 100) || decide (y % 400 = 0))) = leap y := by
  unfold leap
  by_cases h : y % 100 = 0
  · rw [if_pos h]
    by_cases h4 : y % 400 = 0
    · have : y % 4 = 0 := by omega
      simp [h4, this]
    · simp [h4, h]
  · rw [if_neg h]
    have : 0 < y % 100 := by omega
    simp [this]
def isdate (x y : V) : Bool := within x 2000 2273 && within y 1 12
def sp_month_days (C : Addr) : Sp := fun vs H Q E => ∃ x y, vs = [x, y] ∧ thing H x ∧ thing H y ∧
  (∀ i m, x = .int i → y = .int m → isdate x y = true → Q (.int (mlen i m)) H) ∧ (isdate x y = false → E (.ref C) none H)
def ystart (y : Int) : Int := 365 * (y - 2000) + ((y - 2000 + 3) / 4 - (y - 2000 + 99) / 100 + (y - 2000 + 399) / 400)
def ylen (y : Int) : Int := 365 + if leap y = true then 1 else 0
theorem ystart_succ (y : Int) : ystart (y + 1) = ystart y + ylen y := by
  unfold ystart ylen leap
  by_cases h : y % 100 = 0
  · rw [if_pos h]
    by_cases h4 : y % 400 = 0
    · simp only [h4, decide_true, if_pos]; omega
    · simp only [h4, decide_false, Bool.false_eq_true, if_false]; omega
  · rw [if_neg h]
    by_cases h4 : y % 4 = 0
    · simp only [h4, decide_true, if_pos]; omega
    · simp only [h4, decide_false, Bool.false_eq_true, if_false]; omega
theorem ystart_le {a b : Int} (h : a ≤ b) : ystart a ≤ ystart b := by unfold ystart; omega
theorem ystart_nn {a : Int} (h : 2000 ≤ a) : 0 ≤ ystart a := by unfold ystart; omega
theorem ystart_guess {d : Int} (h : 0 ≤ d) : ystart (2000 + d / 366) ≤ d := by unfold ystart; omega
def cum : List Int := [0, 31, 59, 90, 120, 151, 181, 212, 243, 273, 304, 334, 365]
def mstart (y m : Int) : Int := cum.getD (m - 1).toNat 0 + if 2 < m ∧ leap y = true then 1 else 0
theorem month12 {m : Int} (h1 : 1 ≤ m) (h2 : m ≤ 12) : m = 1 ∨ m = 2 ∨ m = 3 ∨ m = 4 ∨ m = 5 ∨ m = 6 ∨ m = 7 ∨ m = 8 ∨ m = 9 ∨ m = 10 ∨ m = 11 ∨ m = 12 := by omega
theorem mstart_succ {y m : Int} (h1 : 1 ≤ m) (h2 : m ≤ 12) : mstart y (m + 1) = mstart y m + mlen y m := by
  unfold mstart mlen
  cases leap y <;> rcases month12 h1 h2 with rfl | rfl | rfl | rfl | rfl | rfl | rfl | rfl | rfl | rfl | rfl | rfl <;> decide
theorem mstart_one (y : Int) : mstart y 1 = 0 := by
  unfold mstart
  cases leap y <;> decide
theorem mstart_end (y : Int) : mstart y 12 + mlen y 12 = ylen y := by
  unfold mstart mlen ylen
  cases leap y <;> decide
theorem mlen_pos {y m : Int} (h1 : 1 ≤ m) (h2 : m ≤ 12) : 28 ≤ mlen y m ∧ mlen y m ≤ 31 := by
  unfold mlen
  cases leap y <;> rcases month12 h1 h2 with rfl | rfl | rfl | rfl | rfl | rfl | rfl | rfl | rfl | rfl | rfl | rfl <;> decide
theorem mstart_le {y m : Int} (h1 : 1 ≤ m) : ∀ n : Nat, m + n ≤ 13 → mstart y m ≤ mstart y (m + n)
  | 0, _ => by rw [show m + ((0 : Nat) : Int) = m by omega]; exact Int.le_refl _
  | n + 1, h => by
    have ih := mstart_le (y := y) h1 n (by omega)
    have e := mstart_succ (y := y) (m := m + n) (by omega) (by omega)
    have p := mlen_pos (y := y) (m := m + n) (by omega) (by omega)
    rw [show m + ((n + 1 : Nat) : Int) = m + n + 1 by omega]
    omega
theorem mstart_mono {y m n : Int} (h1 : 1 ≤ m) (h2 : m ≤ n) (h3 : n ≤ 13) : mstart y m ≤ mstart y n := by
  have h := mstart_le (y := y) h1 (n - m).toNat (by omega)
  rw [show m + (((n - m).toNat : Nat) : Int) = n by omega] at h
  exact h
structure IsDate (d y m k : Int) : Prop where
  y1 : 2000 ≤ y
  m1 : 1 ≤ m
  m2 : m ≤ 12
  k1 : 1 ≤ k
  k2 : k ≤ mlen y m
  eq : d = ystart y + mstart y m + k - 1
theorem IsDate.inYear {d y m k : Int} (h : IsDate d y m k) : ystart y ≤ d ∧ d < ystart (y + 1) := by
  have e := ystart_succ y
  have e2 := mstart_end y
  have e3 := mstart_mono (y := y) h.m1 (show m ≤ m from Int.le_refl _) (by have := h.m2; omega)
  have e4 : mstart y 1 ≤ mstart y m := mstart_mono (by omega) h.m1 (by have := h.m2; omega)
  rw [mstart_one] at e4
  have e5 : mstart y (m + 1) ≤ mstart y 13 := mstart_mono (by have := h.m1; omega) (by have := h.m2; omega) (by omega)
  have e6 := mstart_succ (y := y) h.m1 h.m2
  have e7 : mstart y 13 = mstart y 12 + mlen y 12 := mstart_succ (y := y) (m := 12) (by omega) (by omega)
  have := h.k1
  have := h.k2
  have := h.eq
  omega
theorem IsDate.yle {d y m k : Int} (h : IsDate d y m k) (hd : d ≤ 99999) : y ≤ 2273 := by
  by_cases c : y ≤ 2273
  · exact c
  · have e := ystart_le (show 2274 ≤ y by omega)
    have e2 : ystart 2274 = 100077 := by decide
    have := h.inYear.1
    omega
theorem IsDate.uniq {d y m k y' m' k' : Int} (h : IsDate d y m k) (h' : IsDate d y' m' k') : y = y' ∧ m = m' ∧ k = k' := by
  have a := h.inYear
  have b := h'.inYear
  have ey : y = y' := by
    rcases Int.lt_trichotomy y y' with c | c | c
    · have := ystart_le (show y + 1 ≤ y' by omega); omega
    · exact c
    · have := ystart_le (show y' + 1 ≤ y by omega); omega
  subst ey
  have := h.k1; have := h.k2; have := h.eq; have := h.m1; have := h.m2
  have := h'.k1; have := h'.k2; have := h'.eq; have := h'.m1; have := h'.m2
  have em : m = m' := by
    rcases Int.lt_trichotomy m m' with c | c | c
    · have q1 := mstart_mono (y := y) (m := m + 1) (n := m') (by omega) (by omega) (by omega)
      have q2 := mstart_succ (y := y) (m := m) (by omega) (by omega)
      omega
    · exact c
    · have q1 := mstart_mono (y := y) (m := m' + 1) (n := m) (by omega) (by omega) (by omega)
      have q2 := mstart_succ (y := y) (m := m') (by omega) (by omega)
      omega
  subst em
  exact ⟨rfl, rfl, by omega⟩
theorem mstart_nn {y m : Int} (h1 : 1 ≤ m) (h2 : m ≤ 13) : 0 ≤ mstart y m := by
  have := mstart_mono (y := y) (m := 1) (n := m) (by omega) h1 h2
  rw [mstart_one] at this
  exact this
theorem mstart_sum (y : Int) : ∀ n : Nat, n ≤ 12 → ((List.range n).map fun (i : Nat) => mlen y (1 + (i : Int))).sum = mstart y (1 + (n : Int))
  | 0, _ => (mstart_one y).symm
  | n + 1, h => by
    have ih := mstart_sum y n (by omega)
    rw [range_more, List.sum_append, ih]
    have e := mstart_succ (y := y) (m := 1 + (n : Int)) (by omega) (by omega)
    rw [show (1 + ((n + 1 : Nat) : Int)) = 1 + (n : Int) + 1 by omega, e]
    simp
def sp_check_day (C : Addr) : Sp := fun vs H Q E => ∃ x, vs = [x] ∧ thing H x ∧ (within x 0 99999 = true → Q .non H) ∧ (within x 0 99999 = false → E (.ref C) none H)
def sp_year_start : Sp := fun vs H Q _ => ∃ y, vs = [.int y] ∧ Q (.int (ystart y)) H
def sp_month_of (C : Addr) : Sp := fun vs H Q E => ∃ x, vs = [x] ∧ thing H x ∧
  (∀ i y m k, x = .int i → 0 ≤ i → i ≤ 99999 → IsDate i y m k → ∀ p, H p = none → Q (.ref p) (upd H p (.tup [.int y, .int m, .int k]))) ∧ (within x 0 99999 = false → E (.ref C) none H)
def dayv (x y z : V) : Option Int := match x, y, z with
  | .int yy, .int mm, .int kk => if isdate (.int yy) (.int mm) = true ∧ 1 ≤ kk ∧ kk ≤ mlen yy mm ∧ ystart yy + mstart yy mm + kk - 1 ≤ 99999 then some (ystart yy + mstart yy mm + kk - 1) else none
  | _, _, _ => none
def sp_day_of (C : Addr) : Sp := fun vs H Q E => ∃ x y z, vs = [x, y, z] ∧ thing H x ∧ thing H y ∧ thing H z ∧
  (∀ d, dayv x y z = some d → ∀ H', Same H H' → Q (.int d) H') ∧ (dayv x y z = none → ∀ H', Same H H' → E (.ref C) none H')
theorem within_int {x : V} {lo hi : Int} (h : within x lo hi = true) : ∃ i, x = .int i ∧ lo ≤ i ∧ i ≤ hi := by
  cases x with
  | int i =>
    simp only [within, Bool.and_eq_true, decide_eq_true_eq] at h
    exact ⟨i, rfl, h⟩
  | _ => cases h
theorem isdate_ints {x y : V} (h : isdate x y = true) : ∃ i m, x = .int i ∧ y = .int m ∧ 2000 ≤ i ∧ i ≤ 2273 ∧ 1 ≤ m ∧ m ≤ 12 := by
  simp only [isdate, Bool.and_eq_true] at h
  obtain ⟨i, rfl, h1, h2⟩ := within_int h.1
  obtain ⟨m, rfl, h3, h4⟩ := within_int h.2
  exact ⟨i, m, rfl, rfl, h1, h2, h3, h4⟩
theorem dayv_no {x y z : V} (h : isdate x y = false) : dayv x y z = none := by
  cases x <;> cases y <;> cases z <;> first | rfl | (unfold dayv; exact if_neg fun q => by rw [h] at q; exact Bool.false_ne_true q.1)
theorem dayv_yes {d y m k : Int} (h : IsDate d y m k) (hd : d ≤ 99999) : dayv (.int y) (.int m) (.int k) = some d := by
  have hy := h.yle hd
  have e : isdate (.int y) (.int m) = true := by simp only [isdate, within, Bool.and_eq_true, decide_eq_true_eq]; exact ⟨⟨h.y1, hy⟩, h.m1, h.m2⟩
  have he := h.eq
  exact (if_pos ⟨e, h.k1, h.k2, by omega⟩).trans (congrArg some he.symm)
theorem dayv_noz {i m : Int} {z : V} (h : within z 1 (mlen i m) = false) : dayv (.int i) (.int m) z = none := by
  cases z <;> first | rfl | skip
  rename_i k
  unfold dayv
  refine if_neg fun q => ?_
  have : within (.int k) 1 (mlen i m) = true := by simp only [within, Bool.and_eq_true, decide_eq_true_eq]; exact ⟨q.2.1, q.2.2.1⟩
  rw [h] at this
  exact Bool.false_ne_true this
def cell (ns : List Int) (k : Int) : Int := ns.getD k.toNat 0
def sp_l_cell_at (K : PySem.W.Frag) : Sp := fun vs H Q _ => ∃ (a : Addr) (ns : List Int) (k : Int), vs = [.ref a, .int k] ∧ SqL K H a (ns.map V.int) ∧ 0 ≤ k ∧ Q (.int (cell ns k)) H
def sp_l_whole : Sp := sp_is_whole
def sp_law (K : PySem.W.Frag) : Sp := fun vs H Q _ => ∃ (a : Addr) (ns : List Int), vs = [.ref a] ∧ SqL K H a (ns.map V.int) ∧ ns.length ≤ 63 ∧ ∀ H', Q (.bl true) H'
def sp_l_length : Sp := fun vs H Q _ => ∃ y m, vs = [.int y, .int m] ∧ 1 ≤ m ∧ m ≤ 12 ∧ ∀ H', Same H H' → Q (.int (mlen y m)) H'
def sp_l_day : Sp := fun vs H Q _ => ∃ c, vs = [.int c] ∧ ∀ d, 0 ≤ d → d ≤ 99999 → ∀ H', Same H H' → Q (.int d) H'
def sp_l_date : Sp := fun vs H Q _ => ∃ d, vs = [.int d] ∧ 0 ≤ d ∧ d ≤ 99999 ∧ ∀ y m k, IsDate d y m k → ∀ p H', Same H H' → H p = none → H' p = some (.tup [.int y, .int m, .int k]) → Q (.ref p) H'
def sp_l_refused (K : PySem.W.Frag) : Sp := fun vs H Q _ => ∃ w z, vs = [w, z] ∧ thing H z ∧ ((w = .non ∧ ∀ H', Same H H' → Q (.bl (!within z 0 99999)) H') ∨
  ∃ p x y r, w = .ref p ∧ H p = some (.tup (x :: y :: r)) ∧ thing H x ∧ thing H y ∧ ∀ H', Same H H' → Q (.bl (dayv x y z).isNone) H')
def sp_l_none (K : PySem.W.Frag) : Sp := fun vs H Q _ => ∃ c o, vs = [.int c, .int o] ∧ ∀ H', Same H H' → Q (.bl true) H'
def nextd (y m k n : Int) : List Int := if k < n then [y, m, k + 1] else if m < 12 then [y, m + 1, 1] else [y + 1, 1, 1]
def sp_l_next (K : PySem.W.Frag) : Sp := fun vs H Q _ => ∃ p y m k n, vs = [.ref p, .int n] ∧ H p = some (.tup [.int y, .int m, .int k]) ∧ ∀ p' H', Same H H' → H p' = none → H' p' = some (.tup ((nextd y m k n).map V.int)) → Q (.ref p') H'
theorem next_date {d y m k : Int} (h : IsDate d y m k) : ∃ a b c, nextd y m k (mlen y m) = [a, b, c] ∧ IsDate (d + 1) a b c := by
  have e := h.eq; have h1 := h.y1; have h2 := h.m1; have h3 := h.m2; have h4 := h.k1; have h5 := h.k2
  unfold nextd
  by_cases c : k < mlen y m
  · rw [if_pos c]
    exact ⟨_, _, _, rfl, h1, h2, h3, by omega, by omega, by omega⟩
  · rw [if_neg c]
    by_cases c2 : m < 12
    · rw [if_pos c2]
      have q := mstart_succ (y := y) h2 h3
      have q2 := mlen_pos (y := y) (m := m + 1) (by omega) (by omega)
      exact ⟨_, _, _, rfl, h1, by omega, by omega, by omega, by omega, by omega⟩
    · rw [if_neg c2]
      have em : m = 12 := by omega
      subst em
      have q := ystart_succ y
      have q2 := mstart_end y
      have q3 := mstart_one (y + 1)
      have q4 := mlen_pos (y := y + 1) (m := 1) (by omega) (by omega)
      exact ⟨_, _, _, rfl, by omega, by omega, by omega, by omega, by omega, by omega⟩
theorem ylen_feb (y : Int) : ylen y = 337 + mlen y 2 := by
  unfold ylen mlen
  cases leap y <;> decide
theorem at0 {x : V} {r : List V} : atI (x :: r) 0 = some x := atI_nat (j := 0) rfl
theorem at1 {x y : V} {r : List V} : atI (x :: y :: r) 1 = some y := atI_nat (j := 1) rfl
theorem at2 {x y z : V} {r : List V} : atI (x :: y :: z :: r) 2 = some z := atI_nat (j := 2) rfl
section
variable {P : Program} {w : World} {K : PySem.W.Frag} {mg : Str → Option Value} {base : Heap}
theorem ok_is_whole (T : Txt K mg) : FnOk P w K mg base (L2.CX P w) 1 T.f_is_whole T.fd_is_whole ["thing"] (sp_is_whole) := by
  refine T.F_is_whole.okX sc_is_whole (fun vs H Q E h => ?_) (fun cdv A outer s H vs Q E hr h => ?_)
  · first | (obtain ⟨_, rfl, _⟩ := h; rfl) | (obtain ⟨_, _, rfl, _⟩ := h; rfl) | (obtain ⟨_, _, _, rfl, _⟩ := h; rfl) | (obtain ⟨_, _, _, _, rfl, _⟩ := h; rfl) | (obtain ⟨_, _, _, _, _, rfl, _⟩ := h; rfl) | (obtain ⟨_, _, _, _, _, _, rfl, _⟩ := h; rfl) | (obtain ⟨_, _, _, _, _, _, _, rfl, _⟩ := h; rfl)
  · refine ⟨_, (pss_one (ps_ret (pe_and (pe_callB (show CallR _ (.builtin "isinstance") (rIsi K) from call_isi) (by rfl) T.n_isinstance (by decide +kernel) (pa_cons (pv 0) (pa_cons (pe_bltn (v := .ty "int") (by rfl) T.n_int (by decide +kernel) rfl) pa_nil))) (pe_one (pe_not (pe_callB (show CallR _ (.builtin "isinstance") (rIsi K) from call_isi) (by rfl) T.n_isinstance (by decide +kernel) (pa_cons (pv 0) (pa_cons (pe_bltn (v := .ty "bool") (by rfl) T.n_bool (by decide +kernel) rfl) pa_nil)))))))), ?_⟩
    obtain ⟨x, rfl, hx, k⟩ := h
    obtain ⟨n, ht, h1, h2⟩ := thing_ty (K := K) hx
    walk_at "go"
    refine ⟨x, .ty "int", _, _, _, rfl, .ty _, ht, kit_ty h1, ?_⟩
    walk_at "go"
    refine g_iteB (fun c => ?_) (fun c => ?_)
    · walk_at "go"
      refine ⟨x, .ty "bool", _, _, _, rfl, .ty _, ht, kit_ty h2, ?_⟩
      refine ⟨_, rfl, ?_⟩
      cases e : isB x with
      | true => rw [isI_not e] at k; exact k
      | false => rw [e, Bool.or_false] at c; rw [c] at k; exact k
    · rw [(Bool.or_eq_false_iff.mp c).1] at k
      exact k
theorem ok_is_within (T : Txt K mg) : FnOk P w K mg base (L2.CX P w) 2 T.f_is_within T.fd_is_within ["thing", "low", "high"] (sp_is_within) := by
  refine T.F_is_within.okX sc_is_within (fun vs H Q E h => ?_) (fun cdv A outer s H vs Q E hr h => ?_)
  · first | (obtain ⟨_, rfl, _⟩ := h; rfl) | (obtain ⟨_, _, rfl, _⟩ := h; rfl) | (obtain ⟨_, _, _, rfl, _⟩ := h; rfl) | (obtain ⟨_, _, _, _, rfl, _⟩ := h; rfl) | (obtain ⟨_, _, _, _, _, rfl, _⟩ := h; rfl) | (obtain ⟨_, _, _, _, _, _, rfl, _⟩ := h; rfl) | (obtain ⟨_, _, _, _, _, _, _, rfl, _⟩ := h; rfl)
  · refine ⟨_, (pss_one (ps_ret (pe_and (pe_callS (ok_is_whole T) hr (by rfl) T.g_is_whole T.F_is_whole.kp T.b_is_whole (fun σ => passAt (takes_of rfl rfl rfl rfl) σ) (by exact (pa_cons (pv 0) pa_nil))) (pe_one (pe_chain op_le op_le (pv 1) (pv 0) (pv 2)))))), ?_⟩
    obtain ⟨x, lo, hi, rfl, hx, k⟩ := h
    walk_at "go"
    refine ⟨_, rfl, hx, ?_⟩
    walk_at "go"
    cases x with
    | int i =>
      refine g_T ?_
      walk_at "go"
      refine g_ite (fun c => ?_) (fun c => ?_)
      · walk_at "go"
        have e : within (.int i) lo hi = decide (i ≤ hi) := by simp [within, c]
        rw [e] at k
        exact k
      · have e : within (.int i) lo hi = false := by simp [within, c]
        rw [e] at k
        exact k
    | _ => exact g_F k
theorem ok_check_day (T : Txt K mg) : FnOk P w K mg base (L2.CX P w) 3 T.f_check_day T.fd_check_day ["day"] (sp_check_day T.c_BadDay) := by
  refine T.F_check_day.okX sc_check_day (fun vs H Q E h => ?_) (fun cdv A outer s H vs Q E hr h => ?_)
  · first | (obtain ⟨_, rfl, _⟩ := h; rfl) | (obtain ⟨_, _, rfl, _⟩ := h; rfl) | (obtain ⟨_, _, _, rfl, _⟩ := h; rfl) | (obtain ⟨_, _, _, _, rfl, _⟩ := h; rfl) | (obtain ⟨_, _, _, _, _, rfl, _⟩ := h; rfl) | (obtain ⟨_, _, _, _, _, _, rfl, _⟩ := h; rfl) | (obtain ⟨_, _, _, _, _, _, _, rfl, _⟩ := h; rfl)
  · refine ⟨_, (pss_one (ps_if (pt_not (pt_val (pe_callS (ok_is_within T) hr (by rfl) T.g_is_within T.F_is_within.kp T.b_is_within (fun σ => passAt (takes_of rfl rfl rfl rfl) σ) (by exact (pa_cons (pv 0) (pa_cons pe_int (pa_cons (pe_glob (v := .int 99999) (by rfl) T.g_LAST_DAY ⟨_, rfl⟩) pa_nil)))))))
  (pss_one (ps_raise rfl (takes_of rfl rfl rfl rfl) (pmk_own PySem.F.excBase_ValueError T.x_BadDay T.g_BadDay T.k_BadDay (raises_own T.s_BadDay T.t_BadDay) (by exact rfl))))
  pss_nil)), ?_⟩
    obtain ⟨x, rfl, hx, k1, k2⟩ := h
    walk_at "go"
    refine ⟨_, _, _, rfl, hx, ?_⟩
    walk_at "go"
    refine g_iteNB (fun c => ?_) (fun c => ?_)
    · exact k2 c
    · walk_at "go"
      exact k1 c
theorem ok_is_leap (T : Txt K mg) : FnOk P w K mg base (L2.CX P w) 1 T.f_is_leap T.fd_is_leap ["year"] (sp_is_leap) := by
  refine T.F_is_leap.okX sc_is_leap (fun vs H Q E h => ?_) (fun cdv A outer s H vs Q E hr h => ?_)
  · first | (obtain ⟨_, rfl, _⟩ := h; rfl) | (obtain ⟨_, _, rfl, _⟩ := h; rfl) | (obtain ⟨_, _, _, rfl, _⟩ := h; rfl) | (obtain ⟨_, _, _, _, rfl, _⟩ := h; rfl) | (obtain ⟨_, _, _, _, _, rfl, _⟩ := h; rfl) | (obtain ⟨_, _, _, _, _, _, rfl, _⟩ := h; rfl) | (obtain ⟨_, _, _, _, _, _, _, rfl, _⟩ := h; rfl)
  · refine ⟨_, (pss_cons (ps_if (pt_cmpR (show OpR _ (compareOp .Eq) (rEqA K) from op_eqA hr.units) (pe_op op_mod (pv 0) pe_int) pe_int (nomark _))
  (pss_one (ps_ret (pe_cmpR (show OpR _ (compareOp .Eq) (rEqA K) from op_eqA hr.units) (pe_op op_mod (pv 0) pe_int) pe_int (nomark _))))
  pss_nil)
  (pss_one (ps_ret (pe_cmpR (show OpR _ (compareOp .Eq) (rEqA K) from op_eqA hr.units) (pe_op op_mod (pv 0) pe_int) pe_int (nomark _))))), ?_⟩
    obtain ⟨y, rfl, k⟩ := h
    walk_at "go"
    refine g_ite (fun c => ?_) (fun c => ?_)
    · walk_at "go"
      have e : leap y = decide (y % 400 = 0) := by simp [leap, c]
      rw [e] at k
      exact k
    · walk_at "go"
      have e : leap y = decide (y % 4 = 0) := by simp [leap, c]
      rw [e] at k
      exact k
theorem ok_length (T : Txt K mg) : FnOk P w K mg base (L2.CX P w) 2 T.f_length T.fd_length ["year", "month"] (sp_length) := by
  refine T.F_length.okX sc_length (fun vs H Q E h => ?_) (fun cdv A outer s H vs Q E hr h => ?_)
  · first | (obtain ⟨_, rfl, _⟩ := h; rfl) | (obtain ⟨_, _, rfl, _⟩ := h; rfl) | (obtain ⟨_, _, _, rfl, _⟩ := h; rfl) | (obtain ⟨_, _, _, _, rfl, _⟩ := h; rfl) | (obtain ⟨_, _, _, _, _, rfl, _⟩ := h; rfl) | (obtain ⟨_, _, _, _, _, _, rfl, _⟩ := h; rfl) | (obtain ⟨_, _, _, _, _, _, _, rfl, _⟩ := h; rfl)
  · refine ⟨_, (pss_cons (ps_if (PW.pt (pw_and (pt_cmpR (show OpR _ (compareOp .Eq) (rEqA K) from op_eqA hr.units) (pv 1) pe_int (nomark _)) (pw_and1 (pt_val (pe_callS (ok_is_leap T) hr (by rfl) T.g_is_leap T.F_is_leap.kp T.b_is_leap (fun σ => passAt (takes_of rfl rfl rfl rfl) σ) (by exact (pa_cons (pv 0) pa_nil)))))))
  (pss_one (ps_ret pe_int))
  pss_nil)
  (pss_one (ps_ret (pe_ix (show IxR _ (rIx2 K) from ix_lt) (pe_glob (v := .ref T.a_LENGTHS) (by rfl) T.g_LENGTHS rfl) (pe_op op_sub (pv 1) pe_int) (fun _ _ => rfl))))), ?_⟩
    obtain ⟨y, m, rfl, h1, h2, k⟩ := h
    have fin : (m = 2 ∧ leap y = true → Q (.int 29) H) ∧ (¬ (m = 2 ∧ leap y = true) → Q (.int (lens.getD (m - 1).toNat 0)) H) :=
      ⟨fun c => by rw [mlen, if_pos c] at k; exact k, fun c => by rw [mlen, if_neg c] at k; exact k⟩
    walk_at "go"
    have at_ := at_lens h1 h2
    refine g_ite (fun c => ?_) (fun c => ?_)
    · walk_at "go"
      refine ⟨_, rfl, ?_⟩
      walk_at "go"
      refine g_iteB (fun c2 => ?_) (fun c2 => ?_)
      · walk_at "go"
        exact fin.1 ⟨c, c2⟩
      · walk_at "go"
        exact r_ixT (T.q_LENGTHS H) at_ (fin.2 fun z => by rw [c2] at z; exact Bool.false_ne_true z.2)
    · walk_at "go"
      exact r_ixT (T.q_LENGTHS H) at_ (fin.2 fun z => c z.1)
theorem ok_month_days (T : Txt K mg) : FnOk P w K mg base (L2.CX P w) 3 T.f_month_days T.fd_month_days ["year", "month"] (sp_month_days T.c_BadDay) := by
  refine T.F_month_days.okX sc_month_days (fun vs H Q E h => ?_) (fun cdv A outer s H vs Q E hr h => ?_)
  · first | (obtain ⟨_, rfl, _⟩ := h; rfl) | (obtain ⟨_, _, rfl, _⟩ := h; rfl) | (obtain ⟨_, _, _, rfl, _⟩ := h; rfl) | (obtain ⟨_, _, _, _, rfl, _⟩ := h; rfl) | (obtain ⟨_, _, _, _, _, rfl, _⟩ := h; rfl) | (obtain ⟨_, _, _, _, _, _, rfl, _⟩ := h; rfl) | (obtain ⟨_, _, _, _, _, _, _, rfl, _⟩ := h; rfl)
  · refine ⟨_, (pss_cons (ps_if (pt_not (pt_val (pe_callS (ok_is_within T) hr (by rfl) T.g_is_within T.F_is_within.kp T.b_is_within (fun σ => passAt (takes_of rfl rfl rfl rfl) σ) (by exact (pa_cons (pv 0) (pa_cons (pe_glob (v := .int 2000) (by rfl) T.g_FIRST_YEAR ⟨_, rfl⟩) (pa_cons (pe_glob (v := .int 2273) (by rfl) T.g_LAST_YEAR ⟨_, rfl⟩) pa_nil)))))))
  (pss_one (ps_raise rfl (takes_of rfl rfl rfl rfl) (pmk_own PySem.F.excBase_ValueError T.x_BadDay T.g_BadDay T.k_BadDay (raises_own T.s_BadDay T.t_BadDay) (by exact rfl))))
  pss_nil)
  (pss_cons (ps_if (pt_not (pt_val (pe_callS (ok_is_within T) hr (by rfl) T.g_is_within T.F_is_within.kp T.b_is_within (fun σ => passAt (takes_of rfl rfl rfl rfl) σ) (by exact (pa_cons (pv 1) (pa_cons pe_int (pa_cons pe_int pa_nil)))))))
  (pss_one (ps_raise rfl (takes_of rfl rfl rfl rfl) (pmk_own PySem.F.excBase_ValueError T.x_BadDay T.g_BadDay T.k_BadDay (raises_own T.s_BadDay T.t_BadDay) (by exact rfl))))
  pss_nil)
  (pss_one (ps_ret (pe_callS (ok_length T) hr (by rfl) T.g_length T.F_length.kp T.b_length (fun σ => passAt (takes_of rfl rfl rfl rfl) σ) (by exact (pa_cons (pv 0) (pa_cons (pv 1) pa_nil)))))))), ?_⟩
    obtain ⟨x, y, rfl, hx, hy, k1, k2⟩ := h
    walk_at "go"
    refine ⟨_, _, _, rfl, hx, ?_⟩
    walk_at "go"
    refine g_iteNB (fun c => ?_) (fun c => ?_)
    · exact k2 (by simp [isdate, c])
    · walk_at "go"
      refine ⟨_, _, _, rfl, hy, ?_⟩
      walk_at "go"
      refine g_iteNB (fun c2 => ?_) (fun c2 => ?_)
      · exact k2 (by simp [isdate, c2])
      · cases x with
        | int i =>
          cases y with
          | int m =>
            have b := c2
            simp only [within, Bool.and_eq_true, decide_eq_true_eq] at b
            walk_at "go"
            refine ⟨_, _, rfl, b.1, b.2, ?_⟩
            exact k1 i m rfl rfl (by simp [isdate, c, c2])
          | _ => cases c2
        | _ => cases c
theorem ok_year_start (T : Txt K mg) : FnOk P w K mg base (L2.CX P w) 1 T.f_year_start T.fd_year_start ["year"] (sp_year_start) := by
  refine T.F_year_start.okX sc_year_start (fun vs H Q E h => ?_) (fun cdv A outer s H vs Q E hr h => ?_)
  · first | (obtain ⟨_, rfl, _⟩ := h; rfl) | (obtain ⟨_, _, rfl, _⟩ := h; rfl) | (obtain ⟨_, _, _, rfl, _⟩ := h; rfl) | (obtain ⟨_, _, _, _, rfl, _⟩ := h; rfl) | (obtain ⟨_, _, _, _, _, rfl, _⟩ := h; rfl) | (obtain ⟨_, _, _, _, _, _, rfl, _⟩ := h; rfl) | (obtain ⟨_, _, _, _, _, _, _, rfl, _⟩ := h; rfl)
  · refine ⟨_, (pss_cons (ps_set (i := 1) sc_year_start.nd rfl (Or.inl rfl) (pe_op op_sub (pv 0) (pe_glob (v := .int 2000) (by rfl) T.g_FIRST_YEAR ⟨_, rfl⟩)))
  (pss_cons (ps_set (i := 2) sc_year_start.nd rfl (Or.inl rfl) (pe_op op_plus (pe_op op_sub (pe_op op_fdiv (pe_op op_plus (pv 1) pe_int) pe_int) (pe_op op_fdiv (pe_op op_plus (pv 1) pe_int) pe_int)) (pe_op op_fdiv (pe_op op_plus (pv 1) pe_int) pe_int)))
  (pss_one (ps_ret (pe_op op_plus (pe_op op_mul pe_int (pv 1)) (pv 2)))))), ?_⟩
    obtain ⟨y, rfl, k⟩ := h
    walk_at "go"
    exact k
theorem ok_month_of (T : Txt K mg) : FnOk P w K mg base (L2.CX P w) 4 T.f_month_of T.fd_month_of ["day"] (sp_month_of T.c_BadDay) := by
  refine T.F_month_of.okX sc_month_of (fun vs H Q E h => ?_) (fun cdv A outer s H vs Q E hr h => ?_)
  · first | (obtain ⟨_, rfl, _⟩ := h; rfl) | (obtain ⟨_, _, rfl, _⟩ := h; rfl) | (obtain ⟨_, _, _, rfl, _⟩ := h; rfl) | (obtain ⟨_, _, _, _, rfl, _⟩ := h; rfl) | (obtain ⟨_, _, _, _, _, rfl, _⟩ := h; rfl) | (obtain ⟨_, _, _, _, _, _, rfl, _⟩ := h; rfl) | (obtain ⟨_, _, _, _, _, _, _, rfl, _⟩ := h; rfl)
  · refine ⟨_, (pss_cons (ps_expr (pe_callS (ok_check_day T) hr (by rfl) T.g_check_day T.F_check_day.kp T.b_check_day (fun σ => passAt (takes_of rfl rfl rfl rfl) σ) (by exact (pa_cons (pv 0) pa_nil))))
  (pss_cons (ps_set (i := 1) sc_month_of.nd rfl (Or.inl rfl) (pe_op op_plus (pe_glob (v := .int 2000) (by rfl) T.g_FIRST_YEAR ⟨_, rfl⟩) (pe_op op_fdiv (pv 0) (pe_glob (v := .int 366) (by rfl) T.g_LONGEST_YEAR ⟨_, rfl⟩))))
  (pss_cons (ps_while (passes_of rfl) (pt_cmpR op_le (pe_callS (ok_year_start T) (hr.mono (by decide)) (by rfl) T.g_year_start T.F_year_start.kp T.b_year_start (fun σ => passAt (takes_of rfl rfl rfl rfl) σ) (by exact (pa_cons (pe_op op_plus (pv 1) pe_int) pa_nil))) (pv 0) (nomark _))
  (pss_one (ps_aug (i := 1) sc_month_of.nd rfl (Or.inl rfl) pe_int ip_add)))
  (pss_cons (ps_set (i := 2) sc_month_of.nd rfl (Or.inl rfl) (pe_op op_plus (pe_op op_sub (pv 0) (pe_callS (ok_year_start T) (hr.mono (by decide)) (by rfl) T.g_year_start T.F_year_start.kp T.b_year_start (fun σ => passAt (takes_of rfl rfl rfl rfl) σ) (by exact (pa_cons (pv 1) pa_nil)))) pe_int))
  (pss_cons (ps_set (i := 3) sc_month_of.nd rfl (Or.inl rfl) pe_int)
  (pss_cons (ps_while (passes_of rfl) (pt_cmpR op_gt (pv 2) (pe_callS (ok_length T) (hr.mono (by decide)) (by rfl) T.g_length T.F_length.kp T.b_length (fun σ => passAt (takes_of rfl rfl rfl rfl) σ) (by exact (pa_cons (pv 1) (pa_cons (pv 3) pa_nil)))) (nomark _))
  (pss_cons (ps_aug (i := 2) sc_month_of.nd rfl (Or.inl rfl) (pe_callS (ok_length T) (hr.mono (by decide)) (by rfl) T.g_length T.F_length.kp T.b_length (fun σ => passAt (takes_of rfl rfl rfl rfl) σ) (by exact (pa_cons (pv 1) (pa_cons (pv 3) pa_nil)))) ip_sub)
  (pss_one (ps_aug (i := 3) sc_month_of.nd rfl (Or.inl rfl) pe_int ip_add))))
  (pss_one (ps_ret (pe_tup (pa_cons (pv 1) (pa_cons (pv 3) (pa_cons (pv 2) pa_nil)))))))))))), ?_⟩
    obtain ⟨x, rfl, hx, k1, k2⟩ := h
    walk_at "go"
    refine ⟨_, rfl, hx, fun c => ?_, fun c => k2 c⟩
    obtain ⟨i, rfl, h0, h1⟩ := within_int c
    walk_at "go"
    refine g_while (fun n σ' H' => ∃ y, σ' = [some (.int i), some (.int y), none, none] ∧ H = H' ∧ 2000 ≤ y ∧ ystart y ≤ i ∧ n = (3000 - y).toNat) _ ⟨_, rfl, rfl, by omega, ystart_guess h0, rfl⟩ ?_
    rintro n σ' H' ⟨y, rfl, rfl, hy, hs, rfl⟩
    walk_at "go"
    refine ⟨_, rfl, ?_⟩
    walk_at "go"
    refine g_ite (fun c2 => ?_) (fun c2 => ?_)
    · refine ⟨_, fun _ _ h => h, ?_⟩
      walk_at "go"
      have hlt : y + 1 ≤ 2273 := by
        by_cases q : y + 1 ≤ 2273
        · exact q
        · have e := ystart_le (show 2274 ≤ y + 1 by omega)
          have e2 : ystart 2274 = 100077 := by decide
          omega
      exact ⟨_, by omega, y + 1, rfl, rfl, by omega, c2, rfl⟩
    · walk_at "go"
      refine ⟨_, rfl, ?_⟩
      walk_at "go"
      have hn : i < ystart (y + 1) := by omega
      refine g_while (fun n σ' H' => ∃ k m, σ' = [some (.int i), some (.int y), some (.int k), some (.int m)] ∧ H = H' ∧ 1 ≤ m ∧ m ≤ 12 ∧ 1 ≤ k ∧ i = ystart y + mstart y m + k - 1 ∧ n = (13 - m).toNat) _
        ⟨_, _, rfl, rfl, by omega, by omega, by omega, by rw [mstart_one]; omega, rfl⟩ ?_
      rintro n σ' H' ⟨k, m, rfl, rfl, hm1, hm2, hk, he, rfl⟩
      walk_at "go"
      refine ⟨_, _, rfl, hm1, hm2, ?_⟩
      walk_at "go"
      have es := mstart_succ (y := y) hm1 hm2
      refine g_ite (fun c3 => ?_) (fun c3 => ?_)
      · refine ⟨_, fun _ _ h => h, ?_⟩
        have hlt : m < 12 := by
          by_cases q : m < 12
          · exact q
          · have e : m = 12 := by omega
            subst e
            have e1 := mstart_end y
            have e2 := ystart_succ y
            omega
        walk_at "go"
        refine ⟨_, _, rfl, hm1, hm2, ?_⟩
        walk_at "go"
        exact ⟨_, by omega, _, _, rfl, rfl, by omega, by omega, by omega, by rw [es]; omega, rfl⟩
      · walk_at "go"
        refine ⟨by walk_at "sz", fun p hp => ?_⟩
        exact k1 i y m k rfl h0 h1 ⟨hy, hm1, hm2, hk, by omega, he⟩ p hp
theorem ok_day_of (T : Txt K mg) : FnOk P w K mg base (L2.CX P w) 4 T.f_day_of T.fd_day_of ["year", "month", "number"] (sp_day_of T.c_BadDay) := by
  refine T.F_day_of.okX sc_day_of (fun vs H Q E h => ?_) (fun cdv A outer s H vs Q E hr h => ?_)
  · first | (obtain ⟨_, rfl, _⟩ := h; rfl) | (obtain ⟨_, _, rfl, _⟩ := h; rfl) | (obtain ⟨_, _, _, rfl, _⟩ := h; rfl) | (obtain ⟨_, _, _, _, rfl, _⟩ := h; rfl) | (obtain ⟨_, _, _, _, _, rfl, _⟩ := h; rfl) | (obtain ⟨_, _, _, _, _, _, rfl, _⟩ := h; rfl) | (obtain ⟨_, _, _, _, _, _, _, rfl, _⟩ := h; rfl)
  · refine ⟨_, (pss_cons (ps_if (pt_not (pt_val (pe_callS (ok_is_within T) (hr.mono (by decide)) (by rfl) T.g_is_within T.F_is_within.kp T.b_is_within (fun σ => passAt (takes_of rfl rfl rfl rfl) σ) (by exact (pa_cons (pv 2) (pa_cons pe_int (pa_cons (pe_callS (ok_month_days T) hr (by rfl) T.g_month_days T.F_month_days.kp T.b_month_days (fun σ => passAt (takes_of rfl rfl rfl rfl) σ) (by exact (pa_cons (pv 0) (pa_cons (pv 1) pa_nil)))) pa_nil)))))))
  (pss_one (ps_raise rfl (takes_of rfl rfl rfl rfl) (pmk_own PySem.F.excBase_ValueError T.x_BadDay T.g_BadDay T.k_BadDay (raises_own T.s_BadDay T.t_BadDay) (by exact rfl))))
  pss_nil)
  (pss_cons (ps_set (i := 3) sc_day_of.nd rfl (Or.inl rfl) (pe_callB (show CallR _ (.builtin "sum") (rSum K) from cr_sum rfl) (by rfl) T.n_sum (by decide +kernel) (pa_cons (pe_lc (own := [("earlier", 4)]) (g := gName 4) (by rfl) sc_day_of.nd (pi_range2 (by rfl) T.n_range (pa_cons pe_int (pa_cons (pv 1) pa_nil))) (blkOk_by (own := [("earlier", 4)]) (N := ["year", "month", "number", "ahead", "earlier", "day"]) (sc := defScope s_day_of) (by decide +kernel)) (fun _ _ _ _ _ => pg_name (i := 4) sc_day_of.nd rfl (Or.inl rfl)) (fun _ _ _ _ _ => pts_nil) (fun _ _ _ _ _ => (pe_callS (ok_length T) (hr.mono (by decide)) (by rfl) T.g_length T.F_length.kp T.b_length (fun σ => passAt (takes0 (X := _)) σ) (by exact (pa_cons (pv 0) (pa_cons (pv 4) pa_nil)))))) pa_nil)))
  (pss_cons (ps_set (i := 5) sc_day_of.nd rfl (Or.inl rfl) (pe_op op_sub (pe_op op_plus (pe_op op_plus (pe_callS (ok_year_start T) (hr.mono (by decide)) (by rfl) T.g_year_start T.F_year_start.kp T.b_year_start (fun σ => passAt (takes_of rfl rfl rfl rfl) σ) (by exact (pa_cons (pv 0) pa_nil))) (pv 3)) (pv 2)) pe_int))
  (pss_cons (ps_expr (pe_callS (ok_check_day T) hr (by rfl) T.g_check_day T.F_check_day.kp T.b_check_day (fun σ => passAt (takes_of rfl rfl rfl rfl) σ) (by exact (pa_cons (pv 5) pa_nil))))
  (pss_one (ps_ret (pv 5))))))), ?_⟩
    obtain ⟨x, y, z, rfl, hx, hy, hz, k1, k2⟩ := h
    walk_at "go"
    refine ⟨_, _, rfl, hx, hy, fun i m hi hm c => ?_, fun c => k2 (dayv_no c) _ (Same.refl H)⟩
    subst hi
    subst hm
    have c' := c
    simp only [isdate, within, Bool.and_eq_true, decide_eq_true_eq] at c'
    walk_at "go"
    refine ⟨_, _, _, rfl, hz, ?_⟩
    walk_at "go"
    refine g_iteNB (fun c2 => ?_) (fun c2 => ?_)
    · exact k2 (dayv_noz c2) _ (Same.refl H)
    · obtain ⟨kk, rfl, hk1, hk2⟩ := within_int c2
      walk_at "go"
      refine lc_r2 (lo := 1) (hi := m) (fun (i' : Nat) => .int (mlen i (1 + (i' : Int)))) (fun Q' q => ?_) (by omega) (by omega) (by omega) (fun _ => rfl) (fun n H' hn sm Q' q => ?_) (fun D H' hD sm hl => ?_)
      · walk_at "go"
        exact q
      · walk_at "go"
        exact ⟨_, _, rfl, by omega, by omega, q _ (Same.refl _)⟩
      · walk_at "go"
        refine ⟨D, (List.range (m - 1).toNat).map fun (i' : Nat) => mlen i (1 + (i' : Int)), rfl, SqL.of ?_, ?_⟩
        · rw [hl, List.map_map]
          rfl
        · have hsum := mstart_sum i (m - 1).toNat (by omega)
          rw [show (1 + (((m - 1).toNat : Nat) : Int)) = m by omega] at hsum
          rw [hsum]
          walk_at "go"
          refine ⟨_, rfl, ?_⟩
          walk_at "go"
          have y0 := ystart_nn (a := i) (by omega)
          have m0 := mstart_nn (y := i) (m := m) (by omega) (by omega)
          refine ⟨_, rfl, trivial, fun c3 => ?_, fun c3 => ?_⟩
          · simp only [within, Bool.and_eq_true, decide_eq_true_eq] at c3
            walk_at "go"
            exact k1 _ (if_pos ⟨c, hk1, hk2, c3.2⟩) _ sm
          · refine k2 (if_neg fun q => ?_) _ sm
            have e : within (.int (ystart i + mstart i m + kk - 1)) 0 99999 = true := by simp only [within, Bool.and_eq_true, decide_eq_true_eq]; omega
            rw [c3] at e
            cases e
theorem ok_l_cell_at (T : Txt K mg) : FnOk P w K mg base (L2.CX P w) 1 T.f_l_cell_at T.fd_l_cell_at ["_law_script", "_law_k"] (sp_l_cell_at K) := by
  refine T.F_l_cell_at.okX sc_l_cell_at (fun vs H Q E h => ?_) (fun cdv A outer s H vs Q E hr h => ?_)
  · first | (obtain ⟨_, rfl, _⟩ := h; rfl) | (obtain ⟨_, _, rfl, _⟩ := h; rfl) | (obtain ⟨_, _, _, rfl, _⟩ := h; rfl) | (obtain ⟨_, _, _, _, rfl, _⟩ := h; rfl) | (obtain ⟨_, _, _, _, _, rfl, _⟩ := h; rfl) | (obtain ⟨_, _, _, _, _, _, rfl, _⟩ := h; rfl) | (obtain ⟨_, _, _, _, _, _, _, rfl, _⟩ := h; rfl)
  · refine ⟨_, (pss_cons (ps_if (pt_cmpR op_lt (pv 1) (pe_callB (show CallR _ (.builtin "len") (rLen K) from call_lenA) (by rfl) T.n_len (by decide +kernel) (pa_cons (pv 0) pa_nil)) (nomark _))
  (pss_one (ps_ret (pe_ix (show IxR _ (rIx2 K) from ix_lt) (pv 0) (pv 1) (fun _ _ => rfl))))
  pss_nil)
  (pss_one (ps_ret pe_int))), ?_⟩
    obtain ⟨a, ns, k, rfl, hS, hk, q⟩ := h
    obtain ⟨j, rfl⟩ : ∃ j : Nat, k = (j : Int) := ⟨k.toNat, by omega⟩
    walk_at "go"
    refine ⟨a, _, rfl, .inl hS, ?_⟩
    walk_at "go"
    rw [List.length_map]
    refine g_ite (fun c => ?_) (fun c => ?_)
    · walk_at "go"
      have hj : j < ns.length := by omega
      have e : cell ns (j : Int) = ns[j] := by simp [cell, hj]
      rw [e] at q
      exact r_ixL hS (atI_nat (by rw [List.getElem?_map, List.getElem?_eq_getElem hj]; rfl)) q
    · walk_at "go"
      have e : cell ns (j : Int) = 0 := by
        have hj : ns.length ≤ j := by omega
        simp [cell, List.getD, List.getElem?_eq_none hj]
      rw [e] at q
      exact q
theorem ok_l_whole (T : Txt K mg) : FnOk P w K mg base (L2.CX P w) 1 T.f_l_whole T.fd_l_whole ["_law_found"] (sp_l_whole) := by
  refine T.F_l_whole.okX sc_l_whole (fun vs H Q E h => ?_) (fun cdv A outer s H vs Q E hr h => ?_)
  · first | (obtain ⟨_, rfl, _⟩ := h; rfl) | (obtain ⟨_, _, rfl, _⟩ := h; rfl) | (obtain ⟨_, _, _, rfl, _⟩ := h; rfl) | (obtain ⟨_, _, _, _, rfl, _⟩ := h; rfl) | (obtain ⟨_, _, _, _, _, rfl, _⟩ := h; rfl) | (obtain ⟨_, _, _, _, _, _, rfl, _⟩ := h; rfl) | (obtain ⟨_, _, _, _, _, _, _, rfl, _⟩ := h; rfl)
  · refine ⟨_, (pss_one (ps_ret (pe_and (pe_callB (show CallR _ (.builtin "isinstance") (rIsi K) from call_isi) (by rfl) T.n_isinstance (by decide +kernel) (pa_cons (pv 0) (pa_cons (pe_bltn (v := .ty "int") (by rfl) T.n_int (by decide +kernel) rfl) pa_nil))) (pe_one (pe_not (pe_callB (show CallR _ (.builtin "isinstance") (rIsi K) from call_isi) (by rfl) T.n_isinstance (by decide +kernel) (pa_cons (pv 0) (pa_cons (pe_bltn (v := .ty "bool") (by rfl) T.n_bool (by decide +kernel) rfl) pa_nil)))))))), ?_⟩
    obtain ⟨x, rfl, hx, k⟩ := h
    obtain ⟨n, ht, h1, h2⟩ := thing_ty (K := K) hx
    walk_at "go"
    refine ⟨x, .ty "int", _, _, _, rfl, .ty _, ht, kit_ty h1, ?_⟩
    walk_at "go"
    refine g_iteB (fun c => ?_) (fun c => ?_)
    · walk_at "go"
      refine ⟨x, .ty "bool", _, _, _, rfl, .ty _, ht, kit_ty h2, ?_⟩
      refine ⟨_, rfl, ?_⟩
      cases e : isB x with
      | true => rw [isI_not e] at k; exact k
      | false => rw [e, Bool.or_false] at c; rw [c] at k; exact k
    · rw [(Bool.or_eq_false_iff.mp c).1] at k
      exact k
theorem ok_l_day (T : Txt K mg) : FnOk P w K mg base (L2.CX P w) 1 T.f_l_day T.fd_l_day ["_law_cell"] (sp_l_day) := by
  refine T.F_l_day.okX sc_l_day (fun vs H Q E h => ?_) (fun cdv A outer s H vs Q E hr h => ?_)
  · first | (obtain ⟨_, rfl, _⟩ := h; rfl) | (obtain ⟨_, _, rfl, _⟩ := h; rfl) | (obtain ⟨_, _, _, rfl, _⟩ := h; rfl) | (obtain ⟨_, _, _, _, rfl, _⟩ := h; rfl) | (obtain ⟨_, _, _, _, _, rfl, _⟩ := h; rfl) | (obtain ⟨_, _, _, _, _, _, rfl, _⟩ := h; rfl) | (obtain ⟨_, _, _, _, _, _, _, rfl, _⟩ := h; rfl)
  · refine ⟨_, (pss_cons (ps_set (i := 1) sc_l_day.nd rfl (Or.inl rfl) (pe_lst (pa_cons pe_int (pa_cons pe_int (pa_cons pe_int (pa_cons pe_int (pa_cons pe_int (pa_cons pe_int (pa_cons pe_int (pa_cons pe_int (pa_cons pe_int (pa_cons pe_int (pa_cons pe_int (pa_cons pe_int (pa_cons pe_int (pa_cons pe_int (pa_cons pe_int (pa_cons pe_int pa_nil))))))))))))))))))
  (pss_cons (ps_set (i := 1) sc_l_day.nd rfl (Or.inl rfl) (pe_op op_plus (pv 1) (pe_lst (pa_cons pe_int (pa_cons pe_int (pa_cons pe_int (pa_cons pe_int pa_nil)))))))
  (pss_cons (ps_if (pt_cmpR (show OpR _ (compareOp .Eq) (rEqA K) from op_eqA hr.units) (pe_op op_mod (pv 0) pe_int) pe_int (nomark _))
  (pss_one (ps_ret (pe_ix (show IxR _ (rIx2 K) from ix_lt) (pv 1) (pe_op op_mod (pe_op op_fdiv (pv 0) pe_int) pe_int) (fun _ _ => rfl))))
  pss_nil)
  (pss_one (ps_ret (pe_op op_mod (pe_op op_fdiv (pv 0) pe_int) pe_int)))))), ?_⟩
    obtain ⟨c, rfl, k⟩ := h
    walk_at "go"
    refine ⟨by walk_at "sz", fun p hp => ?_⟩
    walk_at "go"
    refine ⟨by walk_at "sz", fun p2 hp2 => ?_⟩
    walk_at "go"
    refine r_cat (by walk_at "lk") (by walk_at "lk") (by walk_at "sz") fun p3 hp3 => ?_
    walk_at "go"
    refine g_ite (fun c1 => ?_) (fun c1 => ?_)
    · walk_at "go"
      refine r_ixL (SqL.of upd_same) (at_modI (ns := [0, 31, 58, 59, 60, 365, 366, 36524, 36583, 36584, 73048, 73049, 99711, 99712, 99998, 99999, 36889, 36890, 73413, 73414]) _ rfl (by decide)) ?_
      have b := getD_all (R := fun d => 0 ≤ d ∧ d ≤ 99999) (l := [0, 31, 58, 59, 60, 365, 366, 36524, 36583, 36584, 73048, 73049, 99711, 99712, 99998, 99999, 36889, 36890, 73413, 73414]) (c / 3 % 20).toNat (by decide) (by decide)
      exact k _ b.1 b.2 _ (by walk_at "sm")
    · walk_at "go"
      exact k _ (by omega) (by omega) _ (by walk_at "sm")
theorem ok_l_length (T : Txt K mg) : FnOk P w K mg base (L2.CX P w) 1 T.f_l_length T.fd_l_length ["_law_year", "_law_month"] (sp_l_length) := by
  refine T.F_l_length.okX sc_l_length (fun vs H Q E h => ?_) (fun cdv A outer s H vs Q E hr h => ?_)
  · first | (obtain ⟨_, rfl, _⟩ := h; rfl) | (obtain ⟨_, _, rfl, _⟩ := h; rfl) | (obtain ⟨_, _, _, rfl, _⟩ := h; rfl) | (obtain ⟨_, _, _, _, rfl, _⟩ := h; rfl) | (obtain ⟨_, _, _, _, _, rfl, _⟩ := h; rfl) | (obtain ⟨_, _, _, _, _, _, rfl, _⟩ := h; rfl) | (obtain ⟨_, _, _, _, _, _, _, rfl, _⟩ := h; rfl)
  · refine ⟨_, (pss_cons (ps_set (i := 2) sc_l_length.nd rfl (Or.inl rfl) (pe_ix (show IxR _ (rIx2 K) from ix_lt) (pe_lst (pa_cons pe_int (pa_cons pe_int (pa_cons pe_int (pa_cons pe_int (pa_cons pe_int (pa_cons pe_int (pa_cons pe_int (pa_cons pe_int (pa_cons pe_int (pa_cons pe_int (pa_cons pe_int (pa_cons pe_int pa_nil))))))))))))) (pe_op op_sub (pv 1) pe_int) (fun _ _ => rfl)))
  (pss_cons (ps_set (i := 3) sc_l_length.nd rfl (Or.inl rfl) (pe_and (pe_cmpR (show OpR _ (compareOp .Eq) (rEqA K) from op_eqA hr.units) (pe_op op_mod (pv 0) pe_int) pe_int (nomark _)) (pe_one (pe_or (pe_cmpR op_gt (pe_op op_mod (pv 0) pe_int) pe_int (nomark _)) (pe_one (pe_cmpR (show OpR _ (compareOp .Eq) (rEqA K) from op_eqA hr.units) (pe_op op_mod (pv 0) pe_int) pe_int (nomark _)))))))
  (pss_cons (ps_if (PW.pt (pw_and (pt_cmpR (show OpR _ (compareOp .Eq) (rEqA K) from op_eqA hr.units) (pv 1) pe_int (nomark _)) (pw_and1 (pt_truth (pv 3) (by intro _; rfl)))))
  (pss_one (ps_ret pe_int))
  pss_nil)
  (pss_one (ps_ret (pv 2)))))), ?_⟩
    obtain ⟨y, m, rfl, h1, h2, k⟩ := h
    walk_at "go"
    refine ⟨by walk_at "sz", fun p hp => ?_⟩
    walk_at "go"
    refine r_ixL (xs := lens.map V.int) (SqL.of upd_same) (at_lens h1 h2) ?_
    have k' := k _ (same_new (o := .lst (lens.map V.int)) hp)
    refine g_seq ?_
    refine g_set ?_
    refine g_cut (.bl (leap y)) (fun Q' q => ?_) ?_
    · rw [← leap_eq] at q
      walk_at "go"
      refine g_ite (fun c => ?_) (fun c => ?_)
      · walk_at "go"
        refine g_ite (fun c2 => ?_) (fun c2 => ?_)
        · simp only [c, c2, decide_true, Bool.true_or, Bool.and_true] at q
          exact q
        · walk_at "go"
          simp only [c, c2, decide_true, decide_false, Bool.false_or, Bool.true_and] at q
          exact q
      · simp only [c, decide_false, Bool.false_and] at q
        exact q
    · walk_at "go"
      refine g_ite (fun c => ?_) (fun c => ?_)
      · walk_at "go"
        refine ⟨_, rfl, ?_⟩
        refine g_iteB (fun c2 => ?_) (fun c2 => ?_)
        · walk_at "go"
          rw [mlen, if_pos ⟨c, c2⟩] at k'
          exact k'
        · walk_at "go"
          rw [mlen, if_neg (fun z => by rw [c2] at z; exact Bool.false_ne_true z.2)] at k'
          exact k'
      · walk_at "go"
        rw [mlen, if_neg (fun z => c z.1)] at k'
        exact k'
theorem ok_l_date (T : Txt K mg) : FnOk P w K mg base (L2.CX P w) 2 T.f_l_date T.fd_l_date ["_law_day_here"] (sp_l_date) := by
  refine T.F_l_date.okX sc_l_date (fun vs H Q E h => ?_) (fun cdv A outer s H vs Q E hr h => ?_)
  · first | (obtain ⟨_, rfl, _⟩ := h; rfl) | (obtain ⟨_, _, rfl, _⟩ := h; rfl) | (obtain ⟨_, _, _, rfl, _⟩ := h; rfl) | (obtain ⟨_, _, _, _, rfl, _⟩ := h; rfl) | (obtain ⟨_, _, _, _, _, rfl, _⟩ := h; rfl) | (obtain ⟨_, _, _, _, _, _, rfl, _⟩ := h; rfl) | (obtain ⟨_, _, _, _, _, _, _, rfl, _⟩ := h; rfl)
  · refine ⟨_, (pss_cons (ps_set (i := 1) sc_l_date.nd rfl (Or.inl rfl) pe_int)
  (pss_cons (ps_while (passes_of rfl) (pt_cmpR op_ge (pv 0) (pe_op op_plus pe_int (pe_callS (ok_l_length T) hr (by rfl) T.g_l_length T.F_l_length.kp T.b_l_length (fun σ => passAt (takes_of rfl rfl rfl rfl) σ) (by exact (pa_cons (pv 1) (pa_cons pe_int pa_nil))))) (nomark _))
  (pss_cons (ps_set (i := 0) sc_l_date.nd rfl (Or.inl rfl) (pe_op op_sub (pe_op op_sub (pv 0) pe_int) (pe_callS (ok_l_length T) hr (by rfl) T.g_l_length T.F_l_length.kp T.b_l_length (fun σ => passAt (takes_of rfl rfl rfl rfl) σ) (by exact (pa_cons (pv 1) (pa_cons pe_int pa_nil))))))
  (pss_one (ps_set (i := 1) sc_l_date.nd rfl (Or.inl rfl) (pe_op op_plus (pv 1) pe_int)))))
  (pss_cons (ps_set (i := 2) sc_l_date.nd rfl (Or.inl rfl) pe_int)
  (pss_cons (ps_while (passes_of rfl) (pt_cmpR op_ge (pv 0) (pe_callS (ok_l_length T) hr (by rfl) T.g_l_length T.F_l_length.kp T.b_l_length (fun σ => passAt (takes_of rfl rfl rfl rfl) σ) (by exact (pa_cons (pv 1) (pa_cons (pv 2) pa_nil)))) (nomark _))
  (pss_cons (ps_set (i := 0) sc_l_date.nd rfl (Or.inl rfl) (pe_op op_sub (pv 0) (pe_callS (ok_l_length T) hr (by rfl) T.g_l_length T.F_l_length.kp T.b_l_length (fun σ => passAt (takes_of rfl rfl rfl rfl) σ) (by exact (pa_cons (pv 1) (pa_cons (pv 2) pa_nil))))))
  (pss_one (ps_set (i := 2) sc_l_date.nd rfl (Or.inl rfl) (pe_op op_plus (pv 2) pe_int)))))
  (pss_one (ps_ret (pe_tup (pa_cons (pv 1) (pa_cons (pv 2) (pa_cons (pe_op op_plus (pv 0) pe_int) pa_nil)))))))))), ?_⟩
    obtain ⟨d, rfl, h0, h1, k⟩ := h
    walk_at "go"
    refine g_while (fun n σ' H' => ∃ dd y, σ' = [some (.int dd), some (.int y), none] ∧ Same H H' ∧ 2000 ≤ y ∧ 0 ≤ dd ∧ d = ystart y + dd ∧ n = dd.toNat) _
      ⟨_, _, rfl, Same.refl H, by omega, h0, by rw [show ystart 2000 = 0 by decide]; omega, rfl⟩ ?_
    rintro n σ' H' ⟨dd, y, rfl, sm, hy, hd, he, rfl⟩
    walk_at "go"
    refine ⟨_, _, rfl, by omega, by omega, fun H1 s1 => ?_⟩
    walk_at "go"
    have ef := ylen_feb y
    have es := ystart_succ y
    have pf := mlen_pos (y := y) (m := 2) (by omega) (by omega)
    refine g_ite (fun c2 => ?_) (fun c2 => ?_)
    · refine ⟨_, fun _ _ h => h, ?_⟩
      walk_at "go"
      refine ⟨_, _, rfl, by omega, by omega, fun H2 s2 => ?_⟩
      walk_at "go"
      exact ⟨_, by omega, _, _, rfl, (sm.trans s1).trans s2, by omega, by omega, by omega, rfl⟩
    · walk_at "go"
      refine g_while (fun n σ' H2 => ∃ dd m, σ' = [some (.int dd), some (.int y), some (.int m)] ∧ Same H H2 ∧ 1 ≤ m ∧ m ≤ 12 ∧ 0 ≤ dd ∧ d = ystart y + mstart y m + dd ∧ n = (13 - m).toNat) _
        ⟨_, _, rfl, sm.trans s1, by omega, by omega, hd, by rw [mstart_one]; omega, rfl⟩ ?_
      rintro n σ' H2 ⟨dd2, m, rfl, sm2, hm1, hm2, hk, he2, rfl⟩
      walk_at "go"
      refine ⟨_, _, rfl, hm1, hm2, fun H3 s3 => ?_⟩
      walk_at "go"
      have ems := mstart_succ (y := y) hm1 hm2
      refine g_ite (fun c3 => ?_) (fun c3 => ?_)
      · refine ⟨_, fun _ _ h => h, ?_⟩
        have hlt : m < 12 := by
          by_cases q : m < 12
          · exact q
          · have e : m = 12 := by omega
            subst e
            have e1 := mstart_end y
            omega
        walk_at "go"
        refine ⟨_, _, rfl, hm1, hm2, fun H4 s4 => ?_⟩
        walk_at "go"
        exact ⟨_, by omega, _, _, rfl, (sm2.trans s3).trans s4, by omega, by omega, by omega, by rw [ems]; omega, rfl⟩
      · walk_at "go"
        refine ⟨by walk_at "sz", fun p hp => ?_⟩
        exact k y m (dd2 + 1) ⟨hy, hm1, hm2, by omega, by omega, by omega⟩ p _ ((sm2.trans s3).trans (same_new hp)) ((sm2.trans s3).free hp) upd_same
theorem ok_l_refused (T : Txt K mg) : FnOk P w K mg base (L2.CX P w) 5 T.f_l_refused T.fd_l_refused ["_law_way", "_law_number"] (sp_l_refused K) := by
  refine T.F_l_refused.okX sc_l_refused (fun vs H Q E h => ?_) (fun cdv A outer s H vs Q E hr h => ?_)
  · first | (obtain ⟨_, rfl, _⟩ := h; rfl) | (obtain ⟨_, _, rfl, _⟩ := h; rfl) | (obtain ⟨_, _, _, rfl, _⟩ := h; rfl) | (obtain ⟨_, _, _, _, rfl, _⟩ := h; rfl) | (obtain ⟨_, _, _, _, _, rfl, _⟩ := h; rfl) | (obtain ⟨_, _, _, _, _, _, rfl, _⟩ := h; rfl) | (obtain ⟨_, _, _, _, _, _, _, rfl, _⟩ := h; rfl)
  · refine ⟨_, (pss_cons (ps_try_only rfl rfl ⟨rfl, by decide, Or.inl T.g_BadDay⟩ (takes_of rfl rfl rfl rfl)
  (fun W pn xe tk pas => (pss_one (ps_if (pt_cmpR op_isA (pv 0) pe_non (nomark _))
  (pss_one (ps_expr (pe_callS (ok_month_of T) hr (by rfl) T.g_month_of T.F_month_of.kp T.b_month_of (fun σ => passAt tk σ) (by exact (pa_cons (pv 1) pa_nil)))))
  (pss_one (ps_expr (pe_callS (ok_day_of T) hr (by rfl) T.g_day_of T.F_day_of.kp T.b_day_of (fun σ => passAt tk σ) (by exact (pa_cons (pe_ix (show IxR _ (rIx2 K) from ix_lt) (pv 0) pe_int (fun _ _ => rfl)) (pa_cons (pe_ix (show IxR _ (rIx2 K) from ix_lt) (pv 0) pe_int (fun _ _ => rfl)) (pa_cons (pv 1) pa_nil))))))))))
  (fun a oe cls d pn hz hf => (pss_one (ps_ret pe_bl))))
  (pss_one (ps_ret pe_bl))), ?_⟩
    obtain ⟨w, z, rfl, hz, h⟩ := h
    walk_at "go"
    rcases h with ⟨rfl, k⟩ | ⟨p, x, y, r, rfl, hp, hx, hy, k⟩
    · refine g_ite (fun _ => ?_) (fun c => absurd rfl c)
      walk_at "go"
      refine ⟨_, rfl, hz, fun i y m kk hi h0 h1 _ p hp => ?_, fun c => ?_⟩
      · subst hi
        walk_at "go"
        have e : within (.int i) 0 99999 = true := by simp only [within, Bool.and_eq_true, decide_eq_true_eq]; exact ⟨h0, h1⟩
        have k' := k _ (same_new (o := .tup [.int y, .int m, .int kk]) hp)
        rw [e] at k'
        exact k'
      · refine ⟨true, T.m_BadDay_BadDay, fun _ a ha => ?_, fun q => Bool.noConfusion q⟩
        walk_at "go"
        have k' := k _ (Same.refl H)
        rw [c] at k'
        exact k'
    · refine g_ite (fun c => by cases c) (fun c => ?_)
      walk_at "go"
      refine r_ixT (SqT.of hp) at0 ?_
      walk_at "go"
      refine r_ixT (SqT.of hp) at1 ?_
      walk_at "go"
      refine ⟨_, _, _, rfl, hx, hy, hz, fun d e H' sm => ?_, fun e H' sm => ?_⟩
      · walk_at "go"
        have k' := k _ sm
        rw [e] at k'
        exact k'
      · refine ⟨true, T.m_BadDay_BadDay, fun _ a ha => ?_, fun q => Bool.noConfusion q⟩
        walk_at "go"
        have k' := k _ sm
        rw [e] at k'
        exact k'
theorem ok_l_none (T : Txt K mg) : FnOk P w K mg base (L2.CX P w) 6 T.f_l_none T.fd_l_none ["_law_cell", "_law_other"] (sp_l_none K) := by
  refine T.F_l_none.okX sc_l_none (fun vs H Q E h => ?_) (fun cdv A outer s H vs Q E hr h => ?_)
  · first | (obtain ⟨_, rfl, _⟩ := h; rfl) | (obtain ⟨_, _, rfl, _⟩ := h; rfl) | (obtain ⟨_, _, _, rfl, _⟩ := h; rfl) | (obtain ⟨_, _, _, _, rfl, _⟩ := h; rfl) | (obtain ⟨_, _, _, _, _, rfl, _⟩ := h; rfl) | (obtain ⟨_, _, _, _, _, _, rfl, _⟩ := h; rfl) | (obtain ⟨_, _, _, _, _, _, _, rfl, _⟩ := h; rfl)
  · refine ⟨_, (pss_cons (ps_set (i := 2) sc_l_none.nd rfl (Or.inl rfl) (pe_op op_plus pe_int (pe_op op_mod (pv 0) pe_int)))
  (pss_cons (ps_set (i := 3) sc_l_none.nd rfl (Or.inl rfl) (pe_op op_sub (pe_op op_mod (pv 1) pe_int) pe_int))
  (pss_cons (ps_set (i := 4) sc_l_none.nd rfl (Or.inl rfl) (pe_op op_plus pe_int (pe_op op_mod (pe_op op_fdiv (pv 0) pe_int) pe_int)))
  (pss_cons (ps_if (pt_cmpR (show OpR _ (compareOp .Eq) (rEqA K) from op_eqA hr.units) (pe_op op_mod (pe_op op_fdiv (pv 0) pe_int) pe_int) pe_int (nomark _))
  (pss_cons (ps_set (i := 5) sc_l_none.nd rfl (Or.inl rfl) (pe_ix (show IxR _ (rIx2 K) from ix_lt) (pe_lst (pa_cons pe_bl (pa_cons pe_str (pa_cons pe_non (pa_cons (pe_op op_plus pe_int (pe_op op_pow pe_int pe_int)) (pa_cons (pe_op op_sub pe_int pe_int) pa_nil)))))) (pe_op op_mod (pe_op op_fdiv (pv 1) pe_int) pe_int) (fun _ _ => rfl)))
  (pss_one (ps_ret (pe_and (pe_callS (ok_l_refused T) hr (by rfl) T.g_l_refused T.F_l_refused.kp T.b_l_refused (fun σ => passAt (takes_of rfl rfl rfl rfl) σ) (by exact (pa_cons (pe_tup (pa_cons (pv 5) (pa_cons (pe_op op_plus pe_int (pe_op op_mod (pv 0) pe_int)) pa_nil))) (pa_cons (pv 4) pa_nil)))) (pe_one (pe_callS (ok_l_refused T) hr (by rfl) T.g_l_refused T.F_l_refused.kp T.b_l_refused (fun σ => passAt (takes_of rfl rfl rfl rfl) σ) (by exact (pa_cons (pe_tup (pa_cons (pe_op op_plus pe_int (pe_op op_mod (pv 0) pe_int)) (pa_cons (pv 5) pa_nil))) (pa_cons (pv 4) pa_nil)))))))))
  pss_nil)
  (Evl.pss_cut (ps_if (PW.pt (pw_and (pt_cmpR op_le pe_int (pv 2) (nomark _)) (pw_and (pt_cmpR op_le (pv 2) pe_int (nomark _)) (pw_and (pt_cmpR op_le pe_int (pv 3) (nomark _)) (pw_and1 (pt_cmpR op_le (pv 3) pe_int (nomark _)))))))
  (pss_one (ps_set (i := 3) sc_l_none.nd rfl (Or.inl rfl) (pe_ix (show IxR _ (rIx2 K) from ix_lt) (pe_lst (pa_cons pe_int (pa_cons (pe_un un_neg pe_int) (pa_cons pe_int (pa_cons (pe_op op_sub pe_int (pe_op op_mod (pe_op op_fdiv (pv 0) pe_int) pe_int)) (pa_cons (pe_op op_plus pe_int (pe_op op_mod (pe_op op_fdiv (pv 0) pe_int) pe_int)) pa_nil)))))) (pe_op op_mod (pe_op op_fdiv (pv 1) pe_int) pe_int) (fun _ _ => rfl))))
  pss_nil)
  (pss_one (ps_ret (pe_callS (ok_l_refused T) hr (by rfl) T.g_l_refused T.F_l_refused.kp T.b_l_refused (fun σ => passAt (takes_of rfl rfl rfl rfl) σ) (by exact (pa_cons (pe_tup (pa_cons (pv 2) (pa_cons (pv 3) pa_nil))) (pa_cons (pv 4) pa_nil))))))))))), ?_⟩
    obtain ⟨c, o, rfl, k⟩ := h
    walk_at "go"
    refine g_ite (fun c1 => ?_) (fun c1 => ?_)
    · walk_at "go"
      refine ⟨by walk_at "sz", fun p hp => ?_⟩
      walk_at "go"
      obtain ⟨v, hv, hat⟩ := at_modV (xs := [.bl true, .str "2", .non, .int (2024 + 10 ^ (6 : Int).toNat), .int (0 - 2024)]) (o / 16) (n := 5) rfl (by decide)
      refine r_ixL (SqL.of upd_same) hat ?_
      have hth : ∀ H', thing H' v := by
        intro H'
        simp only [List.mem_cons, List.not_mem_nil, or_false] at hv
        rcases hv with rfl | rfl | rfl | rfl | rfl <;> trivial
      have hw : within v 2000 2273 = false ∧ within v 1 12 = false := by
        simp only [List.mem_cons, List.not_mem_nil, or_false] at hv
        rcases hv with rfl | rfl | rfl | rfl | rfl <;> decide
      have nd1 : ∀ q, dayv v q (.int (1 + c / 282 % 31)) = none := fun q => dayv_no (by rw [isdate, hw.1, Bool.false_and])
      have nd2 : ∀ q, dayv q v (.int (1 + c / 282 % 31)) = none := fun q => dayv_no (by rw [isdate, hw.2, Bool.and_false])
      walk_at "go"
      refine ⟨by walk_at "sz", fun p2 hp2 => ?_⟩
      walk_at "go"
      refine ⟨_, _, rfl, trivial, .inr ⟨p2, _, _, _, rfl, upd_same, hth _, trivial, fun H1 s1 => ?_⟩⟩
      rw [nd1]
      walk_at "go"
      refine g_T ?_
      walk_at "go"
      refine ⟨by walk_at "sz", fun p3 hp3 => ?_⟩
      walk_at "go"
      refine ⟨_, _, rfl, trivial, .inr ⟨p3, _, _, _, rfl, upd_same, trivial, hth _, fun H2 s2 => ?_⟩⟩
      rw [nd2]
      exact k _ (by walk_at "sm")
    · walk_at "go"
      refine g_tcut (fun σ' H' => ∃ mm, σ' = [some (.int c), some (.int o), some (.int (1996 + c % 282)), some (.int mm), some (.int (1 + c / 282 % 31)), none] ∧ Same H H' ∧ isdate (.int (1996 + c % 282)) (.int mm) = false) ?_ ?_
      · walk_at "gos"
        refine g_ifB (isdate (.int (1996 + c % 282)) (.int (o % 16 - 1))) (fun Q' q => ?_) (fun c2 => ?_) (fun c2 => ?_)
        · have e : isdate (.int (1996 + c % 282)) (.int (o % 16 - 1)) = (decide (2000 ≤ 1996 + c % 282) && (decide (1996 + c % 282 ≤ 2273) && (decide (1 ≤ o % 16 - 1) && decide (o % 16 - 1 ≤ 12)))) := by
            simp only [isdate, within, Bool.and_assoc]
          rw [e] at q
          walk_at "go"
          refine g_ite (fun d => ?_) (fun d => ?_)
          · walk_at "go"
            refine g_ite (fun d2 => ?_) (fun d2 => ?_)
            · walk_at "go"
              refine g_ite (fun d3 => ?_) (fun d3 => ?_)
              · walk_at "go"
                simp only [d, d2, d3, decide_true, Bool.true_and] at q
                exact q
              · simp only [d, d2, d3, decide_true, decide_false, Bool.true_and, Bool.false_and] at q
                exact q
            · simp only [d, d2, decide_true, decide_false, Bool.true_and, Bool.false_and] at q
              exact q
          · simp only [d, decide_false, Bool.false_and] at q
            exact q
        · walk_at "go"
          refine ⟨by walk_at "sz", fun p2 hp2 => ?_⟩
          walk_at "go"
          obtain ⟨v, hv, hat⟩ := at_modV (xs := [.int 0, .int (-1), .int 13, .int (0 - c / 282 % 12), .int (13 + c / 282 % 12)]) (o / 16) (n := 5) rfl (by decide)
          refine r_ixL (SqL.of upd_same) hat ?_
          have hw : ∃ mm, v = .int mm ∧ ¬ (1 ≤ mm ∧ mm ≤ 12) := by
            simp only [List.mem_cons, List.not_mem_nil, or_false] at hv
            rcases hv with rfl | rfl | rfl | rfl | rfl
            · exact ⟨_, rfl, by omega⟩
            · exact ⟨_, rfl, by omega⟩
            · exact ⟨_, rfl, by omega⟩
            · exact ⟨_, rfl, by omega⟩
            · exact ⟨_, rfl, by omega⟩
          obtain ⟨mm, rfl, hmm⟩ := hw
          refine ⟨mm, rfl, by walk_at "sm", ?_⟩
          cases e : isdate (.int (1996 + c % 282)) (.int mm) with
          | false => rfl
          | true =>
            simp only [isdate, within, Bool.and_eq_true, decide_eq_true_eq] at e
            exact absurd e.2 hmm
        · walk_at "go"
          exact ⟨_, rfl, Same.refl H, c2⟩
      · rintro σ' H' ⟨mm, rfl, sm, hno⟩
        walk_at "go"
        refine ⟨by walk_at "sz", fun p3 hp3 => ?_⟩
        walk_at "go"
        refine ⟨_, _, rfl, trivial, .inr ⟨p3, _, _, _, rfl, upd_same, trivial, trivial, fun H2 s2 => ?_⟩⟩
        rw [dayv_no hno]
        exact k _ (by walk_at "sm")
theorem ok_l_next (T : Txt K mg) : FnOk P w K mg base (L2.CX P w) 1 T.f_l_next T.fd_l_next ["_law_month", "_law_days"] (sp_l_next K) := by
  refine T.F_l_next.okX sc_l_next (fun vs H Q E h => ?_) (fun cdv A outer s H vs Q E hr h => ?_)
  · first | (obtain ⟨_, rfl, _⟩ := h; rfl) | (obtain ⟨_, _, rfl, _⟩ := h; rfl) | (obtain ⟨_, _, _, rfl, _⟩ := h; rfl) | (obtain ⟨_, _, _, _, rfl, _⟩ := h; rfl) | (obtain ⟨_, _, _, _, _, rfl, _⟩ := h; rfl) | (obtain ⟨_, _, _, _, _, _, rfl, _⟩ := h; rfl) | (obtain ⟨_, _, _, _, _, _, _, rfl, _⟩ := h; rfl)
  · refine ⟨_, (pss_cons (ps_if (pt_cmpR op_lt (pe_ix (show IxR _ (rIx2 K) from ix_lt) (pv 0) pe_int (fun _ _ => rfl)) (pv 1) (nomark _))
  (pss_one (ps_ret (pe_tup (pa_cons (pe_ix (show IxR _ (rIx2 K) from ix_lt) (pv 0) pe_int (fun _ _ => rfl)) (pa_cons (pe_ix (show IxR _ (rIx2 K) from ix_lt) (pv 0) pe_int (fun _ _ => rfl)) (pa_cons (pe_op op_plus (pe_ix (show IxR _ (rIx2 K) from ix_lt) (pv 0) pe_int (fun _ _ => rfl)) pe_int) pa_nil))))))
  pss_nil)
  (pss_cons (ps_if (pt_cmpR op_lt (pe_ix (show IxR _ (rIx2 K) from ix_lt) (pv 0) pe_int (fun _ _ => rfl)) pe_int (nomark _))
  (pss_one (ps_ret (pe_tup (pa_cons (pe_ix (show IxR _ (rIx2 K) from ix_lt) (pv 0) pe_int (fun _ _ => rfl)) (pa_cons (pe_op op_plus (pe_ix (show IxR _ (rIx2 K) from ix_lt) (pv 0) pe_int (fun _ _ => rfl)) pe_int) (pa_cons pe_int pa_nil))))))
  pss_nil)
  (pss_one (ps_ret (pe_tup (pa_cons (pe_op op_plus (pe_ix (show IxR _ (rIx2 K) from ix_lt) (pv 0) pe_int (fun _ _ => rfl)) pe_int) (pa_cons pe_int (pa_cons pe_int pa_nil)))))))), ?_⟩
    obtain ⟨p, y, m, kk, n, rfl, hp, k⟩ := h
    walk_at "go"
    refine r_ixT (SqT.of hp) at2 ?_
    walk_at "go"
    refine g_ite (fun c => ?_) (fun c => ?_)
    · walk_at "go"
      refine r_ixT (SqT.of hp) at0 ?_
      walk_at "go"
      refine r_ixT (SqT.of hp) at1 ?_
      walk_at "go"
      refine r_ixT (SqT.of hp) at2 ?_
      walk_at "go"
      refine ⟨by walk_at "sz", fun q hq => ?_⟩
      refine k q _ (same_new hq) hq ?_
      rw [upd_same, nextd, if_pos c]
      rfl
    · walk_at "go"
      refine r_ixT (SqT.of hp) at1 ?_
      walk_at "go"
      refine g_ite (fun c2 => ?_) (fun c2 => ?_)
      · walk_at "go"
        refine r_ixT (SqT.of hp) at0 ?_
        walk_at "go"
        refine r_ixT (SqT.of hp) at1 ?_
        walk_at "go"
        refine ⟨by walk_at "sz", fun q hq => ?_⟩
        refine k q _ (same_new hq) hq ?_
        rw [upd_same, nextd, if_neg c, if_pos c2]
        rfl
      · walk_at "go"
        refine r_ixT (SqT.of hp) at0 ?_
        walk_at "go"
        refine ⟨by walk_at "sz", fun q hq => ?_⟩
        refine k q _ (same_new hq) hq ?_
        rw [upd_same, nextd, if_neg c, if_neg c2]
        rfl
theorem ok_law (T : Txt K mg) : FnOk P w K mg base (L2.CX P w) 7 T.f_law T.fd_law ["_law_script"] (sp_law K) := by
  refine T.F_law.okX sc_law (fun vs H Q E h => ?_) (fun cdv A outer s H vs Q E hr h => ?_)
  · first | (obtain ⟨_, rfl, _⟩ := h; rfl) | (obtain ⟨_, _, rfl, _⟩ := h; rfl) | (obtain ⟨_, _, _, rfl, _⟩ := h; rfl) | (obtain ⟨_, _, _, _, rfl, _⟩ := h; rfl) | (obtain ⟨_, _, _, _, _, rfl, _⟩ := h; rfl) | (obtain ⟨_, _, _, _, _, _, rfl, _⟩ := h; rfl) | (obtain ⟨_, _, _, _, _, _, _, rfl, _⟩ := h; rfl)
  · refine ⟨_, (pss_cons (ps_set (i := 1) sc_law.nd rfl (Or.inl rfl) (pe_callS (ok_l_day T) (hr.mono (by decide)) (by rfl) T.g_l_day T.F_l_day.kp T.b_l_day (fun σ => passAt (takes_of rfl rfl rfl rfl) σ) (by exact (pa_cons (pe_callS (ok_l_cell_at T) (hr.mono (by decide)) (by rfl) T.g_l_cell_at T.F_l_cell_at.kp T.b_l_cell_at (fun σ => passAt (takes_of rfl rfl rfl rfl) σ) (by exact (pa_cons (pv 0) (pa_cons pe_int pa_nil)))) pa_nil))))
  (pss_cons (ps_set (i := 2) sc_law.nd rfl (Or.inl rfl) (pe_callS (ok_l_cell_at T) (hr.mono (by decide)) (by rfl) T.g_l_cell_at T.F_l_cell_at.kp T.b_l_cell_at (fun σ => passAt (takes_of rfl rfl rfl rfl) σ) (by exact (pa_cons (pv 0) (pa_cons pe_int pa_nil)))))
  (pss_cons (ps_if (pt_cmpR (show OpR _ (compareOp .Eq) (rEqA K) from op_eqA hr.units) (pe_op op_mod (pv 2) pe_int) pe_int (nomark _))
  (pss_cons (ps_set (i := 3) sc_law.nd rfl (Or.inl rfl) (pe_op op_mod (pe_op op_fdiv (pv 2) pe_int) (pe_op op_pow pe_int pe_int)))
  (pss_one (ps_ret (pe_callS (ok_l_refused T) (hr.mono (by decide)) (by rfl) T.g_l_refused T.F_l_refused.kp T.b_l_refused (fun σ => passAt (takes_of rfl rfl rfl rfl) σ) (by exact (pa_cons pe_non (pa_cons (pe_ix (show IxR _ (rIx2 K) from ix_lt) (pe_lst (pa_cons (pe_un un_neg pe_int) (pa_cons pe_int (pa_cons pe_bl (pa_cons pe_str (pa_cons pe_non (pa_cons (pe_op op_plus pe_int (pv 3)) (pa_cons (pe_op op_sub (pe_un un_neg pe_int) (pv 3)) pa_nil)))))))) (pe_op op_mod (pe_op op_fdiv (pv 2) pe_int) pe_int) (fun _ _ => rfl)) pa_nil)))))))
  pss_nil)
  (pss_cons (ps_if (pt_cmpR (show OpR _ (compareOp .Eq) (rEqA K) from op_eqA hr.units) (pe_op op_mod (pv 2) pe_int) pe_int (nomark _))
  (pss_one (ps_ret (pe_callS (ok_l_none T) hr (by rfl) T.g_l_none T.F_l_none.kp T.b_l_none (fun σ => passAt (takes_of rfl rfl rfl rfl) σ) (by exact (pa_cons (pe_op op_fdiv (pv 2) pe_int) (pa_cons (pe_callS (ok_l_cell_at T) (hr.mono (by decide)) (by rfl) T.g_l_cell_at T.F_l_cell_at.kp T.b_l_cell_at (fun σ => passAt (takes_of rfl rfl rfl rfl) σ) (by exact (pa_cons (pv 0) (pa_cons pe_int pa_nil)))) pa_nil))))))
  pss_nil)
  (pss_cons (ps_set (i := 4) sc_law.nd rfl (Or.inl rfl) (pe_callS (ok_month_of T) (hr.mono (by decide)) (by rfl) T.g_month_of T.F_month_of.kp T.b_month_of (fun σ => passAt (takes_of rfl rfl rfl rfl) σ) (by exact (pa_cons (pv 1) pa_nil))))
  (pss_cons (ps_if (PW.pt (pw_or (pt_not (pt_val (pe_callB (show CallR _ (.builtin "isinstance") (rIsi K) from call_isi) (by rfl) T.n_isinstance (by decide +kernel) (pa_cons (pv 4) (pa_cons (pe_bltn (v := .ty "tuple") (by rfl) T.n_tuple (by decide +kernel) rfl) pa_nil))))) (pw_or1 (pt_cmpR (show OpR _ (compareOp .NotEq) (rNeA K) from op_neA hr.units) (pe_lc (own := [("_law_one", 5)]) (g := gName 5) (by rfl) sc_law.nd (show PI _ _ _ (iLT K _) from pi_lt (pv 4)) (blkOk_by (own := [("_law_one", 5)]) (N := ["_law_script", "_law_day_here", "_law_cell", "_law_far", "_law_month", "_law_one", "_law_days", "_law_number"]) (sc := defScope s_law) (by decide +kernel)) (fun _ _ _ _ _ => pg_name (i := 5) sc_law.nd rfl (Or.inl rfl)) (fun _ _ _ _ _ => pts_nil) (fun _ _ _ _ _ => (pe_callS (ok_l_whole T) (hr.mono (by decide)) (by rfl) T.g_l_whole T.F_l_whole.kp T.b_l_whole (fun σ => passAt (takes0 (X := _)) σ) (by exact (pa_cons (pv 5) pa_nil))))) (pe_lst (pa_cons pe_bl (pa_cons pe_bl (pa_cons pe_bl pa_nil)))) (nomark _)))))
  (pss_one (ps_ret pe_bl))
  pss_nil)
  (pss_cons (ps_if (pt_cmpR (show OpR _ (compareOp .NotEq) (rNeA K) from op_neA hr.units) (pv 4) (pe_callS (ok_l_date T) (hr.mono (by decide)) (by rfl) T.g_l_date T.F_l_date.kp T.b_l_date (fun σ => passAt (takes_of rfl rfl rfl rfl) σ) (by exact (pa_cons (pv 1) pa_nil))) (nomark _))
  (pss_one (ps_ret pe_bl))
  pss_nil)
  (pss_cons (ps_set (i := 6) sc_law.nd rfl (Or.inl rfl) (pe_callS (ok_month_days T) (hr.mono (by decide)) (by rfl) T.g_month_days T.F_month_days.kp T.b_month_days (fun σ => passAt (takes_of rfl rfl rfl rfl) σ) (by exact (pa_cons (pe_ix (show IxR _ (rIx2 K) from ix_lt) (pv 4) pe_int (fun _ _ => rfl)) (pa_cons (pe_ix (show IxR _ (rIx2 K) from ix_lt) (pv 4) pe_int (fun _ _ => rfl)) pa_nil)))))
  (pss_cons (ps_if (PW.pt (pw_or (pt_cmpR (show OpR _ (compareOp .NotEq) (rNeA K) from op_neA hr.units) (pe_callS (ok_day_of T) (hr.mono (by decide)) (by rfl) T.g_day_of T.F_day_of.kp T.b_day_of (fun σ => passAt (takes_of rfl rfl rfl rfl) σ) (by exact (pa_cons (pe_ix (show IxR _ (rIx2 K) from ix_lt) (pv 4) pe_int (fun _ _ => rfl)) (pa_cons (pe_ix (show IxR _ (rIx2 K) from ix_lt) (pv 4) pe_int (fun _ _ => rfl)) (pa_cons (pe_ix (show IxR _ (rIx2 K) from ix_lt) (pv 4) pe_int (fun _ _ => rfl)) pa_nil))))) (pv 1) (nomark _)) (pw_or (pt_cmpR (show OpR _ (compareOp .NotEq) (rNeA K) from op_neA hr.units) (pe_callS (ok_month_of T) (hr.mono (by decide)) (by rfl) T.g_month_of T.F_month_of.kp T.b_month_of (fun σ => passAt (takes_of rfl rfl rfl rfl) σ) (by exact (pa_cons pe_int pa_nil))) (pe_tup (pa_cons pe_int (pa_cons pe_int (pa_cons pe_int pa_nil)))) (nomark _)) (pw_or1 (pt_not (pt_chain op_le op_le pe_int (pe_ix (show IxR _ (rIx2 K) from ix_lt) (pv 4) pe_int (fun _ _ => rfl)) (pv 6)))))))
  (pss_one (ps_ret pe_bl))
  pss_nil)
  (pss_cons (ps_set (i := 7) sc_law.nd rfl (Or.inl rfl) (pe_op op_sub (pe_op op_mod (pe_callS (ok_l_cell_at T) (hr.mono (by decide)) (by rfl) T.g_l_cell_at T.F_l_cell_at.kp T.b_l_cell_at (fun σ => passAt (takes_of rfl rfl rfl rfl) σ) (by exact (pa_cons (pv 0) (pa_cons pe_int pa_nil)))) pe_int) pe_int))
  (pss_cons (ps_if (pt_not (pt_chain op_le op_le pe_int (pv 7) (pv 6)))
  (pss_one (ps_ret (pe_callS (ok_l_refused T) (hr.mono (by decide)) (by rfl) T.g_l_refused T.F_l_refused.kp T.b_l_refused (fun σ => passAt (takes_of rfl rfl rfl rfl) σ) (by exact (pa_cons (pv 4) (pa_cons (pv 7) pa_nil))))))
  pss_nil)
  (pss_cons (ps_if (pt_cmpR op_gt (pe_op op_plus (pe_op op_sub (pv 1) (pe_ix (show IxR _ (rIx2 K) from ix_lt) (pv 4) pe_int (fun _ _ => rfl))) (pv 7)) pe_int (nomark _))
  (pss_one (ps_ret (pe_callS (ok_l_refused T) (hr.mono (by decide)) (by rfl) T.g_l_refused T.F_l_refused.kp T.b_l_refused (fun σ => passAt (takes_of rfl rfl rfl rfl) σ) (by exact (pa_cons (pv 4) (pa_cons (pv 7) pa_nil))))))
  pss_nil)
  (pss_cons (ps_if (pt_cmpR (show OpR _ (compareOp .NotEq) (rNeA K) from op_neA hr.units) (pe_callS (ok_day_of T) (hr.mono (by decide)) (by rfl) T.g_day_of T.F_day_of.kp T.b_day_of (fun σ => passAt (takes_of rfl rfl rfl rfl) σ) (by exact (pa_cons (pe_ix (show IxR _ (rIx2 K) from ix_lt) (pv 4) pe_int (fun _ _ => rfl)) (pa_cons (pe_ix (show IxR _ (rIx2 K) from ix_lt) (pv 4) pe_int (fun _ _ => rfl)) (pa_cons (pv 7) pa_nil))))) (pe_op op_plus (pe_op op_sub (pv 1) (pe_ix (show IxR _ (rIx2 K) from ix_lt) (pv 4) pe_int (fun _ _ => rfl))) (pv 7)) (nomark _))
  (pss_one (ps_ret pe_bl))
  pss_nil)
  (pss_one (ps_ret (pe_or (pe_cmpR (show OpR _ (compareOp .Eq) (rEqA K) from op_eqA hr.units) (pv 1) pe_int (nomark _)) (pe_one (pe_cmpR (show OpR _ (compareOp .Eq) (rEqA K) from op_eqA hr.units) (pe_callS (ok_month_of T) (hr.mono (by decide)) (by rfl) T.g_month_of T.F_month_of.kp T.b_month_of (fun σ => passAt (takes_of rfl rfl rfl rfl) σ) (by exact (pa_cons (pe_op op_plus (pv 1) pe_int) pa_nil))) (pe_callS (ok_l_next T) (hr.mono (by decide)) (by rfl) T.g_l_next T.F_l_next.kp T.b_l_next (fun σ => passAt (takes_of rfl rfl rfl rfl) σ) (by exact (pa_cons (pv 4) (pa_cons (pv 6) pa_nil)))) (nomark _))))))))))))))))))), ?_⟩
    obtain ⟨a, ns, rfl, hS, hlen, k⟩ := h
    walk_at "go"
    refine ⟨a, ns, _, rfl, hS, by decide, ?_⟩
    walk_at "go"
    refine ⟨_, rfl, fun d h0 h1 H1 s1 => ?_⟩
    walk_at "go"
    have hS1 := s1.seq hS
    refine ⟨a, ns, _, rfl, hS1, by decide, ?_⟩
    walk_at "go"
    refine g_ite (fun c => ?_) (fun c => ?_)
    · walk_at "go"
      refine ⟨by walk_at "sz", fun p hp => ?_⟩
      walk_at "go"
      obtain ⟨v, hv, hat⟩ := at_modV (xs := [.int (-1), .int 100000, .bl true, .str "0", .non, .int (100000 + cell ns 1 / 42 % 10 ^ (9 : Int).toNat), .int (-1 - cell ns 1 / 42 % 10 ^ (9 : Int).toNat)]) (cell ns 1 / 6) (n := 7) rfl (by decide)
      refine r_ixL (SqL.of upd_same) hat ?_
      have hth : thing (upd H1 p (.lst [.int (-1), .int 100000, .bl true, .str "0", .non, .int (100000 + cell ns 1 / 42 % 10 ^ (9 : Int).toNat), .int (-1 - cell ns 1 / 42 % 10 ^ (9 : Int).toNat)])) v := by
        simp only [List.mem_cons, List.not_mem_nil, or_false] at hv
        rcases hv with rfl | rfl | rfl | rfl | rfl | rfl | rfl <;> trivial
      have pw : (10 : Int) ^ (9 : Int).toNat = 1000000000 := by decide
      have hw : within v 0 99999 = false := by
        rw [pw] at hv
        simp only [List.mem_cons, List.not_mem_nil, or_false] at hv
        rcases hv with rfl | rfl | rfl | rfl | rfl | rfl | rfl
        · rfl
        · rfl
        · rfl
        · rfl
        · rfl
        · cases e : within (.int (100000 + cell ns 1 / 42 % 1000000000)) 0 99999 with
          | false => rfl
          | true => simp only [within, Bool.and_eq_true, decide_eq_true_eq] at e; omega
        · cases e : within (.int (-1 - cell ns 1 / 42 % 1000000000)) 0 99999 with
          | false => rfl
          | true => simp only [within, Bool.and_eq_true, decide_eq_true_eq] at e; omega
      walk_at "go"
      refine ⟨_, _, rfl, hth, .inl ⟨rfl, fun H2 _ => ?_⟩⟩
      rw [hw]
      exact k _
    · walk_at "go"
      refine g_ite (fun c2 => ?_) (fun c2 => ?_)
      · walk_at "go"
        refine ⟨a, ns, _, rfl, hS1, by decide, ?_⟩
        walk_at "go"
        exact ⟨_, _, rfl, fun H2 _ => k _⟩
      · walk_at "go"
        have hwd : within (.int d) 0 99999 = true := by simp only [within, Bool.and_eq_true, decide_eq_true_eq]; exact ⟨h0, h1⟩
        refine ⟨_, rfl, trivial, fun i y m kk hi _ _ hD p hp => ?_, fun z => by rw [hwd] at z; cases z⟩
        cases hi
        have hpT : (upd H1 p (.tup [.int y, .int m, .int kk])) p = some (.tup [.int y, .int m, .int kk]) := upd_same
        have smT : Same H1 (upd H1 p (.tup [.int y, .int m, .int kk])) := same_new hp
        generalize upd H1 p (.tup [.int y, .int m, .int kk]) = H2 at hpT smT ⊢
        have hS2 := smT.seq hS1
        have hy2 := hD.yle h1
        walk_at "gos"
        refine g_ifBH false (fun H' => Same H2 H') (fun Q' q => ?_) (fun c3 => by cases c3) (fun _ H3 s3 => ?_)
        · walk_at "go"
          refine ⟨.ref p, .ty "tuple", _, _, true, rfl, .ty _, .base (.tup hpT), kit_ty (by decide +kernel), ?_⟩
          walk_at "go"
          refine lc_T (xs := [.int y, .int m, .int kk]) (fun _ => .bl true) (fun Q' q => ?_) (SqT.of hpT) (by show 3 ≤ 100000; decide) (fun _ => rfl) (fun n x H' hx sm Q' q => ?_) (fun D H' hD sm hl => ?_)
          · walk_at "go"
            exact q
          · have hxi : ∃ z, x = .int z := by
              have hm := List.mem_of_getElem? hx
              simp only [List.mem_cons, List.not_mem_nil, or_false] at hm
              rcases hm with rfl | rfl | rfl <;> exact ⟨_, rfl⟩
            obtain ⟨z, rfl⟩ := hxi
            walk_at "go"
            exact ⟨_, rfl, trivial, q _ (Same.refl _)⟩
          · walk_at "go"
            refine ⟨by walk_at "sz", fun p2 hp2 => ?_⟩
            walk_at "go"
            refine r_neD (d := .list [.bool true, .bool true, .bool true]) (e := .list [.bool true, .bool true, .bool true]) (.lst (xs := [.bl true, .bl true, .bl true]) (SqL.of (by walk_at "lk")) ?_) (.lst (xs := [.bl true, .bl true, .bl true]) (SqL.of (by walk_at "lk")) ?_) rfl rfl ?_
            · exact .cons (.bl _) (.cons (.bl _) (.cons (.bl _) .nil))
            · exact .cons (.bl _) (.cons (.bl _) (.cons (.bl _) .nil))
            · walk_at "go"
              exact q _ (by walk_at "sm")
        · walk_at "gos"
          have hp3 := s3 _ _ hpT
          refine g_ifBH false (fun H' => Same H3 H') (fun Q' q => ?_) (fun c3 => by cases c3) (fun _ H4 s4 => ?_)
          · walk_at "go"
            refine ⟨_, rfl, h0, h1, fun y' m' k' hD' p' H' sm hn hp' => ?_⟩
            obtain ⟨rfl, rfl, rfl⟩ := hD.uniq hD'
            walk_at "go"
            refine r_neDD (d := .tuple [.int y, .int m, .int kk]) (.tup (SqT.of (by walk_at "lk")) (.cons (.int _) (.cons (.int _) (.cons (.int _) .nil)))) (.tup (SqT.of hp') (.cons (.int _) (.cons (.int _) (.cons (.int _) .nil)))) rfl rfl ?_
            walk_at "go"
            exact q _ sm
          · walk_at "go"
            have hp4 := s4 _ _ hp3
            refine r_ixT (SqT.of hp4) at0 ?_
            walk_at "go"
            refine r_ixT (SqT.of hp4) at1 ?_
            walk_at "go"
            have hdt : isdate (.int y) (.int m) = true := by simp only [isdate, within, Bool.and_eq_true, decide_eq_true_eq]; exact ⟨⟨hD.y1, hy2⟩, hD.m1, hD.m2⟩
            refine ⟨_, _, rfl, trivial, trivial, fun i' m' hi hm _ => ?_, fun z => by rw [hdt] at z; cases z⟩
            cases hi
            cases hm
            walk_at "gos"
            refine g_ifBH false (fun H' => Same H4 H') (fun Q' q => ?_) (fun c3 => by cases c3) (fun _ H5 s5 => ?_)
            · walk_at "go"
              refine r_ixT (SqT.of hp4) at0 ?_
              walk_at "go"
              refine r_ixT (SqT.of hp4) at1 ?_
              walk_at "go"
              refine r_ixT (SqT.of hp4) at2 ?_
              walk_at "go"
              refine ⟨_, _, _, rfl, trivial, trivial, trivial, fun d' e H' sm => ?_, fun e => by rw [dayv_yes hD h1] at e; cases e⟩
              rw [dayv_yes hD h1] at e
              cases e
              walk_at "go"
              refine g_iteN (fun z => absurd rfl z) (fun _ => ?_)
              walk_at "go"
              refine ⟨_, rfl, trivial, fun i' y' m' k' hi _ _ hD' p' hp' => ?_, fun z => by cases z⟩
              cases hi
              have hD0 : IsDate 0 2000 1 1 := ⟨by decide, by decide, by decide, by decide, by decide, by decide⟩
              obtain ⟨rfl, rfl, rfl⟩ := hD0.uniq hD'
              walk_at "go"
              refine ⟨by walk_at "sz", fun p6 hp6 => ?_⟩
              walk_at "go"
              refine r_neDD (d := .tuple [.int 2000, .int 1, .int 1]) (.tup (SqT.of (by walk_at "lk")) (.cons (.int _) (.cons (.int _) (.cons (.int _) .nil)))) (.tup (SqT.of (by walk_at "lk")) (.cons (.int _) (.cons (.int _) (.cons (.int _) .nil)))) rfl rfl ?_
              walk_at "go"
              refine r_ixT (SqT.of (by walk_at "lk")) (at2 (x := .int y) (y := .int m) (z := .int kk) (r := [])) ?_
              walk_at "go"
              refine g_ite (fun _ => ?_) (fun z => absurd hD.k1 z)
              walk_at "go"
              have e : decide (kk ≤ mlen y m) = true := decide_eq_true hD.k2
              rw [e]
              exact q _ (by walk_at "sm")
            · have hp5 := s5 _ _ hp4
              have hS5 : SqL K H5 a (ns.map V.int) := ((s3.trans s4).trans s5).seq hS2
              walk_at "go"
              refine ⟨a, ns, _, rfl, hS5, by decide, ?_⟩
              walk_at "gos"
              generalize hnn : cell ns 2 % 36 - 2 = nn
              have he := hD.eq
              have hno : ∀ z, ¬ (1 ≤ z ∧ z ≤ mlen y m ∧ d - kk + z ≤ 99999) → dayv (.int y) (.int m) (.int z) = none := fun z hz =>
                if_neg fun q => hz ⟨q.2.1, q.2.2.1, by have := q.2.2.2; omega⟩
              refine g_ifB (!(decide (1 ≤ nn) && decide (nn ≤ mlen y m))) (fun Q' q => ?_) (fun c3 => ?_) (fun c3 => ?_)
              · walk_at "go"
                refine g_ite (fun d1 => ?_) (fun d1 => ?_)
                · walk_at "go"
                  simp only [d1, decide_true, Bool.true_and] at q
                  exact q
                · walk_at "go"
                  simp only [d1, decide_false, Bool.false_and] at q
                  exact q
              · walk_at "go"
                refine ⟨_, _, rfl, trivial, .inr ⟨p, _, _, _, rfl, hp5, trivial, trivial, fun H6 s6 => ?_⟩⟩
                rw [hno nn (fun z => by simp [z.1, z.2.1] at c3)]
                exact k _
              · have c4 : 1 ≤ nn ∧ nn ≤ mlen y m := by simpa using c3
                walk_at "go"
                refine r_ixT (SqT.of hp5) at2 ?_
                walk_at "go"
                refine g_ite (fun d1 => ?_) (fun d1 => ?_)
                · walk_at "go"
                  refine ⟨_, _, rfl, trivial, .inr ⟨p, _, _, _, rfl, hp5, trivial, trivial, fun H6 s6 => ?_⟩⟩
                  rw [hno nn (fun z => by have := z.2.2; omega)]
                  exact k _
                · have hDn : IsDate (d - kk + nn) y m nn := ⟨hD.y1, hD.m1, hD.m2, c4.1, c4.2, by omega⟩
                  walk_at "gos"
                  refine g_ifBH false (fun H' => Same H5 H') (fun Q' q => ?_) (fun c3 => by cases c3) (fun _ H6 s6 => ?_)
                  · walk_at "go"
                    refine r_ixT (SqT.of hp5) at0 ?_
                    walk_at "go"
                    refine r_ixT (SqT.of hp5) at1 ?_
                    walk_at "go"
                    refine ⟨_, _, _, rfl, trivial, trivial, trivial, fun d' e H' sm => ?_, fun e => by rw [dayv_yes hDn (by omega)] at e; cases e⟩
                    rw [dayv_yes hDn (by omega)] at e
                    cases e
                    walk_at "go"
                    refine r_ixT (SqT.of (sm _ _ hp5)) at2 ?_
                    walk_at "go"
                    have e1 : decide (d - kk + nn = d - kk + nn) = true := decide_eq_true rfl
                    rw [e1]
                    exact q _ sm
                  · have hp6 := s6 _ _ hp5
                    walk_at "go"
                    refine g_ite (fun d2 => ?_) (fun d2 => ?_)
                    · exact k _
                    · walk_at "go"
                      refine ⟨_, rfl, trivial, fun i' y' m' k' hi _ _ hD' p' hp' => ?_, fun z => ?_⟩
                      · cases hi
                        walk_at "go"
                        refine ⟨p, y, m, kk, mlen y m, rfl, by walk_at "lk", fun p8 H8 s8 hn8 hp8 => ?_⟩
                        obtain ⟨a', b', c', hnx, hDx⟩ := next_date hD
                        obtain ⟨rfl, rfl, rfl⟩ := hDx.uniq hD'
                        rw [hnx] at hp8
                        walk_at "go"
                        refine r_eqDD (d := .tuple [.int a', .int b', .int c']) (.tup (SqT.of (s8 _ _ upd_same)) (.cons (.int _) (.cons (.int _) (.cons (.int _) .nil)))) (.tup (SqT.of hp8) (.cons (.int _) (.cons (.int _) (.cons (.int _) .nil)))) rfl rfl ?_
                        exact k _
                      · have e : within (.int (d + 1)) 0 99999 = true := by simp only [within, Bool.and_eq_true, decide_eq_true_eq]; omega
                        rw [e] at z
                        cases z
end
theorem all_mk {P : Program} {w : World} {K : PySem.W.Frag} {h : Heap} {mg : Str → Option Value} {fa : Addr} (X : K.In h) (G : h.Ns mainGlobals mg) (hfa : mg "law" = some (.ref fa))
    {c_RentError : Addr}
    {c_BadDay : Addr}
    {f_is_whole : Addr} {od_is_whole an_is_whole : Option Addr} {sl_is_whole : Array (Option Value)} {oc_is_whole kV_is_whole dc_is_whole pm_is_whole cd_is_whole ct_is_whole : Value}
    {f_is_within : Addr} {od_is_within an_is_within : Option Addr} {sl_is_within : Array (Option Value)} {oc_is_within kV_is_within dc_is_within pm_is_within cd_is_within ct_is_within : Value}
    {f_check_day : Addr} {od_check_day an_check_day : Option Addr} {sl_check_day : Array (Option Value)} {oc_check_day kV_check_day dc_check_day pm_check_day cd_check_day ct_check_day : Value}
    {f_month_days : Addr} {od_month_days an_month_days : Option Addr} {sl_month_days : Array (Option Value)} {oc_month_days kV_month_days dc_month_days pm_month_days cd_month_days ct_month_days : Value}
    {f_month_of : Addr} {od_month_of an_month_of : Option Addr} {sl_month_of : Array (Option Value)} {oc_month_of kV_month_of dc_month_of pm_month_of cd_month_of ct_month_of : Value}
    {f_day_of : Addr} {od_day_of an_day_of : Option Addr} {sl_day_of : Array (Option Value)} {oc_day_of kV_day_of dc_day_of pm_day_of cd_day_of ct_day_of : Value}
    {f_is_leap : Addr} {od_is_leap an_is_leap : Option Addr} {sl_is_leap : Array (Option Value)} {oc_is_leap kV_is_leap dc_is_leap pm_is_leap cd_is_leap ct_is_leap : Value}
    {f_length : Addr} {od_length an_length : Option Addr} {sl_length : Array (Option Value)} {oc_length kV_length dc_length pm_length cd_length ct_length : Value}
    {f_year_start : Addr} {od_year_start an_year_start : Option Addr} {sl_year_start : Array (Option Value)} {oc_year_start kV_year_start dc_year_start pm_year_start cd_year_start ct_year_start : Value}
    {f_l_cell_at : Addr} {od_l_cell_at an_l_cell_at : Option Addr} {sl_l_cell_at : Array (Option Value)} {oc_l_cell_at kV_l_cell_at dc_l_cell_at pm_l_cell_at cd_l_cell_at ct_l_cell_at : Value}
    {f_l_whole : Addr} {od_l_whole an_l_whole : Option Addr} {sl_l_whole : Array (Option Value)} {oc_l_whole kV_l_whole dc_l_whole pm_l_whole cd_l_whole ct_l_whole : Value}
    {f_l_day : Addr} {od_l_day an_l_day : Option Addr} {sl_l_day : Array (Option Value)} {oc_l_day kV_l_day dc_l_day pm_l_day cd_l_day ct_l_day : Value}
    {f_l_length : Addr} {od_l_length an_l_length : Option Addr} {sl_l_length : Array (Option Value)} {oc_l_length kV_l_length dc_l_length pm_l_length cd_l_length ct_l_length : Value}
    {f_l_date : Addr} {od_l_date an_l_date : Option Addr} {sl_l_date : Array (Option Value)} {oc_l_date kV_l_date dc_l_date pm_l_date cd_l_date ct_l_date : Value}
    {f_l_refused : Addr} {od_l_refused an_l_refused : Option Addr} {sl_l_refused : Array (Option Value)} {oc_l_refused kV_l_refused dc_l_refused pm_l_refused cd_l_refused ct_l_refused : Value}
    {f_l_none : Addr} {od_l_none an_l_none : Option Addr} {sl_l_none : Array (Option Value)} {oc_l_none kV_l_none dc_l_none pm_l_none cd_l_none ct_l_none : Value}
    {f_l_next : Addr} {od_l_next an_l_next : Option Addr} {sl_l_next : Array (Option Value)} {oc_l_next kV_l_next dc_l_next pm_l_next cd_l_next ct_l_next : Value}
    {f_law : Addr} {od_law an_law : Option Addr} {sl_law : Array (Option Value)} {oc_law kV_law dc_law pm_law cd_law ct_law : Value}
    {tk_FIRST_YEAR : Tok}
    {tk_LAST_YEAR : Tok}
    {tk_LAST_DAY : Tok}
    {tk_LONGEST_YEAR : Tok}
    {o_LENGTHS : Addr} {t0_LENGTHS t1_LENGTHS t2_LENGTHS t3_LENGTHS t4_LENGTHS t5_LENGTHS t6_LENGTHS t7_LENGTHS t8_LENGTHS t9_LENGTHS t10_LENGTHS t11_LENGTHS : Tok} {dd_LENGTHS : Option Addr} {nn_LENGTHS : Nat} {ss_LENGTHS : Array (Option Value)}
    (a_RentError : PySem.W.nsIn K mainGlobals "RentError" = some (some (.ref c_RentError)))
    (a_BadDay : PySem.W.nsIn K mainGlobals "BadDay" = some (some (.ref c_BadDay)))
    (a_is_whole : PySem.W.nsIn K mainGlobals "is_whole" = some (some (.ref f_is_whole)))
    (l_is_whole : K.lookup f_is_whole = some ⟨oc_is_whole, od_is_whole, .func (PySem.W.fnOf "is_whole" "is_whole" (defArgs s_is_whole) (defBody s_is_whole) (defScope s_is_whole) .none kV_is_whole dc_is_whole pm_is_whole an_is_whole cd_is_whole ct_is_whole), sl_is_whole⟩)
    (cc_is_whole : PySem.W.codeIn K cd_is_whole "is_whole" = true)
    (k_is_whole : PySem.W.keepIn K (.ref f_is_whole) = true)
    (a_is_within : PySem.W.nsIn K mainGlobals "is_within" = some (some (.ref f_is_within)))
    (l_is_within : K.lookup f_is_within = some ⟨oc_is_within, od_is_within, .func (PySem.W.fnOf "is_within" "is_within" (defArgs s_is_within) (defBody s_is_within) (defScope s_is_within) .none kV_is_within dc_is_within pm_is_within an_is_within cd_is_within ct_is_within), sl_is_within⟩)
    (cc_is_within : PySem.W.codeIn K cd_is_within "is_within" = true)
    (k_is_within : PySem.W.keepIn K (.ref f_is_within) = true)
    (a_check_day : PySem.W.nsIn K mainGlobals "check_day" = some (some (.ref f_check_day)))
    (l_check_day : K.lookup f_check_day = some ⟨oc_check_day, od_check_day, .func (PySem.W.fnOf "check_day" "check_day" (defArgs s_check_day) (defBody s_check_day) (defScope s_check_day) .none kV_check_day dc_check_day pm_check_day an_check_day cd_check_day ct_check_day), sl_check_day⟩)
    (cc_check_day : PySem.W.codeIn K cd_check_day "check_day" = true)
    (k_check_day : PySem.W.keepIn K (.ref f_check_day) = true)
    (a_month_days : PySem.W.nsIn K mainGlobals "month_days" = some (some (.ref f_month_days)))
    (l_month_days : K.lookup f_month_days = some ⟨oc_month_days, od_month_days, .func (PySem.W.fnOf "month_days" "month_days" (defArgs s_month_days) (defBody s_month_days) (defScope s_month_days) .none kV_month_days dc_month_days pm_month_days an_month_days cd_month_days ct_month_days), sl_month_days⟩)
    (cc_month_days : PySem.W.codeIn K cd_month_days "month_days" = true)
    (k_month_days : PySem.W.keepIn K (.ref f_month_days) = true)
    (a_month_of : PySem.W.nsIn K mainGlobals "month_of" = some (some (.ref f_month_of)))
    (l_month_of : K.lookup f_month_of = some ⟨oc_month_of, od_month_of, .func (PySem.W.fnOf "month_of" "month_of" (defArgs s_month_of) (defBody s_month_of) (defScope s_month_of) .none kV_month_of dc_month_of pm_month_of an_month_of cd_month_of ct_month_of), sl_month_of⟩)
    (cc_month_of : PySem.W.codeIn K cd_month_of "month_of" = true)
    (k_month_of : PySem.W.keepIn K (.ref f_month_of) = true)
    (a_day_of : PySem.W.nsIn K mainGlobals "day_of" = some (some (.ref f_day_of)))
    (l_day_of : K.lookup f_day_of = some ⟨oc_day_of, od_day_of, .func (PySem.W.fnOf "day_of" "day_of" (defArgs s_day_of) (defBody s_day_of) (defScope s_day_of) .none kV_day_of dc_day_of pm_day_of an_day_of cd_day_of ct_day_of), sl_day_of⟩)
    (cc_day_of : PySem.W.codeIn K cd_day_of "day_of" = true)
    (k_day_of : PySem.W.keepIn K (.ref f_day_of) = true)
    (a_is_leap : PySem.W.nsIn K mainGlobals "_is_leap" = some (some (.ref f_is_leap)))
    (l_is_leap : K.lookup f_is_leap = some ⟨oc_is_leap, od_is_leap, .func (PySem.W.fnOf "_is_leap" "_is_leap" (defArgs s_is_leap) (defBody s_is_leap) (defScope s_is_leap) .none kV_is_leap dc_is_leap pm_is_leap an_is_leap cd_is_leap ct_is_leap), sl_is_leap⟩)
    (cc_is_leap : PySem.W.codeIn K cd_is_leap "_is_leap" = true)
    (k_is_leap : PySem.W.keepIn K (.ref f_is_leap) = true)
    (a_length : PySem.W.nsIn K mainGlobals "_length" = some (some (.ref f_length)))
    (l_length : K.lookup f_length = some ⟨oc_length, od_length, .func (PySem.W.fnOf "_length" "_length" (defArgs s_length) (defBody s_length) (defScope s_length) .none kV_length dc_length pm_length an_length cd_length ct_length), sl_length⟩)
    (cc_length : PySem.W.codeIn K cd_length "_length" = true)
    (k_length : PySem.W.keepIn K (.ref f_length) = true)
    (a_year_start : PySem.W.nsIn K mainGlobals "_year_start" = some (some (.ref f_year_start)))
    (l_year_start : K.lookup f_year_start = some ⟨oc_year_start, od_year_start, .func (PySem.W.fnOf "_year_start" "_year_start" (defArgs s_year_start) (defBody s_year_start) (defScope s_year_start) .none kV_year_start dc_year_start pm_year_start an_year_start cd_year_start ct_year_start), sl_year_start⟩)
    (cc_year_start : PySem.W.codeIn K cd_year_start "_year_start" = true)
    (k_year_start : PySem.W.keepIn K (.ref f_year_start) = true)
    (a_l_cell_at : PySem.W.nsIn K mainGlobals "_law_cell_at" = some (some (.ref f_l_cell_at)))
    (l_l_cell_at : K.lookup f_l_cell_at = some ⟨oc_l_cell_at, od_l_cell_at, .func (PySem.W.fnOf "_law_cell_at" "_law_cell_at" (defArgs s_l_cell_at) (defBody s_l_cell_at) (defScope s_l_cell_at) .none kV_l_cell_at dc_l_cell_at pm_l_cell_at an_l_cell_at cd_l_cell_at ct_l_cell_at), sl_l_cell_at⟩)
    (cc_l_cell_at : PySem.W.codeIn K cd_l_cell_at "_law_cell_at" = true)
    (k_l_cell_at : PySem.W.keepIn K (.ref f_l_cell_at) = true)
    (a_l_whole : PySem.W.nsIn K mainGlobals "_law_whole" = some (some (.ref f_l_whole)))
    (l_l_whole : K.lookup f_l_whole = some ⟨oc_l_whole, od_l_whole, .func (PySem.W.fnOf "_law_whole" "_law_whole" (defArgs s_l_whole) (defBody s_l_whole) (defScope s_l_whole) .none kV_l_whole dc_l_whole pm_l_whole an_l_whole cd_l_whole ct_l_whole), sl_l_whole⟩)
    (cc_l_whole : PySem.W.codeIn K cd_l_whole "_law_whole" = true)
    (k_l_whole : PySem.W.keepIn K (.ref f_l_whole) = true)
    (a_l_day : PySem.W.nsIn K mainGlobals "_law_day" = some (some (.ref f_l_day)))
    (l_l_day : K.lookup f_l_day = some ⟨oc_l_day, od_l_day, .func (PySem.W.fnOf "_law_day" "_law_day" (defArgs s_l_day) (defBody s_l_day) (defScope s_l_day) .none kV_l_day dc_l_day pm_l_day an_l_day cd_l_day ct_l_day), sl_l_day⟩)
    (cc_l_day : PySem.W.codeIn K cd_l_day "_law_day" = true)
    (k_l_day : PySem.W.keepIn K (.ref f_l_day) = true)
    (a_l_length : PySem.W.nsIn K mainGlobals "_law_length" = some (some (.ref f_l_length)))
    (l_l_length : K.lookup f_l_length = some ⟨oc_l_length, od_l_length, .func (PySem.W.fnOf "_law_length" "_law_length" (defArgs s_l_length) (defBody s_l_length) (defScope s_l_length) .none kV_l_length dc_l_length pm_l_length an_l_length cd_l_length ct_l_length), sl_l_length⟩)
    (cc_l_length : PySem.W.codeIn K cd_l_length "_law_length" = true)
    (k_l_length : PySem.W.keepIn K (.ref f_l_length) = true)
    (a_l_date : PySem.W.nsIn K mainGlobals "_law_date" = some (some (.ref f_l_date)))
    (l_l_date : K.lookup f_l_date = some ⟨oc_l_date, od_l_date, .func (PySem.W.fnOf "_law_date" "_law_date" (defArgs s_l_date) (defBody s_l_date) (defScope s_l_date) .none kV_l_date dc_l_date pm_l_date an_l_date cd_l_date ct_l_date), sl_l_date⟩)
    (cc_l_date : PySem.W.codeIn K cd_l_date "_law_date" = true)
    (k_l_date : PySem.W.keepIn K (.ref f_l_date) = true)
    (a_l_refused : PySem.W.nsIn K mainGlobals "_law_refused" = some (some (.ref f_l_refused)))
    (l_l_refused : K.lookup f_l_refused = some ⟨oc_l_refused, od_l_refused, .func (PySem.W.fnOf "_law_refused" "_law_refused" (defArgs s_l_refused) (defBody s_l_refused) (defScope s_l_refused) .none kV_l_refused dc_l_refused pm_l_refused an_l_refused cd_l_refused ct_l_refused), sl_l_refused⟩)
    (cc_l_refused : PySem.W.codeIn K cd_l_refused "_law_refused" = true)
    (k_l_refused : PySem.W.keepIn K (.ref f_l_refused) = true)
    (a_l_none : PySem.W.nsIn K mainGlobals "_law_none" = some (some (.ref f_l_none)))
    (l_l_none : K.lookup f_l_none = some ⟨oc_l_none, od_l_none, .func (PySem.W.fnOf "_law_none" "_law_none" (defArgs s_l_none) (defBody s_l_none) (defScope s_l_none) .none kV_l_none dc_l_none pm_l_none an_l_none cd_l_none ct_l_none), sl_l_none⟩)
    (cc_l_none : PySem.W.codeIn K cd_l_none "_law_none" = true)
    (k_l_none : PySem.W.keepIn K (.ref f_l_none) = true)
    (a_l_next : PySem.W.nsIn K mainGlobals "_law_next" = some (some (.ref f_l_next)))
    (l_l_next : K.lookup f_l_next = some ⟨oc_l_next, od_l_next, .func (PySem.W.fnOf "_law_next" "_law_next" (defArgs s_l_next) (defBody s_l_next) (defScope s_l_next) .none kV_l_next dc_l_next pm_l_next an_l_next cd_l_next ct_l_next), sl_l_next⟩)
    (cc_l_next : PySem.W.codeIn K cd_l_next "_law_next" = true)
    (k_l_next : PySem.W.keepIn K (.ref f_l_next) = true)
    (a_law : PySem.W.nsIn K mainGlobals "law" = some (some (.ref f_law)))
    (l_law : K.lookup f_law = some ⟨oc_law, od_law, .func (PySem.W.fnOf "law" "law" (defArgs s_law) (defBody s_law) (defScope s_law) .none kV_law dc_law pm_law an_law cd_law ct_law), sl_law⟩)
    (cc_law : PySem.W.codeIn K cd_law "law" = true)
    (k_law : PySem.W.keepIn K (.ref f_law) = true)
    (x_BadDay : PySem.W.excIn K c_BadDay [.type "ValueError", .type "Exception", .type "BaseException", .type "object"] "ValueError.__new__" = true)
    (k_BadDay : PySem.W.keepIn K (.ref c_BadDay) = true)
    (s_BadDay : PySem.W.subIn K (.ref c_BadDay) (.type "BaseException") = some true)
    (t_BadDay : PySem.W.typeIn K (.ref c_BadDay) = some (.type "type"))
    (cs_BadDay : PySem.W.subIn K (.ref c_BadDay) (.type "BaseException") = some true)
    (cd_BadDay : PySem.W.hasDictIn K c_BadDay = true)
    (ct_BadDay : PySem.W.typeIn K (.ref c_BadDay) = some (.type "type"))
    (m_BadDay_BadDay : PySem.W.subIn K (.ref c_BadDay) (.ref c_BadDay) = some true)
    (a_FIRST_YEAR : PySem.W.nsIn K mainGlobals "FIRST_YEAR" = some (some (.int 2000 tk_FIRST_YEAR)))
    (a_LAST_YEAR : PySem.W.nsIn K mainGlobals "LAST_YEAR" = some (some (.int 2273 tk_LAST_YEAR)))
    (a_LAST_DAY : PySem.W.nsIn K mainGlobals "LAST_DAY" = some (some (.int 99999 tk_LAST_DAY)))
    (a_LONGEST_YEAR : PySem.W.nsIn K mainGlobals "LONGEST_YEAR" = some (some (.int 366 tk_LONGEST_YEAR)))
    (a_LENGTHS : PySem.W.nsIn K mainGlobals "LENGTHS" = some (some (.ref o_LENGTHS)))
    (l_LENGTHS : K.lookup o_LENGTHS = some ⟨.type "tuple", dd_LENGTHS, .seq #[(.int 31 t0_LENGTHS), (.int 28 t1_LENGTHS), (.int 31 t2_LENGTHS), (.int 30 t3_LENGTHS), (.int 31 t4_LENGTHS), (.int 30 t5_LENGTHS), (.int 31 t6_LENGTHS), (.int 31 t7_LENGTHS), (.int 30 t8_LENGTHS), (.int 31 t9_LENGTHS), (.int 30 t10_LENGTHS), (.int 31 t11_LENGTHS)] nn_LENGTHS, ss_LENGTHS⟩)
    (z_isinstance : PySem.W.nsIn K mainGlobals "isinstance" = some none)
    (z_int : PySem.W.nsIn K mainGlobals "int" = some none)
    (z_bool : PySem.W.nsIn K mainGlobals "bool" = some none)
    (z_sum : PySem.W.nsIn K mainGlobals "sum" = some none)
    (z_range : PySem.W.nsIn K mainGlobals "range" = some none)
    (z_len : PySem.W.nsIn K mainGlobals "len" = some none)
    (z_tuple : PySem.W.nsIn K mainGlobals "tuple" = some none)
    : ∃ fd : FuncData, (∀ (s : Shared) (v : Value), BindsTo s fd ⟨[v], []⟩ [("_law_script", v)]) ∧ ∀ base : Heap, K.In base → base.Ns mainGlobals mg → FnOk P w K mg base (L2.CX P w) 7 fa fd ["_law_script"] (sp_law K) := by
  have e : fa = f_law := Value.ref.inj (Option.some.inj (hfa.symm.trans (PySem.W.mg_of X G a_law)))
  rw [e]
  have F_is_whole := fun_mk (st := s_is_whole) l_is_whole cc_is_whole k_is_whole
  have F_is_within := fun_mk (st := s_is_within) l_is_within cc_is_within k_is_within
  have F_check_day := fun_mk (st := s_check_day) l_check_day cc_check_day k_check_day
  have F_month_days := fun_mk (st := s_month_days) l_month_days cc_month_days k_month_days
  have F_month_of := fun_mk (st := s_month_of) l_month_of cc_month_of k_month_of
  have F_day_of := fun_mk (st := s_day_of) l_day_of cc_day_of k_day_of
  have F_is_leap := fun_mk (st := s_is_leap) l_is_leap cc_is_leap k_is_leap
  have F_length := fun_mk (st := s_length) l_length cc_length k_length
  have F_year_start := fun_mk (st := s_year_start) l_year_start cc_year_start k_year_start
  have F_l_cell_at := fun_mk (st := s_l_cell_at) l_l_cell_at cc_l_cell_at k_l_cell_at
  have F_l_whole := fun_mk (st := s_l_whole) l_l_whole cc_l_whole k_l_whole
  have F_l_day := fun_mk (st := s_l_day) l_l_day cc_l_day k_l_day
  have F_l_length := fun_mk (st := s_l_length) l_l_length cc_l_length k_l_length
  have F_l_date := fun_mk (st := s_l_date) l_l_date cc_l_date k_l_date
  have F_l_refused := fun_mk (st := s_l_refused) l_l_refused cc_l_refused k_l_refused
  have F_l_none := fun_mk (st := s_l_none) l_l_none cc_l_none k_l_none
  have F_l_next := fun_mk (st := s_l_next) l_l_next cc_l_next k_l_next
  have F_law := fun_mk (st := s_law) l_law cc_law k_law
  let T : Txt K mg := {
    f_is_whole := f_is_whole,
    fd_is_whole := _,
    F_is_whole := F_is_whole,
    b_is_whole := F_is_whole.binds (ps := ["thing"]) fun _ _ _ _ _ _ us hl => match us, hl with | [_], _ => rfl,
    g_is_whole := PySem.W.mg_of X G a_is_whole,
    f_is_within := f_is_within,
    fd_is_within := _,
    F_is_within := F_is_within,
    b_is_within := F_is_within.binds (ps := ["thing", "low", "high"]) fun _ _ _ _ _ _ us hl => match us, hl with | [_, _, _], _ => rfl,
    g_is_within := PySem.W.mg_of X G a_is_within,
    f_check_day := f_check_day,
    fd_check_day := _,
    F_check_day := F_check_day,
    b_check_day := F_check_day.binds (ps := ["day"]) fun _ _ _ _ _ _ us hl => match us, hl with | [_], _ => rfl,
    g_check_day := PySem.W.mg_of X G a_check_day,
    f_month_days := f_month_days,
    fd_month_days := _,
    F_month_days := F_month_days,
    b_month_days := F_month_days.binds (ps := ["year", "month"]) fun _ _ _ _ _ _ us hl => match us, hl with | [_, _], _ => rfl,
    g_month_days := PySem.W.mg_of X G a_month_days,
    f_month_of := f_month_of,
    fd_month_of := _,
    F_month_of := F_month_of,
    b_month_of := F_month_of.binds (ps := ["day"]) fun _ _ _ _ _ _ us hl => match us, hl with | [_], _ => rfl,
    g_month_of := PySem.W.mg_of X G a_month_of,
    f_day_of := f_day_of,
    fd_day_of := _,
    F_day_of := F_day_of,
    b_day_of := F_day_of.binds (ps := ["year", "month", "number"]) fun _ _ _ _ _ _ us hl => match us, hl with | [_, _, _], _ => rfl,
    g_day_of := PySem.W.mg_of X G a_day_of,
    f_is_leap := f_is_leap,
    fd_is_leap := _,
    F_is_leap := F_is_leap,
    b_is_leap := F_is_leap.binds (ps := ["year"]) fun _ _ _ _ _ _ us hl => match us, hl with | [_], _ => rfl,
    g_is_leap := PySem.W.mg_of X G a_is_leap,
    f_length := f_length,
    fd_length := _,
    F_length := F_length,
    b_length := F_length.binds (ps := ["year", "month"]) fun _ _ _ _ _ _ us hl => match us, hl with | [_, _], _ => rfl,
    g_length := PySem.W.mg_of X G a_length,
    f_year_start := f_year_start,
    fd_year_start := _,
    F_year_start := F_year_start,
    b_year_start := F_year_start.binds (ps := ["year"]) fun _ _ _ _ _ _ us hl => match us, hl with | [_], _ => rfl,
    g_year_start := PySem.W.mg_of X G a_year_start,
    f_l_cell_at := f_l_cell_at,
    fd_l_cell_at := _,
    F_l_cell_at := F_l_cell_at,
    b_l_cell_at := F_l_cell_at.binds (ps := ["_law_script", "_law_k"]) fun _ _ _ _ _ _ us hl => match us, hl with | [_, _], _ => rfl,
    g_l_cell_at := PySem.W.mg_of X G a_l_cell_at,
    f_l_whole := f_l_whole,
    fd_l_whole := _,
    F_l_whole := F_l_whole,
    b_l_whole := F_l_whole.binds (ps := ["_law_found"]) fun _ _ _ _ _ _ us hl => match us, hl with | [_], _ => rfl,
    g_l_whole := PySem.W.mg_of X G a_l_whole,
    f_l_day := f_l_day,
    fd_l_day := _,
    F_l_day := F_l_day,
    b_l_day := F_l_day.binds (ps := ["_law_cell"]) fun _ _ _ _ _ _ us hl => match us, hl with | [_], _ => rfl,
    g_l_day := PySem.W.mg_of X G a_l_day,
    f_l_length := f_l_length,
    fd_l_length := _,
    F_l_length := F_l_length,
    b_l_length := F_l_length.binds (ps := ["_law_year", "_law_month"]) fun _ _ _ _ _ _ us hl => match us, hl with | [_, _], _ => rfl,
    g_l_length := PySem.W.mg_of X G a_l_length,
    f_l_date := f_l_date,
    fd_l_date := _,
    F_l_date := F_l_date,
    b_l_date := F_l_date.binds (ps := ["_law_day_here"]) fun _ _ _ _ _ _ us hl => match us, hl with | [_], _ => rfl,
    g_l_date := PySem.W.mg_of X G a_l_date,
    f_l_refused := f_l_refused,
    fd_l_refused := _,
    F_l_refused := F_l_refused,
    b_l_refused := F_l_refused.binds (ps := ["_law_way", "_law_number"]) fun _ _ _ _ _ _ us hl => match us, hl with | [_, _], _ => rfl,
    g_l_refused := PySem.W.mg_of X G a_l_refused,
    f_l_none := f_l_none,
    fd_l_none := _,
    F_l_none := F_l_none,
    b_l_none := F_l_none.binds (ps := ["_law_cell", "_law_other"]) fun _ _ _ _ _ _ us hl => match us, hl with | [_, _], _ => rfl,
    g_l_none := PySem.W.mg_of X G a_l_none,
    f_l_next := f_l_next,
    fd_l_next := _,
    F_l_next := F_l_next,
    b_l_next := F_l_next.binds (ps := ["_law_month", "_law_days"]) fun _ _ _ _ _ _ us hl => match us, hl with | [_, _], _ => rfl,
    g_l_next := PySem.W.mg_of X G a_l_next,
    f_law := f_law,
    fd_law := _,
    F_law := F_law,
    b_law := F_law.binds (ps := ["_law_script"]) fun _ _ _ _ _ _ us hl => match us, hl with | [_], _ => rfl,
    g_law := PySem.W.mg_of X G a_law,
    c_RentError := c_RentError,
    g_RentError := PySem.W.mg_of X G a_RentError,
    c_BadDay := c_BadDay,
    g_BadDay := PySem.W.mg_of X G a_BadDay,
    x_BadDay := x_BadDay,
    k_BadDay := k_BadDay,
    s_BadDay := s_BadDay,
    t_BadDay := t_BadDay,
    m_BadDay_BadDay := PySem.W.exm_ref cs_BadDay cd_BadDay ct_BadDay m_BadDay_BadDay,
    tk_FIRST_YEAR := _,
    g_FIRST_YEAR := PySem.W.mg_of X G a_FIRST_YEAR,
    tk_LAST_YEAR := _,
    g_LAST_YEAR := PySem.W.mg_of X G a_LAST_YEAR,
    tk_LAST_DAY := _,
    g_LAST_DAY := PySem.W.mg_of X G a_LAST_DAY,
    tk_LONGEST_YEAR := _,
    g_LONGEST_YEAR := PySem.W.mg_of X G a_LONGEST_YEAR,
    a_LENGTHS := o_LENGTHS,
    g_LENGTHS := PySem.W.mg_of X G a_LENGTHS,
    q_LENGTHS := fun H => .inr ⟨_, _, _, l_LENGTHS, rfl, rfl, Nat.le_of_ble_eq_true rfl, .cons ⟨_, rfl⟩ (.cons ⟨_, rfl⟩ (.cons ⟨_, rfl⟩ (.cons ⟨_, rfl⟩ (.cons ⟨_, rfl⟩ (.cons ⟨_, rfl⟩ (.cons ⟨_, rfl⟩ (.cons ⟨_, rfl⟩ (.cons ⟨_, rfl⟩ (.cons ⟨_, rfl⟩ (.cons ⟨_, rfl⟩ (.cons ⟨_, rfl⟩ (.nil))))))))))))⟩,
    n_isinstance := PySem.W.mg_none_of X G z_isinstance,
    n_int := PySem.W.mg_none_of X G z_int,
    n_bool := PySem.W.mg_none_of X G z_bool,
    n_sum := PySem.W.mg_none_of X G z_sum,
    n_range := PySem.W.mg_none_of X G z_range,
    n_len := PySem.W.mg_none_of X G z_len,
    n_tuple := PySem.W.mg_none_of X G z_tuple
  }
  exact ⟨PySem.W.fnOf "law" "law" (defArgs s_law) (defBody s_law) (defScope s_law) .none kV_law dc_law pm_law an_law cd_law ct_law, fun s v => .of_eq rfl, fun base _ _ => ok_law T⟩
theorem walk {l : PySem.W.OpenLaw} {q : Program} {loose : List Str} {XP : (Str → Option Value) → Heap → Prop} {YP : World → Heap → Prop} {d : DefRec} {K : Params → PySem.W.Frag} (hn : l.most = some 63) (hdf : d.params.defaults = [])
    (hY : ∀ (w : World) (h : Heap), YP w h → (K w.params).In h)
    (F : ∀ (w : World) (mg : Str → Option Value) (fa : Addr) (h : Heap), (K w.params).In h → h.Ns mainGlobals mg → mg d.name = some (.ref fa) →
      ∃ fd : FuncData, (∀ (s : Shared) (u : Value), BindsTo s fd ⟨[u], []⟩ [("_law_script", u)]) ∧ ∀ base : Heap, (K w.params).In base → base.Ns mainGlobals mg → FnOk l.prog w (K w.params) mg base (L2.CX l.prog w) 7 fa fd ["_law_script"] (sp_law (K w.params))) :
    PySem.W.WalkO q loose XP YP l.row.toRowW d [] (fun f vs => PySem.call f vs) :=
  L2.walk_of (n := 63) (k := 7) (x := "_law_script") (CX := fun w => L2.CX l.prog w) (sp := fun w => sp_law (K w.params)) hn (by decide) hdf ⟨rfl, by decide, by decide⟩ hY F (fun _ _ a ns hl _ hS => ⟨a, ns, rfl, hS, hl, fun _ => rfl⟩)
    fun _ _ _ _ _ ⟨_, _, _, _, _, _, _, _, _, _, _, _, z⟩ => z
end NS
open PySem PySem.W PyProof.Rows in
set_option maxRecDepth 100000 in
set_option maxHeartbeats 0 in
theorem PySem.Challenge.cw_rentroll_k02_days_follow_holds : PySem.Challenge.rw_rentroll_k02_days_follow.Holds := by
  w_on; o_law; k_head; (case hw => w_witness2)
  k_fill
  refine NS.walk (l := PySem.Challenge.rw_rentroll_k02_days_follow) rfl rfl (fun w h Y => PySem.W.kIn_of Y) ?F
  case F =>
    intro w mg fa h KX G hmg
    refine' NS.all_mk KX G hmg ?a_RentError ?a_BadDay ?a_is_whole ?l_is_whole ?cc_is_whole ?k_is_whole ?a_is_within ?l_is_within ?cc_is_within ?k_is_within ?a_check_day ?l_check_day ?cc_check_day ?k_check_day ?a_month_days ?l_month_days ?cc_month_days ?k_month_days ?a_month_of ?l_month_of ?cc_month_of ?k_month_of ?a_day_of ?l_day_of ?cc_day_of ?k_day_of ?a_is_leap ?l_is_leap ?cc_is_leap ?k_is_leap ?a_length ?l_length ?cc_length ?k_length ?a_year_start ?l_year_start ?cc_year_start ?k_year_start ?a_l_cell_at ?l_l_cell_at ?cc_l_cell_at ?k_l_cell_at ?a_l_whole ?l_l_whole ?cc_l_whole ?k_l_whole ?a_l_day ?l_l_day ?cc_l_day ?k_l_day ?a_l_length ?l_l_length ?cc_l_length ?k_l_length ?a_l_date ?l_l_date ?cc_l_date ?k_l_date ?a_l_refused ?l_l_refused ?cc_l_refused ?k_l_refused ?a_l_none ?l_l_none ?cc_l_none ?k_l_none ?a_l_next ?l_l_next ?cc_l_next ?k_l_next ?a_law ?l_law ?cc_law ?k_law ?x_BadDay ?k_BadDay ?s_BadDay ?t_BadDay ?cs_BadDay ?cd_BadDay ?ct_BadDay ?m_BadDay_BadDay ?a_FIRST_YEAR ?a_LAST_YEAR ?a_LAST_DAY ?a_LONGEST_YEAR ?a_LENGTHS ?l_LENGTHS ?z_isinstance ?z_int ?z_bool ?z_sum ?z_range ?z_len ?z_tuple
    (case a_RentError => k_is)
    (case a_BadDay => k_is)
    (case a_is_whole => k_is)
    (case l_is_whole => k_is)
    (case cc_is_whole => k_is)
    (case k_is_whole => k_is)
    (case a_is_within => k_is)
    (case l_is_within => k_is)
    (case cc_is_within => k_is)
    (case k_is_within => k_is)
    (case a_check_day => k_is)
    (case l_check_day => k_is)
    (case cc_check_day => k_is)
    (case k_check_day => k_is)
    (case a_month_days => k_is)
    (case l_month_days => k_is)
    (case cc_month_days => k_is)
    (case k_month_days => k_is)
    (case a_month_of => k_is)
    (case l_month_of => k_is)
    (case cc_month_of => k_is)
    (case k_month_of => k_is)
    (case a_day_of => k_is)
    (case l_day_of => k_is)
    (case cc_day_of => k_is)
    (case k_day_of => k_is)
    (case a_is_leap => k_is)
    (case l_is_leap => k_is)
    (case cc_is_leap => k_is)
    (case k_is_leap => k_is)
    (case a_length => k_is)
    (case l_length => k_is)
    (case cc_length => k_is)
    (case k_length => k_is)
    (case a_year_start => k_is)
    (case l_year_start => k_is)
    (case cc_year_start => k_is)
    (case k_year_start => k_is)
    (case a_l_cell_at => k_is)
    (case l_l_cell_at => k_is)
    (case cc_l_cell_at => k_is)
    (case k_l_cell_at => k_is)
    (case a_l_whole => k_is)
    (case l_l_whole => k_is)
    (case cc_l_whole => k_is)
    (case k_l_whole => k_is)
    (case a_l_day => k_is)
    (case l_l_day => k_is)
    (case cc_l_day => k_is)
    (case k_l_day => k_is)
    (case a_l_length => k_is)
    (case l_l_length => k_is)
    (case cc_l_length => k_is)
    (case k_l_length => k_is)
    (case a_l_date => k_is)
    (case l_l_date => k_is)
    (case cc_l_date => k_is)
    (case k_l_date => k_is)
    (case a_l_refused => k_is)
    (case l_l_refused => k_is)
    (case cc_l_refused => k_is)
    (case k_l_refused => k_is)
    (case a_l_none => k_is)
    (case l_l_none => k_is)
    (case cc_l_none => k_is)
    (case k_l_none => k_is)
    (case a_l_next => k_is)
    (case l_l_next => k_is)
    (case cc_l_next => k_is)
    (case k_l_next => k_is)
    (case a_law => k_is)
    (case l_law => k_is)
    (case cc_law => k_is)
    (case k_law => k_is)
    (case x_BadDay => k_exc)
    (case k_BadDay => k_is)
    (case s_BadDay => k_is)
    (case t_BadDay => k_is)
    (case cs_BadDay => k_is)
    (case cd_BadDay => k_is)
    (case ct_BadDay => k_is)
    (case m_BadDay_BadDay => first | rfl | k_is)
    (case a_FIRST_YEAR => k_is)
    (case a_LAST_YEAR => k_is)
    (case a_LAST_DAY => k_is)
    (case a_LONGEST_YEAR => k_is)
    (case a_LENGTHS => k_is)
    (case l_LENGTHS => k_is)
    (case z_isinstance => k_is)
    (case z_int => k_is)
    (case z_bool => k_is)
    (case z_sum => k_is)
    (case z_range => k_is)
    (case z_len => k_is)
    (case z_tuple => k_is)
#print axioms PySem.Challenge.cw_rentroll_k02_days_follow_holds
