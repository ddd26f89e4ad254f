import PyProof.Rows.All
import Wide.All
import OpenK.AllK
import Wide.FinOn
import HandS.ForMost
import HandS.ForExc
import HandS.IsInst
import HandS.ExcIs
import HandS.Wide
import HandS.Evl
import PySem.Challenge.RW_rentroll_k03_terms_held
set_option Elab.async false
set_option linter.all false
set_option maxRecDepth 100000
set_option maxHeartbeats 2000000
namespace My
open PySem PySem.Spec PyProof.Rows L2
/-! ### rules of two kinds at once -/
section
variable {X : Cx}
def rPlus : R2 := fun x y H Q => rI0 (fun i j => .int (i + j)) x y H Q ∨ rCat x y H Q
theorem op_plus : OpR X (binaryOp .Add) rPlus := op_add.or op_cat
def rIx2 (K : PySem.W.Frag) : R2 := fun x y H Q => rIxL K x y H Q ∨ rIxT K x y H Q
theorem ix_lt : IxR X (rIx2 X.K) := ix_list.or ix_tup
def rEqA (K : PySem.W.Frag) : R2 := fun x y H Q => rEq x y H Q ∨ rEqD K x y H Q
def rNeA (K : PySem.W.Frag) : R2 := fun x y H Q => rNe x y H Q ∨ rNeD K x y H Q
theorem op_eqA (hu : X.A.units + 64 < cLine) : OpR X (compareOp .Eq) (rEqA X.K) := op_eq.or (op_eqD hu)
theorem op_neA (hu : X.A.units + 64 < cLine) : OpR X (compareOp .NotEq) (rNeA X.K) := op_ne.or (op_neD hu)
def rIsN : R2 := fun x y H Q => y = .non ∧ Q (.bl (decide (x = .non))) H
def rNotN : R2 := fun x y H Q => y = .non ∧ Q (.bl (!decide (x = .non))) H
theorem op_isA : OpR X (compareOp .Is) rIsN := op_isN
theorem op_isnotA : OpR X (compareOp .IsNot) rNotN := op_notN
def iLT (K : PySem.W.Frag) (tl : TE) : TI := fun σ H R => iList K tl σ H R ∨ iTup K tl σ H R
theorem pi_lt {tg l : Expr} {tl : TE} (hl : PE X l tl) : PI X tg l (iLT X.K tl) :=
  ⟨fun pins s σ H R I h => h.elim ((pi_list hl).run pins s σ H R I) ((pi_tup hl).run pins s σ H R I)⟩
def rLen (K : PySem.W.Frag) : List V → Hp → VK → Prop := fun xs H Q => ∃ p ys, xs = [.ref p] ∧ (SqL K H p ys ∨ SqT K H p ys) ∧ Q (.int ys.length) H
theorem call_lenA : CallR X (.builtin "len") (rLen X.K) := call_len_seq
def rListOf (K : PySem.W.Frag) : List V → Hp → VK → Prop := fun xs H Q => ∃ p ys, xs = [.ref p] ∧ (SqL K H p ys ∨ SqT K H p ys) ∧ ∀ l, H l = none → Q (.ref l) (upd H l (.lst ys))
theorem call_listA : CallR X (.type "list") (rListOf X.K) := call_list_of
/-- isinstance(e, c) within an except suite, whatever class the caught error has -/
def rIsX (K : PySem.W.Frag) (cls : Value) (d : Option Addr) (a : Addr) : List V → Hp → VK → Prop := fun xs H Q => ∃ D, cls = .ref D ∧ d = none ∧ ExcC K D ∧ rIsE K D a xs H Q
theorem call_isX {a : Addr} {oe : Obj} {cls : Value} {d : Option Addr} {pn : List (Addr × Obj)} (hz : Zc cls d oe) (hf : ∃ vs, oe.data = .fields vs) :
    CallR (X.suite a ((a, oe) :: pn)) (.builtin "isinstance") (rIsX X.K cls d a) := by
  intro pins s σ H xs us Q I r h
  obtain ⟨D, rfl, rfl, C, q⟩ := h
  exact call_isE (X := X) C hz hf pins s σ H xs us Q I r q
end
theorem at_modI {ns : List Int} (z : Int) {n : Int} (hn : (ns.length : Int) = n) (h0 : 0 < n) : atI (ns.map V.int) (z % n) = some (.int (ns.getD (z % n).toNat 0)) := by
  have h1 : 0 ≤ z % n := Int.emod_nonneg _ (by omega)
  have h2 : z % n < n := Int.emod_lt_of_pos _ h0
  obtain ⟨j, hj⟩ : ∃ j : Nat, z % n = (j : Int) := ⟨(z % n).toNat, by omega⟩
  rw [hj]
  have hl : j < ns.length := by omega
  refine atI_nat ?_
  rw [List.getElem?_map, List.getElem?_eq_getElem hl]
  simp [List.getD, hl]
theorem at_modV {xs : List V} (z : Int) {n : Int} (hn : (xs.length : Int) = n) (h0 : 0 < n) : ∃ v, v ∈ xs ∧ atI xs (z % n) = some v := by
  have h1 : 0 ≤ z % n := Int.emod_nonneg _ (by omega)
  have h2 : z % n < n := Int.emod_lt_of_pos _ h0
  obtain ⟨j, hj⟩ : ∃ j : Nat, z % n = (j : Int) := ⟨(z % n).toNat, by omega⟩
  rw [hj]
  have hl : j < xs.length := by omega
  exact ⟨xs[j], List.getElem_mem hl, atI_nat (List.getElem?_eq_getElem hl)⟩
theorem lk_ne {H : Hp} {a b : Addr} {o u : HO} (h : H a = some o) (hb : H b = none) : upd H b u a = some o := (upd_ne (ne_of_none h hb)).trans h
theorem cmul_l {i j : Int} (h0 : -(2 ^ 64) < i) (h1 : i < 2 ^ 64) : CMul i j := .inl ⟨h0, h1⟩
theorem cmul_r {i j : Int} (h0 : -(2 ^ 64) < j) (h1 : j < 2 ^ 64) : CMul i j := .inr ⟨h0, h1⟩
theorem cpow_ok {i j : Int} (h0 : 0 ≤ j) (h1 : j ≤ 1000000) (h2 : i.natAbs < 2 ^ 64) : CPow i j := ⟨h0, h1, h2⟩
theorem getD_all {l : List Int} {R : Int → Prop} (n : Nat) (h : ∀ x, x ∈ l → R x) (h0 : R 0) : R (l.getD n 0) := by
  rw [List.getD]
  cases e : l[n]? with
  | none => exact h0
  | some x => exact h x (List.mem_of_getElem? e)
theorem cdiv_ok {i j : Int} (h0 : 0 < j) (h1 : j < 1073741824) : CDiv i j := ⟨h0, h1⟩
theorem same_new {H : Hp} {p : Addr} {o : HO} (hp : H p = none) : Same H (upd H p o) := fun b u e => by rw [upd_ne (ne_of_none e hp)]; exact e
/-- an object that H does not know may change -/
theorem same_mut {H H' : Hp} {p : Addr} {o : HO} (e : Same H H') (hp : H p = none) : Same H (upd H' p o) := fun b u h => by rw [upd_ne (ne_of_none h hp)]; exact e b u h
theorem same_sqT {K : PySem.W.Frag} {H H' : Hp} {a : Addr} {xs : List V} (e : Same H H') (h : SqT K H a xs) : SqT K H' a xs := by
  rcases h with (h | ⟨o, h⟩) | h
  · exact .inl (.inl (e _ _ h))
  · exact .inl (.inr ⟨o, e _ _ h⟩)
  · exact .inr h
/-! ### a comprehension that makes a list of what its element gives, turn by turn -/
theorem range_more {α : Type} (f : Nat → α) (i : Nat) : (List.range (i + 1)).map f = (List.range i).map f ++ [f i] := by rw [List.range_succ, List.map_append]; rfl
section
variable {K : PySem.W.Frag} {σ : L2.St} {H : Hp} {Q : VK} {te : TE} {vs : List Nat} {j : Nat}
def Made (H : Hp) (D : Addr) (f : Nat → V) (i : Nat) (H' : Hp) : Prop := Same H H' ∧ H' D = some (.lst ((List.range i).map f))
theorem made_turn {H H' : Hp} {D : Addr} {f : Nat → V} {i : Nat} {σ2 : L2.St} (hD : H D = none) (m : Made H D f i H') (hi : i < 100000) (hs : ∀ Q' : VK, (∀ H'', Same H' H'' → Q' (f i) H'') → te σ2 H' Q') :
    te σ2 H' fun y H4 => ∃ acc, H4 D = some (.lst acc) ∧ acc.length < sizeLine ∧ Made H D f (i + 1) (upd H4 D (.lst (acc ++ [y]))) := by
  refine hs _ fun H4 s4 => ⟨_, s4 _ _ m.2, ?_, same_mut (m.1.trans s4) hD, ?_⟩
  · rw [List.length_map, List.length_range]; exact Nat.lt_of_lt_of_le hi (by decide)
  · rw [upd_same, range_more]
theorem lc_r2 {ta : TA} {lo hi : Int} (f : Nat → V) (hta : ∀ Q' : List V → Hp → Prop, Q' [.int lo, .int hi] H → ta σ H Q') (b1 : -100000 ≤ lo ∧ lo ≤ 100000) (b2 : -100000 ≤ hi ∧ hi ≤ 100000) (b3 : hi - lo ≤ 100000)
    (hw : ∀ x, wipe ((wipe σ vs).set j (some x)) vs = wipe σ vs)
    (hs : ∀ (i : Nat) H', lo + i < hi → Same H H' → ∀ Q' : VK, (∀ H'', Same H' H'' → Q' (f i) H'') → te ((wipe σ vs).set j (some (.int (lo + i)))) H' Q')
    (hq : ∀ D H', H D = none → Same H H' → H' D = some (.lst ((List.range (hi - lo).toNat).map f)) → Q (.ref D) H') : tLc (iRng2 ta) (gName j) tYes te vs σ H Q := by
  refine hta _ ⟨lo, hi, rfl, by omega, fun D hD => ?_⟩
  refine lc_range (lo := lo) (n := (hi - lo).toNat) (Made H D f) ⟨same_new hD, upd_same⟩ (fun i H' hi' m => ?_) (fun H' m => hq D H' hD m.1 m.2)
  exact ⟨hw _, made_turn hD m (by omega) (hs i H' (by omega) m.1)⟩
theorem lc_r1 {ta : TA} {hi : Int} (f : Nat → V) (hta : ∀ Q' : List V → Hp → Prop, Q' [.int hi] H → ta σ H Q') (b2 : -100000 ≤ hi ∧ hi ≤ 100000)
    (hw : ∀ x, wipe ((wipe σ vs).set j (some x)) vs = wipe σ vs)
    (hs : ∀ (i : Nat) H', (i : Int) < hi → Same H H' → ∀ Q' : VK, (∀ H'', Same H' H'' → Q' (f i) H'') → te ((wipe σ vs).set j (some (.int (0 + i)))) H' Q')
    (hq : ∀ D H', H D = none → Same H H' → H' D = some (.lst ((List.range hi.toNat).map f)) → Q (.ref D) H') : tLc (iRng1 ta) (gName j) tYes te vs σ H Q := by
  refine hta _ ⟨hi, rfl, by omega, by omega, fun D hD => ?_⟩
  refine lc_range (lo := 0) (n := hi.toNat) (Made H D f) ⟨same_new hD, upd_same⟩ (fun i H' hi' m => ?_) (fun H' m => hq D H' hD m.1 m.2)
  exact ⟨hw _, made_turn hD m (by omega) (hs i H' (by omega) m.1)⟩
theorem lc_L {tl : TE} {a : Addr} {xs : List V} (f : Nat → V) (htl : ∀ Q' : VK, Q' (.ref a) H → tl σ H Q') (hx : SqL K H a xs) (hz : xs.length ≤ 100000)
    (hw : ∀ x, wipe ((wipe σ vs).set j (some x)) vs = wipe σ vs)
    (hs : ∀ (i : Nat) x H', xs[i]? = some x → Same H H' → ∀ Q' : VK, (∀ H'', Same H' H'' → Q' (f i) H'') → te ((wipe σ vs).set j (some x)) H' Q')
    (hq : ∀ D H', H D = none → Same H H' → H' D = some (.lst ((List.range xs.length).map f)) → Q (.ref D) H') : tLc (iLT K tl) (gName j) tYes te vs σ H Q := by
  refine .inl (htl _ ⟨a, rfl, ⟨xs, hx⟩, fun D hD => ?_⟩)
  refine lc_list (K := K) (a := a) (xs := xs) (Made H D f) ⟨same_new hD, upd_same⟩ (fun i H' _ m => m.1.seq hx) (fun i x H' hi' m => ?_) (fun H' m => hq D H' hD m.1 m.2)
  have hl := (List.getElem?_eq_some_iff.mp hi').1
  exact ⟨hw _, made_turn hD m (by omega) (hs i x H' hi' m.1)⟩
theorem lc_T {tl : TE} {a : Addr} {xs : List V} (f : Nat → V) (htl : ∀ Q' : VK, Q' (.ref a) H → tl σ H Q') (hx : SqT K H a xs) (hz : xs.length ≤ 100000)
    (hw : ∀ x, wipe ((wipe σ vs).set j (some x)) vs = wipe σ vs)
    (hs : ∀ (i : Nat) x H', xs[i]? = some x → Same H H' → ∀ Q' : VK, (∀ H'', Same H' H'' → Q' (f i) H'') → te ((wipe σ vs).set j (some x)) H' Q')
    (hq : ∀ D H', H D = none → Same H H' → H' D = some (.lst ((List.range xs.length).map f)) → Q (.ref D) H') : tLc (iLT K tl) (gName j) tYes te vs σ H Q := by
  refine .inr (htl _ ⟨a, rfl, ⟨xs, hx⟩, fun D hD => ?_⟩)
  refine lc_tup (K := K) (a := a) (xs := xs) (Made H D f) ⟨same_new hD, upd_same⟩ (fun i H' _ m => same_sqT m.1 hx) (fun i x H' hi' m => ?_) (fun H' m => hq D H' hD m.1 m.2)
  have hl := (List.getElem?_eq_some_iff.mp hi').1
  exact ⟨hw _, made_turn hD m (by omega) (hs i x H' hi' m.1)⟩
end
/-! ### readings, step by step: a goal «t ⟨nx, rt, bk, ct⟩ σ H», «te σ H Q» -/
section
variable {σ : L2.St} {H : Hp} {i : Nat} {v x y z : V} {ta tb tc te tv : TE} {b : Bool} {K : PySem.W.Frag} {a C dx : Addr} {fs : List (Str × V)} {f : Str} {t u c : TT} {Q : VK}
  {nx bk ct : L2.St → Hp → Prop} {rt : VK} {s1 s2 : TS} {r r' : R2} {g : TG}
theorem g_seq (h : s1 ⟨s2 ⟨nx, rt, bk, ct⟩, rt, bk, ct⟩ σ H) : tSeq s1 s2 ⟨nx, rt, bk, ct⟩ σ H := h
theorem g_next (h : nx σ H) : tNext ⟨nx, rt, bk, ct⟩ σ H := h
theorem g_brk (h : bk σ H) : tBreak ⟨nx, rt, bk, ct⟩ σ H := h
theorem g_cont (h : ct σ H) : tCont ⟨nx, rt, bk, ct⟩ σ H := h
theorem g_set (h : te σ H (fun x H1 => nx (σ.set i (some x)) H1)) : tAsg te (gName i) ⟨nx, rt, bk, ct⟩ σ H := h
theorem g_asg (h : te σ H (fun x H1 => g x σ H1 nx)) : tAsg te g ⟨nx, rt, bk, ct⟩ σ H := h
theorem g_drop (h : te σ H (fun _ H1 => nx σ H1)) : tDrop te ⟨nx, rt, bk, ct⟩ σ H := h
theorem g_ret (h : te σ H rt) : tRet te ⟨nx, rt, bk, ct⟩ σ H := h
theorem g_retN (h : rt .non H) : tRetN ⟨nx, rt, bk, ct⟩ σ H := h
theorem g_ifS (h : c σ H fun b H1 => if b = true then s1 ⟨nx, rt, bk, ct⟩ σ H1 else s2 ⟨nx, rt, bk, ct⟩ σ H1) : tIfS c s1 s2 ⟨nx, rt, bk, ct⟩ σ H := h
theorem g_aug {ti : TIp} (hx : σ[i]? = some (some x)) (h : te σ H fun y H1 => ti x y H1 fun z H2 => nx (σ.set i (some z)) H2) : tAug i te ti ⟨nx, rt, bk, ct⟩ σ H := ⟨x, hx, h⟩
theorem g_ipI {f : Int → Int → Int} {m n : Int} (q : Q (.int (f m n)) H) : ipI f (.int m) (.int n) H Q := ⟨m, n, rfl, rfl, q⟩
theorem g_fldS (h : tv σ H fun y H1 => ta σ H1 fun x H2 => ∃ a C dx fs, x = .ref a ∧ H2 a = some (.ins C dx fs) ∧ Cls K C ∧ NoAttr K C f ∧ fs.length < 1000 ∧ nx σ (upd H2 a (.ins C dx (putF f y fs)))) : sFld K ta tv f ⟨nx, rt, bk, ct⟩ σ H := h
theorem g_var (h : σ[i]? = some (some v)) (q : Q v H) : tVar i σ H Q := ⟨v, h, q⟩
theorem g_c (q : Q v H) : tC v σ H Q := q
theorem g_op (h : ta σ H fun x H1 => tb σ H1 fun y H2 => r x y H2 Q) : tOp r ta tb σ H Q := h
theorem g_un {r : V → Hp → VK → Prop} (h : ta σ H fun x H1 => r x H1 Q) : tUn r ta σ H Q := h
theorem r_int {g : Int → Int → V} {m n : Int} (q : Q (g m n) H) : rI0 g (.int m) (.int n) H Q := ⟨m, n, rfl, rfl, q⟩
theorem r_intC {C : Int → Int → Prop} {g : Int → Int → V} {m n : Int} (hc : C m n) (q : Q (g m n) H) : rI C g (.int m) (.int n) H Q := ⟨m, n, rfl, rfl, hc, q⟩
theorem r_U {g : Int → V} {m : Int} (q : Q (g m) H) : rU g (.int m) H Q := ⟨m, rfl, q⟩
theorem r_plus {m n : Int} (q : Q (.int (m + n)) H) : rPlus (.int m) (.int n) H Q := .inl ⟨m, n, rfl, rfl, q⟩
theorem r_cat {l b : Addr} {xs zs : List V} (h1 : H l = some (.lst xs)) (h2 : H b = some (.lst zs)) (hz : xs.length + zs.length ≤ sizeLine) (q : ∀ p, H p = none → Q (.ref p) (upd H p (.lst (xs ++ zs)))) : rPlus (.ref l) (.ref b) H Q :=
  .inr ⟨l, b, xs, zs, rfl, rfl, h1, h2, hz, q⟩
theorem r_eqS (hs : scal x y = true) (q : Q (.bl (decide (x = y))) H) : rEqA K x y H Q := .inl ⟨hs, q⟩
theorem r_neS (hs : scal x y = true) (q : Q (.bl (!decide (x = y))) H) : rNeA K x y H Q := .inl ⟨hs, q⟩
theorem r_eqI {m n : Int} (q : Q (.bl (decide (m = n))) H) : rEqA K (.int m) (.int n) H Q := .inl ⟨rfl, by
  have e : decide (V.int m = V.int n) = decide (m = n) := by simp
  rw [e]; exact q⟩
theorem r_neI {m n : Int} (q : Q (.bl (!decide (m = n))) H) : rNeA K (.int m) (.int n) H Q := .inl ⟨rfl, by
  have e : decide (V.int m = V.int n) = decide (m = n) := by simp
  rw [e]; exact q⟩
theorem r_eqD {d e : PyData} (h1 : Dp K H x d) (h2 : Dp K H y e) (s1 : SeqAt.shaped d = true) (s2 : SeqAt.shaped e = true) (q : Q (.bl (PyData.eqv d e)) H) : rEqA K x y H Q := .inr ⟨d, e, h1, h2, s1, s2, q⟩
theorem r_neD {d e : PyData} (h1 : Dp K H x d) (h2 : Dp K H y e) (s1 : SeqAt.shaped d = true) (s2 : SeqAt.shaped e = true) (q : Q (.bl (!PyData.eqv d e)) H) : rNeA K x y H Q := .inr ⟨d, e, h1, h2, s1, s2, q⟩
theorem r_eqDD {d : PyData} (h1 : Dp K H x d) (h2 : Dp K H y d) (s1 : SeqAt.shaped d = true) (c : d.canLay0 = true) (q : Q (.bl true) H) : rEqA K x y H Q := r_eqD h1 h2 s1 s1 (by rw [SeqAt.eqv_refl _ c]; exact q)
theorem r_neDD {d : PyData} (h1 : Dp K H x d) (h2 : Dp K H y d) (s1 : SeqAt.shaped d = true) (c : d.canLay0 = true) (q : Q (.bl false) H) : rNeA K x y H Q := r_neD h1 h2 s1 s1 (by rw [SeqAt.eqv_refl _ c]; exact q)
theorem r_isN (q : Q (.bl (decide (x = .non))) H) : rIsN x .non H Q := ⟨rfl, q⟩
theorem r_notN (q : Q (.bl (!decide (x = .non))) H) : rNotN x .non H Q := ⟨rfl, q⟩
theorem r_ixL {l : Addr} {xs : List V} {n : Int} (h : SqL K H l xs) (ha : atI xs n = some v) (q : Q v H) : rIx2 K (.ref l) (.int n) H Q := .inl ⟨l, xs, n, v, rfl, rfl, h, ha, q⟩
theorem r_ixT {l : Addr} {xs : List V} {n : Int} (h : SqT K H l xs) (ha : atI xs n = some v) (q : Q v H) : rIx2 K (.ref l) (.int n) H Q := .inr ⟨l, xs, n, v, rfl, rfl, h, ha, q⟩
theorem g_test {Q : Bool → Hp → Prop} (h : te σ H fun x H' => ∃ k, x = .bl k ∧ Q k H') : tTest te σ H Q := h
theorem g_B {Q : Bool → Hp → Prop} (h : te σ H fun x H' => ∃ k, x = .bl k ∧ Q k H') : tB te σ H Q := h
theorem g_bl {R : Bool → Prop} (q : R b) : ∃ k, V.bl b = .bl k ∧ R k := ⟨b, rfl, q⟩
theorem g_tcut (M : L2.St → Hp → Prop) (h : s1 ⟨M, rt, bk, ct⟩ σ H) (k : ∀ σ' H', M σ' H' → s2 ⟨nx, rt, bk, ct⟩ σ' H') : Evl.tCut s1 s2 ⟨nx, rt, bk, ct⟩ σ H := ⟨M, h, k⟩
theorem g_and {Q : Bool → Hp → Prop} (h : t σ H fun c H1 => if c = true then u σ H1 Q else Q false H1) : tAnd t u σ H Q := h
theorem g_or {Q : Bool → Hp → Prop} (h : t σ H fun c H1 => if c = true then Q true H1 else u σ H1 Q) : tOr t u σ H Q := h
theorem g_not {Q : Bool → Hp → Prop} (h : t σ H fun c H1 => Q (!c) H1) : tNot t σ H Q := h
theorem g_andV (h : ta σ H fun x H1 => ∃ c, x = .bl c ∧ if c = true then tb σ H1 Q else Q (.bl false) H1) : tAndV ta tb σ H Q := h
theorem g_orV (h : ta σ H fun x H1 => ∃ c, x = .bl c ∧ if c = true then Q (.bl true) H1 else tb σ H1 Q) : tOrV ta tb σ H Q := h
theorem g_notV (h : ta σ H fun x H1 => ∃ c, x = .bl c ∧ Q (.bl (!c)) H1) : tNotV ta σ H Q := h
theorem g_blI {A B : Prop} (h : if b = true then A else B) : ∃ c, V.bl b = .bl c ∧ if c = true then A else B := ⟨b, rfl, h⟩
theorem g_ifE (h : t σ H fun c H1 => if c = true then ta σ H1 Q else tb σ H1 Q) : tIf t ta tb σ H Q := h
theorem g_chain (h : ta σ H fun x H1 => tb σ H1 fun y H2 => r x y H2 fun z H3 => ∃ k, z = .bl k ∧ (if k = true then tc σ H3 fun w' H4 => r' y w' H4 Q else Q (.bl false) H3)) : tChain r r' ta tb tc σ H Q := h
theorem g_nil {Q : List V → Hp → Prop} (q : Q [] H) : tNil σ H Q := q
theorem g_cons {tr : TA} {Q : List V → Hp → Prop} (h : ta σ H fun x H1 => tr σ H1 fun xs H2 => Q (x :: xs) H2) : tCons ta tr σ H Q := h
theorem g_CB {r : List V → Hp → VK → Prop} {tr : TA} (h : tr σ H fun vs H1 => r vs H1 Q) : tCB r tr σ H Q := h
theorem g_call {sp : Sp} {E : L2.St → XK} {tr : TA} (h : tr σ H fun vs H1 => sp vs H1 Q (E σ)) : tCallS sp E tr σ H Q := h
theorem g_tup {tr : TA} (h : tr σ H fun xs H1 => xs.length ≤ sizeLine ∧ ∀ p, H1 p = none → Q (.ref p) (upd H1 p (.tup xs))) : tTup tr σ H Q := h
theorem g_lst {tr : TA} (h : tr σ H fun xs H1 => xs.length ≤ sizeLine ∧ ∀ p, H1 p = none → Q (.ref p) (upd H1 p (.lst xs))) : tLst tr σ H Q := h
theorem g_fld (h : ta σ H fun x H1 => ∃ a C dx fs v, x = .ref a ∧ H1 a = some (.ins C dx fs) ∧ Cls K C ∧ NoAttr K C f ∧ fs.lookup f = some v ∧ Q v H1) : tFld K ta f σ H Q := h
theorem g_bm {T : String} {r : V → List V → Hp → VK → Prop} {tr : TA} (h : ta σ H fun x H1 => tyV K T x H1 ∧ tr σ H1 fun xs H2 => r x xs H2 Q) : tBM K T r ta tr σ H Q := h
theorem g_sl {r : V → Option Int → Option Int → Hp → VK → Prop} {tl th : TO} (h : te σ H fun x H1 => tl σ H1 fun l H2 => th σ H2 fun u H3 => r x l u H3 Q) : tSl r te tl th σ H Q := h
theorem g_part {Q : Option Int → Hp → Prop} (h : te σ H fun x H1 => ∃ i, x = .int i ∧ Q (some i) H1) : tPart te σ H Q := h
theorem g_partI {n : Int} {R : Int → Prop} (q : R n) : ∃ i, V.int n = .int i ∧ R i := ⟨n, rfl, q⟩
theorem g_nopart {Q : Option Int → Hp → Prop} (q : Q none H) : tNoPart σ H Q := q
theorem g_ite {A B : Prop} {c : Prop} [Decidable c] (h1 : c → A) (h2 : ¬ c → B) : if decide c = true then A else B := by
  by_cases h : c
  · rw [if_pos (decide_eq_true h)]; exact h1 h
  · rw [if_neg (by rw [decide_eq_false h]; exact Bool.false_ne_true)]; exact h2 h
theorem g_iteN {A B : Prop} {c : Prop} [Decidable c] (h1 : ¬ c → A) (h2 : c → B) : if (!decide c) = true then A else B := by
  by_cases h : c
  · rw [if_neg (by rw [decide_eq_true h]; exact Bool.false_ne_true)]; exact h2 h
  · rw [if_pos (by rw [decide_eq_false h]; rfl)]; exact h1 h
theorem g_iteB {A B : Prop} {c : Bool} (h1 : c = true → A) (h2 : c = false → B) : if c = true then A else B := by
  cases c with
  | true => exact h1 rfl
  | false => exact h2 rfl
theorem g_iteNB {A B : Prop} {c : Bool} (h1 : c = false → A) (h2 : c = true → B) : if (!c) = true then A else B := by
  cases c with
  | true => exact h2 rfl
  | false => exact h1 rfl
theorem g_cut (v : V) (h : ∀ Q' : VK, Q' v H → te σ H Q') (q : Q v H) : te σ H Q := h Q q
theorem g_cutH (v : V) (R : Hp → Prop) (h : ∀ Q' : VK, (∀ H', R H' → Q' v H') → te σ H Q') (q : ∀ H', R H' → Q v H') : te σ H Q := h Q q
theorem g_cutT {Q : Bool → Hp → Prop} (b : Bool) (h : ∀ Q' : Bool → Hp → Prop, Q' b H → t σ H Q') (q : Q b H) : t σ H Q := h Q q
theorem g_ifB (b : Bool) (h : ∀ Q' : Bool → Hp → Prop, Q' b H → c σ H Q') (h1 : b = true → s1 ⟨nx, rt, bk, ct⟩ σ H) (h2 : b = false → s2 ⟨nx, rt, bk, ct⟩ σ H) : tIfS c s1 s2 ⟨nx, rt, bk, ct⟩ σ H := by
  refine h _ ?_
  cases b with
  | true => exact h1 rfl
  | false => exact h2 rfl
/-- for, by an invariant -/
theorem g_forL {tl : TE} {xs : List V} {j : Nat} (Pv : Nat → L2.St → Hp → Prop) (htl : ∀ Q' : VK, Q' (.ref a) H → tl σ H Q') (hx : SqL K H a xs) (h0 : Pv 0 σ H) (hl : ∀ i σ' H', i ≤ xs.length → Pv i σ' H' → SqL K H' a xs)
    (hs : ∀ i x σ' H', xs[i]? = some x → Pv i σ' H' → s1 ⟨Pv (i + 1), rt, nx, Pv (i + 1)⟩ (σ'.set j (some x)) H') (hd : ∀ σ' H', Pv xs.length σ' H' → nx σ' H') : tFor (iLT K tl) (gName j) s1 ⟨nx, rt, bk, ct⟩ σ H :=
  .inl (htl _ ⟨a, rfl, ⟨xs, hx⟩, for_list Pv h0 hl hs hd⟩)
theorem g_forT {tl : TE} {xs : List V} {j : Nat} (Pv : Nat → L2.St → Hp → Prop) (htl : ∀ Q' : VK, Q' (.ref a) H → tl σ H Q') (hx : SqT K H a xs) (h0 : Pv 0 σ H) (hl : ∀ i σ' H', i ≤ xs.length → Pv i σ' H' → SqT K H' a xs)
    (hs : ∀ i x σ' H', xs[i]? = some x → Pv i σ' H' → s1 ⟨Pv (i + 1), rt, nx, Pv (i + 1)⟩ (σ'.set j (some x)) H') (hd : ∀ σ' H', Pv xs.length σ' H' → nx σ' H') : tFor (iLT K tl) (gName j) s1 ⟨nx, rt, bk, ct⟩ σ H :=
  .inr (htl _ ⟨a, rfl, ⟨xs, hx⟩, for_tup Pv h0 hl hs hd⟩)
theorem g_forR1 {ta : TA} {hi : Int} {j : Nat} (Pv : Nat → L2.St → Hp → Prop) (hta : ∀ Q' : List V → Hp → Prop, Q' [.int hi] H → ta σ H Q') (b : -(2 ^ 62) ≤ hi ∧ hi < 2 ^ 62) (h0 : Pv 0 σ H)
    (hs : ∀ (i : Nat) σ' H', (i : Int) < hi → Pv i σ' H' → s1 ⟨Pv (i + 1), rt, nx, Pv (i + 1)⟩ (σ'.set j (some (.int (0 + i)))) H') (hd : ∀ σ' H', Pv hi.toNat σ' H' → nx σ' H') : tFor (iRng1 ta) (gName j) s1 ⟨nx, rt, bk, ct⟩ σ H :=
  hta _ ⟨hi, rfl, b.1, b.2, for_range (lo := 0) (n := hi.toNat) Pv h0 (fun i σ' H' h p => hs i σ' H' (by omega) p) hd⟩
theorem g_forR2 {ta : TA} {lo hi : Int} {j : Nat} (Pv : Nat → L2.St → Hp → Prop) (hta : ∀ Q' : List V → Hp → Prop, Q' [.int lo, .int hi] H → ta σ H Q') (b0 : -(2 ^ 62) ≤ lo ∧ lo < 2 ^ 62) (b : -(2 ^ 62) ≤ hi ∧ hi < 2 ^ 62) (h0 : Pv 0 σ H)
    (hs : ∀ (i : Nat) σ' H', lo + i < hi → Pv i σ' H' → s1 ⟨Pv (i + 1), rt, nx, Pv (i + 1)⟩ (σ'.set j (some (.int (lo + i)))) H') (hd : ∀ σ' H', Pv (hi - lo).toNat σ' H' → nx σ' H') : tFor (iRng2 ta) (gName j) s1 ⟨nx, rt, bk, ct⟩ σ H :=
  hta _ ⟨lo, hi, rfl, ⟨b0.1, b0.2, b.1, b.2⟩, for_range (lo := lo) (n := (hi - lo).toNat) Pv h0 (fun i σ' H' h p => hs i σ' H' (by omega) p) hd⟩
/-- while, by an invariant with a measure -/
theorem g_while (W : Nat → L2.St → Hp → Prop) (m0 : Nat) (h0 : W m0 σ H)
    (hs : ∀ m σ' H', W m σ' H' → c σ' H' fun b H1 => if b = true then ∃ N : L2.St → Hp → Prop, (∀ σ2 H2, N σ2 H2 → ∃ m', m' < m ∧ W m' σ2 H2) ∧ s1 ⟨N, rt, nx, N⟩ σ' H1 else nx σ' H1) : tWhile c s1 ⟨nx, rt, bk, ct⟩ σ H :=
  ⟨W, ⟨m0, h0⟩, hs⟩
theorem g_ifBH (b : Bool) (R : Hp → Prop) (h : ∀ Q' : Bool → Hp → Prop, (∀ H', R H' → Q' b H') → c σ H Q') (h1 : b = true → ∀ H', R H' → s1 ⟨nx, rt, bk, ct⟩ σ H') (h2 : b = false → ∀ H', R H' → s2 ⟨nx, rt, bk, ct⟩ σ H') : tIfS c s1 s2 ⟨nx, rt, bk, ct⟩ σ H := by
  refine h _ fun H' r => ?_
  cases b with
  | true => exact h1 rfl H' r
  | false => exact h2 rfl H' r
theorem g_T {A B : Prop} (h : A) : if true = true then A else B := h
theorem g_F {A B : Prop} (h : B) : if false = true then A else B := h
theorem g_nT {A B : Prop} (h : B) : if (!true) = true then A else B := h
theorem g_nF {A B : Prop} (h : A) : if (!false) = true then A else B := h
end
end My
/-! ### the tactics: go1 one step, go as far as it goes; lk: what stands at an address -/
local macro_rules | `(tactic| walk_at "lk") => `(tactic| first
  | assumption
  | exact L2.upd_same
  | (refine My.lk_ne ?_ (by assumption); walk_at "lk")
  | (refine (show L2.Same _ _ by assumption) _ _ ?_; walk_at "lk"))
local macro_rules | `(tactic| walk_at "sm") => `(tactic| first
  | assumption
  | exact L2.Same.refl _
  | exact My.same_new (by assumption)
  | (refine L2.Same.trans ?_ (My.same_new (by assumption)); walk_at "sm")
  | (refine L2.Same.trans ?_ (show L2.Same _ _ by assumption); walk_at "sm"))
local macro_rules | `(tactic| walk_at "sq") => `(tactic| first
  | assumption
  | (refine L2.SqL.of ?_; walk_at "lk")
  | (refine L2.SqT.of ?_; walk_at "lk"))
local macro_rules | `(tactic| walk_at "go0") => `(tactic| first
  | with_reducible refine My.g_seq ?_
  | with_reducible refine My.g_set ?_
  | with_reducible refine My.g_ret ?_
  | with_reducible refine My.g_next ?_
  | with_reducible refine My.g_brk ?_
  | with_reducible refine My.g_cont ?_
  | with_reducible refine My.g_asg ?_
  | with_reducible refine My.g_drop ?_
  | with_reducible refine My.g_retN ?_
  | (with_reducible refine' My.g_var ?h ?q; (case h => with_unfolding_all rfl))
  | with_reducible refine My.g_c ?_
  | with_reducible refine My.g_op ?_
  | with_reducible refine My.g_un ?_
  | with_reducible refine My.r_int ?_
  | with_reducible refine My.r_U ?_
  | with_reducible refine My.r_plus ?_
  | with_reducible refine My.r_eqI ?_
  | with_reducible refine My.r_neI ?_
  | with_reducible refine My.r_isN ?_
  | with_reducible refine My.r_notN ?_
  | with_reducible refine My.r_intC (by walk_at "side") ?_
  | with_reducible refine My.g_test ?_
  | with_reducible refine My.g_B ?_
  | with_reducible refine My.g_blI ?_
  | with_reducible refine My.g_bl ?_
  | with_reducible refine My.g_and ?_
  | with_reducible refine My.g_or ?_
  | with_reducible refine My.g_not ?_
  | with_reducible refine My.g_andV ?_
  | with_reducible refine My.g_orV ?_
  | with_reducible refine My.g_notV ?_
  | with_reducible refine My.g_ifE ?_
  | with_reducible refine My.g_chain ?_
  | with_reducible refine My.g_nil ?_
  | with_reducible refine My.g_cons ?_
  | with_reducible refine My.g_CB ?_
  | with_reducible refine My.g_call ?_
  | with_reducible refine My.g_tup ?_
  | with_reducible refine My.g_lst ?_
  | with_reducible refine My.g_fld ?_
  | with_reducible refine My.g_fldS ?_
  | with_reducible refine My.g_bm ?_
  | with_reducible refine My.g_sl ?_
  | with_reducible refine My.g_part ?_
  | with_reducible refine My.g_nopart ?_
  | with_reducible refine My.g_partI ?_
  | with_reducible refine My.g_ipI ?_
  | with_reducible refine My.g_T ?_
  | with_reducible refine My.g_F ?_
  | with_reducible refine My.g_nT ?_
  | with_reducible refine My.g_nF ?_
  | (with_reducible refine' My.g_aug ?h ?q; (case h => with_unfolding_all rfl))
  | dsimp only)
local macro_rules | `(tactic| walk_at "side") => `(tactic| first
  | decide
  | (show (0 : Int) < _; omega)
  | exact My.cdiv_ok (by omega) (by omega)
  | exact My.cmul_r (by omega) (by omega)
  | exact My.cmul_l (by omega) (by omega)
  | exact My.cpow_ok (by omega) (by omega) (by decide))
local macro_rules | `(tactic| walk_at "go1") => `(tactic| first | (walk_at "go0") | with_reducible refine My.g_ifS ?_)
local macro_rules | `(tactic| walk_at "gos") => `(tactic| repeat (walk_at "go0"))
local macro_rules | `(tactic| walk_at "sz") => `(tactic| exact Nat.le_of_ble_eq_true rfl)
local macro_rules | `(tactic| walk_at "go") => `(tactic| repeat (walk_at "go1"))

namespace NS
open PySem PySem.Spec PyProof.Rows L2 My
def top (i : Nat) : Stmt := PySem.Challenge.pw_rentroll_k03_terms_held.main.body.getD i (.Pass ⟨0, 0, 0, 0⟩)
abbrev s_pair_held : Stmt := top 1
abbrev s_held : Stmt := top 2
abbrev s_l_cell_at : Stmt := top 4
abbrev s_l_whole : Stmt := top 5
abbrev s_l_mix : Stmt := top 6
abbrev s_l_day : Stmt := top 7
abbrev s_l_row : Stmt := top 8
abbrev s_law : Stmt := top 9
abbrev N_pair_held : List Str := ["terms", "day", "best", "pair"]
theorem sc_pair_held : FnScope N_pair_held ["terms", "day"] (defScope s_pair_held) := ⟨rfl, rfl, rfl, by decide +kernel, rfl, by decide +kernel, by decide +kernel⟩
abbrev N_held : List Str := ["terms", "day", "pair"]
theorem sc_held : FnScope N_held ["terms", "day"] (defScope s_held) := ⟨rfl, rfl, rfl, by decide +kernel, rfl, by decide +kernel, by decide +kernel⟩
abbrev N_l_cell_at : List Str := ["_law_script", "_law_k"]
theorem sc_l_cell_at : FnScope N_l_cell_at ["_law_script", "_law_k"] (defScope s_l_cell_at) := ⟨rfl, rfl, rfl, by decide +kernel, rfl, by decide +kernel, by decide +kernel⟩
abbrev N_l_whole : List Str := ["_law_found"]
theorem sc_l_whole : FnScope N_l_whole ["_law_found"] (defScope s_l_whole) := ⟨rfl, rfl, rfl, by decide +kernel, rfl, by decide +kernel, by decide +kernel⟩
abbrev N_l_mix : List Str := ["_law_number", "_law_k", "_law_more"]
theorem sc_l_mix : FnScope N_l_mix ["_law_number", "_law_k"] (defScope s_l_mix) := ⟨rfl, rfl, rfl, by decide +kernel, rfl, by decide +kernel, by decide +kernel⟩
abbrev N_l_day : List Str := ["_law_cell", "_law_near"]
theorem sc_l_day : FnScope N_l_day ["_law_cell"] (defScope s_l_day) := ⟨rfl, rfl, rfl, by decide +kernel, rfl, by decide +kernel, by decide +kernel⟩
abbrev N_l_row : List Str := ["_law_script", "_law_many", "_law_near", "_law_row_here", "_law_k", "_law_more", "_law_first"]
theorem sc_l_row : FnScope N_l_row ["_law_script"] (defScope s_l_row) := ⟨rfl, rfl, rfl, by decide +kernel, rfl, by decide +kernel, by decide +kernel⟩
abbrev N_law : List Str := ["_law_script", "_law_row_here", "_law_day_here", "_law_best", "_law_k", "_law_handed", "_law_found", "_law_value"]
theorem sc_law : FnScope N_law ["_law_script"] (defScope s_law) := ⟨rfl, rfl, rfl, by decide +kernel, rfl, by decide +kernel, by decide +kernel⟩
structure Txt (K : PySem.W.Frag) (mg : Str → Option Value) where
  f_pair_held : Addr
  fd_pair_held : FuncData
  F_pair_held : Fun K "pair_held" "pair_held" s_pair_held f_pair_held fd_pair_held
  b_pair_held : Binds K fd_pair_held ["terms", "day"] []
  g_pair_held : mg "pair_held" = some (.ref f_pair_held)
  f_held : Addr
  fd_held : FuncData
  F_held : Fun K "held" "held" s_held f_held fd_held
  b_held : Binds K fd_held ["terms", "day"] []
  g_held : mg "held" = some (.ref f_held)
  f_l_cell_at : Addr
  fd_l_cell_at : FuncData
  F_l_cell_at : Fun K "_law_cell_at" "_law_cell_at" s_l_cell_at f_l_cell_at fd_l_cell_at
  b_l_cell_at : Binds K fd_l_cell_at ["_law_script", "_law_k"] []
  g_l_cell_at : mg "_law_cell_at" = some (.ref f_l_cell_at)
  f_l_whole : Addr
  fd_l_whole : FuncData
  F_l_whole : Fun K "_law_whole" "_law_whole" s_l_whole f_l_whole fd_l_whole
  b_l_whole : Binds K fd_l_whole ["_law_found"] []
  g_l_whole : mg "_law_whole" = some (.ref f_l_whole)
  f_l_mix : Addr
  fd_l_mix : FuncData
  F_l_mix : Fun K "_law_mix" "_law_mix" s_l_mix f_l_mix fd_l_mix
  b_l_mix : Binds K fd_l_mix ["_law_number", "_law_k"] []
  g_l_mix : mg "_law_mix" = some (.ref f_l_mix)
  f_l_day : Addr
  fd_l_day : FuncData
  F_l_day : Fun K "_law_day" "_law_day" s_l_day f_l_day fd_l_day
  b_l_day : Binds K fd_l_day ["_law_cell"] []
  g_l_day : mg "_law_day" = some (.ref f_l_day)
  f_l_row : Addr
  fd_l_row : FuncData
  F_l_row : Fun K "_law_row" "_law_row" s_l_row f_l_row fd_l_row
  b_l_row : Binds K fd_l_row ["_law_script"] []
  g_l_row : mg "_law_row" = some (.ref f_l_row)
  f_law : Addr
  fd_law : FuncData
  F_law : Fun K "law" "law" s_law f_law fd_law
  b_law : Binds K fd_law ["_law_script"] []
  g_law : mg "law" = some (.ref f_law)
  n_len : mg "len" = none
  n_isinstance : mg "isinstance" = none
  n_int : mg "int" = none
  n_bool : mg "bool" = none
  n_range : mg "range" = none
  n_max : mg "max" = none
  n_min : mg "min" = none
  n_list : mg "list" = none
  n_tuple : mg "tuple" = none

def isI : V → Bool
  | .int _ => true
  | _ => false
def isB : V → Bool
  | .bl _ => true
  | _ => false
def thing (H : Hp) : V → Prop
  | .int _ => True
  | .bl _ => True
  | .str _ => True
  | .non => True
  | .ref a => ∃ xs, H a = some (.tup xs)
  | _ => False
theorem thing_ty {K : PySem.W.Frag} {H : Hp} {x : V} (h : thing H x) : ∃ n : String, TyX K H x (.type n) ∧ kitB n "int" = some (isI x || isB x) ∧ kitB n "bool" = some (isB x) := by
  cases x with
  | int i => exact ⟨"int", .base (.int i), (by decide +kernel : kitB "int" "int" = some true), (by decide +kernel : kitB "int" "bool" = some false)⟩
  | bl i => exact ⟨"bool", .base (.bl i), (by decide +kernel : kitB "bool" "int" = some true), (by decide +kernel : kitB "bool" "bool" = some true)⟩
  | str i => exact ⟨"str", .base (.str i), (by decide +kernel : kitB "str" "int" = some false), (by decide +kernel : kitB "str" "bool" = some false)⟩
  | non => exact ⟨"NoneType", .base .non, by decide +kernel, by decide +kernel⟩
  | ref a => obtain ⟨xs, e⟩ := h; exact ⟨"tuple", .base (.tup e), (by decide +kernel : kitB "tuple" "int" = some false), (by decide +kernel : kitB "tuple" "bool" = some false)⟩
  | _ => exact h.elim
theorem thing_same {H H' : Hp} {x : V} (e : Same H H') (h : thing H x) : thing H' x := by
  cases x with
  | ref a => obtain ⟨xs, q⟩ := h; exact ⟨xs, e _ _ q⟩
  | _ => exact h
theorem isI_not {x : V} (h : isB x = true) : isI x = false := by
  cases x <;> first | rfl | cases h
def within (x : V) (lo hi : Int) : Bool := match x with
  | .int i => decide (lo ≤ i) && decide (i ≤ hi)
  | _ => false
def sp_is_whole : Sp := fun vs H Q _ => ∃ x, vs = [x] ∧ thing H x ∧ Q (.bl (isI x)) H
theorem at0 {x : V} {r : List V} : atI (x :: r) 0 = some x := atI_nat (j := 0) rfl
theorem at1 {x y : V} {r : List V} : atI (x :: y :: r) 1 = some y := atI_nat (j := 1) rfl
theorem at2 {x y z : V} {r : List V} : atI (x :: y :: z :: r) 2 = some z := atI_nat (j := 2) rfl

def cell (ns : List Int) (k : Int) : Int := ns.getD k.toNat 0
def sp_l_cell_at (K : PySem.W.Frag) : Sp := fun vs H Q _ => ∃ (a : Addr) (ns : List Int) (k : Int), vs = [.ref a, .int k] ∧ SqL K H a (ns.map V.int) ∧ 0 ≤ k ∧ Q (.int (cell ns k)) H
def sp_l_whole : Sp := sp_is_whole
def sp_law (K : PySem.W.Frag) : Sp := fun vs H Q _ => ∃ (a : Addr) (ns : List Int), vs = [.ref a] ∧ SqL K H a (ns.map V.int) ∧ ns.length ≤ 63 ∧ ∀ H', Q (.bl true) H'
/-- the objects as are pairs of ints ps, all of them -/
inductive Prs (K : PySem.W.Frag) (H : Hp) : List Addr → List (Int × Int) → Prop
  | nil : Prs K H [] []
  | cons {a : Addr} {p : Int × Int} {as : List Addr} {ps : List (Int × Int)} : SqT K H a [.int p.1, .int p.2] → Prs K H as ps → Prs K H (a :: as) (p :: ps)
theorem Prs.one {K : PySem.W.Frag} {H : Hp} {a : Addr} {x y : Int} (h : SqT K H a [.int x, .int y]) : Prs K H [a] [(x, y)] := .cons h .nil
theorem sqT_ty {K : PySem.W.Frag} {H : Hp} {a : Addr} {xs : List V} (h : SqT K H a xs) : TyX K H (.ref a) (.type "tuple") := by
  rcases h with (h | ⟨o, h⟩) | ⟨o, its, n, h, c, _⟩
  · exact .base (.tup h)
  · exact .fTuple h
  · exact .kTuple h c
theorem Prs.len {K : PySem.W.Frag} {H : Hp} : ∀ {as : List Addr} {ps : List (Int × Int)}, Prs K H as ps → as.length = ps.length
  | _, _, .nil => rfl
  | _, _, .cons _ t => by simp [Prs.len t]
theorem Prs.same {K : PySem.W.Frag} {H H' : Hp} (e : Same H H') : ∀ {as : List Addr} {ps : List (Int × Int)}, Prs K H as ps → Prs K H' as ps
  | _, _, .nil => .nil
  | _, _, .cons h t => .cons (same_sqT e h) (Prs.same e t)
theorem Prs.get {K : PySem.W.Frag} {H : Hp} : ∀ {as : List Addr} {ps : List (Int × Int)} {i : Nat} {p : Int × Int}, Prs K H as ps → ps[i]? = some p → ∃ a, as[i]? = some a ∧ SqT K H a [.int p.1, .int p.2]
  | _, _, 0, _, .cons h _, e => by simp at e; subst e; exact ⟨_, rfl, h⟩
  | _, _, i + 1, _, .cons _ t, e => by obtain ⟨a, h1, h2⟩ := Prs.get (i := i) t (by simpa using e); exact ⟨a, by simpa using h1, h2⟩
  | _, _, _, _, .nil, e => by simp at e
theorem Prs.append {K : PySem.W.Frag} {H : Hp} {bs : List Addr} {qs : List (Int × Int)} (t2 : Prs K H bs qs) : ∀ {as : List Addr} {ps : List (Int × Int)}, Prs K H as ps → Prs K H (as ++ bs) (ps ++ qs)
  | _, _, .nil => t2
  | _, _, .cons h t => .cons h (Prs.append t2 t)
theorem Prs.drop1 {K : PySem.W.Frag} {H : Hp} {as : List Addr} {ps : List (Int × Int)} (h : Prs K H as ps) : Prs K H (as.drop 1) (ps.drop 1) := by
  cases h with
  | nil => exact .nil
  | cons h t => exact t
/-- a list that is changed is no pair -/
theorem sqT_mut {K : PySem.W.Frag} {H : Hp} {a l : Addr} {xs ys : List V} {o : HO} (hl : H l = some (.lst xs)) (h : SqT K H a ys) : SqT K (upd H l o) a ys := by
  rcases h with (h | ⟨o', h⟩) | h
  · exact .inl (.inl (by rw [upd_ne (ne_of h hl (by intro q; cases q))]; exact h))
  · exact .inl (.inr ⟨o', by rw [upd_ne (ne_of h hl (by intro q; cases q))]; exact h⟩)
  · exact .inr h
theorem Prs.mut {K : PySem.W.Frag} {H : Hp} {l : Addr} {xs : List V} {o : HO} (hl : H l = some (.lst xs)) : ∀ {as : List Addr} {ps : List (Int × Int)}, Prs K H as ps → Prs K (upd H l o) as ps
  | _, _, .nil => .nil
  | _, _, .cons h t => .cons (sqT_mut hl h) (Prs.mut hl t)
theorem cut1 (xs : List V) : cutV xs (some 1) none = xs.drop 1 := by
  unfold cutV
  rw [HT.sIx_none, show HT.sIx xs.length 0 (some 1) = min 1 xs.length from HT.sIx_nat xs.length 0 1]
  cases xs with
  | nil => rfl
  | cons x r =>
    have e : min 1 (x :: r).length = 1 := by simp
    rw [e]
    simp
/-- a list l of such pairs -/
def RowAt (K : PySem.W.Frag) (H : Hp) (l : Addr) (as : List Addr) (ps : List (Int × Int)) : Prop := SqL K H l (as.map .ref) ∧ Prs K H as ps
theorem RowAt.same {K : PySem.W.Frag} {H H' : Hp} {l : Addr} {as : List Addr} {ps : List (Int × Int)} (e : Same H H') (h : RowAt K H l as ps) : RowAt K H' l as ps := ⟨e.seq h.1, h.2.same e⟩
theorem RowAt.get {K : PySem.W.Frag} {H : Hp} {l : Addr} {as : List Addr} {ps : List (Int × Int)} {i : Nat} (h : RowAt K H l as ps) (hi : i < ps.length) : ∃ a p, as[i]? = some a ∧ ps[i]? = some p ∧ SqT K H a [.int p.1, .int p.2] := by
  have hp : ps[i]? = some ps[i] := List.getElem?_eq_getElem hi
  obtain ⟨a, h1, h2⟩ := h.2.get hp
  exact ⟨a, _, h1, hp, h2⟩
def dpair (p : Int × Int) : PyData := .tuple [.int p.1, .int p.2]
theorem dpair_at {K : PySem.W.Frag} {H : Hp} {a : Addr} {p : Int × Int} (h : SqT K H a [.int p.1, .int p.2]) : Dp K H (.ref a) (dpair p) := .tup h (.cons (.int _) (.cons (.int _) .nil))
theorem Prs.dp {K : PySem.W.Frag} {H : Hp} : ∀ {as : List Addr} {ps : List (Int × Int)}, Prs K H as ps → DpAll K H (as.map .ref) (ps.map dpair)
  | _, _, .nil => .nil
  | _, _, .cons h t => .cons (dpair_at h) (Prs.dp t)
theorem RowAt.dp {K : PySem.W.Frag} {H : Hp} {l : Addr} {as : List Addr} {ps : List (Int × Int)} (h : RowAt K H l as ps) : Dp K H (.ref l) (.list (ps.map dpair)) := .lst h.1 h.2.dp
theorem pairs_lay : ∀ ps : List (Int × Int), PyData.canLayAll0 (ps.map dpair) = true
  | [] => rfl
  | p :: ps => by
    show (PyData.canLay0 (dpair p) && PyData.canLayAll0 (ps.map dpair)) = true
    rw [pairs_lay ps]
    rfl
theorem row_lay (ps : List (Int × Int)) : PyData.canLay0 (.list (ps.map dpair)) = true := pairs_lay ps
theorem pairs_depth : ∀ ps : List (Int × Int), PyData.depthAll (ps.map dpair) ≤ 1
  | [] => Nat.zero_le _
  | p :: ps => by
    show max (PyData.depth (dpair p)) (PyData.depthAll (ps.map dpair)) ≤ 1
    have h1 := pairs_depth ps
    have h2 : PyData.depth (dpair p) = 1 := rfl
    omega
theorem row_shaped (ps : List (Int × Int)) : SeqAt.shaped (.list (ps.map dpair)) = true := by
  unfold SeqAt.shaped
  rw [row_lay]
  have h : PyData.depth (.list (ps.map dpair)) = PyData.depthAll (ps.map dpair) + 1 := rfl
  have h1 := pairs_depth ps
  rw [h, decide_eq_true (by omega)]
  rfl
/-- the place of the pair that holds on a day, of the first n -/
def bestStep (ps : List (Int × Int)) (day : Int) (b : Option Nat) (i : Nat) : Option Nat := match b with
  | none => if (ps.getD i (0, 0)).1 ≤ day then some i else none
  | some j => if (ps.getD i (0, 0)).1 ≤ day ∧ (ps.getD j (0, 0)).1 ≤ (ps.getD i (0, 0)).1 then some i else some j
def bestN (ps : List (Int × Int)) (day : Int) : Nat → Option Nat
  | 0 => none
  | n + 1 => bestStep ps day (bestN ps day n) n
def best (ps : List (Int × Int)) (day : Int) : Option Nat := bestN ps day ps.length
theorem bestN_lt {ps : List (Int × Int)} {day : Int} : ∀ {n j : Nat}, bestN ps day n = some j → j < n
  | 0, j, h => by cases h
  | n + 1, j, h => by
    unfold bestN at h
    cases e : bestN ps day n with
    | none =>
      rw [e] at h
      unfold bestStep at h
      dsimp only at h
      split at h
      · cases h; omega
      · cases h
    | some i =>
      rw [e] at h
      unfold bestStep at h
      dsimp only at h
      have := bestN_lt e
      split at h <;> (cases h; omega)
theorem best_lt {ps : List (Int × Int)} {day : Int} {j : Nat} (h : best ps day = some j) : j < ps.length := bestN_lt h
def heldV (ps : List (Int × Int)) (day : Int) : Option Int := (best ps day).map fun j => (ps.getD j (0, 0)).2
/-- the pair, the value, as Python has them -/
def pairV (as : List Addr) : Option Nat → V
  | none => .non
  | some j => .ref (as.getD j 0)
def optV : Option Int → V
  | none => .non
  | some i => .int i
theorem getD_of {α : Type} {l : List α} {i : Nat} {x d : α} (h : l[i]? = some x) : l.getD i d = x := by rw [List.getD, h]; rfl
def sp_pair_held (K : PySem.W.Frag) : Sp := fun vs H Q _ => ∃ l day as ps, vs = [.ref l, .int day] ∧ RowAt K H l as ps ∧ Q (pairV as (best ps day)) H
def sp_held (K : PySem.W.Frag) : Sp := fun vs H Q _ => ∃ l day as ps, vs = [.ref l, .int day] ∧ RowAt K H l as ps ∧ Q (optV (heldV ps day)) H
def sp_l_mix : Sp := fun vs H Q _ => ∃ n k, vs = [.int n, .int k] ∧ ∀ z, 0 ≤ z → z < 999983 → Q (.int z) H
def sp_l_day : Sp := fun vs H Q _ => ∃ c, vs = [.int c] ∧ ∀ d, 0 ≤ d → d ≤ 99999 → ∀ H', Same H H' → Q (.int d) H'
def sp_l_row (K : PySem.W.Frag) : Sp := fun vs H Q _ => ∃ (a : Addr) (ns : List Int), vs = [.ref a] ∧ SqL K H a (ns.map V.int) ∧
  ∀ l as ps H', Same H H' → H l = none → H' l = some (.lst (as.map .ref)) → Prs K H' as ps → ps.length ≤ 60 → Q (.ref l) H'
def bi : Option Nat → Int
  | none => -1
  | some j => (j : Int)
section
variable {P : Program} {w : World} {K : PySem.W.Frag} {mg : Str → Option Value} {base : Heap}
theorem ok_pair_held (T : Txt K mg) : FnOk P w K mg base (L2.CX P w) 1 T.f_pair_held T.fd_pair_held ["terms", "day"] (sp_pair_held K) := by
  refine T.F_pair_held.okX sc_pair_held (fun vs H Q E h => ?_) (fun cdv A outer s H vs Q E hr h => ?_)
  · first | (obtain ⟨_, rfl, _⟩ := h; rfl) | (obtain ⟨_, _, rfl, _⟩ := h; rfl) | (obtain ⟨_, _, _, rfl, _⟩ := h; rfl) | (obtain ⟨_, _, _, _, rfl, _⟩ := h; rfl) | (obtain ⟨_, _, _, _, _, rfl, _⟩ := h; rfl) | (obtain ⟨_, _, _, _, _, _, rfl, _⟩ := h; rfl) | (obtain ⟨_, _, _, _, _, _, _, rfl, _⟩ := h; rfl)
  · refine ⟨_, (pss_cons (ps_set (i := 2) sc_pair_held.nd rfl (Or.inl rfl) pe_non)
  (pss_cons (ps_for (passes_of rfl) rfl (show PI _ _ _ (iLT K _) from pi_lt (pv 0)) (pg_name (i := 3) sc_pair_held.nd rfl (Or.inl rfl))
  (pss_cons (ps_if (pt_cmpR op_gt (pe_ix (show IxR _ (rIx2 K) from ix_lt) (pv 3) pe_int (fun _ _ => rfl)) (pv 1) (nomark _))
  (pss_one ps_continue)
  pss_nil)
  (pss_one (ps_if (PW.pt (pw_or (pt_cmpR op_isA (pv 2) pe_non (nomark _)) (pw_or1 (pt_cmpR op_ge (pe_ix (show IxR _ (rIx2 K) from ix_lt) (pv 3) pe_int (fun _ _ => rfl)) (pe_ix (show IxR _ (rIx2 K) from ix_lt) (pv 2) pe_int (fun _ _ => rfl)) (nomark _)))))
  (pss_one (ps_set (i := 2) sc_pair_held.nd rfl (Or.inl rfl) (pv 3)))
  pss_nil))))
  (pss_one (ps_ret (pv 2))))), ?_⟩
    obtain ⟨l, day, as, ps, rfl, hR, k⟩ := h
    have hlen := hR.2.len
    walk_at "go"
    refine g_forL (a := l) (xs := as.map V.ref) (fun i σ' H' => H = H' ∧ ∃ v, σ' = [some (.ref l), some (.int day), some (pairV as (bestN ps day i)), v]) (fun Q' q => by walk_at "go"; exact q) hR.1 ⟨rfl, none, rfl⟩
      (fun i σ' H' _ ⟨e, _⟩ => e ▸ hR.1) ?_ ?_
    · rintro i x σ' H' hx ⟨rfl, v, rfl⟩
      have hi : i < as.length := by
        have q := (List.getElem?_eq_some_iff.mp hx).1
        rw [List.length_map] at q
        exact q
      obtain ⟨a, p, h1, h2, h3⟩ := hR.get (i := i) (by omega)
      have ex : x = .ref a := by
        rw [List.getElem?_map, h1] at hx
        exact (Option.some.inj hx).symm
      subst ex
      have eb : bestN ps day (i + 1) = bestStep ps day (bestN ps day i) i := rfl
      have gp : ps.getD i (0, 0) = p := getD_of h2
      have ga : as.getD i 0 = a := getD_of h1
      walk_at "go"
      refine r_ixT h3 at0 ?_
      walk_at "go"
      refine g_ite (fun c => ?_) (fun c => ?_)
      · walk_at "go"
        refine ⟨rfl, some (.ref a), ?_⟩
        have e2 : bestN ps day (i + 1) = bestN ps day i := by
          rw [eb]
          unfold bestStep
          rw [gp]
          cases e : bestN ps day i with
          | none => exact if_neg (by omega)
          | some j => exact if_neg (by omega)
        rw [e2]
        rfl
      · walk_at "gos"
        cases e : bestN ps day i with
        | none =>
          have e2 : bestN ps day (i + 1) = some i := by
            rw [eb, e]
            unfold bestStep
            dsimp only
            rw [gp]
            exact if_pos (by omega)
          refine g_ifB true (fun Q' q => ?_) (fun _ => ?_) (fun z => by cases z)
          · walk_at "go"
            refine g_ite (fun _ => ?_) (fun z => absurd rfl z)
            exact q
          · walk_at "go"
            refine ⟨rfl, some (.ref a), ?_⟩
            rw [e2]
            show _ = [_, _, some (V.ref (as.getD i 0)), _]
            rw [ga]
            rfl
        | some j =>
          have hj := bestN_lt e
          obtain ⟨b, pb, j1, j2, j3⟩ := hR.get (i := j) (by omega)
          have gpb : ps.getD j (0, 0) = pb := getD_of j2
          have gab : as.getD j 0 = b := getD_of j1
          have ev : pairV as (some j) = .ref b := by
            show V.ref (as.getD j 0) = _
            rw [gab]
          rw [ev]
          refine g_ifB (decide (pb.1 ≤ p.1)) (fun Q' q => ?_) (fun c2 => ?_) (fun c2 => ?_)
          · walk_at "go"
            refine g_ite (fun z => by cases z) (fun _ => ?_)
            walk_at "go"
            refine r_ixT h3 at0 ?_
            walk_at "go"
            refine r_ixT j3 at0 ?_
            walk_at "go"
            exact q
          · walk_at "go"
            have c3 : pb.1 ≤ p.1 := of_decide_eq_true c2
            refine ⟨rfl, some (.ref a), ?_⟩
            have e2 : bestN ps day (i + 1) = some i := by
              rw [eb, e]
              unfold bestStep
              dsimp only
              rw [gp, gpb]
              exact if_pos ⟨by omega, c3⟩
            rw [e2]
            show _ = [_, _, some (V.ref (as.getD i 0)), _]
            rw [ga]
            rfl
          · walk_at "go"
            have c3 : ¬ pb.1 ≤ p.1 := of_decide_eq_false c2
            refine ⟨rfl, some (.ref a), ?_⟩
            have e2 : bestN ps day (i + 1) = some j := by
              rw [eb, e]
              unfold bestStep
              dsimp only
              rw [gp, gpb]
              exact if_neg fun z => c3 z.2
            rw [e2, ev]
            rfl
    · rintro σ' H' ⟨rfl, v, rfl⟩
      walk_at "go"
      rw [List.length_map, hlen]
      exact k
theorem ok_held (T : Txt K mg) : FnOk P w K mg base (L2.CX P w) 2 T.f_held T.fd_held ["terms", "day"] (sp_held K) := by
  refine T.F_held.okX sc_held (fun vs H Q E h => ?_) (fun cdv A outer s H vs Q E hr h => ?_)
  · first | (obtain ⟨_, rfl, _⟩ := h; rfl) | (obtain ⟨_, _, rfl, _⟩ := h; rfl) | (obtain ⟨_, _, _, rfl, _⟩ := h; rfl) | (obtain ⟨_, _, _, _, rfl, _⟩ := h; rfl) | (obtain ⟨_, _, _, _, _, rfl, _⟩ := h; rfl) | (obtain ⟨_, _, _, _, _, _, rfl, _⟩ := h; rfl) | (obtain ⟨_, _, _, _, _, _, _, rfl, _⟩ := h; rfl)
  · refine ⟨_, (pss_cons (ps_set (i := 2) sc_held.nd rfl (Or.inl rfl) (pe_callS (ok_pair_held T) hr (by rfl) T.g_pair_held T.F_pair_held.kp T.b_pair_held (fun σ => passAt (takes_of rfl rfl rfl rfl) σ) (by exact (pa_cons (pv 0) (pa_cons (pv 1) pa_nil)))))
  (pss_cons (ps_if (pt_cmpR op_isA (pv 2) pe_non (nomark _))
  (pss_one (ps_ret pe_non))
  pss_nil)
  (pss_one (ps_ret (pe_ix (show IxR _ (rIx2 K) from ix_lt) (pv 2) pe_int (fun _ _ => rfl)))))), ?_⟩
    obtain ⟨l, day, as, ps, rfl, hR, k⟩ := h
    walk_at "go"
    refine ⟨l, day, as, ps, rfl, hR, ?_⟩
    unfold heldV at k
    cases e : best ps day with
    | none =>
      rw [e] at k
      walk_at "go"
      refine g_ite (fun _ => ?_) (fun z => absurd rfl z)
      walk_at "go"
      exact k
    | some j =>
      rw [e] at k
      obtain ⟨b, pb, j1, j2, j3⟩ := hR.get (best_lt e)
      have gpb : ps.getD j (0, 0) = pb := getD_of j2
      have gab : as.getD j 0 = b := getD_of j1
      have ev : pairV as (some j) = .ref b := by
        show V.ref (as.getD j 0) = _
        rw [gab]
      rw [ev]
      walk_at "go"
      refine g_ite (fun z => by cases z) (fun _ => ?_)
      walk_at "go"
      refine r_ixT j3 at1 ?_
      rw [← gpb]
      exact k
theorem ok_l_cell_at (T : Txt K mg) : FnOk P w K mg base (L2.CX P w) 1 T.f_l_cell_at T.fd_l_cell_at ["_law_script", "_law_k"] (sp_l_cell_at K) := by
  refine T.F_l_cell_at.okX sc_l_cell_at (fun vs H Q E h => ?_) (fun cdv A outer s H vs Q E hr h => ?_)
  · first | (obtain ⟨_, rfl, _⟩ := h; rfl) | (obtain ⟨_, _, rfl, _⟩ := h; rfl) | (obtain ⟨_, _, _, rfl, _⟩ := h; rfl) | (obtain ⟨_, _, _, _, rfl, _⟩ := h; rfl) | (obtain ⟨_, _, _, _, _, rfl, _⟩ := h; rfl) | (obtain ⟨_, _, _, _, _, _, rfl, _⟩ := h; rfl) | (obtain ⟨_, _, _, _, _, _, _, rfl, _⟩ := h; rfl)
  · refine ⟨_, (pss_cons (ps_if (pt_cmpR op_lt (pv 1) (pe_callB (show CallR _ (.builtin "len") (rLen K) from call_lenA) (by rfl) T.n_len (by decide +kernel) (pa_cons (pv 0) pa_nil)) (nomark _))
  (pss_one (ps_ret (pe_ix (show IxR _ (rIx2 K) from ix_lt) (pv 0) (pv 1) (fun _ _ => rfl))))
  pss_nil)
  (pss_one (ps_ret pe_int))), ?_⟩
    obtain ⟨a, ns, k, rfl, hS, hk, q⟩ := h
    obtain ⟨j, rfl⟩ : ∃ j : Nat, k = (j : Int) := ⟨k.toNat, by omega⟩
    walk_at "go"
    refine ⟨a, _, rfl, .inl hS, ?_⟩
    walk_at "go"
    rw [List.length_map]
    refine g_ite (fun c => ?_) (fun c => ?_)
    · walk_at "go"
      have hj : j < ns.length := by omega
      have e : cell ns (j : Int) = ns[j] := by simp [cell, hj]
      rw [e] at q
      exact r_ixL hS (atI_nat (by rw [List.getElem?_map, List.getElem?_eq_getElem hj]; rfl)) q
    · walk_at "go"
      have e : cell ns (j : Int) = 0 := by
        have hj : ns.length ≤ j := by omega
        simp [cell, List.getD, List.getElem?_eq_none hj]
      rw [e] at q
      exact q
theorem ok_l_whole (T : Txt K mg) : FnOk P w K mg base (L2.CX P w) 1 T.f_l_whole T.fd_l_whole ["_law_found"] (sp_l_whole) := by
  refine T.F_l_whole.okX sc_l_whole (fun vs H Q E h => ?_) (fun cdv A outer s H vs Q E hr h => ?_)
  · first | (obtain ⟨_, rfl, _⟩ := h; rfl) | (obtain ⟨_, _, rfl, _⟩ := h; rfl) | (obtain ⟨_, _, _, rfl, _⟩ := h; rfl) | (obtain ⟨_, _, _, _, rfl, _⟩ := h; rfl) | (obtain ⟨_, _, _, _, _, rfl, _⟩ := h; rfl) | (obtain ⟨_, _, _, _, _, _, rfl, _⟩ := h; rfl) | (obtain ⟨_, _, _, _, _, _, _, rfl, _⟩ := h; rfl)
  · refine ⟨_, (pss_one (ps_ret (pe_and (pe_callB (show CallR _ (.builtin "isinstance") (rIsi K) from call_isi) (by rfl) T.n_isinstance (by decide +kernel) (pa_cons (pv 0) (pa_cons (pe_bltn (v := .ty "int") (by rfl) T.n_int (by decide +kernel) rfl) pa_nil))) (pe_one (pe_not (pe_callB (show CallR _ (.builtin "isinstance") (rIsi K) from call_isi) (by rfl) T.n_isinstance (by decide +kernel) (pa_cons (pv 0) (pa_cons (pe_bltn (v := .ty "bool") (by rfl) T.n_bool (by decide +kernel) rfl) pa_nil)))))))), ?_⟩
    obtain ⟨x, rfl, hx, k⟩ := h
    obtain ⟨n, ht, h1, h2⟩ := thing_ty (K := K) hx
    walk_at "go"
    refine ⟨x, .ty "int", _, _, _, rfl, .ty _, ht, kit_ty h1, ?_⟩
    walk_at "go"
    refine g_iteB (fun c => ?_) (fun c => ?_)
    · walk_at "go"
      refine ⟨x, .ty "bool", _, _, _, rfl, .ty _, ht, kit_ty h2, ?_⟩
      refine ⟨_, rfl, ?_⟩
      cases e : isB x with
      | true => rw [isI_not e] at k; exact k
      | false => rw [e, Bool.or_false] at c; rw [c] at k; exact k
    · rw [(Bool.or_eq_false_iff.mp c).1] at k
      exact k
theorem ok_l_mix (T : Txt K mg) : FnOk P w K mg base (L2.CX P w) 1 T.f_l_mix T.fd_l_mix ["_law_number", "_law_k"] (sp_l_mix) := by
  refine T.F_l_mix.okX sc_l_mix (fun vs H Q E h => ?_) (fun cdv A outer s H vs Q E hr h => ?_)
  · first | (obtain ⟨_, rfl, _⟩ := h; rfl) | (obtain ⟨_, _, rfl, _⟩ := h; rfl) | (obtain ⟨_, _, _, rfl, _⟩ := h; rfl) | (obtain ⟨_, _, _, _, rfl, _⟩ := h; rfl) | (obtain ⟨_, _, _, _, _, rfl, _⟩ := h; rfl) | (obtain ⟨_, _, _, _, _, _, rfl, _⟩ := h; rfl) | (obtain ⟨_, _, _, _, _, _, _, rfl, _⟩ := h; rfl)
  · refine ⟨_, (pss_cons (ps_set (i := 2) sc_l_mix.nd rfl (Or.inl rfl) (pe_op op_mod (pe_op op_plus (pe_op op_plus (pe_op op_mul (pv 0) pe_int) (pe_op op_mul (pv 1) pe_int)) pe_int) pe_int))
  (pss_one (ps_ret (pe_op op_mod (pe_op op_plus (pe_op op_plus (pe_op op_mul (pv 2) (pv 2)) (pe_op op_mul pe_int (pv 2))) (pv 1)) pe_int)))), ?_⟩
    obtain ⟨n, m, rfl, k⟩ := h
    walk_at "go"
    exact k _ (by omega) (by omega)
theorem ok_l_day (T : Txt K mg) : FnOk P w K mg base (L2.CX P w) 1 T.f_l_day T.fd_l_day ["_law_cell"] (sp_l_day) := by
  refine T.F_l_day.okX sc_l_day (fun vs H Q E h => ?_) (fun cdv A outer s H vs Q E hr h => ?_)
  · first | (obtain ⟨_, rfl, _⟩ := h; rfl) | (obtain ⟨_, _, rfl, _⟩ := h; rfl) | (obtain ⟨_, _, _, rfl, _⟩ := h; rfl) | (obtain ⟨_, _, _, _, rfl, _⟩ := h; rfl) | (obtain ⟨_, _, _, _, _, rfl, _⟩ := h; rfl) | (obtain ⟨_, _, _, _, _, _, rfl, _⟩ := h; rfl) | (obtain ⟨_, _, _, _, _, _, _, rfl, _⟩ := h; rfl)
  · refine ⟨_, (pss_cons (ps_set (i := 1) sc_l_day.nd rfl (Or.inl rfl) (pe_lst (pa_cons pe_int (pa_cons pe_int (pa_cons pe_int (pa_cons pe_int (pa_cons pe_int (pa_cons pe_int (pa_cons pe_int (pa_cons pe_int (pa_cons pe_int (pa_cons pe_int (pa_cons pe_int (pa_cons pe_int (pa_cons pe_int (pa_cons pe_int (pa_cons pe_int (pa_cons pe_int pa_nil))))))))))))))))))
  (pss_cons (ps_if (pt_cmpR (show OpR _ (compareOp .Eq) (rEqA K) from op_eqA hr.units) (pe_op op_mod (pv 0) pe_int) pe_int (nomark _))
  (pss_one (ps_ret (pe_ix (show IxR _ (rIx2 K) from ix_lt) (pv 1) (pe_op op_mod (pe_op op_fdiv (pv 0) pe_int) pe_int) (fun _ _ => rfl))))
  pss_nil)
  (pss_one (ps_ret (pe_op op_mod (pe_op op_fdiv (pv 0) pe_int) pe_int))))), ?_⟩
    obtain ⟨c, rfl, k⟩ := h
    walk_at "go"
    refine ⟨by walk_at "sz", fun p hp => ?_⟩
    walk_at "go"
    refine g_ite (fun c1 => ?_) (fun c1 => ?_)
    · walk_at "go"
      refine r_ixL (SqL.of upd_same) (at_modI (ns := [0, 31, 58, 59, 60, 365, 366, 36524, 36583, 36584, 73048, 73049, 99711, 99712, 99998, 99999]) _ rfl (by decide)) ?_
      have b := getD_all (R := fun d => 0 ≤ d ∧ d ≤ 99999) (l := [0, 31, 58, 59, 60, 365, 366, 36524, 36583, 36584, 73048, 73049, 99711, 99712, 99998, 99999]) (c / 3 % 16).toNat (by decide) (by decide)
      exact k _ b.1 b.2 _ (by walk_at "sm")
    · walk_at "go"
      exact k _ (by omega) (by omega) _ (by walk_at "sm")
theorem ok_l_row (T : Txt K mg) : FnOk P w K mg base (L2.CX P w) 2 T.f_l_row T.fd_l_row ["_law_script"] (sp_l_row K) := by
  refine T.F_l_row.okX sc_l_row (fun vs H Q E h => ?_) (fun cdv A outer s H vs Q E hr h => ?_)
  · first | (obtain ⟨_, rfl, _⟩ := h; rfl) | (obtain ⟨_, _, rfl, _⟩ := h; rfl) | (obtain ⟨_, _, _, rfl, _⟩ := h; rfl) | (obtain ⟨_, _, _, _, rfl, _⟩ := h; rfl) | (obtain ⟨_, _, _, _, _, rfl, _⟩ := h; rfl) | (obtain ⟨_, _, _, _, _, _, rfl, _⟩ := h; rfl) | (obtain ⟨_, _, _, _, _, _, _, rfl, _⟩ := h; rfl)
  · refine ⟨_, (pss_cons (ps_set (i := 1) sc_l_row.nd rfl (Or.inl rfl) (pe_op op_mod (pe_callS (ok_l_cell_at T) hr (by rfl) T.g_l_cell_at T.F_l_cell_at.kp T.b_l_cell_at (fun σ => passAt (takes_of rfl rfl rfl rfl) σ) (by exact (pa_cons (pv 0) (pa_cons pe_int pa_nil)))) pe_int))
  (Evl.pss_cut (ps_if (pt_cmpR (show OpR _ (compareOp .Eq) (rEqA K) from op_eqA hr.units) (pe_op op_mod (pe_op op_fdiv (pe_callS (ok_l_cell_at T) hr (by rfl) T.g_l_cell_at T.F_l_cell_at.kp T.b_l_cell_at (fun σ => passAt (takes_of rfl rfl rfl rfl) σ) (by exact (pa_cons (pv 0) (pa_cons pe_int pa_nil)))) pe_int) pe_int) pe_int (nomark _))
  (pss_one (ps_set (i := 1) sc_l_row.nd rfl (Or.inl rfl) (pe_op op_plus (pe_op op_mul (pv 1) pe_int) pe_int)))
  pss_nil)
  (pss_cons (ps_set (i := 2) sc_l_row.nd rfl (Or.inl rfl) (pe_callS (ok_l_day T) hr (by rfl) T.g_l_day T.F_l_day.kp T.b_l_day (fun σ => passAt (takes_of rfl rfl rfl rfl) σ) (by exact (pa_cons (pe_callS (ok_l_cell_at T) hr (by rfl) T.g_l_cell_at T.F_l_cell_at.kp T.b_l_cell_at (fun σ => passAt (takes_of rfl rfl rfl rfl) σ) (by exact (pa_cons (pv 0) (pa_cons pe_int pa_nil)))) pa_nil))))
  (pss_cons (ps_set (i := 3) sc_l_row.nd rfl (Or.inl rfl) (pe_lst pa_nil))
  (pss_cons (ps_for (passes_of rfl) rfl (pi_range1 (by rfl) T.n_range (pa_cons (pv 1) pa_nil)) (pg_name (i := 4) sc_l_row.nd rfl (Or.inl rfl))
  (pss_cons (ps_set (i := 5) sc_l_row.nd rfl (Or.inl rfl) (pe_callS (ok_l_mix T) hr (by rfl) T.g_l_mix T.F_l_mix.kp T.b_l_mix (fun σ => passAt (takes_of rfl rfl rfl rfl) σ) (by exact (pa_cons (pe_callS (ok_l_cell_at T) hr (by rfl) T.g_l_cell_at T.F_l_cell_at.kp T.b_l_cell_at (fun σ => passAt (takes_of rfl rfl rfl rfl) σ) (by exact (pa_cons (pv 0) (pa_cons pe_int pa_nil)))) (pa_cons (pv 4) pa_nil)))))
  (pss_cons (ps_set (i := 6) sc_l_row.nd rfl (Or.inl rfl) (pe_callB (call_max2 rfl) (by rfl) T.n_max (by decide +kernel) (pa_cons pe_int (pa_cons (pe_op op_plus (pe_op op_sub (pv 2) pe_int) (pe_op op_mod (pv 5) pe_int)) pa_nil))))
  (Evl.pss_cut (ps_if (pt_cmpR (show OpR _ (compareOp .Eq) (rEqA K) from op_eqA hr.units) (pe_op op_mod (pe_op op_fdiv (pv 5) pe_int) pe_int) pe_int (nomark _))
  (pss_one (ps_set (i := 6) sc_l_row.nd rfl (Or.inl rfl) (pe_op op_mod (pe_op op_mul (pe_op op_fdiv (pv 5) pe_int) pe_int) pe_int)))
  pss_nil)
  (pss_one (ps_expr (pe_bm PySem.F.plainAttrs_list PySem.F.slot_list_append PySem.F.type_list_append mt_append (pv 3) (pa_cons (pe_tup (pa_cons (pe_callB (call_min2 rfl) (by rfl) T.n_min (by decide +kernel) (pa_cons pe_int (pa_cons (pv 6) pa_nil))) (pa_cons (pe_op op_mod (pe_op op_mul (pe_callS (ok_l_mix T) hr (by rfl) T.g_l_mix T.F_l_mix.kp T.b_l_mix (fun σ => passAt (takes_of rfl rfl rfl rfl) σ) (by exact (pa_cons (pv 5) (pa_cons pe_int pa_nil)))) pe_int) (pe_op op_plus (pe_op op_pow pe_int pe_int) pe_int)) pa_nil))) pa_nil))))))))
  (pss_one (ps_ret (pv 3)))))))), ?_⟩
    obtain ⟨a, ns, rfl, hS, k⟩ := h
    walk_at "go"
    refine ⟨a, ns, _, rfl, hS, by decide, ?_⟩
    walk_at "go"
    have hc : 0 ≤ cell ns 0 % 10 ∧ cell ns 0 % 10 < 10 := by omega
    refine g_tcut (fun σ' H' => ∃ m, σ' = [some (.ref a), some (.int m), none, none, none, none, none] ∧ H = H' ∧ 0 ≤ m ∧ m ≤ 60) ?_ ?_
    · walk_at "go"
      refine ⟨a, ns, _, rfl, hS, by decide, ?_⟩
      walk_at "go"
      refine g_ite (fun c => ?_) (fun c => ?_)
      · walk_at "go"
        exact ⟨_, rfl, rfl, by omega, by omega⟩
      · walk_at "go"
        exact ⟨_, rfl, rfl, by omega, by omega⟩
    · rintro σ' H' ⟨m, rfl, rfl, hm0, hm1⟩
      walk_at "go"
      refine ⟨a, ns, _, rfl, hS, by decide, ?_⟩
      walk_at "go"
      refine ⟨_, rfl, fun d hd0 hd1 H1 s1 => ?_⟩
      walk_at "go"
      refine ⟨by walk_at "sz", fun l hl => ?_⟩
      walk_at "go"
      refine g_forR1 (hi := m) (fun i σ' H' => ∃ v1 v2 v3 as ps, σ' = [some (.ref a), some (.int m), some (.int d), some (.ref l), v1, v2, v3] ∧ Same H1 H' ∧ H' l = some (.lst (as.map .ref)) ∧ Prs K H' as ps ∧ ps.length = i) (fun Q' q => by walk_at "go"; exact q) (by omega)
        ⟨_, _, _, [], [], rfl, same_new hl, upd_same, .nil, rfl⟩ ?_ ?_
      · rintro i σ' H' hi ⟨v1, v2, v3, as, ps, rfl, sm, hl', hP, hn⟩
        walk_at "go"
        refine ⟨a, ns, _, rfl, (s1.trans sm).seq hS, by decide, ?_⟩
        walk_at "go"
        refine ⟨_, _, rfl, fun z hz0 hz1 => ?_⟩
        walk_at "go"
        refine ⟨_, _, rfl, ?_⟩
        walk_at "go"
        refine g_tcut (fun σ2 H2 => ∃ f, σ2 = [some (.ref a), some (.int m), some (.int d), some (.ref l), some (.int (0 + i)), some (.int z), some (.int f)] ∧ H' = H2) ?_ ?_
        · walk_at "go"
          refine g_ite (fun c => ?_) (fun c => ?_)
          · walk_at "go"
            exact ⟨_, rfl, rfl⟩
          · walk_at "go"
            exact ⟨_, rfl, rfl⟩
        · rintro σ2 H2 ⟨f, rfl, rfl⟩
          walk_at "go"
          refine ⟨.inl ⟨rfl, _, SqL.of hl'⟩, ?_⟩
          walk_at "go"
          refine ⟨_, _, rfl, ?_⟩
          walk_at "go"
          refine ⟨_, _, rfl, fun z2 _ _ => ?_⟩
          walk_at "go"
          refine ⟨by walk_at "sz", fun p hp => ?_⟩
          walk_at "go"
          have hlen := hP.len
          refine ⟨l, _, _, rfl, rfl, (same_new hp) _ _ hl', ?_, ?_⟩
          · rw [List.length_map]
            exact Nat.lt_of_lt_of_le (show as.length < 100 by omega) (by decide)
          · walk_at "go"
            have npl : p ≠ l := fun e => by rw [e, hl'] at hp; cases hp
            refine' ⟨_, _, _, as ++ [p], ps ++ [(?x, ?y)], rfl, same_mut (sm.trans (same_new hp)) hl, ?g1, ?g2, ?g3⟩
            case g2 => exact Prs.append (Prs.one (SqT.of ((upd_ne npl).trans upd_same))) ((hP.same (same_new hp)).mut ((same_new hp) _ _ hl'))
            case g1 =>
              rw [upd_same, List.map_append]
              rfl
            case g3 =>
              rw [List.length_append, hn]
              rfl
      · rintro σ' H' ⟨v1, v2, v3, as, ps, rfl, sm, hl', hP, hn⟩
        walk_at "go"
        exact k l as ps H' (s1.trans sm) (s1.free hl) hl' hP (by omega)
theorem ok_law (T : Txt K mg) : FnOk P w K mg base (L2.CX P w) 3 T.f_law T.fd_law ["_law_script"] (sp_law K) := by
  refine T.F_law.okX sc_law (fun vs H Q E h => ?_) (fun cdv A outer s H vs Q E hr h => ?_)
  · first | (obtain ⟨_, rfl, _⟩ := h; rfl) | (obtain ⟨_, _, rfl, _⟩ := h; rfl) | (obtain ⟨_, _, _, rfl, _⟩ := h; rfl) | (obtain ⟨_, _, _, _, rfl, _⟩ := h; rfl) | (obtain ⟨_, _, _, _, _, rfl, _⟩ := h; rfl) | (obtain ⟨_, _, _, _, _, _, rfl, _⟩ := h; rfl) | (obtain ⟨_, _, _, _, _, _, _, rfl, _⟩ := h; rfl)
  · refine ⟨_, (pss_cons (ps_set (i := 1) sc_law.nd rfl (Or.inl rfl) (pe_callS (ok_l_row T) hr (by rfl) T.g_l_row T.F_l_row.kp T.b_l_row (fun σ => passAt (takes_of rfl rfl rfl rfl) σ) (by exact (pa_cons (pv 0) pa_nil))))
  (pss_cons (ps_set (i := 2) sc_law.nd rfl (Or.inl rfl) (pe_callB (call_min2 rfl) (by rfl) T.n_min (by decide +kernel) (pa_cons pe_int (pa_cons (pe_callB (call_max2 rfl) (by rfl) T.n_max (by decide +kernel) (pa_cons pe_int (pa_cons (pe_op op_plus (pe_op op_sub (pe_callS (ok_l_day T) (hr.mono (by decide)) (by rfl) T.g_l_day T.F_l_day.kp T.b_l_day (fun σ => passAt (takes_of rfl rfl rfl rfl) σ) (by exact (pa_cons (pe_callS (ok_l_cell_at T) (hr.mono (by decide)) (by rfl) T.g_l_cell_at T.F_l_cell_at.kp T.b_l_cell_at (fun σ => passAt (takes_of rfl rfl rfl rfl) σ) (by exact (pa_cons (pv 0) (pa_cons pe_int pa_nil)))) pa_nil))) pe_int) (pe_op op_mod (pe_callS (ok_l_cell_at T) (hr.mono (by decide)) (by rfl) T.g_l_cell_at T.F_l_cell_at.kp T.b_l_cell_at (fun σ => passAt (takes_of rfl rfl rfl rfl) σ) (by exact (pa_cons (pv 0) (pa_cons pe_int pa_nil)))) pe_int)) pa_nil))) pa_nil))))
  (Evl.pss_cut (ps_if (pt_cmpR (show OpR _ (compareOp .Eq) (rEqA K) from op_eqA hr.units) (pe_op op_mod (pe_op op_fdiv (pe_callS (ok_l_cell_at T) (hr.mono (by decide)) (by rfl) T.g_l_cell_at T.F_l_cell_at.kp T.b_l_cell_at (fun σ => passAt (takes_of rfl rfl rfl rfl) σ) (by exact (pa_cons (pv 0) (pa_cons pe_int pa_nil)))) pe_int) pe_int) pe_int (nomark _))
  (pss_one (ps_set (i := 2) sc_law.nd rfl (Or.inl rfl) (pe_callS (ok_l_day T) (hr.mono (by decide)) (by rfl) T.g_l_day T.F_l_day.kp T.b_l_day (fun σ => passAt (takes_of rfl rfl rfl rfl) σ) (by exact (pa_cons (pe_callS (ok_l_cell_at T) (hr.mono (by decide)) (by rfl) T.g_l_cell_at T.F_l_cell_at.kp T.b_l_cell_at (fun σ => passAt (takes_of rfl rfl rfl rfl) σ) (by exact (pa_cons (pv 0) (pa_cons pe_int pa_nil)))) pa_nil)))))
  pss_nil)
  (pss_cons (ps_set (i := 3) sc_law.nd rfl (Or.inl rfl) (pe_un un_neg pe_int))
  (pss_cons (ps_for (passes_of rfl) rfl (pi_range1 (by rfl) T.n_range (pa_cons (pe_callB (show CallR _ (.builtin "len") (rLen K) from call_lenA) (by rfl) T.n_len (by decide +kernel) (pa_cons (pv 1) pa_nil)) pa_nil)) (pg_name (i := 4) sc_law.nd rfl (Or.inl rfl))
  (pss_one (ps_if (PW.pt (pw_and (pt_cmpR op_le (pe_ix (show IxR _ (rIx2 K) from ix_lt) (pe_ix (show IxR _ (rIx2 K) from ix_lt) (pv 1) (pv 4) (fun _ _ => rfl)) pe_int (fun _ _ => rfl)) (pv 2) (nomark _)) (pw_and1 (PW.pt (pw_or (pt_cmpR op_lt (pv 3) pe_int (nomark _)) (pw_or1 (pt_cmpR op_ge (pe_ix (show IxR _ (rIx2 K) from ix_lt) (pe_ix (show IxR _ (rIx2 K) from ix_lt) (pv 1) (pv 4) (fun _ _ => rfl)) pe_int (fun _ _ => rfl)) (pe_ix (show IxR _ (rIx2 K) from ix_lt) (pe_ix (show IxR _ (rIx2 K) from ix_lt) (pv 1) (pv 3) (fun _ _ => rfl)) pe_int (fun _ _ => rfl)) (nomark _))))))))
  (pss_one (ps_set (i := 3) sc_law.nd rfl (Or.inl rfl) (pv 4)))
  pss_nil)))
  (pss_cons (ps_set (i := 5) sc_law.nd rfl (Or.inl rfl) (pe_callTy (show CallR _ (.type "list") (rListOf K) from call_listA) (by rfl) T.n_list (by decide +kernel) (pa_cons (pv 1) pa_nil)))
  (pss_cons (ps_set (i := 6) sc_law.nd rfl (Or.inl rfl) (pe_callS (ok_pair_held T) (hr.mono (by decide)) (by rfl) T.g_pair_held T.F_pair_held.kp T.b_pair_held (fun σ => passAt (takes_of rfl rfl rfl rfl) σ) (by exact (pa_cons (pv 5) (pa_cons (pv 2) pa_nil)))))
  (pss_cons (ps_set (i := 7) sc_law.nd rfl (Or.inl rfl) (pe_callS (ok_held T) hr (by rfl) T.g_held T.F_held.kp T.b_held (fun σ => passAt (takes_of rfl rfl rfl rfl) σ) (by exact (pa_cons (pv 5) (pa_cons (pv 2) pa_nil)))))
  (pss_cons (ps_expr (pe_callS (ok_held T) hr (by rfl) T.g_held T.F_held.kp T.b_held (fun σ => passAt (takes_of rfl rfl rfl rfl) σ) (by exact (pa_cons (pe_slice (show SlR _ (rSlL K) from sl_list) (pv 1) (po_some pe_int) po_none) (pa_cons (pv 2) pa_nil)))))
  (pss_cons (ps_if (PW.pt (pw_or (pt_cmpR (show OpR _ (compareOp .NotEq) (rNeA K) from op_neA hr.units) (pv 5) (pv 1) (nomark _)) (pw_or1 (pt_cmpR (show OpR _ (compareOp .NotEq) (rNeA K) from op_neA hr.units) (pe_callS (ok_pair_held T) (hr.mono (by decide)) (by rfl) T.g_pair_held T.F_pair_held.kp T.b_pair_held (fun σ => passAt (takes_of rfl rfl rfl rfl) σ) (by exact (pa_cons (pv 5) (pa_cons (pv 2) pa_nil)))) (pv 6) (nomark _)))))
  (pss_one (ps_ret pe_bl))
  pss_nil)
  (pss_cons (ps_if (pt_cmpR op_lt (pv 3) pe_int (nomark _))
  (pss_one (ps_ret (pe_and (pe_cmpR op_isA (pv 6) pe_non (nomark _)) (pe_one (pe_cmpR op_isA (pv 7) pe_non (nomark _))))))
  pss_nil)
  (pss_one (ps_ret (pe_and (pe_callB (show CallR _ (.builtin "isinstance") (rIsi K) from call_isi) (by rfl) T.n_isinstance (by decide +kernel) (pa_cons (pv 6) (pa_cons (pe_bltn (v := .ty "tuple") (by rfl) T.n_tuple (by decide +kernel) rfl) pa_nil))) (pe_and (pe_cmpR (show OpR _ (compareOp .Eq) (rEqA K) from op_eqA hr.units) (pv 6) (pe_ix (show IxR _ (rIx2 K) from ix_lt) (pv 1) (pv 3) (fun _ _ => rfl)) (nomark _)) (pe_and (pe_callS (ok_l_whole T) (hr.mono (by decide)) (by rfl) T.g_l_whole T.F_l_whole.kp T.b_l_whole (fun σ => passAt (takes_of rfl rfl rfl rfl) σ) (by exact (pa_cons (pv 7) pa_nil))) (pe_one (pe_cmpR (show OpR _ (compareOp .Eq) (rEqA K) from op_eqA hr.units) (pv 7) (pe_ix (show IxR _ (rIx2 K) from ix_lt) (pe_ix (show IxR _ (rIx2 K) from ix_lt) (pv 1) (pv 3) (fun _ _ => rfl)) pe_int (fun _ _ => rfl)) (nomark _))))))))))))))))))), ?_⟩
    obtain ⟨a, ns, rfl, hS, hlen, k⟩ := h
    walk_at "go"
    refine ⟨a, ns, rfl, hS, fun l as ps H1 s1 hl0 hl hP hps => ?_⟩
    walk_at "go"
    refine ⟨a, ns, _, rfl, s1.seq hS, by decide, ?_⟩
    walk_at "go"
    refine ⟨_, rfl, fun d _ _ H2 s2 => ?_⟩
    walk_at "go"
    refine ⟨a, ns, _, rfl, s2.seq (s1.seq hS), by decide, ?_⟩
    walk_at "go"
    refine ⟨_, _, rfl, ?_⟩
    walk_at "go"
    refine ⟨_, _, rfl, ?_⟩
    walk_at "go"
    refine g_tcut (fun σ' H' => ∃ day, σ' = [some (.ref a), some (.ref l), some (.int day), none, none, none, none, none] ∧ Same H1 H') ?_ ?_
    · walk_at "go"
      refine ⟨a, ns, _, rfl, s2.seq (s1.seq hS), by decide, ?_⟩
      walk_at "go"
      refine g_ite (fun c => ?_) (fun c => ?_)
      · walk_at "go"
        refine ⟨a, ns, _, rfl, s2.seq (s1.seq hS), by decide, ?_⟩
        walk_at "go"
        refine ⟨_, rfl, fun d2 _ _ H3 s3 => ?_⟩
        exact ⟨_, rfl, s2.trans s3⟩
      · walk_at "go"
        exact ⟨_, rfl, s2⟩
    rintro σ' H3 ⟨day, rfl, s3⟩
    have hR : RowAt K H3 l as ps := ⟨SqL.of (s3 _ _ hl), hP.same s3⟩
    have hlen2 := hP.len
    walk_at "go"
    refine g_forR1 (hi := ((as.map V.ref).length : Int)) (fun i σ' H' => H3 = H' ∧ ∃ v, σ' = [some (.ref a), some (.ref l), some (.int day), some (.int (bi (bestN ps day i))), v, none, none, none]) (fun Q' q => ?_) (by rw [List.length_map]; omega) ⟨rfl, none, rfl⟩ ?_ ?_
    · walk_at "go"
      refine ⟨l, _, rfl, .inl hR.1, ?_⟩
      walk_at "go"
      exact q
    · rintro i σ' H' hi ⟨rfl, v, rfl⟩
      rw [List.length_map] at hi
      obtain ⟨a1, p, h1, h2, h3⟩ := hR.get (i := i) (by omega)
      have gp : ps.getD i (0, 0) = p := getD_of h2
      have eb : bestN ps day (i + 1) = bestStep ps day (bestN ps day i) i := rfl
      have hat : atI (as.map V.ref) (0 + (i : Int)) = some (.ref a1) := by
        rw [Int.zero_add]
        exact atI_nat (by rw [List.getElem?_map, h1]; rfl)
      walk_at "gos"
      cases e : bestN ps day i with
      | none =>
        refine g_ifB (decide (p.1 ≤ day)) (fun Q' q => ?_) (fun c => ?_) (fun c => ?_)
        · walk_at "go"
          refine r_ixL hR.1 hat ?_
          walk_at "go"
          refine r_ixT h3 at0 ?_
          walk_at "go"
          refine g_ite (fun c2 => ?_) (fun c2 => ?_)
          · walk_at "go"
            refine g_ite (fun _ => ?_) (fun z => absurd (show (-1 : Int) < 0 by omega) z)
            rw [decide_eq_true c2] at q
            exact q
          · rw [decide_eq_false c2] at q
            exact q
        · walk_at "go"
          refine ⟨rfl, some (V.int (0 + i)), ?_⟩
          rw [eb, e]
          have c2 : p.1 ≤ day := of_decide_eq_true c
          have e2 : bestStep ps day none i = some i := by
            unfold bestStep
            dsimp only
            rw [gp]
            exact if_pos c2
          rw [e2]
          show _ = [_, _, _, some (V.int ((i : Nat) : Int)), _, _, _, _]
          rw [Int.zero_add]
          rfl
        · walk_at "go"
          refine ⟨rfl, some (V.int (0 + i)), ?_⟩
          rw [eb, e]
          have c2 : ¬ p.1 ≤ day := of_decide_eq_false c
          have e2 : bestStep ps day none i = none := by
            unfold bestStep
            dsimp only
            rw [gp]
            exact if_neg c2
          rw [e2]
          rfl
      | some j =>
        have hj := bestN_lt e
        obtain ⟨b, pb, j1, j2, j3⟩ := hR.get (i := j) (by omega)
        have gpb : ps.getD j (0, 0) = pb := getD_of j2
        have hatj : atI (as.map V.ref) (j : Int) = some (.ref b) := atI_nat (by rw [List.getElem?_map, j1]; rfl)
        refine g_ifB (decide (p.1 ≤ day ∧ pb.1 ≤ p.1)) (fun Q' q => ?_) (fun c => ?_) (fun c => ?_)
        · walk_at "go"
          refine r_ixL hR.1 hat ?_
          walk_at "go"
          refine r_ixT h3 at0 ?_
          walk_at "go"
          refine g_ite (fun c2 => ?_) (fun c2 => ?_)
          · walk_at "go"
            refine g_ite (fun z => absurd z (show ¬ ((j : Nat) : Int) < 0 by omega)) (fun _ => ?_)
            walk_at "go"
            refine r_ixL hR.1 hat ?_
            walk_at "go"
            refine r_ixT h3 at0 ?_
            walk_at "go"
            refine r_ixL hR.1 hatj ?_
            walk_at "go"
            refine r_ixT j3 at0 ?_
            walk_at "go"
            have e3 : decide (p.1 ≤ day ∧ pb.1 ≤ p.1) = decide (pb.1 ≤ p.1) := by simp [c2]
            rw [e3] at q
            exact q
          · have e3 : decide (p.1 ≤ day ∧ pb.1 ≤ p.1) = false := by simp [c2]
            rw [e3] at q
            exact q
        · walk_at "go"
          refine ⟨rfl, some (V.int (0 + i)), ?_⟩
          rw [eb, e]
          have e2 : bestStep ps day (some j) i = some i := by
            unfold bestStep
            dsimp only
            rw [gp, gpb]
            exact if_pos (of_decide_eq_true c)
          rw [e2]
          show _ = [_, _, _, some (V.int ((i : Nat) : Int)), _, _, _, _]
          rw [Int.zero_add]
          rfl
        · walk_at "go"
          refine ⟨rfl, some (V.int (0 + i)), ?_⟩
          rw [eb, e]
          have e2 : bestStep ps day (some j) i = some j := by
            unfold bestStep
            dsimp only
            rw [gp, gpb]
            exact if_neg (of_decide_eq_false c)
          rw [e2]
          rfl
    rintro σ' H' ⟨rfl, v, rfl⟩
    have eN : ((as.map V.ref).length : Int).toNat = ps.length := by rw [List.length_map]; omega
    rw [eN]
    rw [show bestN ps day ps.length = best ps day from rfl]
    walk_at "go"
    refine ⟨l, _, rfl, .inl hR.1, fun l2 hl2 => ?_⟩
    have s4 : Same H3 (upd H3 l2 (.lst (as.map V.ref))) := same_new hl2
    have hR2 : RowAt K (upd H3 l2 (.lst (as.map V.ref))) l2 as ps := ⟨SqL.of upd_same, hR.2.same s4⟩
    have hR1 := hR.same s4
    generalize upd H3 l2 (.lst (as.map V.ref)) = H4 at s4 hR2 hR1 ⊢
    walk_at "go"
    refine ⟨l2, day, as, ps, rfl, hR2, ?_⟩
    walk_at "go"
    refine ⟨l2, day, as, ps, rfl, hR2, ?_⟩
    walk_at "go"
    refine ⟨l, _, rfl, hR1.1, fun l3 hl3 => ?_⟩
    have e3 : cutV (as.map V.ref) (some 1) none = (as.drop 1).map V.ref := by rw [cut1, List.map_drop]
    rw [e3]
    have s5 : Same H4 (upd H4 l3 (.lst ((as.drop 1).map V.ref))) := same_new hl3
    have hR3 : RowAt K (upd H4 l3 (.lst ((as.drop 1).map V.ref))) l3 (as.drop 1) (ps.drop 1) := ⟨SqL.of upd_same, (hR2.2.same s5).drop1⟩
    have hR1' := hR1.same s5
    have hR2' := hR2.same s5
    generalize upd H4 l3 (.lst ((as.drop 1).map V.ref)) = H5 at s5 hR3 hR1' hR2' ⊢
    walk_at "go"
    refine ⟨l3, day, _, _, rfl, hR3, ?_⟩
    walk_at "gos"
    refine g_ifB false (fun Q' q => ?_) (fun z => by cases z) (fun _ => ?_)
    · walk_at "go"
      refine r_neDD hR2'.dp hR1'.dp (row_shaped ps) (row_lay ps) ?_
      walk_at "go"
      refine ⟨l2, day, as, ps, rfl, hR2', ?_⟩
      walk_at "go"
      cases e : best ps day with
      | none =>
        refine r_neS rfl ?_
        walk_at "go"
        exact q
      | some j =>
        obtain ⟨b, pb, j1, j2, j3⟩ := hR2'.get (best_lt e)
        have ev : pairV as (some j) = .ref b := by
          show V.ref (as.getD j 0) = _
          rw [getD_of j1]
        rw [ev]
        refine r_neDD (dpair_at j3) (dpair_at j3) rfl rfl ?_
        walk_at "go"
        exact q
    · walk_at "go"
      unfold heldV
      cases e : best ps day with
      | none =>
        refine g_ite (fun _ => ?_) (fun z => absurd (show (-1 : Int) < 0 by omega) z)
        walk_at "go"
        refine g_ite (fun _ => ?_) (fun z => absurd rfl z)
        walk_at "go"
        exact k _
      | some j =>
        obtain ⟨b, pb, j1, j2, j3⟩ := hR1'.get (best_lt e)
        have gpb : ps.getD j (0, 0) = pb := getD_of j2
        have hatj : atI (as.map V.ref) (j : Int) = some (.ref b) := atI_nat (by rw [List.getElem?_map, j1]; rfl)
        have ev : pairV as (some j) = .ref b := by
          show V.ref (as.getD j 0) = _
          rw [getD_of j1]
        have ev2 : optV (Option.map (fun j => (ps.getD j (0, 0)).2) (some j)) = .int pb.2 := by rw [← gpb]; rfl
        rw [ev, ev2]
        refine g_ite (fun z => absurd z (show ¬ ((j : Nat) : Int) < 0 by omega)) (fun _ => ?_)
        walk_at "go"
        refine ⟨.ref b, .ty "tuple", _, _, true, rfl, .ty _, sqT_ty j3, kit_ty (by decide +kernel), ?_⟩
        walk_at "go"
        refine r_ixL hR1'.1 hatj ?_
        walk_at "go"
        refine r_eqDD (dpair_at j3) (dpair_at j3) rfl rfl ?_
        walk_at "go"
        refine ⟨_, rfl, trivial, ?_⟩
        walk_at "go"
        refine g_T ?_
        walk_at "go"
        refine r_ixL hR1'.1 hatj ?_
        walk_at "go"
        refine r_ixT j3 at1 ?_
        walk_at "go"
        rw [decide_eq_true (rfl : pb.2 = pb.2)]
        exact k _
end
theorem all_mk {P : Program} {w : World} {K : PySem.W.Frag} {h : Heap} {mg : Str → Option Value} {fa : Addr} (X : K.In h) (G : h.Ns mainGlobals mg) (hfa : mg "law" = some (.ref fa))
    {f_pair_held : Addr} {od_pair_held an_pair_held : Option Addr} {sl_pair_held : Array (Option Value)} {oc_pair_held kV_pair_held dc_pair_held pm_pair_held cd_pair_held ct_pair_held : Value}
    {f_held : Addr} {od_held an_held : Option Addr} {sl_held : Array (Option Value)} {oc_held kV_held dc_held pm_held cd_held ct_held : Value}
    {f_l_cell_at : Addr} {od_l_cell_at an_l_cell_at : Option Addr} {sl_l_cell_at : Array (Option Value)} {oc_l_cell_at kV_l_cell_at dc_l_cell_at pm_l_cell_at cd_l_cell_at ct_l_cell_at : Value}
    {f_l_whole : Addr} {od_l_whole an_l_whole : Option Addr} {sl_l_whole : Array (Option Value)} {oc_l_whole kV_l_whole dc_l_whole pm_l_whole cd_l_whole ct_l_whole : Value}
    {f_l_mix : Addr} {od_l_mix an_l_mix : Option Addr} {sl_l_mix : Array (Option Value)} {oc_l_mix kV_l_mix dc_l_mix pm_l_mix cd_l_mix ct_l_mix : Value}
    {f_l_day : Addr} {od_l_day an_l_day : Option Addr} {sl_l_day : Array (Option Value)} {oc_l_day kV_l_day dc_l_day pm_l_day cd_l_day ct_l_day : Value}
    {f_l_row : Addr} {od_l_row an_l_row : Option Addr} {sl_l_row : Array (Option Value)} {oc_l_row kV_l_row dc_l_row pm_l_row cd_l_row ct_l_row : Value}
    {f_law : Addr} {od_law an_law : Option Addr} {sl_law : Array (Option Value)} {oc_law kV_law dc_law pm_law cd_law ct_law : Value}
    (a_pair_held : PySem.W.nsIn K mainGlobals "pair_held" = some (some (.ref f_pair_held)))
    (l_pair_held : K.lookup f_pair_held = some ⟨oc_pair_held, od_pair_held, .func (PySem.W.fnOf "pair_held" "pair_held" (defArgs s_pair_held) (defBody s_pair_held) (defScope s_pair_held) .none kV_pair_held dc_pair_held pm_pair_held an_pair_held cd_pair_held ct_pair_held), sl_pair_held⟩)
    (cc_pair_held : PySem.W.codeIn K cd_pair_held "pair_held" = true)
    (k_pair_held : PySem.W.keepIn K (.ref f_pair_held) = true)
    (a_held : PySem.W.nsIn K mainGlobals "held" = some (some (.ref f_held)))
    (l_held : K.lookup f_held = some ⟨oc_held, od_held, .func (PySem.W.fnOf "held" "held" (defArgs s_held) (defBody s_held) (defScope s_held) .none kV_held dc_held pm_held an_held cd_held ct_held), sl_held⟩)
    (cc_held : PySem.W.codeIn K cd_held "held" = true)
    (k_held : PySem.W.keepIn K (.ref f_held) = true)
    (a_l_cell_at : PySem.W.nsIn K mainGlobals "_law_cell_at" = some (some (.ref f_l_cell_at)))
    (l_l_cell_at : K.lookup f_l_cell_at = some ⟨oc_l_cell_at, od_l_cell_at, .func (PySem.W.fnOf "_law_cell_at" "_law_cell_at" (defArgs s_l_cell_at) (defBody s_l_cell_at) (defScope s_l_cell_at) .none kV_l_cell_at dc_l_cell_at pm_l_cell_at an_l_cell_at cd_l_cell_at ct_l_cell_at), sl_l_cell_at⟩)
    (cc_l_cell_at : PySem.W.codeIn K cd_l_cell_at "_law_cell_at" = true)
    (k_l_cell_at : PySem.W.keepIn K (.ref f_l_cell_at) = true)
    (a_l_whole : PySem.W.nsIn K mainGlobals "_law_whole" = some (some (.ref f_l_whole)))
    (l_l_whole : K.lookup f_l_whole = some ⟨oc_l_whole, od_l_whole, .func (PySem.W.fnOf "_law_whole" "_law_whole" (defArgs s_l_whole) (defBody s_l_whole) (defScope s_l_whole) .none kV_l_whole dc_l_whole pm_l_whole an_l_whole cd_l_whole ct_l_whole), sl_l_whole⟩)
    (cc_l_whole : PySem.W.codeIn K cd_l_whole "_law_whole" = true)
    (k_l_whole : PySem.W.keepIn K (.ref f_l_whole) = true)
    (a_l_mix : PySem.W.nsIn K mainGlobals "_law_mix" = some (some (.ref f_l_mix)))
    (l_l_mix : K.lookup f_l_mix = some ⟨oc_l_mix, od_l_mix, .func (PySem.W.fnOf "_law_mix" "_law_mix" (defArgs s_l_mix) (defBody s_l_mix) (defScope s_l_mix) .none kV_l_mix dc_l_mix pm_l_mix an_l_mix cd_l_mix ct_l_mix), sl_l_mix⟩)
    (cc_l_mix : PySem.W.codeIn K cd_l_mix "_law_mix" = true)
    (k_l_mix : PySem.W.keepIn K (.ref f_l_mix) = true)
    (a_l_day : PySem.W.nsIn K mainGlobals "_law_day" = some (some (.ref f_l_day)))
    (l_l_day : K.lookup f_l_day = some ⟨oc_l_day, od_l_day, .func (PySem.W.fnOf "_law_day" "_law_day" (defArgs s_l_day) (defBody s_l_day) (defScope s_l_day) .none kV_l_day dc_l_day pm_l_day an_l_day cd_l_day ct_l_day), sl_l_day⟩)
    (cc_l_day : PySem.W.codeIn K cd_l_day "_law_day" = true)
    (k_l_day : PySem.W.keepIn K (.ref f_l_day) = true)
    (a_l_row : PySem.W.nsIn K mainGlobals "_law_row" = some (some (.ref f_l_row)))
    (l_l_row : K.lookup f_l_row = some ⟨oc_l_row, od_l_row, .func (PySem.W.fnOf "_law_row" "_law_row" (defArgs s_l_row) (defBody s_l_row) (defScope s_l_row) .none kV_l_row dc_l_row pm_l_row an_l_row cd_l_row ct_l_row), sl_l_row⟩)
    (cc_l_row : PySem.W.codeIn K cd_l_row "_law_row" = true)
    (k_l_row : PySem.W.keepIn K (.ref f_l_row) = true)
    (a_law : PySem.W.nsIn K mainGlobals "law" = some (some (.ref f_law)))
    (l_law : K.lookup f_law = some ⟨oc_law, od_law, .func (PySem.W.fnOf "law" "law" (defArgs s_law) (defBody s_law) (defScope s_law) .none kV_law dc_law pm_law an_law cd_law ct_law), sl_law⟩)
    (cc_law : PySem.W.codeIn K cd_law "law" = true)
    (k_law : PySem.W.keepIn K (.ref f_law) = true)
    (z_len : PySem.W.nsIn K mainGlobals "len" = some none)
    (z_isinstance : PySem.W.nsIn K mainGlobals "isinstance" = some none)
    (z_int : PySem.W.nsIn K mainGlobals "int" = some none)
    (z_bool : PySem.W.nsIn K mainGlobals "bool" = some none)
    (z_range : PySem.W.nsIn K mainGlobals "range" = some none)
    (z_max : PySem.W.nsIn K mainGlobals "max" = some none)
    (z_min : PySem.W.nsIn K mainGlobals "min" = some none)
    (z_list : PySem.W.nsIn K mainGlobals "list" = some none)
    (z_tuple : PySem.W.nsIn K mainGlobals "tuple" = some none)
    : ∃ fd : FuncData, (∀ (s : Shared) (v : Value), BindsTo s fd ⟨[v], []⟩ [("_law_script", v)]) ∧ ∀ base : Heap, K.In base → base.Ns mainGlobals mg → FnOk P w K mg base (L2.CX P w) 3 fa fd ["_law_script"] (sp_law K) := by
  have e : fa = f_law := Value.ref.inj (Option.some.inj (hfa.symm.trans (PySem.W.mg_of X G a_law)))
  rw [e]
  have F_pair_held := fun_mk (st := s_pair_held) l_pair_held cc_pair_held k_pair_held
  have F_held := fun_mk (st := s_held) l_held cc_held k_held
  have F_l_cell_at := fun_mk (st := s_l_cell_at) l_l_cell_at cc_l_cell_at k_l_cell_at
  have F_l_whole := fun_mk (st := s_l_whole) l_l_whole cc_l_whole k_l_whole
  have F_l_mix := fun_mk (st := s_l_mix) l_l_mix cc_l_mix k_l_mix
  have F_l_day := fun_mk (st := s_l_day) l_l_day cc_l_day k_l_day
  have F_l_row := fun_mk (st := s_l_row) l_l_row cc_l_row k_l_row
  have F_law := fun_mk (st := s_law) l_law cc_law k_law
  let T : Txt K mg := {
    f_pair_held := f_pair_held,
    fd_pair_held := _,
    F_pair_held := F_pair_held,
    b_pair_held := F_pair_held.binds (ps := ["terms", "day"]) fun _ _ _ _ _ _ us hl => match us, hl with | [_, _], _ => rfl,
    g_pair_held := PySem.W.mg_of X G a_pair_held,
    f_held := f_held,
    fd_held := _,
    F_held := F_held,
    b_held := F_held.binds (ps := ["terms", "day"]) fun _ _ _ _ _ _ us hl => match us, hl with | [_, _], _ => rfl,
    g_held := PySem.W.mg_of X G a_held,
    f_l_cell_at := f_l_cell_at,
    fd_l_cell_at := _,
    F_l_cell_at := F_l_cell_at,
    b_l_cell_at := F_l_cell_at.binds (ps := ["_law_script", "_law_k"]) fun _ _ _ _ _ _ us hl => match us, hl with | [_, _], _ => rfl,
    g_l_cell_at := PySem.W.mg_of X G a_l_cell_at,
    f_l_whole := f_l_whole,
    fd_l_whole := _,
    F_l_whole := F_l_whole,
    b_l_whole := F_l_whole.binds (ps := ["_law_found"]) fun _ _ _ _ _ _ us hl => match us, hl with | [_], _ => rfl,
    g_l_whole := PySem.W.mg_of X G a_l_whole,
    f_l_mix := f_l_mix,
    fd_l_mix := _,
    F_l_mix := F_l_mix,
    b_l_mix := F_l_mix.binds (ps := ["_law_number", "_law_k"]) fun _ _ _ _ _ _ us hl => match us, hl with | [_, _], _ => rfl,
    g_l_mix := PySem.W.mg_of X G a_l_mix,
    f_l_day := f_l_day,
    fd_l_day := _,
    F_l_day := F_l_day,
    b_l_day := F_l_day.binds (ps := ["_law_cell"]) fun _ _ _ _ _ _ us hl => match us, hl with | [_], _ => rfl,
    g_l_day := PySem.W.mg_of X G a_l_day,
    f_l_row := f_l_row,
    fd_l_row := _,
    F_l_row := F_l_row,
    b_l_row := F_l_row.binds (ps := ["_law_script"]) fun _ _ _ _ _ _ us hl => match us, hl with | [_], _ => rfl,
    g_l_row := PySem.W.mg_of X G a_l_row,
    f_law := f_law,
    fd_law := _,
    F_law := F_law,
    b_law := F_law.binds (ps := ["_law_script"]) fun _ _ _ _ _ _ us hl => match us, hl with | [_], _ => rfl,
    g_law := PySem.W.mg_of X G a_law,
    n_len := PySem.W.mg_none_of X G z_len,
    n_isinstance := PySem.W.mg_none_of X G z_isinstance,
    n_int := PySem.W.mg_none_of X G z_int,
    n_bool := PySem.W.mg_none_of X G z_bool,
    n_range := PySem.W.mg_none_of X G z_range,
    n_max := PySem.W.mg_none_of X G z_max,
    n_min := PySem.W.mg_none_of X G z_min,
    n_list := PySem.W.mg_none_of X G z_list,
    n_tuple := PySem.W.mg_none_of X G z_tuple
  }
  exact ⟨PySem.W.fnOf "law" "law" (defArgs s_law) (defBody s_law) (defScope s_law) .none kV_law dc_law pm_law an_law cd_law ct_law, fun s v => .of_eq rfl, fun base _ _ => ok_law T⟩
theorem walk {l : PySem.W.OpenLaw} {q : Program} {loose : List Str} {XP : (Str → Option Value) → Heap → Prop} {YP : World → Heap → Prop} {d : DefRec} {K : Params → PySem.W.Frag} (hn : l.most = some 63) (hdf : d.params.defaults = [])
    (hY : ∀ (w : World) (h : Heap), YP w h → (K w.params).In h)
    (F : ∀ (w : World) (mg : Str → Option Value) (fa : Addr) (h : Heap), (K w.params).In h → h.Ns mainGlobals mg → mg d.name = some (.ref fa) →
      ∃ fd : FuncData, (∀ (s : Shared) (u : Value), BindsTo s fd ⟨[u], []⟩ [("_law_script", u)]) ∧ ∀ base : Heap, (K w.params).In base → base.Ns mainGlobals mg → FnOk l.prog w (K w.params) mg base (L2.CX l.prog w) 3 fa fd ["_law_script"] (sp_law (K w.params))) :
    PySem.W.WalkO q loose XP YP l.row.toRowW d [] (fun f vs => PySem.call f vs) :=
  L2.walk_of (n := 63) (k := 3) (x := "_law_script") (CX := fun w => L2.CX l.prog w) (sp := fun w => sp_law (K w.params)) hn (by decide) hdf ⟨rfl, by decide, by decide⟩ hY F (fun _ _ a ns hl _ hS => ⟨a, ns, rfl, hS, hl, fun _ => rfl⟩)
    fun _ _ _ _ _ ⟨_, _, _, _, _, _, _, _, _, _, _, _, z⟩ => z
end NS
open PySem PySem.W PyProof.Rows in
set_option maxRecDepth 100000 in
set_option maxHeartbeats 0 in
theorem PySem.Challenge.cw_rentroll_k03_terms_held_holds : PySem.Challenge.rw_rentroll_k03_terms_held.Holds := by
  w_on; o_law; k_head; (case hw => w_witness2)
  k_fill
  refine NS.walk (l := PySem.Challenge.rw_rentroll_k03_terms_held) rfl rfl (fun w h Y => PySem.W.kIn_of Y) ?F
  case F =>
    intro w mg fa h KX G hmg
    refine' NS.all_mk KX G hmg ?a_pair_held ?l_pair_held ?cc_pair_held ?k_pair_held ?a_held ?l_held ?cc_held ?k_held ?a_l_cell_at ?l_l_cell_at ?cc_l_cell_at ?k_l_cell_at ?a_l_whole ?l_l_whole ?cc_l_whole ?k_l_whole ?a_l_mix ?l_l_mix ?cc_l_mix ?k_l_mix ?a_l_day ?l_l_day ?cc_l_day ?k_l_day ?a_l_row ?l_l_row ?cc_l_row ?k_l_row ?a_law ?l_law ?cc_law ?k_law ?z_len ?z_isinstance ?z_int ?z_bool ?z_range ?z_max ?z_min ?z_list ?z_tuple
    (case a_pair_held => k_is)
    (case l_pair_held => k_is)
    (case cc_pair_held => k_is)
    (case k_pair_held => k_is)
    (case a_held => k_is)
    (case l_held => k_is)
    (case cc_held => k_is)
    (case k_held => k_is)
    (case a_l_cell_at => k_is)
    (case l_l_cell_at => k_is)
    (case cc_l_cell_at => k_is)
    (case k_l_cell_at => k_is)
    (case a_l_whole => k_is)
    (case l_l_whole => k_is)
    (case cc_l_whole => k_is)
    (case k_l_whole => k_is)
    (case a_l_mix => k_is)
    (case l_l_mix => k_is)
    (case cc_l_mix => k_is)
    (case k_l_mix => k_is)
    (case a_l_day => k_is)
    (case l_l_day => k_is)
    (case cc_l_day => k_is)
    (case k_l_day => k_is)
    (case a_l_row => k_is)
    (case l_l_row => k_is)
    (case cc_l_row => k_is)
    (case k_l_row => k_is)
    (case a_law => k_is)
    (case l_law => k_is)
    (case cc_law => k_is)
    (case k_law => k_is)
    (case z_len => k_is)
    (case z_isinstance => k_is)
    (case z_int => k_is)
    (case z_bool => k_is)
    (case z_range => k_is)
    (case z_max => k_is)
    (case z_min => k_is)
    (case z_list => k_is)
    (case z_tuple => k_is)
#print axioms PySem.Challenge.cw_rentroll_k03_terms_held_holds
