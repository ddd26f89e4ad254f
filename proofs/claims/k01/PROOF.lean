import PyProof.Rows.All
import Wide.All
import OpenK.AllK
import Wide.FinOn
import HandS.ForMost
import HandS.ForExc
import HandS.IsInst
import HandS.ExcIs
import HandS.Wide
import HandS.Evl
import PySem.Challenge.RW_rentroll_k01_months_long
set_option Elab.async false
set_option linter.all false
set_option maxRecDepth 100000
set_option maxHeartbeats 2000000
namespace My
open PySem PySem.Spec PyProof.Rows L2
/-! ### rules of two kinds at once -/
section
variable {X : Cx}
def rPlus : R2 := fun x y H Q => rI0 (fun i j => .int (i + j)) x y H Q ∨ rCat x y H Q
theorem op_plus : OpR X (binaryOp .Add) rPlus := op_add.or op_cat
def rIx2 (K : PySem.W.Frag) : R2 := fun x y H Q => rIxL K x y H Q ∨ rIxT K x y H Q
theorem ix_lt : IxR X (rIx2 X.K) := ix_list.or ix_tup
def rEqA (K : PySem.W.Frag) : R2 := fun x y H Q => rEq x y H Q ∨ rEqD K x y H Q
def rNeA (K : PySem.W.Frag) : R2 := fun x y H Q => rNe x y H Q ∨ rNeD K x y H Q
theorem op_eqA (hu : X.A.units + 64 < cLine) : OpR X (compareOp .Eq) (rEqA X.K) := op_eq.or (op_eqD hu)
theorem op_neA (hu : X.A.units + 64 < cLine) : OpR X (compareOp .NotEq) (rNeA X.K) := op_ne.or (op_neD hu)
def rIsN : R2 := fun x y H Q => y = .non ∧ Q (.bl (decide (x = .non))) H
def rNotN : R2 := fun x y H Q => y = .non ∧ Q (.bl (!decide (x = .non))) H
theorem op_isA : OpR X (compareOp .Is) rIsN := op_isN
theorem op_isnotA : OpR X (compareOp .IsNot) rNotN := op_notN
def iLT (K : PySem.W.Frag) (tl : TE) : TI := fun σ H R => iList K tl σ H R ∨ iTup K tl σ H R
theorem pi_lt {tg l : Expr} {tl : TE} (hl : PE X l tl) : PI X tg l (iLT X.K tl) :=
  ⟨fun pins s σ H R I h => h.elim ((pi_list hl).run pins s σ H R I) ((pi_tup hl).run pins s σ H R I)⟩
/-- isinstance(e, c) within an except suite, whatever class the caught error has -/
def rIsX (K : PySem.W.Frag) (cls : Value) (d : Option Addr) (a : Addr) : List V → Hp → VK → Prop := fun xs H Q => ∃ D, cls = .ref D ∧ d = none ∧ ExcC K D ∧ rIsE K D a xs H Q
theorem call_isX {a : Addr} {oe : Obj} {cls : Value} {d : Option Addr} {pn : List (Addr × Obj)} (hz : Zc cls d oe) (hf : ∃ vs, oe.data = .fields vs) :
    CallR (X.suite a ((a, oe) :: pn)) (.builtin "isinstance") (rIsX X.K cls d a) := by
  intro pins s σ H xs us Q I r h
  obtain ⟨D, rfl, rfl, C, q⟩ := h
  exact call_isE (X := X) C hz hf pins s σ H xs us Q I r q
end
theorem at_modI {ns : List Int} (z : Int) {n : Int} (hn : (ns.length : Int) = n) (h0 : 0 < n) : atI (ns.map V.int) (z % n) = some (.int (ns.getD (z % n).toNat 0)) := by
  have h1 : 0 ≤ z % n := Int.emod_nonneg _ (by omega)
  have h2 : z % n < n := Int.emod_lt_of_pos _ h0
  obtain ⟨j, hj⟩ : ∃ j : Nat, z % n = (j : Int) := ⟨(z % n).toNat, by omega⟩
  rw [hj]
  have hl : j < ns.length := by omega
  refine atI_nat ?_
  rw [List.getElem?_map, List.getElem?_eq_getElem hl]
  simp [List.getD, hl]
theorem at_modV {xs : List V} (z : Int) {n : Int} (hn : (xs.length : Int) = n) (h0 : 0 < n) : ∃ v, v ∈ xs ∧ atI xs (z % n) = some v := by
  have h1 : 0 ≤ z % n := Int.emod_nonneg _ (by omega)
  have h2 : z % n < n := Int.emod_lt_of_pos _ h0
  obtain ⟨j, hj⟩ : ∃ j : Nat, z % n = (j : Int) := ⟨(z % n).toNat, by omega⟩
  rw [hj]
  have hl : j < xs.length := by omega
  exact ⟨xs[j], List.getElem_mem hl, atI_nat (List.getElem?_eq_getElem hl)⟩
theorem lk_ne {H : Hp} {a b : Addr} {o u : HO} (h : H a = some o) (hb : H b = none) : upd H b u a = some o := (upd_ne (ne_of_none h hb)).trans h
theorem cdiv_ok {i j : Int} (h0 : 0 < j) (h1 : j < 1073741824) : CDiv i j := ⟨h0, h1⟩
theorem same_new {H : Hp} {p : Addr} {o : HO} (hp : H p = none) : Same H (upd H p o) := fun b u e => by rw [upd_ne (ne_of_none e hp)]; exact e
/-! ### readings, step by step: a goal «t ⟨nx, rt, bk, ct⟩ σ H», «te σ H Q» -/
section
variable {σ : L2.St} {H : Hp} {i : Nat} {v x y z : V} {ta tb tc te tv : TE} {b : Bool} {K : PySem.W.Frag} {a C dx : Addr} {fs : List (Str × V)} {f : Str} {t u c : TT} {Q : VK}
  {nx bk ct : L2.St → Hp → Prop} {rt : VK} {s1 s2 : TS} {r r' : R2} {g : TG}
theorem g_seq (h : s1 ⟨s2 ⟨nx, rt, bk, ct⟩, rt, bk, ct⟩ σ H) : tSeq s1 s2 ⟨nx, rt, bk, ct⟩ σ H := h
theorem g_next (h : nx σ H) : tNext ⟨nx, rt, bk, ct⟩ σ H := h
theorem g_brk (h : bk σ H) : tBreak ⟨nx, rt, bk, ct⟩ σ H := h
theorem g_cont (h : ct σ H) : tCont ⟨nx, rt, bk, ct⟩ σ H := h
theorem g_set (h : te σ H (fun x H1 => nx (σ.set i (some x)) H1)) : tAsg te (gName i) ⟨nx, rt, bk, ct⟩ σ H := h
theorem g_asg (h : te σ H (fun x H1 => g x σ H1 nx)) : tAsg te g ⟨nx, rt, bk, ct⟩ σ H := h
theorem g_drop (h : te σ H (fun _ H1 => nx σ H1)) : tDrop te ⟨nx, rt, bk, ct⟩ σ H := h
theorem g_ret (h : te σ H rt) : tRet te ⟨nx, rt, bk, ct⟩ σ H := h
theorem g_retN (h : rt .non H) : tRetN ⟨nx, rt, bk, ct⟩ σ H := h
theorem g_ifS (h : c σ H fun b H1 => if b = true then s1 ⟨nx, rt, bk, ct⟩ σ H1 else s2 ⟨nx, rt, bk, ct⟩ σ H1) : tIfS c s1 s2 ⟨nx, rt, bk, ct⟩ σ H := h
theorem g_aug {ti : TIp} (hx : σ[i]? = some (some x)) (h : te σ H fun y H1 => ti x y H1 fun z H2 => nx (σ.set i (some z)) H2) : tAug i te ti ⟨nx, rt, bk, ct⟩ σ H := ⟨x, hx, h⟩
theorem g_ipI {f : Int → Int → Int} {m n : Int} (q : Q (.int (f m n)) H) : ipI f (.int m) (.int n) H Q := ⟨m, n, rfl, rfl, q⟩
theorem g_fldS (h : tv σ H fun y H1 => ta σ H1 fun x H2 => ∃ a C dx fs, x = .ref a ∧ H2 a = some (.ins C dx fs) ∧ Cls K C ∧ NoAttr K C f ∧ fs.length < 1000 ∧ nx σ (upd H2 a (.ins C dx (putF f y fs)))) : sFld K ta tv f ⟨nx, rt, bk, ct⟩ σ H := h
theorem g_var (h : σ[i]? = some (some v)) (q : Q v H) : tVar i σ H Q := ⟨v, h, q⟩
theorem g_c (q : Q v H) : tC v σ H Q := q
theorem g_op (h : ta σ H fun x H1 => tb σ H1 fun y H2 => r x y H2 Q) : tOp r ta tb σ H Q := h
theorem g_un {r : V → Hp → VK → Prop} (h : ta σ H fun x H1 => r x H1 Q) : tUn r ta σ H Q := h
theorem r_int {g : Int → Int → V} {m n : Int} (q : Q (g m n) H) : rI0 g (.int m) (.int n) H Q := ⟨m, n, rfl, rfl, q⟩
theorem r_intC {C : Int → Int → Prop} {g : Int → Int → V} {m n : Int} (hc : C m n) (q : Q (g m n) H) : rI C g (.int m) (.int n) H Q := ⟨m, n, rfl, rfl, hc, q⟩
theorem r_U {g : Int → V} {m : Int} (q : Q (g m) H) : rU g (.int m) H Q := ⟨m, rfl, q⟩
theorem r_plus {m n : Int} (q : Q (.int (m + n)) H) : rPlus (.int m) (.int n) H Q := .inl ⟨m, n, rfl, rfl, q⟩
theorem r_cat {l b : Addr} {xs zs : List V} (h1 : H l = some (.lst xs)) (h2 : H b = some (.lst zs)) (hz : xs.length + zs.length ≤ sizeLine) (q : ∀ p, H p = none → Q (.ref p) (upd H p (.lst (xs ++ zs)))) : rPlus (.ref l) (.ref b) H Q :=
  .inr ⟨l, b, xs, zs, rfl, rfl, h1, h2, hz, q⟩
theorem r_eqS (hs : scal x y = true) (q : Q (.bl (decide (x = y))) H) : rEqA K x y H Q := .inl ⟨hs, q⟩
theorem r_neS (hs : scal x y = true) (q : Q (.bl (!decide (x = y))) H) : rNeA K x y H Q := .inl ⟨hs, q⟩
theorem r_eqI {m n : Int} (q : Q (.bl (decide (m = n))) H) : rEqA K (.int m) (.int n) H Q := .inl ⟨rfl, by
  have e : decide (V.int m = V.int n) = decide (m = n) := by simp
  rw [e]; exact q⟩
theorem r_neI {m n : Int} (q : Q (.bl (!decide (m = n))) H) : rNeA K (.int m) (.int n) H Q := .inl ⟨rfl, by
  have e : decide (V.int m = V.int n) = decide (m = n) := by simp
  rw [e]; exact q⟩
theorem r_eqD {d e : PyData} (h1 : Dp K H x d) (h2 : Dp K H y e) (s1 : SeqAt.shaped d = true) (s2 : SeqAt.shaped e = true) (q : Q (.bl (PyData.eqv d e)) H) : rEqA K x y H Q := .inr ⟨d, e, h1, h2, s1, s2, q⟩
theorem r_neD {d e : PyData} (h1 : Dp K H x d) (h2 : Dp K H y e) (s1 : SeqAt.shaped d = true) (s2 : SeqAt.shaped e = true) (q : Q (.bl (!PyData.eqv d e)) H) : rNeA K x y H Q := .inr ⟨d, e, h1, h2, s1, s2, q⟩
theorem r_isN (q : Q (.bl (decide (x = .non))) H) : rIsN x .non H Q := ⟨rfl, q⟩
theorem r_notN (q : Q (.bl (!decide (x = .non))) H) : rNotN x .non H Q := ⟨rfl, q⟩
theorem r_ixL {l : Addr} {xs : List V} {n : Int} (h : SqL K H l xs) (ha : atI xs n = some v) (q : Q v H) : rIx2 K (.ref l) (.int n) H Q := .inl ⟨l, xs, n, v, rfl, rfl, h, ha, q⟩
theorem r_ixT {l : Addr} {xs : List V} {n : Int} (h : SqT K H l xs) (ha : atI xs n = some v) (q : Q v H) : rIx2 K (.ref l) (.int n) H Q := .inr ⟨l, xs, n, v, rfl, rfl, h, ha, q⟩
theorem g_test {Q : Bool → Hp → Prop} (h : te σ H fun x H' => ∃ k, x = .bl k ∧ Q k H') : tTest te σ H Q := h
theorem g_B {Q : Bool → Hp → Prop} (h : te σ H fun x H' => ∃ k, x = .bl k ∧ Q k H') : tB te σ H Q := h
theorem g_bl {R : Bool → Prop} (q : R b) : ∃ k, V.bl b = .bl k ∧ R k := ⟨b, rfl, q⟩
theorem g_tcut (M : L2.St → Hp → Prop) (h : s1 ⟨M, rt, bk, ct⟩ σ H) (k : ∀ σ' H', M σ' H' → s2 ⟨nx, rt, bk, ct⟩ σ' H') : Evl.tCut s1 s2 ⟨nx, rt, bk, ct⟩ σ H := ⟨M, h, k⟩
theorem g_and {Q : Bool → Hp → Prop} (h : t σ H fun c H1 => if c = true then u σ H1 Q else Q false H1) : tAnd t u σ H Q := h
theorem g_or {Q : Bool → Hp → Prop} (h : t σ H fun c H1 => if c = true then Q true H1 else u σ H1 Q) : tOr t u σ H Q := h
theorem g_not {Q : Bool → Hp → Prop} (h : t σ H fun c H1 => Q (!c) H1) : tNot t σ H Q := h
theorem g_andV (h : ta σ H fun x H1 => ∃ c, x = .bl c ∧ if c = true then tb σ H1 Q else Q (.bl false) H1) : tAndV ta tb σ H Q := h
theorem g_orV (h : ta σ H fun x H1 => ∃ c, x = .bl c ∧ if c = true then Q (.bl true) H1 else tb σ H1 Q) : tOrV ta tb σ H Q := h
theorem g_notV (h : ta σ H fun x H1 => ∃ c, x = .bl c ∧ Q (.bl (!c)) H1) : tNotV ta σ H Q := h
theorem g_blI {A B : Prop} (h : if b = true then A else B) : ∃ c, V.bl b = .bl c ∧ if c = true then A else B := ⟨b, rfl, h⟩
theorem g_ifE (h : t σ H fun c H1 => if c = true then ta σ H1 Q else tb σ H1 Q) : tIf t ta tb σ H Q := h
theorem g_chain (h : ta σ H fun x H1 => tb σ H1 fun y H2 => r x y H2 fun z H3 => ∃ k, z = .bl k ∧ (if k = true then tc σ H3 fun w' H4 => r' y w' H4 Q else Q (.bl false) H3)) : tChain r r' ta tb tc σ H Q := h
theorem g_nil {Q : List V → Hp → Prop} (q : Q [] H) : tNil σ H Q := q
theorem g_cons {tr : TA} {Q : List V → Hp → Prop} (h : ta σ H fun x H1 => tr σ H1 fun xs H2 => Q (x :: xs) H2) : tCons ta tr σ H Q := h
theorem g_CB {r : List V → Hp → VK → Prop} {tr : TA} (h : tr σ H fun vs H1 => r vs H1 Q) : tCB r tr σ H Q := h
theorem g_call {sp : Sp} {E : L2.St → XK} {tr : TA} (h : tr σ H fun vs H1 => sp vs H1 Q (E σ)) : tCallS sp E tr σ H Q := h
theorem g_tup {tr : TA} (h : tr σ H fun xs H1 => xs.length ≤ sizeLine ∧ ∀ p, H1 p = none → Q (.ref p) (upd H1 p (.tup xs))) : tTup tr σ H Q := h
theorem g_lst {tr : TA} (h : tr σ H fun xs H1 => xs.length ≤ sizeLine ∧ ∀ p, H1 p = none → Q (.ref p) (upd H1 p (.lst xs))) : tLst tr σ H Q := h
theorem g_fld (h : ta σ H fun x H1 => ∃ a C dx fs v, x = .ref a ∧ H1 a = some (.ins C dx fs) ∧ Cls K C ∧ NoAttr K C f ∧ fs.lookup f = some v ∧ Q v H1) : tFld K ta f σ H Q := h
theorem g_bm {T : String} {r : V → List V → Hp → VK → Prop} {tr : TA} (h : ta σ H fun x H1 => tyV K T x H1 ∧ tr σ H1 fun xs H2 => r x xs H2 Q) : tBM K T r ta tr σ H Q := h
theorem g_ite {A B : Prop} {c : Prop} [Decidable c] (h1 : c → A) (h2 : ¬ c → B) : if decide c = true then A else B := by
  by_cases h : c
  · rw [if_pos (decide_eq_true h)]; exact h1 h
  · rw [if_neg (by rw [decide_eq_false h]; exact Bool.false_ne_true)]; exact h2 h
theorem g_iteN {A B : Prop} {c : Prop} [Decidable c] (h1 : ¬ c → A) (h2 : c → B) : if (!decide c) = true then A else B := by
  by_cases h : c
  · rw [if_neg (by rw [decide_eq_true h]; exact Bool.false_ne_true)]; exact h2 h
  · rw [if_pos (by rw [decide_eq_false h]; rfl)]; exact h1 h
theorem g_iteB {A B : Prop} {c : Bool} (h1 : c = true → A) (h2 : c = false → B) : if c = true then A else B := by
  cases c with
  | true => exact h1 rfl
  | false => exact h2 rfl
theorem g_iteNB {A B : Prop} {c : Bool} (h1 : c = false → A) (h2 : c = true → B) : if (!c) = true then A else B := by
  cases c with
  | true => exact h2 rfl
  | false => exact h1 rfl
theorem g_cut (v : V) (h : ∀ Q' : VK, Q' v H → te σ H Q') (q : Q v H) : te σ H Q := h Q q
theorem g_cutH (v : V) (R : Hp → Prop) (h : ∀ Q' : VK, (∀ H', R H' → Q' v H') → te σ H Q') (q : ∀ H', R H' → Q v H') : te σ H Q := h Q q
theorem g_cutT {Q : Bool → Hp → Prop} (b : Bool) (h : ∀ Q' : Bool → Hp → Prop, Q' b H → t σ H Q') (q : Q b H) : t σ H Q := h Q q
theorem g_ifB (b : Bool) (h : ∀ Q' : Bool → Hp → Prop, Q' b H → c σ H Q') (h1 : b = true → s1 ⟨nx, rt, bk, ct⟩ σ H) (h2 : b = false → s2 ⟨nx, rt, bk, ct⟩ σ H) : tIfS c s1 s2 ⟨nx, rt, bk, ct⟩ σ H := by
  refine h _ ?_
  cases b with
  | true => exact h1 rfl
  | false => exact h2 rfl
theorem g_T {A B : Prop} (h : A) : if true = true then A else B := h
theorem g_F {A B : Prop} (h : B) : if false = true then A else B := h
theorem g_nT {A B : Prop} (h : B) : if (!true) = true then A else B := h
theorem g_nF {A B : Prop} (h : A) : if (!false) = true then A else B := h
end
end My
/-! ### the tactics: go1 one step, go as far as it goes; lk: what stands at an address -/
local macro_rules | `(tactic| walk_at "lk") => `(tactic| first
  | assumption
  | exact L2.upd_same
  | (refine My.lk_ne ?_ (by assumption); walk_at "lk")
  | (refine (show L2.Same _ _ by assumption) _ _ ?_; walk_at "lk"))
local macro_rules | `(tactic| walk_at "sm") => `(tactic| first
  | assumption
  | exact L2.Same.refl _
  | exact My.same_new (by assumption)
  | (refine L2.Same.trans ?_ (My.same_new (by assumption)); walk_at "sm")
  | (refine L2.Same.trans ?_ (show L2.Same _ _ by assumption); walk_at "sm"))
local macro_rules | `(tactic| walk_at "sq") => `(tactic| first
  | assumption
  | (refine L2.SqL.of ?_; walk_at "lk")
  | (refine L2.SqT.of ?_; walk_at "lk"))
local macro_rules | `(tactic| walk_at "go0") => `(tactic| first
  | with_reducible refine My.g_seq ?_
  | with_reducible refine My.g_set ?_
  | with_reducible refine My.g_ret ?_
  | with_reducible refine My.g_next ?_
  | with_reducible refine My.g_brk ?_
  | with_reducible refine My.g_cont ?_
  | with_reducible refine My.g_asg ?_
  | with_reducible refine My.g_drop ?_
  | with_reducible refine My.g_retN ?_
  | refine My.g_var (by with_unfolding_all rfl) ?_
  | with_reducible refine My.g_c ?_
  | with_reducible refine My.g_op ?_
  | with_reducible refine My.g_un ?_
  | with_reducible refine My.r_int ?_
  | with_reducible refine My.r_U ?_
  | with_reducible refine My.r_plus ?_
  | with_reducible refine My.r_eqI ?_
  | with_reducible refine My.r_neI ?_
  | with_reducible refine My.r_isN ?_
  | with_reducible refine My.r_notN ?_
  | with_reducible refine My.r_intC (by walk_at "side") ?_
  | with_reducible refine My.g_test ?_
  | with_reducible refine My.g_B ?_
  | with_reducible refine My.g_blI ?_
  | with_reducible refine My.g_bl ?_
  | with_reducible refine My.g_and ?_
  | with_reducible refine My.g_or ?_
  | with_reducible refine My.g_not ?_
  | with_reducible refine My.g_andV ?_
  | with_reducible refine My.g_orV ?_
  | with_reducible refine My.g_notV ?_
  | with_reducible refine My.g_ifE ?_
  | with_reducible refine My.g_chain ?_
  | with_reducible refine My.g_nil ?_
  | with_reducible refine My.g_cons ?_
  | with_reducible refine My.g_CB ?_
  | with_reducible refine My.g_call ?_
  | with_reducible refine My.g_tup ?_
  | with_reducible refine My.g_lst ?_
  | with_reducible refine My.g_fld ?_
  | with_reducible refine My.g_fldS ?_
  | with_reducible refine My.g_bm ?_
  | with_reducible refine My.g_ipI ?_
  | with_reducible refine My.g_T ?_
  | with_reducible refine My.g_F ?_
  | with_reducible refine My.g_nT ?_
  | with_reducible refine My.g_nF ?_
  | refine My.g_aug (by with_unfolding_all rfl) ?_
  | dsimp only)
local macro_rules | `(tactic| walk_at "side") => `(tactic| first
  | decide
  | (show (0 : Int) < _; omega)
  | exact My.cdiv_ok (by omega) (by omega))
local macro_rules | `(tactic| walk_at "go1") => `(tactic| first | (walk_at "go0") | with_reducible refine My.g_ifS ?_)
local macro_rules | `(tactic| walk_at "gos") => `(tactic| repeat (walk_at "go0"))
local macro_rules | `(tactic| walk_at "sz") => `(tactic| exact Nat.le_of_ble_eq_true rfl)
local macro_rules | `(tactic| walk_at "go") => `(tactic| repeat (walk_at "go1"))

namespace NS
open PySem PySem.Spec PyProof.Rows L2 My
def top (i : Nat) : Stmt := PySem.Challenge.pw_rentroll_k01_months_long.main.body.getD i (.Pass ⟨0, 0, 0, 0⟩)
abbrev s_is_whole : Stmt := top 13
abbrev s_is_within : Stmt := top 14
abbrev s_month_days : Stmt := top 15
abbrev s_is_leap : Stmt := top 16
abbrev s_length : Stmt := top 17
abbrev s_l_cell_at : Stmt := top 19
abbrev s_l_whole : Stmt := top 20
abbrev s_l_length : Stmt := top 21
abbrev s_l_refused : Stmt := top 22
abbrev s_law : Stmt := top 23
abbrev N_is_whole : List Str := ["thing"]
theorem sc_is_whole : FnScope N_is_whole ["thing"] (defScope s_is_whole) := ⟨rfl, rfl, rfl, by decide +kernel, rfl, by decide +kernel, by decide +kernel⟩
abbrev N_is_within : List Str := ["thing", "low", "high"]
theorem sc_is_within : FnScope N_is_within ["thing", "low", "high"] (defScope s_is_within) := ⟨rfl, rfl, rfl, by decide +kernel, rfl, by decide +kernel, by decide +kernel⟩
abbrev N_month_days : List Str := ["year", "month"]
theorem sc_month_days : FnScope N_month_days ["year", "month"] (defScope s_month_days) := ⟨rfl, rfl, rfl, by decide +kernel, rfl, by decide +kernel, by decide +kernel⟩
abbrev N_is_leap : List Str := ["year"]
theorem sc_is_leap : FnScope N_is_leap ["year"] (defScope s_is_leap) := ⟨rfl, rfl, rfl, by decide +kernel, rfl, by decide +kernel, by decide +kernel⟩
abbrev N_length : List Str := ["year", "month"]
theorem sc_length : FnScope N_length ["year", "month"] (defScope s_length) := ⟨rfl, rfl, rfl, by decide +kernel, rfl, by decide +kernel, by decide +kernel⟩
abbrev N_l_cell_at : List Str := ["_law_script", "_law_k"]
theorem sc_l_cell_at : FnScope N_l_cell_at ["_law_script", "_law_k"] (defScope s_l_cell_at) := ⟨rfl, rfl, rfl, by decide +kernel, rfl, by decide +kernel, by decide +kernel⟩
abbrev N_l_whole : List Str := ["_law_found"]
theorem sc_l_whole : FnScope N_l_whole ["_law_found"] (defScope s_l_whole) := ⟨rfl, rfl, rfl, by decide +kernel, rfl, by decide +kernel, by decide +kernel⟩
abbrev N_l_length : List Str := ["_law_year", "_law_month", "_law_long", "_law_leap"]
theorem sc_l_length : FnScope N_l_length ["_law_year", "_law_month"] (defScope s_l_length) := ⟨rfl, rfl, rfl, by decide +kernel, rfl, by decide +kernel, by decide +kernel⟩
abbrev N_l_refused : List Str := ["_law_year", "_law_month", "e", "_law_others"]
theorem sc_l_refused : FnScope N_l_refused ["_law_year", "_law_month"] (defScope s_l_refused) := ⟨rfl, rfl, rfl, by decide +kernel, rfl, by decide +kernel, by decide +kernel⟩
abbrev N_law : List Str := ["_law_script", "_law_year", "_law_month", "_law_cell", "_law_odd", "_law_found"]
theorem sc_law : FnScope N_law ["_law_script"] (defScope s_law) := ⟨rfl, rfl, rfl, by decide +kernel, rfl, by decide +kernel, by decide +kernel⟩
structure Txt (K : PySem.W.Frag) (mg : Str → Option Value) where
  f_is_whole : Addr
  fd_is_whole : FuncData
  F_is_whole : Fun K "is_whole" "is_whole" s_is_whole f_is_whole fd_is_whole
  b_is_whole : Binds K fd_is_whole ["thing"] []
  g_is_whole : mg "is_whole" = some (.ref f_is_whole)
  f_is_within : Addr
  fd_is_within : FuncData
  F_is_within : Fun K "is_within" "is_within" s_is_within f_is_within fd_is_within
  b_is_within : Binds K fd_is_within ["thing", "low", "high"] []
  g_is_within : mg "is_within" = some (.ref f_is_within)
  f_month_days : Addr
  fd_month_days : FuncData
  F_month_days : Fun K "month_days" "month_days" s_month_days f_month_days fd_month_days
  b_month_days : Binds K fd_month_days ["year", "month"] []
  g_month_days : mg "month_days" = some (.ref f_month_days)
  f_is_leap : Addr
  fd_is_leap : FuncData
  F_is_leap : Fun K "_is_leap" "_is_leap" s_is_leap f_is_leap fd_is_leap
  b_is_leap : Binds K fd_is_leap ["year"] []
  g_is_leap : mg "_is_leap" = some (.ref f_is_leap)
  f_length : Addr
  fd_length : FuncData
  F_length : Fun K "_length" "_length" s_length f_length fd_length
  b_length : Binds K fd_length ["year", "month"] []
  g_length : mg "_length" = some (.ref f_length)
  f_l_cell_at : Addr
  fd_l_cell_at : FuncData
  F_l_cell_at : Fun K "_law_cell_at" "_law_cell_at" s_l_cell_at f_l_cell_at fd_l_cell_at
  b_l_cell_at : Binds K fd_l_cell_at ["_law_script", "_law_k"] []
  g_l_cell_at : mg "_law_cell_at" = some (.ref f_l_cell_at)
  f_l_whole : Addr
  fd_l_whole : FuncData
  F_l_whole : Fun K "_law_whole" "_law_whole" s_l_whole f_l_whole fd_l_whole
  b_l_whole : Binds K fd_l_whole ["_law_found"] []
  g_l_whole : mg "_law_whole" = some (.ref f_l_whole)
  f_l_length : Addr
  fd_l_length : FuncData
  F_l_length : Fun K "_law_length" "_law_length" s_l_length f_l_length fd_l_length
  b_l_length : Binds K fd_l_length ["_law_year", "_law_month"] []
  g_l_length : mg "_law_length" = some (.ref f_l_length)
  f_l_refused : Addr
  fd_l_refused : FuncData
  F_l_refused : Fun K "_law_refused" "_law_refused" s_l_refused f_l_refused fd_l_refused
  b_l_refused : Binds K fd_l_refused ["_law_year", "_law_month"] []
  g_l_refused : mg "_law_refused" = some (.ref f_l_refused)
  f_law : Addr
  fd_law : FuncData
  F_law : Fun K "law" "law" s_law f_law fd_law
  b_law : Binds K fd_law ["_law_script"] []
  g_law : mg "law" = some (.ref f_law)
  c_RentError : Addr
  g_RentError : mg "RentError" = some (.ref c_RentError)
  c_BadDay : Addr
  g_BadDay : mg "BadDay" = some (.ref c_BadDay)
  c_BadFlat : Addr
  g_BadFlat : mg "BadFlat" = some (.ref c_BadFlat)
  c_BadAmount : Addr
  g_BadAmount : mg "BadAmount" = some (.ref c_BadAmount)
  c_NoLease : Addr
  g_NoLease : mg "NoLease" = some (.ref c_NoLease)
  c_Taken : Addr
  g_Taken : mg "Taken" = some (.ref c_Taken)
  c_Full : Addr
  g_Full : mg "Full" = some (.ref c_Full)
  c_Done : Addr
  g_Done : mg "Done" = some (.ref c_Done)
  x_BadDay : PySem.W.excIn K c_BadDay [.type "ValueError", .type "Exception", .type "BaseException", .type "object"] "ValueError.__new__" = true
  k_BadDay : PySem.W.keepIn K (.ref c_BadDay) = true
  s_BadDay : PySem.W.subIn K (.ref c_BadDay) (.type "BaseException") = some true
  t_BadDay : PySem.W.typeIn K (.ref c_BadDay) = some (.type "type")
  m_BadDay_RentError : PySem.W.exmOne K (.ref c_BadDay) (.ref c_RentError) = some true
  e_BadDay : ExcC K c_BadDay
  q_BadDay_BadAmount : PySem.W.kitOne K (.ref c_BadDay) (.ref c_BadAmount) = some false
  q_BadDay_BadFlat : PySem.W.kitOne K (.ref c_BadDay) (.ref c_BadFlat) = some false
  q_BadDay_Done : PySem.W.kitOne K (.ref c_BadDay) (.ref c_Done) = some false
  q_BadDay_Full : PySem.W.kitOne K (.ref c_BadDay) (.ref c_Full) = some false
  q_BadDay_BadDay : PySem.W.kitOne K (.ref c_BadDay) (.ref c_BadDay) = some true
  q_BadDay_ValueError : PySem.W.kitOne K (.ref c_BadDay) (.type "ValueError") = some true
  q_BadDay_NoLease : PySem.W.kitOne K (.ref c_BadDay) (.ref c_NoLease) = some false
  q_BadDay_Taken : PySem.W.kitOne K (.ref c_BadDay) (.ref c_Taken) = some false
  tk_FIRST_YEAR : Tok
  g_FIRST_YEAR : mg "FIRST_YEAR" = some (.int 2000 tk_FIRST_YEAR)
  tk_LAST_YEAR : Tok
  g_LAST_YEAR : mg "LAST_YEAR" = some (.int 2273 tk_LAST_YEAR)
  a_LENGTHS : Addr
  g_LENGTHS : mg "LENGTHS" = some (.ref a_LENGTHS)
  q_LENGTHS : ∀ H : Hp, SqT K H a_LENGTHS [.int 31, .int 28, .int 31, .int 30, .int 31, .int 30, .int 31, .int 31, .int 30, .int 31, .int 30, .int 31]
  n_isinstance : mg "isinstance" = none
  n_int : mg "int" = none
  n_bool : mg "bool" = none
  n_len : mg "len" = none
  n_ValueError : mg "ValueError" = none

def isI : V → Bool
  | .int _ => true
  | _ => false
def isB : V → Bool
  | .bl _ => true
  | _ => false
def thing (H : Hp) : V → Prop
  | .int _ => True
  | .bl _ => True
  | .str _ => True
  | .non => True
  | .ref a => ∃ xs, H a = some (.tup xs)
  | _ => False
theorem thing_ty {K : PySem.W.Frag} {H : Hp} {x : V} (h : thing H x) : ∃ n : String, TyX K H x (.type n) ∧ kitB n "int" = some (isI x || isB x) ∧ kitB n "bool" = some (isB x) := by
  cases x with
  | int i => exact ⟨"int", .base (.int i), (by decide +kernel : kitB "int" "int" = some true), (by decide +kernel : kitB "int" "bool" = some false)⟩
  | bl i => exact ⟨"bool", .base (.bl i), (by decide +kernel : kitB "bool" "int" = some true), (by decide +kernel : kitB "bool" "bool" = some true)⟩
  | str i => exact ⟨"str", .base (.str i), (by decide +kernel : kitB "str" "int" = some false), (by decide +kernel : kitB "str" "bool" = some false)⟩
  | non => exact ⟨"NoneType", .base .non, by decide +kernel, by decide +kernel⟩
  | ref a => obtain ⟨xs, e⟩ := h; exact ⟨"tuple", .base (.tup e), (by decide +kernel : kitB "tuple" "int" = some false), (by decide +kernel : kitB "tuple" "bool" = some false)⟩
  | _ => exact h.elim
theorem thing_same {H H' : Hp} {x : V} (e : Same H H') (h : thing H x) : thing H' x := by
  cases x with
  | ref a => obtain ⟨xs, q⟩ := h; exact ⟨xs, e _ _ q⟩
  | _ => exact h
theorem isI_not {x : V} (h : isB x = true) : isI x = false := by
  cases x <;> first | rfl | cases h
def within (x : V) (lo hi : Int) : Bool := match x with
  | .int i => decide (lo ≤ i) && decide (i ≤ hi)
  | _ => false
def sp_is_whole : Sp := fun vs H Q _ => ∃ x, vs = [x] ∧ thing H x ∧ Q (.bl (isI x)) H
def sp_is_within : Sp := fun vs H Q _ => ∃ x lo hi, vs = [x, .int lo, .int hi] ∧ thing H x ∧ Q (.bl (within x lo hi)) H
def leap (y : Int) : Bool := if y % 100 = 0 then decide (y % 400 = 0) else decide (y % 4 = 0)
def lens : List Int := [31, 28, 31, 30, 31, 30, 31, 31, 30, 31, 30, 31]
def mlen (y m : Int) : Int := if m = 2 ∧ leap y = true then 29 else lens.getD (m - 1).toNat 0
def sp_is_leap : Sp := fun vs H Q _ => ∃ y, vs = [.int y] ∧ Q (.bl (leap y)) H
def sp_length : Sp := fun vs H Q _ => ∃ y m, vs = [.int y, .int m] ∧ 1 ≤ m ∧ m ≤ 12 ∧ Q (.int (mlen y m)) H
theorem at_lens {m : Int} (h1 : 1 ≤ m) (h2 : m ≤ 12) : atI (lens.map V.int) (m - 1) = some (.int (lens.getD (m - 1).toNat 0)) := by
  obtain rfl | rfl | rfl | rfl | rfl | rfl | rfl | rfl | rfl | rfl | rfl | rfl : m = 1 ∨ m = 2 ∨ m = 3 ∨ m = 4 ∨ m = 5 ∨ m = 6 ∨ m = 7 ∨ m = 8 ∨ m = 9 ∨ m = 10 ∨ m = 11 ∨ m = 12 := by omega
  all_goals rfl
theorem leap_eq (y : Int) : (decide (y % 4 = 0) && (decide (0 < y % 100) || decide (y % 400 = 0))) = leap y := by
  unfold leap
  by_cases h : y % 100 = 0
  · rw [if_pos h]
    by_cases h4 : y % 400 = 0
    · have : y % 4 = 0 := by omega
      simp [h4, this]
    · simp [h4, h]
  · rw [if_neg h]
    have : 0 < y % 100 := by omega
    simp [this]
def isdate (x y : V) : Bool := within x 2000 2273 && within y 1 12
def sp_month_days (C : Addr) : Sp := fun vs H Q E => ∃ x y, vs = [x, y] ∧ thing H x ∧ thing H y ∧
  (∀ i m, x = .int i → y = .int m → isdate x y = true → Q (.int (mlen i m)) H) ∧ (isdate x y = false → E (.ref C) none H)
def cell (ns : List Int) (k : Int) : Int := ns.getD k.toNat 0
def sp_l_cell_at (K : PySem.W.Frag) : Sp := fun vs H Q _ => ∃ (a : Addr) (ns : List Int) (k : Int), vs = [.ref a, .int k] ∧ SqL K H a (ns.map V.int) ∧ 0 ≤ k ∧ Q (.int (cell ns k)) H
def sp_l_whole : Sp := sp_is_whole
def sp_l_length : Sp := fun vs H Q _ => ∃ y m, vs = [.int y, .int m] ∧ 1 ≤ m ∧ m ≤ 12 ∧ ∀ H', Same H H' → Q (.int (mlen y m)) H'
def sp_l_refused : Sp := fun vs H Q _ => ∃ x y, vs = [x, y] ∧ thing H x ∧ thing H y ∧ ∀ H', Same H H' → Q (.bl (!isdate x y)) H'
def sp_law (K : PySem.W.Frag) : Sp := fun vs H Q _ => ∃ (a : Addr) (ns : List Int), vs = [.ref a] ∧ SqL K H a (ns.map V.int) ∧ ns.length ≤ 63 ∧ ∀ H', Q (.bl true) H'
section
variable {P : Program} {w : World} {K : PySem.W.Frag} {mg : Str → Option Value} {base : Heap}
theorem ok_is_whole (T : Txt K mg) : FnOk P w K mg base (L2.CX P w) 1 T.f_is_whole T.fd_is_whole ["thing"] (sp_is_whole) := by
  refine T.F_is_whole.okX sc_is_whole (fun vs H Q E h => ?_) (fun cdv A outer s H vs Q E hr h => ?_)
  · first | (obtain ⟨_, rfl, _⟩ := h; rfl) | (obtain ⟨_, _, rfl, _⟩ := h; rfl) | (obtain ⟨_, _, _, rfl, _⟩ := h; rfl) | (obtain ⟨_, _, _, _, rfl, _⟩ := h; rfl) | (obtain ⟨_, _, _, _, _, rfl, _⟩ := h; rfl) | (obtain ⟨_, _, _, _, _, _, rfl, _⟩ := h; rfl) | (obtain ⟨_, _, _, _, _, _, _, rfl, _⟩ := h; rfl)
  · refine ⟨_, (pss_one (ps_ret (pe_and (pe_callB call_isi (by rfl) T.n_isinstance (by decide +kernel) (pa_cons (pv 0) (pa_cons (pe_bltn (v := .ty "int") (by rfl) T.n_int (by decide +kernel) rfl) pa_nil))) (pe_one (pe_not (pe_callB call_isi (by rfl) T.n_isinstance (by decide +kernel) (pa_cons (pv 0) (pa_cons (pe_bltn (v := .ty "bool") (by rfl) T.n_bool (by decide +kernel) rfl) pa_nil)))))))), ?_⟩
    obtain ⟨x, rfl, hx, k⟩ := h
    obtain ⟨n, ht, h1, h2⟩ := thing_ty (K := K) hx
    walk_at "go"
    refine ⟨x, .ty "int", _, _, _, rfl, .ty _, ht, kit_ty h1, ?_⟩
    walk_at "go"
    refine g_iteB (fun c => ?_) (fun c => ?_)
    · walk_at "go"
      refine ⟨x, .ty "bool", _, _, _, rfl, .ty _, ht, kit_ty h2, ?_⟩
      refine ⟨_, rfl, ?_⟩
      cases e : isB x with
      | true => rw [isI_not e] at k; exact k
      | false => rw [e, Bool.or_false] at c; rw [c] at k; exact k
    · rw [(Bool.or_eq_false_iff.mp c).1] at k
      exact k
theorem ok_is_within (T : Txt K mg) : FnOk P w K mg base (L2.CX P w) 2 T.f_is_within T.fd_is_within ["thing", "low", "high"] (sp_is_within) := by
  refine T.F_is_within.okX sc_is_within (fun vs H Q E h => ?_) (fun cdv A outer s H vs Q E hr h => ?_)
  · first | (obtain ⟨_, rfl, _⟩ := h; rfl) | (obtain ⟨_, _, rfl, _⟩ := h; rfl) | (obtain ⟨_, _, _, rfl, _⟩ := h; rfl) | (obtain ⟨_, _, _, _, rfl, _⟩ := h; rfl) | (obtain ⟨_, _, _, _, _, rfl, _⟩ := h; rfl) | (obtain ⟨_, _, _, _, _, _, rfl, _⟩ := h; rfl) | (obtain ⟨_, _, _, _, _, _, _, rfl, _⟩ := h; rfl)
  · refine ⟨_, (pss_one (ps_ret (pe_and (pe_callS (ok_is_whole T) hr (by rfl) T.g_is_whole T.F_is_whole.kp T.b_is_whole (fun σ => passAt (takes_of rfl rfl rfl rfl) σ) (by exact (pa_cons (pv 0) pa_nil))) (pe_one (pe_chain op_le op_le (pv 1) (pv 0) (pv 2)))))), ?_⟩
    obtain ⟨x, lo, hi, rfl, hx, k⟩ := h
    walk_at "go"
    refine ⟨_, rfl, hx, ?_⟩
    walk_at "go"
    cases x with
    | int i =>
      refine g_T ?_
      walk_at "go"
      refine g_ite (fun c => ?_) (fun c => ?_)
      · walk_at "go"
        have e : within (.int i) lo hi = decide (i ≤ hi) := by simp [within, c]
        rw [e] at k
        exact k
      · have e : within (.int i) lo hi = false := by simp [within, c]
        rw [e] at k
        exact k
    | _ => exact g_F k
theorem ok_is_leap (T : Txt K mg) : FnOk P w K mg base (L2.CX P w) 1 T.f_is_leap T.fd_is_leap ["year"] (sp_is_leap) := by
  refine T.F_is_leap.okX sc_is_leap (fun vs H Q E h => ?_) (fun cdv A outer s H vs Q E hr h => ?_)
  · first | (obtain ⟨_, rfl, _⟩ := h; rfl) | (obtain ⟨_, _, rfl, _⟩ := h; rfl) | (obtain ⟨_, _, _, rfl, _⟩ := h; rfl) | (obtain ⟨_, _, _, _, rfl, _⟩ := h; rfl) | (obtain ⟨_, _, _, _, _, rfl, _⟩ := h; rfl) | (obtain ⟨_, _, _, _, _, _, rfl, _⟩ := h; rfl) | (obtain ⟨_, _, _, _, _, _, _, rfl, _⟩ := h; rfl)
  · refine ⟨_, (pss_cons (ps_if (pt_cmpR (op_eqA hr.units) (pe_op op_mod (pv 0) pe_int) pe_int (nomark _))
  (pss_one (ps_ret (pe_cmpR (op_eqA hr.units) (pe_op op_mod (pv 0) pe_int) pe_int (nomark _))))
  pss_nil)
  (pss_one (ps_ret (pe_cmpR (op_eqA hr.units) (pe_op op_mod (pv 0) pe_int) pe_int (nomark _))))), ?_⟩
    obtain ⟨y, rfl, k⟩ := h
    walk_at "go"
    refine g_ite (fun c => ?_) (fun c => ?_)
    · walk_at "go"
      have e : leap y = decide (y % 400 = 0) := by simp [leap, c]
      rw [e] at k
      exact k
    · walk_at "go"
      have e : leap y = decide (y % 4 = 0) := by simp [leap, c]
      rw [e] at k
      exact k
theorem ok_length (T : Txt K mg) : FnOk P w K mg base (L2.CX P w) 2 T.f_length T.fd_length ["year", "month"] (sp_length) := by
  refine T.F_length.okX sc_length (fun vs H Q E h => ?_) (fun cdv A outer s H vs Q E hr h => ?_)
  · first | (obtain ⟨_, rfl, _⟩ := h; rfl) | (obtain ⟨_, _, rfl, _⟩ := h; rfl) | (obtain ⟨_, _, _, rfl, _⟩ := h; rfl) | (obtain ⟨_, _, _, _, rfl, _⟩ := h; rfl) | (obtain ⟨_, _, _, _, _, rfl, _⟩ := h; rfl) | (obtain ⟨_, _, _, _, _, _, rfl, _⟩ := h; rfl) | (obtain ⟨_, _, _, _, _, _, _, rfl, _⟩ := h; rfl)
  · refine ⟨_, (pss_cons (ps_if (PW.pt (pw_and (pt_cmpR (op_eqA hr.units) (pv 1) pe_int (nomark _)) (pw_and1 (pt_val (pe_callS (ok_is_leap T) hr (by rfl) T.g_is_leap T.F_is_leap.kp T.b_is_leap (fun σ => passAt (takes_of rfl rfl rfl rfl) σ) (by exact (pa_cons (pv 0) pa_nil)))))))
  (pss_one (ps_ret pe_int))
  pss_nil)
  (pss_one (ps_ret (pe_ix ix_lt (pe_glob (v := .ref T.a_LENGTHS) (by rfl) T.g_LENGTHS rfl) (pe_op op_sub (pv 1) pe_int) (fun _ _ => rfl))))), ?_⟩
    obtain ⟨y, m, rfl, h1, h2, k⟩ := h
    have fin : (m = 2 ∧ leap y = true → Q (.int 29) H) ∧ (¬ (m = 2 ∧ leap y = true) → Q (.int (lens.getD (m - 1).toNat 0)) H) :=
      ⟨fun c => by rw [mlen, if_pos c] at k; exact k, fun c => by rw [mlen, if_neg c] at k; exact k⟩
    walk_at "go"
    have at_ := at_lens h1 h2
    refine g_ite (fun c => ?_) (fun c => ?_)
    · walk_at "go"
      refine ⟨_, rfl, ?_⟩
      walk_at "go"
      refine g_iteB (fun c2 => ?_) (fun c2 => ?_)
      · walk_at "go"
        exact fin.1 ⟨c, c2⟩
      · walk_at "go"
        exact r_ixT (T.q_LENGTHS H) at_ (fin.2 fun z => by rw [c2] at z; exact Bool.false_ne_true z.2)
    · walk_at "go"
      exact r_ixT (T.q_LENGTHS H) at_ (fin.2 fun z => c z.1)
theorem ok_month_days (T : Txt K mg) : FnOk P w K mg base (L2.CX P w) 3 T.f_month_days T.fd_month_days ["year", "month"] (sp_month_days T.c_BadDay) := by
  refine T.F_month_days.okX sc_month_days (fun vs H Q E h => ?_) (fun cdv A outer s H vs Q E hr h => ?_)
  · first | (obtain ⟨_, rfl, _⟩ := h; rfl) | (obtain ⟨_, _, rfl, _⟩ := h; rfl) | (obtain ⟨_, _, _, rfl, _⟩ := h; rfl) | (obtain ⟨_, _, _, _, rfl, _⟩ := h; rfl) | (obtain ⟨_, _, _, _, _, rfl, _⟩ := h; rfl) | (obtain ⟨_, _, _, _, _, _, rfl, _⟩ := h; rfl) | (obtain ⟨_, _, _, _, _, _, _, rfl, _⟩ := h; rfl)
  · refine ⟨_, (pss_cons (ps_if (pt_not (pt_val (pe_callS (ok_is_within T) hr (by rfl) T.g_is_within T.F_is_within.kp T.b_is_within (fun σ => passAt (takes_of rfl rfl rfl rfl) σ) (by exact (pa_cons (pv 0) (pa_cons (pe_glob (v := .int 2000) (by rfl) T.g_FIRST_YEAR ⟨_, rfl⟩) (pa_cons (pe_glob (v := .int 2273) (by rfl) T.g_LAST_YEAR ⟨_, rfl⟩) pa_nil)))))))
  (pss_one (ps_raise rfl (takes_of rfl rfl rfl rfl) (pmk_own PySem.F.excBase_ValueError T.x_BadDay T.g_BadDay T.k_BadDay (raises_own T.s_BadDay T.t_BadDay) (by exact rfl))))
  pss_nil)
  (pss_cons (ps_if (pt_not (pt_val (pe_callS (ok_is_within T) hr (by rfl) T.g_is_within T.F_is_within.kp T.b_is_within (fun σ => passAt (takes_of rfl rfl rfl rfl) σ) (by exact (pa_cons (pv 1) (pa_cons pe_int (pa_cons pe_int pa_nil)))))))
  (pss_one (ps_raise rfl (takes_of rfl rfl rfl rfl) (pmk_own PySem.F.excBase_ValueError T.x_BadDay T.g_BadDay T.k_BadDay (raises_own T.s_BadDay T.t_BadDay) (by exact rfl))))
  pss_nil)
  (pss_one (ps_ret (pe_callS (ok_length T) hr (by rfl) T.g_length T.F_length.kp T.b_length (fun σ => passAt (takes_of rfl rfl rfl rfl) σ) (by exact (pa_cons (pv 0) (pa_cons (pv 1) pa_nil)))))))), ?_⟩
    obtain ⟨x, y, rfl, hx, hy, k1, k2⟩ := h
    walk_at "go"
    refine ⟨_, _, _, rfl, hx, ?_⟩
    walk_at "go"
    refine g_iteNB (fun c => ?_) (fun c => ?_)
    · exact k2 (by simp [isdate, c])
    · walk_at "go"
      refine ⟨_, _, _, rfl, hy, ?_⟩
      walk_at "go"
      refine g_iteNB (fun c2 => ?_) (fun c2 => ?_)
      · exact k2 (by simp [isdate, c2])
      · cases x with
        | int i =>
          cases y with
          | int m =>
            have b := c2
            simp only [within, Bool.and_eq_true, decide_eq_true_eq] at b
            walk_at "go"
            refine ⟨_, _, rfl, b.1, b.2, ?_⟩
            exact k1 i m rfl rfl (by simp [isdate, c, c2])
          | _ => cases c2
        | _ => cases c
theorem ok_l_cell_at (T : Txt K mg) : FnOk P w K mg base (L2.CX P w) 1 T.f_l_cell_at T.fd_l_cell_at ["_law_script", "_law_k"] (sp_l_cell_at K) := by
  refine T.F_l_cell_at.okX sc_l_cell_at (fun vs H Q E h => ?_) (fun cdv A outer s H vs Q E hr h => ?_)
  · first | (obtain ⟨_, rfl, _⟩ := h; rfl) | (obtain ⟨_, _, rfl, _⟩ := h; rfl) | (obtain ⟨_, _, _, rfl, _⟩ := h; rfl) | (obtain ⟨_, _, _, _, rfl, _⟩ := h; rfl) | (obtain ⟨_, _, _, _, _, rfl, _⟩ := h; rfl) | (obtain ⟨_, _, _, _, _, _, rfl, _⟩ := h; rfl) | (obtain ⟨_, _, _, _, _, _, _, rfl, _⟩ := h; rfl)
  · refine ⟨_, (pss_cons (ps_if (pt_cmpR op_lt (pv 1) (pe_callB call_len_seq (by rfl) T.n_len (by decide +kernel) (pa_cons (pv 0) pa_nil)) (nomark _))
  (pss_one (ps_ret (pe_ix ix_lt (pv 0) (pv 1) (fun _ _ => rfl))))
  pss_nil)
  (pss_one (ps_ret pe_int))), ?_⟩
    obtain ⟨a, ns, k, rfl, hS, hk, q⟩ := h
    obtain ⟨j, rfl⟩ : ∃ j : Nat, k = (j : Int) := ⟨k.toNat, by omega⟩
    walk_at "go"
    refine ⟨a, _, rfl, .inl hS, ?_⟩
    walk_at "go"
    rw [List.length_map]
    refine g_ite (fun c => ?_) (fun c => ?_)
    · walk_at "go"
      have hj : j < ns.length := by omega
      have e : cell ns (j : Int) = ns[j] := by simp [cell, hj]
      rw [e] at q
      exact r_ixL hS (atI_nat (by rw [List.getElem?_map, List.getElem?_eq_getElem hj]; rfl)) q
    · walk_at "go"
      have e : cell ns (j : Int) = 0 := by
        have hj : ns.length ≤ j := by omega
        simp [cell, List.getD, List.getElem?_eq_none hj]
      rw [e] at q
      exact q
theorem ok_l_whole (T : Txt K mg) : FnOk P w K mg base (L2.CX P w) 1 T.f_l_whole T.fd_l_whole ["_law_found"] (sp_l_whole) := by
  refine T.F_l_whole.okX sc_l_whole (fun vs H Q E h => ?_) (fun cdv A outer s H vs Q E hr h => ?_)
  · first | (obtain ⟨_, rfl, _⟩ := h; rfl) | (obtain ⟨_, _, rfl, _⟩ := h; rfl) | (obtain ⟨_, _, _, rfl, _⟩ := h; rfl) | (obtain ⟨_, _, _, _, rfl, _⟩ := h; rfl) | (obtain ⟨_, _, _, _, _, rfl, _⟩ := h; rfl) | (obtain ⟨_, _, _, _, _, _, rfl, _⟩ := h; rfl) | (obtain ⟨_, _, _, _, _, _, _, rfl, _⟩ := h; rfl)
  · refine ⟨_, (pss_one (ps_ret (pe_and (pe_callB call_isi (by rfl) T.n_isinstance (by decide +kernel) (pa_cons (pv 0) (pa_cons (pe_bltn (v := .ty "int") (by rfl) T.n_int (by decide +kernel) rfl) pa_nil))) (pe_one (pe_not (pe_callB call_isi (by rfl) T.n_isinstance (by decide +kernel) (pa_cons (pv 0) (pa_cons (pe_bltn (v := .ty "bool") (by rfl) T.n_bool (by decide +kernel) rfl) pa_nil)))))))), ?_⟩
    obtain ⟨x, rfl, hx, k⟩ := h
    obtain ⟨n, ht, h1, h2⟩ := thing_ty (K := K) hx
    walk_at "go"
    refine ⟨x, .ty "int", _, _, _, rfl, .ty _, ht, kit_ty h1, ?_⟩
    walk_at "go"
    refine g_iteB (fun c => ?_) (fun c => ?_)
    · walk_at "go"
      refine ⟨x, .ty "bool", _, _, _, rfl, .ty _, ht, kit_ty h2, ?_⟩
      refine ⟨_, rfl, ?_⟩
      cases e : isB x with
      | true => rw [isI_not e] at k; exact k
      | false => rw [e, Bool.or_false] at c; rw [c] at k; exact k
    · rw [(Bool.or_eq_false_iff.mp c).1] at k
      exact k
theorem ok_l_length (T : Txt K mg) : FnOk P w K mg base (L2.CX P w) 1 T.f_l_length T.fd_l_length ["_law_year", "_law_month"] (sp_l_length) := by
  refine T.F_l_length.okX sc_l_length (fun vs H Q E h => ?_) (fun cdv A outer s H vs Q E hr h => ?_)
  · first | (obtain ⟨_, rfl, _⟩ := h; rfl) | (obtain ⟨_, _, rfl, _⟩ := h; rfl) | (obtain ⟨_, _, _, rfl, _⟩ := h; rfl) | (obtain ⟨_, _, _, _, rfl, _⟩ := h; rfl) | (obtain ⟨_, _, _, _, _, rfl, _⟩ := h; rfl) | (obtain ⟨_, _, _, _, _, _, rfl, _⟩ := h; rfl) | (obtain ⟨_, _, _, _, _, _, _, rfl, _⟩ := h; rfl)
  · refine ⟨_, (pss_cons (ps_set (i := 2) sc_l_length.nd rfl (Or.inl rfl) (pe_ix ix_lt (pe_lst (pa_cons pe_int (pa_cons pe_int (pa_cons pe_int (pa_cons pe_int (pa_cons pe_int (pa_cons pe_int (pa_cons pe_int (pa_cons pe_int (pa_cons pe_int (pa_cons pe_int (pa_cons pe_int (pa_cons pe_int pa_nil))))))))))))) (pe_op op_sub (pv 1) pe_int) (fun _ _ => rfl)))
  (pss_cons (ps_set (i := 3) sc_l_length.nd rfl (Or.inl rfl) (pe_and (pe_cmpR (op_eqA hr.units) (pe_op op_mod (pv 0) pe_int) pe_int (nomark _)) (pe_one (pe_or (pe_cmpR op_gt (pe_op op_mod (pv 0) pe_int) pe_int (nomark _)) (pe_one (pe_cmpR (op_eqA hr.units) (pe_op op_mod (pv 0) pe_int) pe_int (nomark _)))))))
  (pss_cons (ps_if (PW.pt (pw_and (pt_cmpR (op_eqA hr.units) (pv 1) pe_int (nomark _)) (pw_and1 (pt_truth (pv 3) (by intro _; rfl)))))
  (pss_one (ps_ret pe_int))
  pss_nil)
  (pss_one (ps_ret (pv 2)))))), ?_⟩
    obtain ⟨y, m, rfl, h1, h2, k⟩ := h
    walk_at "go"
    refine ⟨by walk_at "sz", fun p hp => ?_⟩
    walk_at "go"
    refine r_ixL (xs := lens.map V.int) (SqL.of upd_same) (at_lens h1 h2) ?_
    have k' := k _ (same_new (o := .lst (lens.map V.int)) hp)
    refine g_seq ?_
    refine g_set ?_
    refine g_cut (.bl (leap y)) (fun Q' q => ?_) ?_
    · rw [← leap_eq] at q
      walk_at "go"
      refine g_ite (fun c => ?_) (fun c => ?_)
      · walk_at "go"
        refine g_ite (fun c2 => ?_) (fun c2 => ?_)
        · simp only [c, c2, decide_true, Bool.true_or, Bool.and_true] at q
          exact q
        · walk_at "go"
          simp only [c, c2, decide_true, decide_false, Bool.false_or, Bool.true_and] at q
          exact q
      · simp only [c, decide_false, Bool.false_and] at q
        exact q
    · walk_at "go"
      refine g_ite (fun c => ?_) (fun c => ?_)
      · walk_at "go"
        refine ⟨_, rfl, ?_⟩
        refine g_iteB (fun c2 => ?_) (fun c2 => ?_)
        · walk_at "go"
          rw [mlen, if_pos ⟨c, c2⟩] at k'
          exact k'
        · walk_at "go"
          rw [mlen, if_neg (fun z => by rw [c2] at z; exact Bool.false_ne_true z.2)] at k'
          exact k'
      · walk_at "go"
        rw [mlen, if_neg (fun z => c z.1)] at k'
        exact k'
theorem ok_l_refused (T : Txt K mg) : FnOk P w K mg base (L2.CX P w) 4 T.f_l_refused T.fd_l_refused ["_law_year", "_law_month"] (sp_l_refused) := by
  refine T.F_l_refused.okX sc_l_refused (fun vs H Q E h => ?_) (fun cdv A outer s H vs Q E hr h => ?_)
  · first | (obtain ⟨_, rfl, _⟩ := h; rfl) | (obtain ⟨_, _, rfl, _⟩ := h; rfl) | (obtain ⟨_, _, _, rfl, _⟩ := h; rfl) | (obtain ⟨_, _, _, _, rfl, _⟩ := h; rfl) | (obtain ⟨_, _, _, _, _, rfl, _⟩ := h; rfl) | (obtain ⟨_, _, _, _, _, _, rfl, _⟩ := h; rfl) | (obtain ⟨_, _, _, _, _, _, _, rfl, _⟩ := h; rfl)
  · refine ⟨_, (pss_cons (ps_try_as (i := 2) rfl rfl sc_l_refused.nd rfl rfl ⟨rfl, by decide, Or.inl T.g_RentError⟩ (takes_of rfl rfl rfl rfl)
  (fun W pn xe tk pas => (pss_one (ps_expr (pe_callS (ok_month_days T) hr (by rfl) T.g_month_days T.F_month_days.kp T.b_month_days (fun σ => passAt tk σ) (by exact (pa_cons (pv 0) (pa_cons (pv 1) pa_nil)))))))
  (fun a oe cls d pn hz hf => (pss_cons (ps_set (i := 3) sc_l_refused.nd rfl (Or.inl rfl) (pe_lst (pa_cons (pe_callB (call_isX hz hf) (by rfl) T.n_isinstance (by decide +kernel) (pa_cons (pv 2) (pa_cons (pe_glob (v := .ref T.c_BadAmount) (by rfl) T.g_BadAmount rfl) pa_nil))) (pa_cons (pe_callB (call_isX hz hf) (by rfl) T.n_isinstance (by decide +kernel) (pa_cons (pv 2) (pa_cons (pe_glob (v := .ref T.c_BadFlat) (by rfl) T.g_BadFlat rfl) pa_nil))) (pa_cons (pe_callB (call_isX hz hf) (by rfl) T.n_isinstance (by decide +kernel) (pa_cons (pv 2) (pa_cons (pe_glob (v := .ref T.c_Done) (by rfl) T.g_Done rfl) pa_nil))) (pa_cons (pe_callB (call_isX hz hf) (by rfl) T.n_isinstance (by decide +kernel) (pa_cons (pv 2) (pa_cons (pe_glob (v := .ref T.c_Full) (by rfl) T.g_Full rfl) pa_nil))) pa_nil))))))
  (pss_cons (ps_set (i := 3) sc_l_refused.nd rfl (Or.inl rfl) (pe_op op_plus (pv 3) (pe_lst (pa_cons (pe_callB (call_isX hz hf) (by rfl) T.n_isinstance (by decide +kernel) (pa_cons (pv 2) (pa_cons (pe_glob (v := .ref T.c_NoLease) (by rfl) T.g_NoLease rfl) pa_nil))) (pa_cons (pe_callB (call_isX hz hf) (by rfl) T.n_isinstance (by decide +kernel) (pa_cons (pv 2) (pa_cons (pe_glob (v := .ref T.c_Taken) (by rfl) T.g_Taken rfl) pa_nil))) pa_nil)))))
  (pss_one (ps_ret (pe_and (pe_callB (call_isX hz hf) (by rfl) T.n_isinstance (by decide +kernel) (pa_cons (pv 2) (pa_cons (pe_glob (v := .ref T.c_BadDay) (by rfl) T.g_BadDay rfl) pa_nil))) (pe_and (pe_callB (call_isX hz hf) (by rfl) T.n_isinstance (by decide +kernel) (pa_cons (pv 2) (pa_cons (pe_bltn (v := .ty "ValueError") (by rfl) T.n_ValueError (by decide +kernel) rfl) pa_nil))) (pe_one (pe_cmpR (show OpR _ (compareOp .NotIn) (rIn K true) from op_notIn_seq) pe_bl (pv 3) (by with_unfolding_all rfl)))))))))))
  (pss_one (ps_ret pe_bl))), ?_⟩
    obtain ⟨x, y, rfl, hx, hy, k⟩ := h
    walk_at "go"
    refine ⟨x, y, rfl, hx, hy, fun i m _ _ c => ?_, fun c => ?_⟩
    · walk_at "go"
      have k' := k H (Same.refl H)
      rw [c] at k'
      exact k'
    · have k' : ∀ H', Same H H' → Q (.bl true) H' := fun H' hs => by
        have q := k H' hs
        rw [c] at q
        exact q
      refine ⟨true, T.m_BadDay_RentError, fun _ a ha => ?_, fun q => Bool.noConfusion q⟩
      walk_at "go"
      refine ⟨_, rfl, rfl, T.e_BadDay, .ref T.c_BadAmount, .ref T.c_BadAmount, false, rfl, fun u r => r, T.q_BadDay_BadAmount, ?_⟩
      walk_at "go"
      refine ⟨_, rfl, rfl, T.e_BadDay, .ref T.c_BadFlat, .ref T.c_BadFlat, false, rfl, fun u r => r, T.q_BadDay_BadFlat, ?_⟩
      walk_at "go"
      refine ⟨_, rfl, rfl, T.e_BadDay, .ref T.c_Done, .ref T.c_Done, false, rfl, fun u r => r, T.q_BadDay_Done, ?_⟩
      walk_at "go"
      refine ⟨_, rfl, rfl, T.e_BadDay, .ref T.c_Full, .ref T.c_Full, false, rfl, fun u r => r, T.q_BadDay_Full, ?_⟩
      walk_at "go"
      refine ⟨by walk_at "sz", fun p hp => ?_⟩
      walk_at "go"
      refine ⟨_, rfl, rfl, T.e_BadDay, .ref T.c_NoLease, .ref T.c_NoLease, false, rfl, fun u r => r, T.q_BadDay_NoLease, ?_⟩
      walk_at "go"
      refine ⟨_, rfl, rfl, T.e_BadDay, .ref T.c_Taken, .ref T.c_Taken, false, rfl, fun u r => r, T.q_BadDay_Taken, ?_⟩
      walk_at "go"
      refine ⟨by walk_at "sz", fun p2 hp2 => ?_⟩
      walk_at "go"
      refine r_cat (by walk_at "lk") (by walk_at "lk") (by walk_at "sz") fun p3 hp3 => ?_
      walk_at "go"
      refine ⟨_, rfl, rfl, T.e_BadDay, .ref T.c_BadDay, .ref T.c_BadDay, true, rfl, fun u r => r, T.q_BadDay_BadDay, ?_⟩
      walk_at "go"
      refine ⟨_, rfl, rfl, T.e_BadDay, .ty "ValueError", .type "ValueError", true, rfl, fun u r => r, T.q_BadDay_ValueError, ?_⟩
      walk_at "go"
      refine ⟨p3, _, rfl, .inl (SqL.of upd_same), rfl, rfl, ?_⟩
      exact k' _ (by walk_at "sm")
theorem ok_law (T : Txt K mg) : FnOk P w K mg base (L2.CX P w) 5 T.f_law T.fd_law ["_law_script"] (sp_law K) := by
  refine T.F_law.okX sc_law (fun vs H Q E h => ?_) (fun cdv A outer s H vs Q E hr h => ?_)
  · first | (obtain ⟨_, rfl, _⟩ := h; rfl) | (obtain ⟨_, _, rfl, _⟩ := h; rfl) | (obtain ⟨_, _, _, rfl, _⟩ := h; rfl) | (obtain ⟨_, _, _, _, rfl, _⟩ := h; rfl) | (obtain ⟨_, _, _, _, _, rfl, _⟩ := h; rfl) | (obtain ⟨_, _, _, _, _, _, rfl, _⟩ := h; rfl) | (obtain ⟨_, _, _, _, _, _, _, rfl, _⟩ := h; rfl)
  · refine ⟨_, (pss_cons (ps_set (i := 1) sc_law.nd rfl (Or.inl rfl) (pe_op op_plus pe_int (pe_op op_mod (pe_callS (ok_l_cell_at T) (hr.mono (by decide)) (by rfl) T.g_l_cell_at T.F_l_cell_at.kp T.b_l_cell_at (fun σ => passAt (takes_of rfl rfl rfl rfl) σ) (by exact (pa_cons (pv 0) (pa_cons pe_int pa_nil)))) pe_int)))
  (pss_cons (ps_set (i := 2) sc_law.nd rfl (Or.inl rfl) (pe_op op_sub (pe_op op_mod (pe_callS (ok_l_cell_at T) (hr.mono (by decide)) (by rfl) T.g_l_cell_at T.F_l_cell_at.kp T.b_l_cell_at (fun σ => passAt (takes_of rfl rfl rfl rfl) σ) (by exact (pa_cons (pv 0) (pa_cons pe_int pa_nil)))) pe_int) pe_int))
  (pss_cons (ps_set (i := 3) sc_law.nd rfl (Or.inl rfl) (pe_callS (ok_l_cell_at T) (hr.mono (by decide)) (by rfl) T.g_l_cell_at T.F_l_cell_at.kp T.b_l_cell_at (fun σ => passAt (takes_of rfl rfl rfl rfl) σ) (by exact (pa_cons (pv 0) (pa_cons pe_int pa_nil)))))
  (Evl.pss_cut (ps_if (pt_cmpR op_gt (pe_op op_mod (pv 3) pe_int) pe_int (nomark _))
  (pss_cons (ps_set (i := 1) sc_law.nd rfl (Or.inl rfl) (pe_ix ix_lt (pe_lst (pa_cons pe_int (pa_cons pe_int (pa_cons pe_int (pa_cons pe_int (pa_cons pe_int (pa_cons pe_int (pa_cons pe_int (pa_cons pe_int pa_nil))))))))) (pe_op op_mod (pe_op op_fdiv (pv 3) pe_int) pe_int) (fun _ _ => rfl)))
  (pss_one (ps_set (i := 2) sc_law.nd rfl (Or.inl rfl) (pe_ix ix_lt (pe_lst (pa_cons pe_int (pa_cons pe_int (pa_cons pe_int (pa_cons pe_int (pa_cons pe_int (pa_cons pe_int pa_nil))))))) (pe_op op_mod (pe_op op_fdiv (pv 3) pe_int) pe_int) (fun _ _ => rfl)))))
  pss_nil)
  (pss_cons (ps_if (pt_not (pt_val (pe_callS (ok_l_refused T) hr (by rfl) T.g_l_refused T.F_l_refused.kp T.b_l_refused (fun σ => passAt (takes_of rfl rfl rfl rfl) σ) (by exact (pa_cons (pe_op op_plus pe_int (pe_op op_mod (pv 1) pe_int)) (pa_cons pe_bl pa_nil))))))
  (pss_one (ps_ret pe_bl))
  pss_nil)
  (pss_cons (ps_if (pt_cmpR (op_eqA hr.units) (pe_op op_mod (pv 3) pe_int) pe_int (nomark _))
  (pss_cons (ps_set (i := 4) sc_law.nd rfl (Or.inl rfl) (pe_ix ix_lt (pe_lst (pa_cons pe_bl (pa_cons pe_str (pa_cons pe_non (pa_cons (pe_tup (pa_cons pe_int pa_nil)) pa_nil))))) (pe_op op_mod (pe_op op_fdiv (pv 3) pe_int) pe_int) (fun _ _ => rfl)))
  (pss_cons (ps_if (pt_cmpR (op_eqA hr.units) (pe_op op_mod (pe_op op_fdiv (pv 3) pe_int) pe_int) pe_int (nomark _))
  (pss_one (ps_ret (pe_callS (ok_l_refused T) hr (by rfl) T.g_l_refused T.F_l_refused.kp T.b_l_refused (fun σ => passAt (takes_of rfl rfl rfl rfl) σ) (by exact (pa_cons (pv 4) (pa_cons (pe_op op_plus pe_int (pe_op op_mod (pv 2) pe_int)) pa_nil))))))
  pss_nil)
  (pss_one (ps_ret (pe_callS (ok_l_refused T) hr (by rfl) T.g_l_refused T.F_l_refused.kp T.b_l_refused (fun σ => passAt (takes_of rfl rfl rfl rfl) σ) (by exact (pa_cons (pe_op op_plus pe_int (pe_op op_mod (pv 1) pe_int)) (pa_cons (pv 4) pa_nil))))))))
  pss_nil)
  (pss_cons (ps_if (PW.pt (pw_or (pt_cmpR op_lt (pv 1) pe_int (nomark _)) (pw_or (pt_cmpR op_gt (pv 1) pe_int (nomark _)) (pw_or (pt_cmpR op_lt (pv 2) pe_int (nomark _)) (pw_or1 (pt_cmpR op_gt (pv 2) pe_int (nomark _)))))))
  (pss_one (ps_ret (pe_callS (ok_l_refused T) hr (by rfl) T.g_l_refused T.F_l_refused.kp T.b_l_refused (fun σ => passAt (takes_of rfl rfl rfl rfl) σ) (by exact (pa_cons (pv 1) (pa_cons (pv 2) pa_nil))))))
  pss_nil)
  (pss_cons (ps_set (i := 5) sc_law.nd rfl (Or.inl rfl) (pe_callS (ok_month_days T) (hr.mono (by decide)) (by rfl) T.g_month_days T.F_month_days.kp T.b_month_days (fun σ => passAt (takes_of rfl rfl rfl rfl) σ) (by exact (pa_cons (pv 1) (pa_cons (pv 2) pa_nil)))))
  (pss_one (ps_ret (pe_and (pe_callS (ok_l_whole T) (hr.mono (by decide)) (by rfl) T.g_l_whole T.F_l_whole.kp T.b_l_whole (fun σ => passAt (takes_of rfl rfl rfl rfl) σ) (by exact (pa_cons (pv 5) pa_nil))) (pe_one (pe_cmpR (op_eqA hr.units) (pv 5) (pe_callS (ok_l_length T) (hr.mono (by decide)) (by rfl) T.g_l_length T.F_l_length.kp T.b_l_length (fun σ => passAt (takes_of rfl rfl rfl rfl) σ) (by exact (pa_cons (pv 1) (pa_cons (pv 2) pa_nil)))) (nomark _)))))))))))))), ?_⟩
    obtain ⟨a, ns, rfl, hS, hlen, k⟩ := h
    walk_at "go"
    refine ⟨a, ns, _, rfl, hS, by decide, ?_⟩
    walk_at "go"
    refine ⟨a, ns, _, rfl, hS, by decide, ?_⟩
    walk_at "go"
    refine ⟨a, ns, _, rfl, hS, by decide, ?_⟩
    walk_at "go"
    refine g_tcut (fun σ' H' => ∃ y m, σ' = [some (.ref a), some (.int y), some (.int m), some (.int (cell ns 2)), none, none] ∧ Same H H') ?_ ?_
    · walk_at "go"
      refine g_ite (fun c => ?_) (fun c => ?_)
      · walk_at "go"
        refine ⟨by walk_at "sz", fun p hp => ?_⟩
        walk_at "go"
        refine r_ixL (SqL.of upd_same) (at_modI (ns := [1999, 2000, 2100, 2200, 2273, 2274, 2004, 2096]) _ (by decide) (by decide)) ?_
        walk_at "go"
        refine ⟨by walk_at "sz", fun p2 hp2 => ?_⟩
        walk_at "go"
        refine r_ixL (SqL.of upd_same) (at_modI (ns := [2, 2, 0, 13, 1, 12]) _ (by decide) (by decide)) ?_
        exact ⟨_, _, rfl, (same_new hp).trans (same_new hp2)⟩
      · walk_at "go"
        exact ⟨_, _, rfl, Same.refl H⟩
    · rintro σ' H' ⟨y, m, rfl, sm⟩
      walk_at "go"
      refine ⟨_, _, rfl, trivial, trivial, fun H1 s1 => ?_⟩
      have e1 : isdate (.int (2000 + y % 274)) (.bl true) = false := by simp [isdate, within]
      rw [e1]
      walk_at "go"
      refine g_F ?_
      walk_at "go"
      refine g_ite (fun c => ?_) (fun c => ?_)
      · walk_at "go"
        refine ⟨by walk_at "sz", fun p hp => ?_⟩
        walk_at "go"
        refine ⟨by walk_at "sz", fun p2 hp2 => ?_⟩
        walk_at "go"
        obtain ⟨v, hv, hat⟩ := at_modV (xs := [.bl true, .str "2", .non, .ref p]) (cell ns 2 / 6) (n := 4) rfl (by decide)
        refine r_ixL (SqL.of upd_same) hat ?_
        have hth : thing (upd (upd H1 p (.tup [.int 2])) p2 (.lst [.bl true, .str "2", .non, .ref p])) v := by
          simp only [List.mem_cons, List.not_mem_nil, or_false] at hv
          rcases hv with rfl | rfl | rfl | rfl
          · trivial
          · trivial
          · trivial
          · exact ⟨_, by walk_at "lk"⟩
        have hw : ∀ z : V, z ∈ ([.bl true, .str "2", .non, .ref p] : List V) → ∀ lo hi, within z lo hi = false := by
          intro z hz lo hi
          simp only [List.mem_cons, List.not_mem_nil, or_false] at hz
          rcases hz with rfl | rfl | rfl | rfl <;> rfl
        have w1 := hw v hv
        walk_at "go"
        refine g_ite (fun c2 => ?_) (fun c2 => ?_)
        · walk_at "go"
          refine ⟨_, _, rfl, hth, trivial, fun H2 _ => ?_⟩
          rw [isdate, w1]
          exact k _
        · walk_at "go"
          refine ⟨_, _, rfl, trivial, hth, fun H2 _ => ?_⟩
          rw [isdate, w1, Bool.and_false]
          exact k _
      · walk_at "gos"
        refine g_ifB (!isdate (.int y) (.int m)) (fun Q' q => ?_) (fun c2 => ?_) (fun c2 => ?_)
        · walk_at "go"
          refine g_ite (fun d => ?_) (fun d => ?_)
          · have e : isdate (.int y) (.int m) = false := by
              cases e : isdate (.int y) (.int m) with
              | false => rfl
              | true => simp only [isdate, within, Bool.and_eq_true, decide_eq_true_eq] at e; omega
            rw [e] at q; exact q
          · walk_at "go"
            refine g_ite (fun d2 => ?_) (fun d2 => ?_)
            · have e : isdate (.int y) (.int m) = false := by
                cases e : isdate (.int y) (.int m) with
                | false => rfl
                | true => simp only [isdate, within, Bool.and_eq_true, decide_eq_true_eq] at e; omega
              rw [e] at q; exact q
            · walk_at "go"
              refine g_ite (fun d3 => ?_) (fun d3 => ?_)
              · have e : isdate (.int y) (.int m) = false := by
                  cases e : isdate (.int y) (.int m) with
                  | false => rfl
                  | true => simp only [isdate, within, Bool.and_eq_true, decide_eq_true_eq] at e; omega
                rw [e] at q; exact q
              · walk_at "go"
                have e : (!isdate (.int y) (.int m)) = decide (12 < m) := by
                  have h1 : 2000 ≤ y := by omega
                  have h2 : y ≤ 2273 := by omega
                  have h3 : 1 ≤ m := by omega
                  by_cases h4 : m ≤ 12
                  · have h5 : ¬ 12 < m := by omega
                    simp [isdate, within, h1, h2, h3, h4, h5]
                  · have h5 : 12 < m := by omega
                    simp [isdate, within, h1, h2, h3, h4, h5]
                rw [e] at q; exact q
        · walk_at "go"
          refine ⟨_, _, rfl, trivial, trivial, fun H2 _ => ?_⟩
          rw [c2]
          exact k _
        · have c3 : isdate (.int y) (.int m) = true := by simpa using c2
          have c4 := c3
          simp only [isdate, within, Bool.and_eq_true, decide_eq_true_eq] at c4
          walk_at "go"
          refine ⟨_, _, rfl, trivial, trivial, fun i m' hi hm _ => ?_, fun z => ?_⟩
          · cases hi
            cases hm
            walk_at "go"
            refine ⟨_, rfl, trivial, ?_⟩
            walk_at "go"
            refine g_T ?_
            walk_at "go"
            refine ⟨_, _, rfl, c4.2.1, c4.2.2, fun H2 _ => ?_⟩
            walk_at "go"
            have e : decide (mlen y m = mlen y m) = true := decide_eq_true rfl
            rw [e]
            exact k _
          · rw [c3] at z
            cases z
end
theorem all_mk {P : Program} {w : World} {K : PySem.W.Frag} {h : Heap} {mg : Str → Option Value} {fa : Addr} (X : K.In h) (G : h.Ns mainGlobals mg) (hfa : mg "law" = some (.ref fa))
    {c_RentError : Addr}
    {c_BadDay : Addr}
    {c_BadFlat : Addr}
    {c_BadAmount : Addr}
    {c_NoLease : Addr}
    {c_Taken : Addr}
    {c_Full : Addr}
    {c_Done : Addr}
    {f_is_whole : Addr} {od_is_whole an_is_whole : Option Addr} {sl_is_whole : Array (Option Value)} {oc_is_whole kV_is_whole dc_is_whole pm_is_whole cd_is_whole ct_is_whole : Value}
    {f_is_within : Addr} {od_is_within an_is_within : Option Addr} {sl_is_within : Array (Option Value)} {oc_is_within kV_is_within dc_is_within pm_is_within cd_is_within ct_is_within : Value}
    {f_month_days : Addr} {od_month_days an_month_days : Option Addr} {sl_month_days : Array (Option Value)} {oc_month_days kV_month_days dc_month_days pm_month_days cd_month_days ct_month_days : Value}
    {f_is_leap : Addr} {od_is_leap an_is_leap : Option Addr} {sl_is_leap : Array (Option Value)} {oc_is_leap kV_is_leap dc_is_leap pm_is_leap cd_is_leap ct_is_leap : Value}
    {f_length : Addr} {od_length an_length : Option Addr} {sl_length : Array (Option Value)} {oc_length kV_length dc_length pm_length cd_length ct_length : Value}
    {f_l_cell_at : Addr} {od_l_cell_at an_l_cell_at : Option Addr} {sl_l_cell_at : Array (Option Value)} {oc_l_cell_at kV_l_cell_at dc_l_cell_at pm_l_cell_at cd_l_cell_at ct_l_cell_at : Value}
    {f_l_whole : Addr} {od_l_whole an_l_whole : Option Addr} {sl_l_whole : Array (Option Value)} {oc_l_whole kV_l_whole dc_l_whole pm_l_whole cd_l_whole ct_l_whole : Value}
    {f_l_length : Addr} {od_l_length an_l_length : Option Addr} {sl_l_length : Array (Option Value)} {oc_l_length kV_l_length dc_l_length pm_l_length cd_l_length ct_l_length : Value}
    {f_l_refused : Addr} {od_l_refused an_l_refused : Option Addr} {sl_l_refused : Array (Option Value)} {oc_l_refused kV_l_refused dc_l_refused pm_l_refused cd_l_refused ct_l_refused : Value}
    {f_law : Addr} {od_law an_law : Option Addr} {sl_law : Array (Option Value)} {oc_law kV_law dc_law pm_law cd_law ct_law : Value}
    {tk_FIRST_YEAR : Tok}
    {tk_LAST_YEAR : Tok}
    {o_LENGTHS : Addr} {t0_LENGTHS t1_LENGTHS t2_LENGTHS t3_LENGTHS t4_LENGTHS t5_LENGTHS t6_LENGTHS t7_LENGTHS t8_LENGTHS t9_LENGTHS t10_LENGTHS t11_LENGTHS : Tok} {dd_LENGTHS : Option Addr} {nn_LENGTHS : Nat} {ss_LENGTHS : Array (Option Value)}
    (a_RentError : PySem.W.nsIn K mainGlobals "RentError" = some (some (.ref c_RentError)))
    (a_BadDay : PySem.W.nsIn K mainGlobals "BadDay" = some (some (.ref c_BadDay)))
    (a_BadFlat : PySem.W.nsIn K mainGlobals "BadFlat" = some (some (.ref c_BadFlat)))
    (a_BadAmount : PySem.W.nsIn K mainGlobals "BadAmount" = some (some (.ref c_BadAmount)))
    (a_NoLease : PySem.W.nsIn K mainGlobals "NoLease" = some (some (.ref c_NoLease)))
    (a_Taken : PySem.W.nsIn K mainGlobals "Taken" = some (some (.ref c_Taken)))
    (a_Full : PySem.W.nsIn K mainGlobals "Full" = some (some (.ref c_Full)))
    (a_Done : PySem.W.nsIn K mainGlobals "Done" = some (some (.ref c_Done)))
    (a_is_whole : PySem.W.nsIn K mainGlobals "is_whole" = some (some (.ref f_is_whole)))
    (l_is_whole : K.lookup f_is_whole = some ⟨oc_is_whole, od_is_whole, .func (PySem.W.fnOf "is_whole" "is_whole" (defArgs s_is_whole) (defBody s_is_whole) (defScope s_is_whole) .none kV_is_whole dc_is_whole pm_is_whole an_is_whole cd_is_whole ct_is_whole), sl_is_whole⟩)
    (cc_is_whole : PySem.W.codeIn K cd_is_whole "is_whole" = true)
    (k_is_whole : PySem.W.keepIn K (.ref f_is_whole) = true)
    (a_is_within : PySem.W.nsIn K mainGlobals "is_within" = some (some (.ref f_is_within)))
    (l_is_within : K.lookup f_is_within = some ⟨oc_is_within, od_is_within, .func (PySem.W.fnOf "is_within" "is_within" (defArgs s_is_within) (defBody s_is_within) (defScope s_is_within) .none kV_is_within dc_is_within pm_is_within an_is_within cd_is_within ct_is_within), sl_is_within⟩)
    (cc_is_within : PySem.W.codeIn K cd_is_within "is_within" = true)
    (k_is_within : PySem.W.keepIn K (.ref f_is_within) = true)
    (a_month_days : PySem.W.nsIn K mainGlobals "month_days" = some (some (.ref f_month_days)))
    (l_month_days : K.lookup f_month_days = some ⟨oc_month_days, od_month_days, .func (PySem.W.fnOf "month_days" "month_days" (defArgs s_month_days) (defBody s_month_days) (defScope s_month_days) .none kV_month_days dc_month_days pm_month_days an_month_days cd_month_days ct_month_days), sl_month_days⟩)
    (cc_month_days : PySem.W.codeIn K cd_month_days "month_days" = true)
    (k_month_days : PySem.W.keepIn K (.ref f_month_days) = true)
    (a_is_leap : PySem.W.nsIn K mainGlobals "_is_leap" = some (some (.ref f_is_leap)))
    (l_is_leap : K.lookup f_is_leap = some ⟨oc_is_leap, od_is_leap, .func (PySem.W.fnOf "_is_leap" "_is_leap" (defArgs s_is_leap) (defBody s_is_leap) (defScope s_is_leap) .none kV_is_leap dc_is_leap pm_is_leap an_is_leap cd_is_leap ct_is_leap), sl_is_leap⟩)
    (cc_is_leap : PySem.W.codeIn K cd_is_leap "_is_leap" = true)
    (k_is_leap : PySem.W.keepIn K (.ref f_is_leap) = true)
    (a_length : PySem.W.nsIn K mainGlobals "_length" = some (some (.ref f_length)))
    (l_length : K.lookup f_length = some ⟨oc_length, od_length, .func (PySem.W.fnOf "_length" "_length" (defArgs s_length) (defBody s_length) (defScope s_length) .none kV_length dc_length pm_length an_length cd_length ct_length), sl_length⟩)
    (cc_length : PySem.W.codeIn K cd_length "_length" = true)
    (k_length : PySem.W.keepIn K (.ref f_length) = true)
    (a_l_cell_at : PySem.W.nsIn K mainGlobals "_law_cell_at" = some (some (.ref f_l_cell_at)))
    (l_l_cell_at : K.lookup f_l_cell_at = some ⟨oc_l_cell_at, od_l_cell_at, .func (PySem.W.fnOf "_law_cell_at" "_law_cell_at" (defArgs s_l_cell_at) (defBody s_l_cell_at) (defScope s_l_cell_at) .none kV_l_cell_at dc_l_cell_at pm_l_cell_at an_l_cell_at cd_l_cell_at ct_l_cell_at), sl_l_cell_at⟩)
    (cc_l_cell_at : PySem.W.codeIn K cd_l_cell_at "_law_cell_at" = true)
    (k_l_cell_at : PySem.W.keepIn K (.ref f_l_cell_at) = true)
    (a_l_whole : PySem.W.nsIn K mainGlobals "_law_whole" = some (some (.ref f_l_whole)))
    (l_l_whole : K.lookup f_l_whole = some ⟨oc_l_whole, od_l_whole, .func (PySem.W.fnOf "_law_whole" "_law_whole" (defArgs s_l_whole) (defBody s_l_whole) (defScope s_l_whole) .none kV_l_whole dc_l_whole pm_l_whole an_l_whole cd_l_whole ct_l_whole), sl_l_whole⟩)
    (cc_l_whole : PySem.W.codeIn K cd_l_whole "_law_whole" = true)
    (k_l_whole : PySem.W.keepIn K (.ref f_l_whole) = true)
    (a_l_length : PySem.W.nsIn K mainGlobals "_law_length" = some (some (.ref f_l_length)))
    (l_l_length : K.lookup f_l_length = some ⟨oc_l_length, od_l_length, .func (PySem.W.fnOf "_law_length" "_law_length" (defArgs s_l_length) (defBody s_l_length) (defScope s_l_length) .none kV_l_length dc_l_length pm_l_length an_l_length cd_l_length ct_l_length), sl_l_length⟩)
    (cc_l_length : PySem.W.codeIn K cd_l_length "_law_length" = true)
    (k_l_length : PySem.W.keepIn K (.ref f_l_length) = true)
    (a_l_refused : PySem.W.nsIn K mainGlobals "_law_refused" = some (some (.ref f_l_refused)))
    (l_l_refused : K.lookup f_l_refused = some ⟨oc_l_refused, od_l_refused, .func (PySem.W.fnOf "_law_refused" "_law_refused" (defArgs s_l_refused) (defBody s_l_refused) (defScope s_l_refused) .none kV_l_refused dc_l_refused pm_l_refused an_l_refused cd_l_refused ct_l_refused), sl_l_refused⟩)
    (cc_l_refused : PySem.W.codeIn K cd_l_refused "_law_refused" = true)
    (k_l_refused : PySem.W.keepIn K (.ref f_l_refused) = true)
    (a_law : PySem.W.nsIn K mainGlobals "law" = some (some (.ref f_law)))
    (l_law : K.lookup f_law = some ⟨oc_law, od_law, .func (PySem.W.fnOf "law" "law" (defArgs s_law) (defBody s_law) (defScope s_law) .none kV_law dc_law pm_law an_law cd_law ct_law), sl_law⟩)
    (cc_law : PySem.W.codeIn K cd_law "law" = true)
    (k_law : PySem.W.keepIn K (.ref f_law) = true)
    (x_BadDay : PySem.W.excIn K c_BadDay [.type "ValueError", .type "Exception", .type "BaseException", .type "object"] "ValueError.__new__" = true)
    (k_BadDay : PySem.W.keepIn K (.ref c_BadDay) = true)
    (s_BadDay : PySem.W.subIn K (.ref c_BadDay) (.type "BaseException") = some true)
    (t_BadDay : PySem.W.typeIn K (.ref c_BadDay) = some (.type "type"))
    (cs_RentError : PySem.W.subIn K (.ref c_RentError) (.type "BaseException") = some true)
    (cd_RentError : PySem.W.hasDictIn K c_RentError = true)
    (ct_RentError : PySem.W.typeIn K (.ref c_RentError) = some (.type "type"))
    (m_BadDay_RentError : PySem.W.subIn K (.ref c_BadDay) (.ref c_RentError) = some true)
    (eg_BadDay : PySem.W.findIn K (.ref c_BadDay) "__getattribute__" = some (some (.builtin "BaseException.__getattribute__")))
    (ek_BadDay : PySem.W.findIn K (.ref c_BadDay) "__getattr__" = some none)
    (ed_BadDay : PySem.W.hasDictIn K c_BadDay = true)
    (ea_BadDay : PySem.W.findIn K (.ref c_BadDay) "__class__" = some (some (.builtin "object.__class__")))
    (em_BadDay : PySem.W.mroIn K c_BadDay (.type "object") = some true)
    (q_BadDay_BadAmount : PySem.W.kitOne K (.ref c_BadDay) (.ref c_BadAmount) = some false)
    (q_BadDay_BadFlat : PySem.W.kitOne K (.ref c_BadDay) (.ref c_BadFlat) = some false)
    (q_BadDay_Done : PySem.W.kitOne K (.ref c_BadDay) (.ref c_Done) = some false)
    (q_BadDay_Full : PySem.W.kitOne K (.ref c_BadDay) (.ref c_Full) = some false)
    (q_BadDay_BadDay : PySem.W.kitOne K (.ref c_BadDay) (.ref c_BadDay) = some true)
    (q_BadDay_ValueError : PySem.W.kitOne K (.ref c_BadDay) (.type "ValueError") = some true)
    (q_BadDay_NoLease : PySem.W.kitOne K (.ref c_BadDay) (.ref c_NoLease) = some false)
    (q_BadDay_Taken : PySem.W.kitOne K (.ref c_BadDay) (.ref c_Taken) = some false)
    (en_ : PySem.W.specialIn K (.builtin "object.__class__") "__get__" = some (some (.builtin "getset_descriptor.__get__")))
    (et_ : PySem.W.takesIn K (.builtin "object.__class__") = some true)
    (a_FIRST_YEAR : PySem.W.nsIn K mainGlobals "FIRST_YEAR" = some (some (.int 2000 tk_FIRST_YEAR)))
    (a_LAST_YEAR : PySem.W.nsIn K mainGlobals "LAST_YEAR" = some (some (.int 2273 tk_LAST_YEAR)))
    (a_LENGTHS : PySem.W.nsIn K mainGlobals "LENGTHS" = some (some (.ref o_LENGTHS)))
    (l_LENGTHS : K.lookup o_LENGTHS = some ⟨.type "tuple", dd_LENGTHS, .seq #[(.int 31 t0_LENGTHS), (.int 28 t1_LENGTHS), (.int 31 t2_LENGTHS), (.int 30 t3_LENGTHS), (.int 31 t4_LENGTHS), (.int 30 t5_LENGTHS), (.int 31 t6_LENGTHS), (.int 31 t7_LENGTHS), (.int 30 t8_LENGTHS), (.int 31 t9_LENGTHS), (.int 30 t10_LENGTHS), (.int 31 t11_LENGTHS)] nn_LENGTHS, ss_LENGTHS⟩)
    (z_isinstance : PySem.W.nsIn K mainGlobals "isinstance" = some none)
    (z_int : PySem.W.nsIn K mainGlobals "int" = some none)
    (z_bool : PySem.W.nsIn K mainGlobals "bool" = some none)
    (z_len : PySem.W.nsIn K mainGlobals "len" = some none)
    (z_ValueError : PySem.W.nsIn K mainGlobals "ValueError" = some none)
    : ∃ fd : FuncData, (∀ (s : Shared) (v : Value), BindsTo s fd ⟨[v], []⟩ [("_law_script", v)]) ∧ ∀ base : Heap, K.In base → base.Ns mainGlobals mg → FnOk P w K mg base (L2.CX P w) 5 fa fd ["_law_script"] (sp_law K) := by
  have e : fa = f_law := Value.ref.inj (Option.some.inj (hfa.symm.trans (PySem.W.mg_of X G a_law)))
  rw [e]
  have F_is_whole := fun_mk (st := s_is_whole) l_is_whole cc_is_whole k_is_whole
  have F_is_within := fun_mk (st := s_is_within) l_is_within cc_is_within k_is_within
  have F_month_days := fun_mk (st := s_month_days) l_month_days cc_month_days k_month_days
  have F_is_leap := fun_mk (st := s_is_leap) l_is_leap cc_is_leap k_is_leap
  have F_length := fun_mk (st := s_length) l_length cc_length k_length
  have F_l_cell_at := fun_mk (st := s_l_cell_at) l_l_cell_at cc_l_cell_at k_l_cell_at
  have F_l_whole := fun_mk (st := s_l_whole) l_l_whole cc_l_whole k_l_whole
  have F_l_length := fun_mk (st := s_l_length) l_l_length cc_l_length k_l_length
  have F_l_refused := fun_mk (st := s_l_refused) l_l_refused cc_l_refused k_l_refused
  have F_law := fun_mk (st := s_law) l_law cc_law k_law
  let T : Txt K mg := {
    f_is_whole := f_is_whole,
    fd_is_whole := _,
    F_is_whole := F_is_whole,
    b_is_whole := F_is_whole.binds (ps := ["thing"]) fun _ _ _ _ _ _ us hl => match us, hl with | [_], _ => rfl,
    g_is_whole := PySem.W.mg_of X G a_is_whole,
    f_is_within := f_is_within,
    fd_is_within := _,
    F_is_within := F_is_within,
    b_is_within := F_is_within.binds (ps := ["thing", "low", "high"]) fun _ _ _ _ _ _ us hl => match us, hl with | [_, _, _], _ => rfl,
    g_is_within := PySem.W.mg_of X G a_is_within,
    f_month_days := f_month_days,
    fd_month_days := _,
    F_month_days := F_month_days,
    b_month_days := F_month_days.binds (ps := ["year", "month"]) fun _ _ _ _ _ _ us hl => match us, hl with | [_, _], _ => rfl,
    g_month_days := PySem.W.mg_of X G a_month_days,
    f_is_leap := f_is_leap,
    fd_is_leap := _,
    F_is_leap := F_is_leap,
    b_is_leap := F_is_leap.binds (ps := ["year"]) fun _ _ _ _ _ _ us hl => match us, hl with | [_], _ => rfl,
    g_is_leap := PySem.W.mg_of X G a_is_leap,
    f_length := f_length,
    fd_length := _,
    F_length := F_length,
    b_length := F_length.binds (ps := ["year", "month"]) fun _ _ _ _ _ _ us hl => match us, hl with | [_, _], _ => rfl,
    g_length := PySem.W.mg_of X G a_length,
    f_l_cell_at := f_l_cell_at,
    fd_l_cell_at := _,
    F_l_cell_at := F_l_cell_at,
    b_l_cell_at := F_l_cell_at.binds (ps := ["_law_script", "_law_k"]) fun _ _ _ _ _ _ us hl => match us, hl with | [_, _], _ => rfl,
    g_l_cell_at := PySem.W.mg_of X G a_l_cell_at,
    f_l_whole := f_l_whole,
    fd_l_whole := _,
    F_l_whole := F_l_whole,
    b_l_whole := F_l_whole.binds (ps := ["_law_found"]) fun _ _ _ _ _ _ us hl => match us, hl with | [_], _ => rfl,
    g_l_whole := PySem.W.mg_of X G a_l_whole,
    f_l_length := f_l_length,
    fd_l_length := _,
    F_l_length := F_l_length,
    b_l_length := F_l_length.binds (ps := ["_law_year", "_law_month"]) fun _ _ _ _ _ _ us hl => match us, hl with | [_, _], _ => rfl,
    g_l_length := PySem.W.mg_of X G a_l_length,
    f_l_refused := f_l_refused,
    fd_l_refused := _,
    F_l_refused := F_l_refused,
    b_l_refused := F_l_refused.binds (ps := ["_law_year", "_law_month"]) fun _ _ _ _ _ _ us hl => match us, hl with | [_, _], _ => rfl,
    g_l_refused := PySem.W.mg_of X G a_l_refused,
    f_law := f_law,
    fd_law := _,
    F_law := F_law,
    b_law := F_law.binds (ps := ["_law_script"]) fun _ _ _ _ _ _ us hl => match us, hl with | [_], _ => rfl,
    g_law := PySem.W.mg_of X G a_law,
    c_RentError := c_RentError,
    g_RentError := PySem.W.mg_of X G a_RentError,
    c_BadDay := c_BadDay,
    g_BadDay := PySem.W.mg_of X G a_BadDay,
    c_BadFlat := c_BadFlat,
    g_BadFlat := PySem.W.mg_of X G a_BadFlat,
    c_BadAmount := c_BadAmount,
    g_BadAmount := PySem.W.mg_of X G a_BadAmount,
    c_NoLease := c_NoLease,
    g_NoLease := PySem.W.mg_of X G a_NoLease,
    c_Taken := c_Taken,
    g_Taken := PySem.W.mg_of X G a_Taken,
    c_Full := c_Full,
    g_Full := PySem.W.mg_of X G a_Full,
    c_Done := c_Done,
    g_Done := PySem.W.mg_of X G a_Done,
    x_BadDay := x_BadDay,
    k_BadDay := k_BadDay,
    s_BadDay := s_BadDay,
    t_BadDay := t_BadDay,
    m_BadDay_RentError := PySem.W.exm_ref cs_RentError cd_RentError ct_RentError m_BadDay_RentError,
    e_BadDay := ⟨eg_BadDay, ek_BadDay, s_BadDay, ed_BadDay, ea_BadDay, en_, et_, em_BadDay⟩,
    q_BadDay_BadAmount := q_BadDay_BadAmount,
    q_BadDay_BadFlat := q_BadDay_BadFlat,
    q_BadDay_Done := q_BadDay_Done,
    q_BadDay_Full := q_BadDay_Full,
    q_BadDay_BadDay := q_BadDay_BadDay,
    q_BadDay_ValueError := q_BadDay_ValueError,
    q_BadDay_NoLease := q_BadDay_NoLease,
    q_BadDay_Taken := q_BadDay_Taken,
    tk_FIRST_YEAR := _,
    g_FIRST_YEAR := PySem.W.mg_of X G a_FIRST_YEAR,
    tk_LAST_YEAR := _,
    g_LAST_YEAR := PySem.W.mg_of X G a_LAST_YEAR,
    a_LENGTHS := o_LENGTHS,
    g_LENGTHS := PySem.W.mg_of X G a_LENGTHS,
    q_LENGTHS := fun H => .inr ⟨_, _, _, l_LENGTHS, rfl, rfl, Nat.le_of_ble_eq_true rfl, .cons ⟨_, rfl⟩ (.cons ⟨_, rfl⟩ (.cons ⟨_, rfl⟩ (.cons ⟨_, rfl⟩ (.cons ⟨_, rfl⟩ (.cons ⟨_, rfl⟩ (.cons ⟨_, rfl⟩ (.cons ⟨_, rfl⟩ (.cons ⟨_, rfl⟩ (.cons ⟨_, rfl⟩ (.cons ⟨_, rfl⟩ (.cons ⟨_, rfl⟩ (.nil))))))))))))⟩,
    n_isinstance := PySem.W.mg_none_of X G z_isinstance,
    n_int := PySem.W.mg_none_of X G z_int,
    n_bool := PySem.W.mg_none_of X G z_bool,
    n_len := PySem.W.mg_none_of X G z_len,
    n_ValueError := PySem.W.mg_none_of X G z_ValueError
  }
  exact ⟨PySem.W.fnOf "law" "law" (defArgs s_law) (defBody s_law) (defScope s_law) .none kV_law dc_law pm_law an_law cd_law ct_law, fun s v => .of_eq rfl, fun base _ _ => ok_law T⟩
theorem walk {l : PySem.W.OpenLaw} {q : Program} {loose : List Str} {XP : (Str → Option Value) → Heap → Prop} {YP : World → Heap → Prop} {d : DefRec} {K : Params → PySem.W.Frag} (hn : l.most = some 63) (hdf : d.params.defaults = [])
    (hY : ∀ (w : World) (h : Heap), YP w h → (K w.params).In h)
    (F : ∀ (w : World) (mg : Str → Option Value) (fa : Addr) (h : Heap), (K w.params).In h → h.Ns mainGlobals mg → mg d.name = some (.ref fa) →
      ∃ fd : FuncData, (∀ (s : Shared) (u : Value), BindsTo s fd ⟨[u], []⟩ [("_law_script", u)]) ∧ ∀ base : Heap, (K w.params).In base → base.Ns mainGlobals mg → FnOk l.prog w (K w.params) mg base (L2.CX l.prog w) 5 fa fd ["_law_script"] (sp_law (K w.params))) :
    PySem.W.WalkO q loose XP YP l.row.toRowW d [] (fun f vs => PySem.call f vs) :=
  L2.walk_of (n := 63) (k := 5) (x := "_law_script") (CX := fun w => L2.CX l.prog w) (sp := fun w => sp_law (K w.params)) hn (by decide) hdf ⟨rfl, by decide, by decide⟩ hY F (fun _ _ a ns hl _ hS => ⟨a, ns, rfl, hS, hl, fun _ => rfl⟩)
    fun _ _ _ _ _ ⟨_, _, _, _, _, _, _, _, _, _, _, _, z⟩ => z
end NS
open PySem PySem.W PyProof.Rows in
set_option maxRecDepth 100000 in
set_option maxHeartbeats 0 in
theorem PySem.Challenge.cw_rentroll_k01_months_long_holds : PySem.Challenge.rw_rentroll_k01_months_long.Holds := by
  w_on; o_law; k_head; (case hw => w_witness2)
  k_fill
  refine NS.walk (l := PySem.Challenge.rw_rentroll_k01_months_long) rfl rfl (fun w h Y => PySem.W.kIn_of Y) ?F
  case F =>
    intro w mg fa h KX G hmg
    refine' NS.all_mk KX G hmg ?a_RentError ?a_BadDay ?a_BadFlat ?a_BadAmount ?a_NoLease ?a_Taken ?a_Full ?a_Done ?a_is_whole ?l_is_whole ?cc_is_whole ?k_is_whole ?a_is_within ?l_is_within ?cc_is_within ?k_is_within ?a_month_days ?l_month_days ?cc_month_days ?k_month_days ?a_is_leap ?l_is_leap ?cc_is_leap ?k_is_leap ?a_length ?l_length ?cc_length ?k_length ?a_l_cell_at ?l_l_cell_at ?cc_l_cell_at ?k_l_cell_at ?a_l_whole ?l_l_whole ?cc_l_whole ?k_l_whole ?a_l_length ?l_l_length ?cc_l_length ?k_l_length ?a_l_refused ?l_l_refused ?cc_l_refused ?k_l_refused ?a_law ?l_law ?cc_law ?k_law ?x_BadDay ?k_BadDay ?s_BadDay ?t_BadDay ?cs_RentError ?cd_RentError ?ct_RentError ?m_BadDay_RentError ?eg_BadDay ?ek_BadDay ?ed_BadDay ?ea_BadDay ?em_BadDay ?q_BadDay_BadAmount ?q_BadDay_BadFlat ?q_BadDay_Done ?q_BadDay_Full ?q_BadDay_BadDay ?q_BadDay_ValueError ?q_BadDay_NoLease ?q_BadDay_Taken ?en_ ?et_ ?a_FIRST_YEAR ?a_LAST_YEAR ?a_LENGTHS ?l_LENGTHS ?z_isinstance ?z_int ?z_bool ?z_len ?z_ValueError
    (case a_RentError => k_is)
    (case a_BadDay => k_is)
    (case a_BadFlat => k_is)
    (case a_BadAmount => k_is)
    (case a_NoLease => k_is)
    (case a_Taken => k_is)
    (case a_Full => k_is)
    (case a_Done => k_is)
    (case a_is_whole => k_is)
    (case l_is_whole => k_is)
    (case cc_is_whole => k_is)
    (case k_is_whole => k_is)
    (case a_is_within => k_is)
    (case l_is_within => k_is)
    (case cc_is_within => k_is)
    (case k_is_within => k_is)
    (case a_month_days => k_is)
    (case l_month_days => k_is)
    (case cc_month_days => k_is)
    (case k_month_days => k_is)
    (case a_is_leap => k_is)
    (case l_is_leap => k_is)
    (case cc_is_leap => k_is)
    (case k_is_leap => k_is)
    (case a_length => k_is)
    (case l_length => k_is)
    (case cc_length => k_is)
    (case k_length => k_is)
    (case a_l_cell_at => k_is)
    (case l_l_cell_at => k_is)
    (case cc_l_cell_at => k_is)
    (case k_l_cell_at => k_is)
    (case a_l_whole => k_is)
    (case l_l_whole => k_is)
    (case cc_l_whole => k_is)
    (case k_l_whole => k_is)
    (case a_l_length => k_is)
    (case l_l_length => k_is)
    (case cc_l_length => k_is)
    (case k_l_length => k_is)
    (case a_l_refused => k_is)
    (case l_l_refused => k_is)
    (case cc_l_refused => k_is)
    (case k_l_refused => k_is)
    (case a_law => k_is)
    (case l_law => k_is)
    (case cc_law => k_is)
    (case k_law => k_is)
    (case x_BadDay => k_exc)
    (case k_BadDay => k_is)
    (case s_BadDay => k_is)
    (case t_BadDay => k_is)
    (case cs_RentError => k_is)
    (case cd_RentError => k_is)
    (case ct_RentError => k_is)
    (case m_BadDay_RentError => first | rfl | k_is)
    (case eg_BadDay => k_is)
    (case ek_BadDay => k_is)
    (case ed_BadDay => k_is)
    (case ea_BadDay => k_is)
    (case em_BadDay => k_is)
    (case q_BadDay_BadAmount => first | rfl | k_is)
    (case q_BadDay_BadFlat => first | rfl | k_is)
    (case q_BadDay_Done => first | rfl | k_is)
    (case q_BadDay_Full => first | rfl | k_is)
    (case q_BadDay_BadDay => first | rfl | k_is)
    (case q_BadDay_ValueError => first | rfl | k_is)
    (case q_BadDay_NoLease => first | rfl | k_is)
    (case q_BadDay_Taken => first | rfl | k_is)
    (case en_ => k_is)
    (case et_ => k_is)
    (case a_FIRST_YEAR => k_is)
    (case a_LAST_YEAR => k_is)
    (case a_LENGTHS => k_is)
    (case l_LENGTHS => k_is)
    (case z_isinstance => k_is)
    (case z_int => k_is)
    (case z_bool => k_is)
    (case z_len => k_is)
    (case z_ValueError => k_is)
#print axioms PySem.Challenge.cw_rentroll_k01_months_long_holds
