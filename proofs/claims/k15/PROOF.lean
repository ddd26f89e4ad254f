import PyProof.Rows.All
import Wide.All
import OpenK.AllK
import Wide.FinOn
import HandS.ForMost
import HandS.ForExc
import HandS.IsInst
import HandS.ExcIs
import HandS.Wide
import HandS.Evl
import HandS.DictTup
import HandS.SortRule
import HandS.SortInts
import HandS.Rev
import HandS.Style
import HandS.AnyAll
import HandS.EndTab
import HandS.FStr
import HandS.RaiseMore
import HandS.TryMany
import HandS.Codes
import HandS.SetKeys
import HandS.Walk
import KE.KDictWalk
import PyProof.RulesMatchSeq
import PyProof.Rows.MatchSeqLen
import PySem.Challenge.RW_rentroll_k15_letters_again
set_option Elab.async false
set_option linter.all false
set_option maxRecDepth 100000
set_option maxHeartbeats 2000000
namespace My
open PySem PySem.Spec PyProof.Rows L2
/-! ### rules of two kinds at once -/
section
variable {X : Cx}
def rPlus : R2 := fun x y H Q => rI0 (fun i j => .int (i + j)) x y H Q ∨ rCat x y H Q
theorem op_plus : OpR X (binaryOp .Add) rPlus := op_add.or op_cat
def rIx2 (K : PySem.W.Frag) : R2 := fun x y H Q => rIxL K x y H Q ∨ rIxT K x y H Q
theorem ix_lt : IxR X (rIx2 X.K) := ix_list.or ix_tup
def rEqA (K : PySem.W.Frag) : R2 := fun x y H Q => rEq x y H Q ∨ rEqD K x y H Q
def rNeA (K : PySem.W.Frag) : R2 := fun x y H Q => rNe x y H Q ∨ rNeD K x y H Q
theorem op_eqA (hu : X.A.units + 64 < cLine) : OpR X (compareOp .Eq) (rEqA X.K) := op_eq.or (op_eqD hu)
theorem op_neA (hu : X.A.units + 64 < cLine) : OpR X (compareOp .NotEq) (rNeA X.K) := op_ne.or (op_neD hu)
def rIsN : R2 := fun x y H Q => y = .non ∧ Q (.bl (decide (x = .non))) H
def rNotN : R2 := fun x y H Q => y = .non ∧ Q (.bl (!decide (x = .non))) H
theorem op_isA : OpR X (compareOp .Is) rIsN := op_isN
theorem op_isnotA : OpR X (compareOp .IsNot) rNotN := op_notN
def iLT (K : PySem.W.Frag) (tl : TE) : TI := fun σ H R => iList K tl σ H R ∨ iTup K tl σ H R
theorem pi_lt {tg l : Expr} {tl : TE} (hl : PE X l tl) : PI X tg l (iLT X.K tl) :=
  ⟨fun pins s σ H R I h => h.elim ((pi_list hl).run pins s σ H R I) ((pi_tup hl).run pins s σ H R I)⟩
def rLen (K : PySem.W.Frag) : List V → Hp → VK → Prop := fun xs H Q => ∃ p ys, xs = [.ref p] ∧ (SqL K H p ys ∨ SqT K H p ys) ∧ Q (.int ys.length) H
theorem call_lenA : CallR X (.builtin "len") (rLen X.K) := call_len_seq
def rListOf (K : PySem.W.Frag) : List V → Hp → VK → Prop := fun xs H Q => ∃ p ys, xs = [.ref p] ∧ (SqL K H p ys ∨ SqT K H p ys) ∧ ∀ l, H l = none → Q (.ref l) (upd H l (.lst ys))
theorem call_listA : CallR X (.type "list") (rListOf X.K) := call_list_of
/-- isinstance(e, c) within an except suite, whatever class the caught error has -/
def rIsX (K : PySem.W.Frag) (cls : Value) (d : Option Addr) (a : Addr) : List V → Hp → VK → Prop := fun xs H Q => ∃ D, cls = .ref D ∧ d = none ∧ ExcC K D ∧ rIsE K D a xs H Q
theorem call_isX {a : Addr} {oe : Obj} {cls : Value} {d : Option Addr} {pn : List (Addr × Obj)} (hz : Zc cls d oe) (hf : ∃ vs, oe.data = .fields vs) :
    CallR (X.suite a ((a, oe) :: pn)) (.builtin "isinstance") (rIsX X.K cls d a) := by
  intro pins s σ H xs us Q I r h
  obtain ⟨D, rfl, rfl, C, q⟩ := h
  exact call_isE (X := X) C hz hf pins s σ H xs us Q I r q
end
theorem at_modI {ns : List Int} (z : Int) {n : Int} (hn : (ns.length : Int) = n) (h0 : 0 < n) : atI (ns.map V.int) (z % n) = some (.int (ns.getD (z % n).toNat 0)) := by
  have h1 : 0 ≤ z % n := Int.emod_nonneg _ (by omega)
  have h2 : z % n < n := Int.emod_lt_of_pos _ h0
  obtain ⟨j, hj⟩ : ∃ j : Nat, z % n = (j : Int) := ⟨(z % n).toNat, by omega⟩
  rw [hj]
  have hl : j < ns.length := by omega
  refine atI_nat ?_
  rw [List.getElem?_map, List.getElem?_eq_getElem hl]
  simp [List.getD, hl]
theorem at_modV {xs : List V} (z : Int) {n : Int} (hn : (xs.length : Int) = n) (h0 : 0 < n) : ∃ v, v ∈ xs ∧ atI xs (z % n) = some v := by
  have h1 : 0 ≤ z % n := Int.emod_nonneg _ (by omega)
  have h2 : z % n < n := Int.emod_lt_of_pos _ h0
  obtain ⟨j, hj⟩ : ∃ j : Nat, z % n = (j : Int) := ⟨(z % n).toNat, by omega⟩
  rw [hj]
  have hl : j < xs.length := by omega
  exact ⟨xs[j], List.getElem_mem hl, atI_nat (List.getElem?_eq_getElem hl)⟩
theorem lk_ne {H : Hp} {a b : Addr} {o u : HO} (h : H a = some o) (hb : H b = none) : upd H b u a = some o := (upd_ne (ne_of_none h hb)).trans h
theorem cmul_l {i j : Int} (h0 : -(2 ^ 64) < i) (h1 : i < 2 ^ 64) : CMul i j := .inl ⟨h0, h1⟩
theorem cmul_r {i j : Int} (h0 : -(2 ^ 64) < j) (h1 : j < 2 ^ 64) : CMul i j := .inr ⟨h0, h1⟩
theorem cpow_ok {i j : Int} (h0 : 0 ≤ j) (h1 : j ≤ 1000000) (h2 : i.natAbs < 2 ^ 64) : CPow i j := ⟨h0, h1, h2⟩
theorem getD_all {l : List Int} {R : Int → Prop} (n : Nat) (h : ∀ x, x ∈ l → R x) (h0 : R 0) : R (l.getD n 0) := by
  rw [List.getD]
  cases e : l[n]? with
  | none => exact h0
  | some x => exact h x (List.mem_of_getElem? e)
theorem mod_ok {i j : Int} (h : 0 < j) : (fun _ j : Int => 0 < j) i j := h
theorem cdiv_ok {i j : Int} (h0 : 0 < j) (h1 : j < 1073741824) : CDiv i j := ⟨h0, h1⟩
theorem same_new {H : Hp} {p : Addr} {o : HO} (hp : H p = none) : Same H (upd H p o) := fun b u e => by rw [upd_ne (ne_of_none e hp)]; exact e
/-- an object that H does not know may change -/
theorem same_mut {H H' : Hp} {p : Addr} {o : HO} (e : Same H H') (hp : H p = none) : Same H (upd H' p o) := fun b u h => by rw [upd_ne (ne_of_none h hp)]; exact e b u h
theorem same_sqT {K : PySem.W.Frag} {H H' : Hp} {a : Addr} {xs : List V} (e : Same H H') (h : SqT K H a xs) : SqT K H' a xs := by
  rcases h with (h | ⟨o, h⟩) | h
  · exact .inl (.inl (e _ _ h))
  · exact .inl (.inr ⟨o, e _ _ h⟩)
  · exact .inr h
/-! ### a comprehension that makes a list of what its element gives, turn by turn -/
theorem range_more {α : Type} (f : Nat → α) (i : Nat) : (List.range (i + 1)).map f = (List.range i).map f ++ [f i] := by rw [List.range_succ, List.map_append]; rfl
section
variable {K : PySem.W.Frag} {σ : L2.St} {H : Hp} {Q : VK} {te : TE} {vs : List Nat} {j : Nat}
def Made (H : Hp) (D : Addr) (f : Nat → V) (i : Nat) (H' : Hp) : Prop := Same H H' ∧ H' D = some (.lst ((List.range i).map f))
theorem made_turn {H H' : Hp} {D : Addr} {f : Nat → V} {i : Nat} {σ2 : L2.St} (hD : H D = none) (m : Made H D f i H') (hi : i < 100000) (hs : ∀ Q' : VK, (∀ H'', Same H' H'' → Q' (f i) H'') → te σ2 H' Q') :
    te σ2 H' fun y H4 => ∃ acc, H4 D = some (.lst acc) ∧ acc.length < sizeLine ∧ Made H D f (i + 1) (upd H4 D (.lst (acc ++ [y]))) := by
  refine hs _ fun H4 s4 => ⟨_, s4 _ _ m.2, ?_, same_mut (m.1.trans s4) hD, ?_⟩
  · rw [List.length_map, List.length_range]; exact Nat.lt_of_lt_of_le hi (by decide)
  · rw [upd_same, range_more]
theorem lc_r2 {ta : TA} {lo hi : Int} (f : Nat → V) (hta : ∀ Q' : List V → Hp → Prop, Q' [.int lo, .int hi] H → ta σ H Q') (b1 : -100000 ≤ lo ∧ lo ≤ 100000) (b2 : -100000 ≤ hi ∧ hi ≤ 100000) (b3 : hi - lo ≤ 100000)
    (hw : ∀ x, wipe ((wipe σ vs).set j (some x)) vs = wipe σ vs)
    (hs : ∀ (i : Nat) H', lo + i < hi → Same H H' → ∀ Q' : VK, (∀ H'', Same H' H'' → Q' (f i) H'') → te ((wipe σ vs).set j (some (.int (lo + i)))) H' Q')
    (hq : ∀ D H', H D = none → Same H H' → H' D = some (.lst ((List.range (hi - lo).toNat).map f)) → Q (.ref D) H') : tLc (iRng2 ta) (gName j) tYes te vs σ H Q := by
  refine hta _ ⟨lo, hi, rfl, by omega, fun D hD => ?_⟩
  refine lc_range (lo := lo) (n := (hi - lo).toNat) (Made H D f) ⟨same_new hD, upd_same⟩ (fun i H' hi' m => ?_) (fun H' m => hq D H' hD m.1 m.2)
  exact ⟨hw _, made_turn hD m (by omega) (hs i H' (by omega) m.1)⟩
theorem lc_r1 {ta : TA} {hi : Int} (f : Nat → V) (hta : ∀ Q' : List V → Hp → Prop, Q' [.int hi] H → ta σ H Q') (b2 : -100000 ≤ hi ∧ hi ≤ 100000)
    (hw : ∀ x, wipe ((wipe σ vs).set j (some x)) vs = wipe σ vs)
    (hs : ∀ (i : Nat) H', (i : Int) < hi → Same H H' → ∀ Q' : VK, (∀ H'', Same H' H'' → Q' (f i) H'') → te ((wipe σ vs).set j (some (.int (0 + i)))) H' Q')
    (hq : ∀ D H', H D = none → Same H H' → H' D = some (.lst ((List.range hi.toNat).map f)) → Q (.ref D) H') : tLc (iRng1 ta) (gName j) tYes te vs σ H Q := by
  refine hta _ ⟨hi, rfl, by omega, by omega, fun D hD => ?_⟩
  refine lc_range (lo := 0) (n := hi.toNat) (Made H D f) ⟨same_new hD, upd_same⟩ (fun i H' hi' m => ?_) (fun H' m => hq D H' hD m.1 m.2)
  exact ⟨hw _, made_turn hD m (by omega) (hs i H' (by omega) m.1)⟩
theorem lc_r1E {ta : TA} {hi : Int} (R : V → Prop) (hta : ∀ Q' : List V → Hp → Prop, Q' [.int hi] H → ta σ H Q') (b2 : -100000 ≤ hi ∧ hi ≤ 100000)
    (hw : ∀ x, wipe ((wipe σ vs).set j (some x)) vs = wipe σ vs)
    (hs : ∀ (i : Nat) H', (i : Int) < hi → Same H H' → ∀ Q' : VK, (∀ v H'', R v → Same H' H'' → Q' v H'') → te ((wipe σ vs).set j (some (.int (0 + i)))) H' Q')
    (hq : ∀ D H' xs, H D = none → Same H H' → H' D = some (.lst xs) → xs.length = hi.toNat → (∀ x, x ∈ xs → R x) → Q (.ref D) H') : tLc (iRng1 ta) (gName j) tYes te vs σ H Q := by
  refine hta _ ⟨hi, rfl, by omega, by omega, fun D hD => ?_⟩
  refine lc_range (lo := 0) (n := hi.toNat) (fun i H' => Same H H' ∧ ∃ xs : List V, H' D = some (.lst xs) ∧ xs.length = i ∧ ∀ x, x ∈ xs → R x) ⟨same_new hD, [], upd_same, rfl, fun x h => by cases h⟩ (fun i H' hi' m => ?_) (fun H' m => ?_)
  · obtain ⟨sm, xs, h1, h2, h3⟩ := m
    refine ⟨hw _, hs i H' (by omega) sm _ fun v H4 hv s4 => ⟨xs, s4 _ _ h1, Nat.lt_of_lt_of_le (show xs.length < 100000 by omega) (by decide), same_mut (sm.trans s4) hD, xs ++ [v], upd_same, by rw [List.length_append, h2]; rfl, fun x hx => ?_⟩⟩
    rcases List.mem_append.mp hx with hx | hx
    · exact h3 x hx
    · rw [List.mem_singleton.mp hx]; exact hv
  · obtain ⟨sm, xs, h1, h2, h3⟩ := m
    exact hq D H' xs hD sm h1 h2 h3
theorem lc_L {tl : TE} {a : Addr} {xs : List V} (f : Nat → V) (htl : ∀ Q' : VK, Q' (.ref a) H → tl σ H Q') (hx : SqL K H a xs) (hz : xs.length ≤ 100000)
    (hw : ∀ x, wipe ((wipe σ vs).set j (some x)) vs = wipe σ vs)
    (hs : ∀ (i : Nat) x H', xs[i]? = some x → Same H H' → ∀ Q' : VK, (∀ H'', Same H' H'' → Q' (f i) H'') → te ((wipe σ vs).set j (some x)) H' Q')
    (hq : ∀ D H', H D = none → Same H H' → H' D = some (.lst ((List.range xs.length).map f)) → Q (.ref D) H') : tLc (iLT K tl) (gName j) tYes te vs σ H Q := by
  refine .inl (htl _ ⟨a, rfl, ⟨xs, hx⟩, fun D hD => ?_⟩)
  refine lc_list (K := K) (a := a) (xs := xs) (Made H D f) ⟨same_new hD, upd_same⟩ (fun i H' _ m => m.1.seq hx) (fun i x H' hi' m => ?_) (fun H' m => hq D H' hD m.1 m.2)
  have hl := (List.getElem?_eq_some_iff.mp hi').1
  exact ⟨hw _, made_turn hD m (by omega) (hs i x H' hi' m.1)⟩
theorem lc_T {tl : TE} {a : Addr} {xs : List V} (f : Nat → V) (htl : ∀ Q' : VK, Q' (.ref a) H → tl σ H Q') (hx : SqT K H a xs) (hz : xs.length ≤ 100000)
    (hw : ∀ x, wipe ((wipe σ vs).set j (some x)) vs = wipe σ vs)
    (hs : ∀ (i : Nat) x H', xs[i]? = some x → Same H H' → ∀ Q' : VK, (∀ H'', Same H' H'' → Q' (f i) H'') → te ((wipe σ vs).set j (some x)) H' Q')
    (hq : ∀ D H', H D = none → Same H H' → H' D = some (.lst ((List.range xs.length).map f)) → Q (.ref D) H') : tLc (iLT K tl) (gName j) tYes te vs σ H Q := by
  refine .inr (htl _ ⟨a, rfl, ⟨xs, hx⟩, fun D hD => ?_⟩)
  refine lc_tup (K := K) (a := a) (xs := xs) (Made H D f) ⟨same_new hD, upd_same⟩ (fun i H' _ m => same_sqT m.1 hx) (fun i x H' hi' m => ?_) (fun H' m => hq D H' hD m.1 m.2)
  have hl := (List.getElem?_eq_some_iff.mp hi').1
  exact ⟨hw _, made_turn hD m (by omega) (hs i x H' hi' m.1)⟩
end
/-! ### readings, step by step: a goal «t ⟨nx, rt, bk, ct⟩ σ H», «te σ H Q» -/
section
variable {σ : L2.St} {H : Hp} {i : Nat} {v x y z : V} {ta tb tc te tv : TE} {b : Bool} {K : PySem.W.Frag} {a C dx : Addr} {fs : List (Str × V)} {f : Str} {t u c : TT} {Q : VK}
  {nx bk ct : L2.St → Hp → Prop} {rt : VK} {s1 s2 : TS} {r r' : R2} {g : TG}
theorem g_seq (h : s1 ⟨s2 ⟨nx, rt, bk, ct⟩, rt, bk, ct⟩ σ H) : tSeq s1 s2 ⟨nx, rt, bk, ct⟩ σ H := h
theorem g_next (h : nx σ H) : tNext ⟨nx, rt, bk, ct⟩ σ H := h
theorem g_brk (h : bk σ H) : tBreak ⟨nx, rt, bk, ct⟩ σ H := h
theorem g_cont (h : ct σ H) : tCont ⟨nx, rt, bk, ct⟩ σ H := h
theorem g_set (h : te σ H (fun x H1 => nx (σ.set i (some x)) H1)) : tAsg te (gName i) ⟨nx, rt, bk, ct⟩ σ H := h
theorem g_asg (h : te σ H (fun x H1 => g x σ H1 nx)) : tAsg te g ⟨nx, rt, bk, ct⟩ σ H := h
theorem g_drop (h : te σ H (fun _ H1 => nx σ H1)) : tDrop te ⟨nx, rt, bk, ct⟩ σ H := h
theorem g_ret (h : te σ H rt) : tRet te ⟨nx, rt, bk, ct⟩ σ H := h
theorem g_retN (h : rt .non H) : tRetN ⟨nx, rt, bk, ct⟩ σ H := h
theorem g_ifS (h : c σ H fun b H1 => if b = true then s1 ⟨nx, rt, bk, ct⟩ σ H1 else s2 ⟨nx, rt, bk, ct⟩ σ H1) : tIfS c s1 s2 ⟨nx, rt, bk, ct⟩ σ H := h
theorem g_aug {ti : TIp} (hx : σ[i]? = some (some x)) (h : te σ H fun y H1 => ti x y H1 fun z H2 => nx (σ.set i (some z)) H2) : tAug i te ti ⟨nx, rt, bk, ct⟩ σ H := ⟨x, hx, h⟩
theorem g_ipI {f : Int → Int → Int} {m n : Int} (q : Q (.int (f m n)) H) : ipI f (.int m) (.int n) H Q := ⟨m, n, rfl, rfl, q⟩
theorem g_fldS (h : tv σ H fun y H1 => ta σ H1 fun x H2 => ∃ a C dx fs, x = .ref a ∧ H2 a = some (.ins C dx fs) ∧ Cls K C ∧ NoAttr K C f ∧ fs.length < 1000 ∧ nx σ (upd H2 a (.ins C dx (putF f y fs)))) : sFld K ta tv f ⟨nx, rt, bk, ct⟩ σ H := h
theorem g_var (h : σ[i]? = some (some v)) (q : Q v H) : tVar i σ H Q := ⟨v, h, q⟩
theorem g_c (q : Q v H) : tC v σ H Q := q
theorem g_op (h : ta σ H fun x H1 => tb σ H1 fun y H2 => r x y H2 Q) : tOp r ta tb σ H Q := h
theorem g_un {r : V → Hp → VK → Prop} (h : ta σ H fun x H1 => r x H1 Q) : tUn r ta σ H Q := h
theorem r_int {g : Int → Int → V} {m n : Int} (q : Q (g m n) H) : rI0 g (.int m) (.int n) H Q := ⟨m, n, rfl, rfl, q⟩
theorem r_intC {C : Int → Int → Prop} {g : Int → Int → V} {m n : Int} (hc : C m n) (q : Q (g m n) H) : rI C g (.int m) (.int n) H Q := ⟨m, n, rfl, rfl, hc, q⟩
theorem r_U {g : Int → V} {m : Int} (q : Q (g m) H) : rU g (.int m) H Q := ⟨m, rfl, q⟩
theorem r_plus {m n : Int} (q : Q (.int (m + n)) H) : rPlus (.int m) (.int n) H Q := .inl ⟨m, n, rfl, rfl, q⟩
theorem r_cat {l b : Addr} {xs zs : List V} (h1 : H l = some (.lst xs)) (h2 : H b = some (.lst zs)) (hz : xs.length + zs.length ≤ sizeLine) (q : ∀ p, H p = none → Q (.ref p) (upd H p (.lst (xs ++ zs)))) : rPlus (.ref l) (.ref b) H Q :=
  .inr ⟨l, b, xs, zs, rfl, rfl, h1, h2, hz, q⟩
theorem r_eqS (hs : scal x y = true) (q : Q (.bl (decide (x = y))) H) : rEqA K x y H Q := .inl ⟨hs, q⟩
theorem r_neS (hs : scal x y = true) (q : Q (.bl (!decide (x = y))) H) : rNeA K x y H Q := .inl ⟨hs, q⟩
theorem r_eqI {m n : Int} (q : Q (.bl (decide (m = n))) H) : rEqA K (.int m) (.int n) H Q := .inl ⟨rfl, by
  have e : decide (V.int m = V.int n) = decide (m = n) := by simp
  rw [e]; exact q⟩
theorem r_neI {m n : Int} (q : Q (.bl (!decide (m = n))) H) : rNeA K (.int m) (.int n) H Q := .inl ⟨rfl, by
  have e : decide (V.int m = V.int n) = decide (m = n) := by simp
  rw [e]; exact q⟩
theorem r_eqD {d e : PyData} (h1 : Dp K H x d) (h2 : Dp K H y e) (s1 : SeqAt.shaped d = true) (s2 : SeqAt.shaped e = true) (q : Q (.bl (PyData.eqv d e)) H) : rEqA K x y H Q := .inr ⟨d, e, h1, h2, s1, s2, q⟩
theorem r_neD {d e : PyData} (h1 : Dp K H x d) (h2 : Dp K H y e) (s1 : SeqAt.shaped d = true) (s2 : SeqAt.shaped e = true) (q : Q (.bl (!PyData.eqv d e)) H) : rNeA K x y H Q := .inr ⟨d, e, h1, h2, s1, s2, q⟩
theorem r_eqDD {d : PyData} (h1 : Dp K H x d) (h2 : Dp K H y d) (s1 : SeqAt.shaped d = true) (c : d.canLay0 = true) (q : Q (.bl true) H) : rEqA K x y H Q := r_eqD h1 h2 s1 s1 (by rw [SeqAt.eqv_refl _ c]; exact q)
theorem r_neDD {d : PyData} (h1 : Dp K H x d) (h2 : Dp K H y d) (s1 : SeqAt.shaped d = true) (c : d.canLay0 = true) (q : Q (.bl false) H) : rNeA K x y H Q := r_neD h1 h2 s1 s1 (by rw [SeqAt.eqv_refl _ c]; exact q)
theorem r_isN (q : Q (.bl (decide (x = .non))) H) : rIsN x .non H Q := ⟨rfl, q⟩
theorem r_notN (q : Q (.bl (!decide (x = .non))) H) : rNotN x .non H Q := ⟨rfl, q⟩
theorem r_ixL {l : Addr} {xs : List V} {n : Int} (h : SqL K H l xs) (ha : atI xs n = some v) (q : Q v H) : rIx2 K (.ref l) (.int n) H Q := .inl ⟨l, xs, n, v, rfl, rfl, h, ha, q⟩
theorem r_ixT {l : Addr} {xs : List V} {n : Int} (h : SqT K H l xs) (ha : atI xs n = some v) (q : Q v H) : rIx2 K (.ref l) (.int n) H Q := .inr ⟨l, xs, n, v, rfl, rfl, h, ha, q⟩
theorem g_test {Q : Bool → Hp → Prop} (h : te σ H fun x H' => ∃ k, x = .bl k ∧ Q k H') : tTest te σ H Q := h
theorem g_B {Q : Bool → Hp → Prop} (h : te σ H fun x H' => ∃ k, x = .bl k ∧ Q k H') : tB te σ H Q := h
theorem g_bl {R : Bool → Prop} (q : R b) : ∃ k, V.bl b = .bl k ∧ R k := ⟨b, rfl, q⟩
theorem g_tcut (M : L2.St → Hp → Prop) (h : s1 ⟨M, rt, bk, ct⟩ σ H) (k : ∀ σ' H', M σ' H' → s2 ⟨nx, rt, bk, ct⟩ σ' H') : Evl.tCut s1 s2 ⟨nx, rt, bk, ct⟩ σ H := ⟨M, h, k⟩
theorem g_and {Q : Bool → Hp → Prop} (h : t σ H fun c H1 => if c = true then u σ H1 Q else Q false H1) : tAnd t u σ H Q := h
theorem g_or {Q : Bool → Hp → Prop} (h : t σ H fun c H1 => if c = true then Q true H1 else u σ H1 Q) : tOr t u σ H Q := h
theorem g_not {Q : Bool → Hp → Prop} (h : t σ H fun c H1 => Q (!c) H1) : tNot t σ H Q := h
theorem g_andV (h : ta σ H fun x H1 => ∃ c, x = .bl c ∧ if c = true then tb σ H1 Q else Q (.bl false) H1) : tAndV ta tb σ H Q := h
theorem g_orV (h : ta σ H fun x H1 => ∃ c, x = .bl c ∧ if c = true then Q (.bl true) H1 else tb σ H1 Q) : tOrV ta tb σ H Q := h
theorem g_notV (h : ta σ H fun x H1 => ∃ c, x = .bl c ∧ Q (.bl (!c)) H1) : tNotV ta σ H Q := h
theorem g_blI {A B : Prop} (h : if b = true then A else B) : ∃ c, V.bl b = .bl c ∧ if c = true then A else B := ⟨b, rfl, h⟩
theorem g_ifE (h : t σ H fun c H1 => if c = true then ta σ H1 Q else tb σ H1 Q) : tIf t ta tb σ H Q := h
theorem g_chain (h : ta σ H fun x H1 => tb σ H1 fun y H2 => r x y H2 fun z H3 => ∃ k, z = .bl k ∧ (if k = true then tc σ H3 fun w' H4 => r' y w' H4 Q else Q (.bl false) H3)) : tChain r r' ta tb tc σ H Q := h
theorem g_nil {Q : List V → Hp → Prop} (q : Q [] H) : tNil σ H Q := q
theorem g_cons {tr : TA} {Q : List V → Hp → Prop} (h : ta σ H fun x H1 => tr σ H1 fun xs H2 => Q (x :: xs) H2) : tCons ta tr σ H Q := h
theorem g_CB {r : List V → Hp → VK → Prop} {tr : TA} (h : tr σ H fun vs H1 => r vs H1 Q) : tCB r tr σ H Q := h
theorem g_call {sp : Sp} {E : L2.St → XK} {tr : TA} (h : tr σ H fun vs H1 => sp vs H1 Q (E σ)) : tCallS sp E tr σ H Q := h
theorem g_tup {tr : TA} (h : tr σ H fun xs H1 => xs.length ≤ sizeLine ∧ ∀ p, H1 p = none → Q (.ref p) (upd H1 p (.tup xs))) : tTup tr σ H Q := h
theorem g_lst {tr : TA} (h : tr σ H fun xs H1 => xs.length ≤ sizeLine ∧ ∀ p, H1 p = none → Q (.ref p) (upd H1 p (.lst xs))) : tLst tr σ H Q := h
theorem g_fld (h : ta σ H fun x H1 => ∃ a C dx fs v, x = .ref a ∧ H1 a = some (.ins C dx fs) ∧ Cls K C ∧ NoAttr K C f ∧ fs.lookup f = some v ∧ Q v H1) : tFld K ta f σ H Q := h
theorem g_bm {T : String} {r : V → List V → Hp → VK → Prop} {tr : TA} (h : ta σ H fun x H1 => tyV K T x H1 ∧ tr σ H1 fun xs H2 => r x xs H2 Q) : tBM K T r ta tr σ H Q := h
theorem g_sl {r : V → Option Int → Option Int → Hp → VK → Prop} {tl th : TO} (h : te σ H fun x H1 => tl σ H1 fun l H2 => th σ H2 fun u H3 => r x l u H3 Q) : tSl r te tl th σ H Q := h
theorem g_part {Q : Option Int → Hp → Prop} (h : te σ H fun x H1 => ∃ i, x = .int i ∧ Q (some i) H1) : tPart te σ H Q := h
theorem g_partI {n : Int} {R : Int → Prop} (q : R n) : ∃ i, V.int n = .int i ∧ R i := ⟨n, rfl, q⟩
theorem g_nopart {Q : Option Int → Hp → Prop} (q : Q none H) : tNoPart σ H Q := q
theorem g_ite {A B : Prop} {c : Prop} [Decidable c] (h1 : c → A) (h2 : ¬ c → B) : if decide c = true then A else B := by
  by_cases h : c
  · rw [if_pos (decide_eq_true h)]; exact h1 h
  · rw [if_neg (by rw [decide_eq_false h]; exact Bool.false_ne_true)]; exact h2 h
theorem g_iteN {A B : Prop} {c : Prop} [Decidable c] (h1 : ¬ c → A) (h2 : c → B) : if (!decide c) = true then A else B := by
  by_cases h : c
  · rw [if_neg (by rw [decide_eq_true h]; exact Bool.false_ne_true)]; exact h2 h
  · rw [if_pos (by rw [decide_eq_false h]; rfl)]; exact h1 h
theorem g_iteB {A B : Prop} {c : Bool} (h1 : c = true → A) (h2 : c = false → B) : if c = true then A else B := by
  cases c with
  | true => exact h1 rfl
  | false => exact h2 rfl
theorem g_iteNB {A B : Prop} {c : Bool} (h1 : c = false → A) (h2 : c = true → B) : if (!c) = true then A else B := by
  cases c with
  | true => exact h2 rfl
  | false => exact h1 rfl
theorem g_cut (v : V) (h : ∀ Q' : VK, Q' v H → te σ H Q') (q : Q v H) : te σ H Q := h Q q
theorem g_cutH (v : V) (R : Hp → Prop) (h : ∀ Q' : VK, (∀ H', R H' → Q' v H') → te σ H Q') (q : ∀ H', R H' → Q v H') : te σ H Q := h Q q
theorem g_cutT {Q : Bool → Hp → Prop} (b : Bool) (h : ∀ Q' : Bool → Hp → Prop, Q' b H → t σ H Q') (q : Q b H) : t σ H Q := h Q q
theorem g_ifB (b : Bool) (h : ∀ Q' : Bool → Hp → Prop, Q' b H → c σ H Q') (h1 : b = true → s1 ⟨nx, rt, bk, ct⟩ σ H) (h2 : b = false → s2 ⟨nx, rt, bk, ct⟩ σ H) : tIfS c s1 s2 ⟨nx, rt, bk, ct⟩ σ H := by
  refine h _ ?_
  cases b with
  | true => exact h1 rfl
  | false => exact h2 rfl
/-- for, by an invariant -/
theorem g_forL {tl : TE} {xs : List V} {j : Nat} (Pv : Nat → L2.St → Hp → Prop) (htl : ∀ Q' : VK, Q' (.ref a) H → tl σ H Q') (hx : SqL K H a xs) (h0 : Pv 0 σ H) (hl : ∀ i σ' H', i ≤ xs.length → Pv i σ' H' → SqL K H' a xs)
    (hs : ∀ i x σ' H', xs[i]? = some x → Pv i σ' H' → s1 ⟨Pv (i + 1), rt, nx, Pv (i + 1)⟩ (σ'.set j (some x)) H') (hd : ∀ σ' H', Pv xs.length σ' H' → nx σ' H') : tFor (iLT K tl) (gName j) s1 ⟨nx, rt, bk, ct⟩ σ H :=
  .inl (htl _ ⟨a, rfl, ⟨xs, hx⟩, for_list Pv h0 hl hs hd⟩)
theorem g_forT {tl : TE} {xs : List V} {j : Nat} (Pv : Nat → L2.St → Hp → Prop) (htl : ∀ Q' : VK, Q' (.ref a) H → tl σ H Q') (hx : SqT K H a xs) (h0 : Pv 0 σ H) (hl : ∀ i σ' H', i ≤ xs.length → Pv i σ' H' → SqT K H' a xs)
    (hs : ∀ i x σ' H', xs[i]? = some x → Pv i σ' H' → s1 ⟨Pv (i + 1), rt, nx, Pv (i + 1)⟩ (σ'.set j (some x)) H') (hd : ∀ σ' H', Pv xs.length σ' H' → nx σ' H') : tFor (iLT K tl) (gName j) s1 ⟨nx, rt, bk, ct⟩ σ H :=
  .inr (htl _ ⟨a, rfl, ⟨xs, hx⟩, for_tup Pv h0 hl hs hd⟩)
theorem g_forR1 {ta : TA} {hi : Int} {j : Nat} (Pv : Nat → L2.St → Hp → Prop) (hta : ∀ Q' : List V → Hp → Prop, Q' [.int hi] H → ta σ H Q') (b : -(2 ^ 62) ≤ hi ∧ hi < 2 ^ 62) (h0 : Pv 0 σ H)
    (hs : ∀ (i : Nat) σ' H', (i : Int) < hi → Pv i σ' H' → s1 ⟨Pv (i + 1), rt, nx, Pv (i + 1)⟩ (σ'.set j (some (.int (0 + i)))) H') (hd : ∀ σ' H', Pv hi.toNat σ' H' → nx σ' H') : tFor (iRng1 ta) (gName j) s1 ⟨nx, rt, bk, ct⟩ σ H :=
  hta _ ⟨hi, rfl, b.1, b.2, for_range (lo := 0) (n := hi.toNat) Pv h0 (fun i σ' H' h p => hs i σ' H' (by omega) p) hd⟩
theorem g_forR2 {ta : TA} {lo hi : Int} {j : Nat} (Pv : Nat → L2.St → Hp → Prop) (hta : ∀ Q' : List V → Hp → Prop, Q' [.int lo, .int hi] H → ta σ H Q') (b0 : -(2 ^ 62) ≤ lo ∧ lo < 2 ^ 62) (b : -(2 ^ 62) ≤ hi ∧ hi < 2 ^ 62) (h0 : Pv 0 σ H)
    (hs : ∀ (i : Nat) σ' H', lo + i < hi → Pv i σ' H' → s1 ⟨Pv (i + 1), rt, nx, Pv (i + 1)⟩ (σ'.set j (some (.int (lo + i)))) H') (hd : ∀ σ' H', Pv (hi - lo).toNat σ' H' → nx σ' H') : tFor (iRng2 ta) (gName j) s1 ⟨nx, rt, bk, ct⟩ σ H :=
  hta _ ⟨lo, hi, rfl, ⟨b0.1, b0.2, b.1, b.2⟩, for_range (lo := lo) (n := (hi - lo).toNat) Pv h0 (fun i σ' H' h p => hs i σ' H' (by omega) p) hd⟩
/-- while, by an invariant with a measure -/
theorem g_while (W : Nat → L2.St → Hp → Prop) (m0 : Nat) (h0 : W m0 σ H)
    (hs : ∀ m σ' H', W m σ' H' → c σ' H' fun b H1 => if b = true then ∃ N : L2.St → Hp → Prop, (∀ σ2 H2, N σ2 H2 → ∃ m', m' < m ∧ W m' σ2 H2) ∧ s1 ⟨N, rt, nx, N⟩ σ' H1 else nx σ' H1) : tWhile c s1 ⟨nx, rt, bk, ct⟩ σ H :=
  ⟨W, ⟨m0, h0⟩, hs⟩
theorem g_ifBH (b : Bool) (R : Hp → Prop) (h : ∀ Q' : Bool → Hp → Prop, (∀ H', R H' → Q' b H') → c σ H Q') (h1 : b = true → ∀ H', R H' → s1 ⟨nx, rt, bk, ct⟩ σ H') (h2 : b = false → ∀ H', R H' → s2 ⟨nx, rt, bk, ct⟩ σ H') : tIfS c s1 s2 ⟨nx, rt, bk, ct⟩ σ H := by
  refine h _ fun H' r => ?_
  cases b with
  | true => exact h1 rfl H' r
  | false => exact h2 rfl H' r
theorem g_T {A B : Prop} (h : A) : if true = true then A else B := h
theorem g_F {A B : Prop} (h : B) : if false = true then A else B := h
theorem g_nT {A B : Prop} (h : B) : if (!true) = true then A else B := h
theorem g_nF {A B : Prop} (h : A) : if (!false) = true then A else B := h
end
/-! ### calls without arguments, methods, makes where errors may leave -/
section
variable {X : Cx} {CX : CXT} {k : Nat} {f C : Addr} {fd : FuncData} {ps : List Str} {sp : Sp} {E : L2.St → XK} {x m : Str} {p pos apos : Pos} {e o : Expr} {es : List Expr} {ta : TE} {t : TA}
theorem pe_callS0 (F : FnOk X.prog X.w X.K X.mg X.base CX k f fd ps sp) (room : Room k X.A) (gl : Gl X x) (at_ : X.mg x = some (.ref f)) (kp : PySem.W.keepIn X.K (.ref f) = true) (bd : Binds X.K fd ps []) (out : ∀ σ, PassesAt CX X σ (E σ))
    (hdb : (x == ("__debug__" : Str)) = false := by decide) : PE X (.Call (.Name x p) [] [] pos) (tCallS sp E tNil) :=
  ⟨fun pins s σ H Q I h => wpAny_Call_Name_kw (ld_glob I gl at_ (PySem.W.callWith_K0 I.kIn kp (run_fnS (us := []) (vs := []) F room bd (out σ) I .nil h)) hdb)⟩
def tMt (C : Addr) (m : Str) (sp : Sp) (E : L2.St → XK) (ta : TE) (t : TA) : TE := fun σ H Q => ta σ H fun x H1 => ∃ a dx fs, x = .ref a ∧ H1 a = some (.ins C dx fs) ∧ fs.lookup m = none ∧ t σ H1 fun vs H2 => sp (x :: vs) H2 Q (E σ)
theorem pe_methSS {pl : Sem Bool} (ho : PE X o ta) (c : Cls X.K C) (hm : Meth X.K C m f) (F : FnOk X.prog X.w X.K X.mg X.base CX k f fd ps sp) (room : Room k X.A) (bd : Binds X.K fd ps []) (out : ∀ σ, PassesAt CX X σ (E σ)) (ha : PA X (e :: es) t)
    (hst : starEach (e :: es) X.env = (false, eval e X.env) :: starEach es X.env := by rfl) (hpl : (backTo pos (starEach es X.env)).any (·.1) = false := by rfl)
    (ht : eval (.Call (.Attribute o m apos) (e :: es) [] pos) X.env = (do
      let ov ← eval o X.env
      standAt apos.atName
      let (f, first) ← holding [ov] (getMethod ov m pl)
      callWith pos f first (backTo pos (starEach (e :: es) X.env)) (backToKw pos (keywordEach [] X.env))) := by rfl) :
    PE X (.Call (.Attribute o m apos) (e :: es) [] pos) (tMt C m sp E ta t) := by
  constructor
  intro pins s σ H Q I h
  refine PySem.W.methodCall_KW (pl := pl) (thn (ho.run pins s σ H _ I h) fun u s1 z => ?_) ht
  obtain ⟨y, H1, I1, ry, a, dx, fs, ey, ea, nl, q⟩ := z
  subst ey
  obtain rfl : u = Value.ref a := ry
  refine getmeth_ok I1 ea c hm nl (PySem.W.callWith_K (first := [.ref a]) (h₀ := X.base) I.ok.mod.kin hm.kp (thn (ha.run pos pins s1 σ H1 _ I1 q) fun us s2 z2 => ?_) hst hpl)
  obtain ⟨vs, H2, I2, r, q2⟩ := z2
  exact ⟨I2.kIn, run_fnS (us := .ref a :: us) (vs := .ref a :: vs) F room bd (out σ) I2 (.cons rfl r) q2⟩
theorem pe_methSS0 {pl : Sem Bool} (ho : PE X o ta) (c : Cls X.K C) (hm : Meth X.K C m f) (F : FnOk X.prog X.w X.K X.mg X.base CX k f fd ps sp) (room : Room k X.A) (bd : Binds X.K fd ps []) (out : ∀ σ, PassesAt CX X σ (E σ))
    (ht : eval (.Call (.Attribute o m apos) [] [] pos) X.env = (do
      let ov ← eval o X.env
      standAt apos.atName
      let (f, first) ← holding [ov] (getMethod ov m pl)
      callWith pos f first (backTo pos (starEach [] X.env)) (backToKw pos (keywordEach [] X.env))) := by rfl) :
    PE X (.Call (.Attribute o m apos) [] [] pos) (tMt C m sp E ta tNil) := by
  constructor
  intro pins s σ H Q I h
  refine PySem.W.methodCall_KW (pl := pl) (thn (ho.run pins s σ H _ I h) fun u s1 z => ?_) ht
  obtain ⟨y, H1, I1, ry, a, dx, fs, ey, ea, nl, q⟩ := z
  subst ey
  obtain rfl : u = Value.ref a := ry
  exact getmeth_ok I1 ea c hm nl (PySem.W.callWith_K0 (first := [.ref a]) I1.kIn hm.kp (run_fnS (us := [.ref a]) (vs := [.ref a]) F room bd (out σ) I1 (.cons rfl .nil) q))
end
section
variable {σ : L2.St} {H : Hp} {C : Addr} {m : Str} {sp : Sp} {E : L2.St → XK} {ta : TE} {t : TA} {Q : VK} {dvs : List V} {E0 : XK}
theorem g_meth (h : ta σ H fun x H1 => ∃ a dx fs, x = .ref a ∧ H1 a = some (.ins C dx fs) ∧ fs.lookup m = none ∧ t σ H1 fun vs H2 => sp (x :: vs) H2 Q (E σ)) : tMt C m sp E ta t σ H Q := h
theorem g_allS {P : Addr} {pb : Nat → Bool} {te : TE} (h : te σ H fun v H1 => ∃ a : Str, v = .str a ∧ GxR.TabG H1 P ∧ ∀ H2, GxR.Tabbed P H1 H2 → Q (.bl (a.cps.toList.all pb)) H2) : GxR.tAllS P pb te σ H Q := h
theorem g_js0 {acc : Str} {R : Str → Hp → Prop} (q : R acc H) : tJs [] acc σ H R := q
theorem g_js {te : TE} {ts : List TE} {acc : Str} {R : Str → Hp → Prop} (h : te σ H fun x H1 => ∃ y : Str, x = .str y ∧ (acc ++ y).length ≤ sizeLine ∧ tJs ts (acc ++ y) σ H1 R) : tJs (te :: ts) acc σ H R := h
theorem g_fmt {te : TE} (h : te σ H fun x H1 => (∃ y : Str, x = .str y ∧ y.length ≤ sizeLine ∧ Q (.str y) H1) ∨ ∃ i : Int, x = .int i ∧ i.natAbs.log2 < 1920 ∧ Q (.str (toString i)) H1) : tFmt te σ H Q := h
theorem g_make (h : t σ H fun vs H1 => ∀ x dx, H1 x = none → H1 dx = none → dx ≠ x → sp (.ref x :: (vs ++ dvs)) (upd (upd H1 dx (.own x)) x (.ins C dx [])) (fun v H2 => v = .non ∧ Q (.ref x) H2) E0) : tMake C sp dvs E0 t σ H Q := h
end
/-! ### all(.. for sign in text): a def whose code object has a table -/
section
variable {P : Program} {w : World} {K : PySem.W.Frag} {mg : Str → Option Value} {base : Heap}
/-- where a def stands, with its code object -/
structure FunC (K : PySem.W.Frag) (x qual : Str) (st : Stmt) (f : Addr) (fd : FuncData) (c : Addr) : Prop where
  ex : ∃ (oc : Value) (od : Option Addr) (kV doc pm : Value) (an : Option Addr) (ct : Value) (sl : Array (Option Value)),
    fd = PySem.W.fnOf x qual (defArgs st) (defBody st) (defScope st) .none kV doc pm an (.ref c) ct ∧ K.lookup f = some ⟨oc, od, .func fd, sl⟩ ∧ PySem.W.codeIn K (.ref c) qual = true
theorem FunC.okX {x qual : Str} {st : Stmt} {f c : Addr} {fd : FuncData} {N ps : List Str} {k : Nat} {sp : Sp} (F : FunC K x qual st f fd c) (S : FnScope N ps (defScope st)) (len : ∀ vs H Q E, sp vs H Q E → vs.length = ps.length)
    (body : ∀ (A : Around) (outer : List Env) (s : Shared) (H : Hp) (vs : List V) (Q : VK) (E : XK), Room k (A.deeper (envOfC qual (defScope st) s.heap.objs.size f (.ref c))) → sp vs H Q E →
      ∃ t, PSs (cxOf (L2.CX P w) P w K mg base N qual (defScope st) f (.ref c) A outer s H E) (defBody st) t ∧ t { nx := fun _ H' => Q .non H', rt := Q } (start N vs) H) : FnOk P w K mg base (L2.CX P w) (k + 1) f fd ps sp := by
  obtain ⟨oc, od, kV, doc, pm, an, ct, sl, rfl, at_, cc⟩ := F.ex
  exact fn_of at_ cc S len body
theorem gen_free {cells : List (Str × Addr)} {names : List (Str × NameKind)} (h : ∀ y ∈ names, y.2 ≠ .free) : ∀ y ∈ names, y.2 = .free → ∃ c, cells.lookup y.1 = some c := fun y hy e => absurd e (h y hy)
def signP (c : Nat) : Bool := (!decide ([c] < [97])) && !decide ([122] < [c])
/-- 'a' <= x <= 'z' -/
theorem elt_small {scope : Scope} {x : Str} {j1 j2 : Nat} {p0 p1 p2 p3 : Pos} (hk : scope.kind = .function) (hl : scope.names.lookup x = some .local) (hd : (x == ("__debug__" : Str)) = false := by decide) :
    GxR.EltP P w scope x (.Compare (.Constant (.str "a") j1 p0) [.LtE, .LtE] [.Name x p1, .Constant (.str "z") j2 p2] p3) signP := by
  intro cenv A' E' c t s₂ m₂ hs hn hm
  refine Compare_chain (Calls.Constant_str (chain_link (wpAny_Name (wpAny_loadName_local (by rw [hs]; exact hk) (show cenv.scope.names.lookup x = some .local by rw [hs]; exact hl) hn hm ?_) hd)))
  refine PySem.P.le_str (wpAny_truthy_bool ?_)
  have ea : (⟨#[c]⟩ : Str).cps.toList < ("a" : Str).cps.toList ↔ [c] < [97] := Iff.rfl
  have ez : ("z" : Str).cps.toList < (⟨#[c]⟩ : Str).cps.toList ↔ [122] < [c] := Iff.rfl
  by_cases h : [c] < [97]
  · rw [decide_eq_true (ea.mpr h), if_neg (by decide)]
    refine ⟨?_, GxR.keeps_tok _ _⟩
    unfold signP
    rw [decide_eq_true h]
    rfl
  · rw [decide_eq_false (fun z => h (ea.mp z)), if_pos (show (!false) = true from rfl)]
    refine chain_last (Calls.Constant_str (PySem.P.le_str ⟨?_, GxR.keeps_tok _ _⟩))
    unfold signP
    rw [decide_eq_false h]
    by_cases h2 : [122] < [c]
    · rw [decide_eq_true (ez.mpr h2), decide_eq_true h2]
      rfl
    · rw [decide_eq_false (fun z => h2 (ez.mp z)), decide_eq_false h2]
      rfl
end
/-! ### more loops; targets that are tuples -/
section
variable {σ : L2.St} {H : Hp} {i n : Nat} {v x : V} {xs r : List V} {K : PySem.W.Frag} {a : Addr} {tl : TE} {ta : TA} {g : TG} {t : TGs} {s1 : TS} {nx bk ct : L2.St → Hp → Prop} {rt : VK} {Qn : L2.St → Hp → Prop}
theorem g_gname (h : Qn (σ.set i (some v)) H) : gName i v σ H Qn := h
theorem g_gtup (hx : SqT K H a xs) (hl : xs.length = n) (h : t xs σ H Qn) : gTup K n t (.ref a) σ H Qn := ⟨a, xs, rfl, hx, hl, h⟩
theorem g_gcons {u : TGs} (h : g v σ H fun σ' H' => u r σ' H' Qn) : gCons g u (v :: r) σ H Qn := ⟨v, r, rfl, h⟩
theorem g_gnil (h : Qn σ H) : gNil [] σ H Qn := ⟨rfl, h⟩
/-- over a list or a tuple -/
theorem g_forQ {H0 : Hp} (Pv : Nat → L2.St → Hp → Prop) (htl : ∀ Q' : VK, Q' (.ref a) H → tl σ H Q') (hx : SqL K H0 a xs ∨ SqT K H0 a xs) (h0 : Pv 0 σ H) (hl : ∀ i σ' H', Pv i σ' H' → Same H0 H')
    (hs : ∀ i x σ' H', xs[i]? = some x → Pv i σ' H' → g x σ' H' fun σ2 H2 => s1 ⟨Pv (i + 1), rt, nx, Pv (i + 1)⟩ σ2 H2) (hd : ∀ σ' H', Pv xs.length σ' H' → nx σ' H') : tFor (iLT K tl) g s1 ⟨nx, rt, bk, ct⟩ σ H := by
  rcases hx with hx | hx
  · exact .inl (htl _ ⟨a, rfl, ⟨xs, (hl _ _ _ h0).seq hx⟩, for_list Pv h0 (fun i σ' H' _ p => (hl i σ' H' p).seq hx) hs hd⟩)
  · exact .inr (htl _ ⟨a, rfl, ⟨xs, same_sqT (hl _ _ _ h0) hx⟩, for_tup Pv h0 (fun i σ' H' _ p => same_sqT (hl i σ' H' p) hx) hs hd⟩)
/-- over a list that a call has made: the goal is the call -/
theorem g_iL {R : It → Hp → Prop} (h : tl σ H fun x H1 => ∃ a, x = .ref a ∧ (∃ xs, SqL K H1 a xs) ∧ R (Itl K a) H1) : iList K tl σ H R := h
theorem g_forN (h : iList K tl σ H fun J H1 => ∃ W : Nat → Nat → L2.St → Hp → Prop, (∃ m, W 0 m σ H1) ∧ ∀ i m σ2 H2, W i m σ2 H2 →
    (J.stop i H2 ∧ nx σ2 H2) ∨ (J.go i H2 ∧ ∃ N : L2.St → Hp → Prop, (∀ σ' H', N σ' H' → ∃ m', m' < m ∧ W (i + 1) m' σ' H') ∧ ∀ x H', J.yld i H2 x H' → g x σ2 H' fun σ3 H3 => s1 ⟨N, rt, nx, N⟩ σ3 H3)) : tFor (iLT K tl) g s1 ⟨nx, rt, bk, ct⟩ σ H := .inl h
theorem g_iRev {R : It → Hp → Prop} (h : ta σ H fun vs H1 => ∃ (a : Addr) (xs : List V), vs = [.ref a] ∧ SqL K H1 a xs ∧ R (Itv K a xs.length) H1) : iRev K ta σ H R := h
theorem g_forRv (h : iRev K ta σ H fun J H1 => ∃ W : Nat → Nat → L2.St → Hp → Prop, (∃ m, W 0 m σ H1) ∧ ∀ i m σ2 H2, W i m σ2 H2 →
    (J.stop i H2 ∧ nx σ2 H2) ∨ (J.go i H2 ∧ ∃ N : L2.St → Hp → Prop, (∀ σ' H', N σ' H' → ∃ m', m' < m ∧ W (i + 1) m' σ' H') ∧ ∀ x H', J.yld i H2 x H' → g x σ2 H' fun σ3 H3 => s1 ⟨N, rt, nx, N⟩ σ3 H3)) : tFor (iRev K ta) g s1 ⟨nx, rt, bk, ct⟩ σ H := h
theorem list_of (Pv : Nat → L2.St → Hp → Prop) (h0 : Pv 0 σ H) (hl : ∀ i σ H, Pv i σ H → SqL K H a xs)
    (hs : ∀ i x σ H, xs[i]? = some x → Pv i σ H → g x σ H fun σ2 H2 => s1 ⟨Pv (i + 1), rt, nx, Pv (i + 1)⟩ σ2 H2) (hd : ∀ σ H, Pv xs.length σ H → nx σ H) :
    ∃ W : Nat → Nat → L2.St → Hp → Prop, (∃ m, W 0 m σ H) ∧ ∀ i m σ2 H2, W i m σ2 H2 →
      ((Itl K a).stop i H2 ∧ nx σ2 H2) ∨ ((Itl K a).go i H2 ∧ ∃ N : L2.St → Hp → Prop, (∀ σ' H', N σ' H' → ∃ m', m' < m ∧ W (i + 1) m' σ' H') ∧ ∀ x H', (Itl K a).yld i H2 x H' → g x σ2 H' fun σ3 H3 => s1 ⟨N, rt, nx, N⟩ σ3 H3) :=
  for_list (D := ⟨nx, rt, nx, nx⟩) Pv h0 (fun i σ H _ p => hl i σ H p) hs hd
theorem rev_of (Pv : Nat → L2.St → Hp → Prop) (h0 : Pv 0 σ H) (hl : ∀ i σ H, Pv i σ H → SqL K H a xs)
    (hs : ∀ i x σ H, i < xs.length → xs[xs.length - 1 - i]? = some x → Pv i σ H → g x σ H fun σ2 H2 => s1 ⟨Pv (i + 1), rt, nx, Pv (i + 1)⟩ σ2 H2) (hd : ∀ σ H, Pv xs.length σ H → nx σ H) :
    ∃ W : Nat → Nat → L2.St → Hp → Prop, (∃ m, W 0 m σ H) ∧ ∀ i m σ2 H2, W i m σ2 H2 →
      ((Itv K a xs.length).stop i H2 ∧ nx σ2 H2) ∨ ((Itv K a xs.length).go i H2 ∧ ∃ N : L2.St → Hp → Prop, (∀ σ' H', N σ' H' → ∃ m', m' < m ∧ W (i + 1) m' σ' H') ∧ ∀ x H', (Itv K a xs.length).yld i H2 x H' → g x σ2 H' fun σ3 H3 => s1 ⟨N, rt, nx, N⟩ σ3 H3) :=
  RT.for_Itv (D := ⟨nx, rt, nx, nx⟩) Pv h0 hl hs hd
theorem g_iEn {R : It → Hp → Prop} (h : ta σ H fun vs H1 => ∃ a xs, vs = [.ref a] ∧ SqL K H1 a xs ∧ R (Ite K a) H1) : iEnum K ta σ H R := h
theorem g_forEn (h : iEnum K ta σ H fun J H1 => ∃ W : Nat → Nat → L2.St → Hp → Prop, (∃ m, W 0 m σ H1) ∧ ∀ i m σ2 H2, W i m σ2 H2 →
    (J.stop i H2 ∧ nx σ2 H2) ∨ (J.go i H2 ∧ ∃ N : L2.St → Hp → Prop, (∀ σ' H', N σ' H' → ∃ m', m' < m ∧ W (i + 1) m' σ' H') ∧ ∀ x H', J.yld i H2 x H' → g x σ2 H' fun σ3 H3 => s1 ⟨N, rt, nx, N⟩ σ3 H3)) : tFor (iEnum K ta) g s1 ⟨nx, rt, bk, ct⟩ σ H := h
theorem enum_of (Pv : Nat → L2.St → Hp → Prop) (h0 : Pv 0 σ H) (hl : ∀ i σ H, Pv i σ H → SqL K H a xs)
    (hs : ∀ (i : Nat) x σ H T, xs[i]? = some x → H T = none → Pv i σ H → g (.ref T) σ (upd H T (.tup [.int (i : Nat), x])) fun σ2 H2 => s1 ⟨Pv (i + 1), rt, nx, Pv (i + 1)⟩ σ2 H2) (hd : ∀ σ H, Pv xs.length σ H → nx σ H) :
    ∃ W : Nat → Nat → L2.St → Hp → Prop, (∃ m, W 0 m σ H) ∧ ∀ i m σ2 H2, W i m σ2 H2 →
      ((Ite K a).stop i H2 ∧ nx σ2 H2) ∨ ((Ite K a).go i H2 ∧ ∃ N : L2.St → Hp → Prop, (∀ σ' H', N σ' H' → ∃ m', m' < m ∧ W (i + 1) m' σ' H') ∧ ∀ x H', (Ite K a).yld i H2 x H' → g x σ2 H' fun σ3 H3 => s1 ⟨N, rt, nx, N⟩ σ3 H3) := by
  refine L2.for_it (D := ⟨nx, rt, nx, nx⟩) (L2.walk_enum (K := K) (a := a) (xs := xs)) Pv h0 (fun i σ H _ p => hl i σ H p) ?_ hd
  rintro i x σ H H' hi p ⟨T, y, z, rfl, hT, rfl, e1, e2⟩
  cases e1
  exact hs i z σ H T e2 hT p
theorem g_fldAug {tv : TE} {rd : V → V → Hp → VK → Prop} {f : Str} {te : TE} (h : te σ H fun x H1 => ∃ a C dx fs v, x = .ref a ∧ H1 a = some (.ins C dx fs) ∧ Cls K C ∧ NoAttr K C f ∧ fs.lookup f = some v ∧
    tv σ H1 fun y H2 => rd v y H2 fun z H3 => ∃ dx' fs', H3 a = some (.ins C dx' fs') ∧ fs'.length < 1000 ∧ nx σ (upd H3 a (.ins C dx' (putF f z fs')))) : sFldAug K te tv rd f ⟨nx, rt, bk, ct⟩ σ H := h
theorem r_add {m n : Int} {Q : VK} (q : Q (.int (m + n)) H) : rAdd (.int m) (.int n) H Q := ⟨m, n, rfl, rfl, q⟩
theorem g_bm0 {T : String} {r : V → List V → Hp → VK → Prop} {te : TE} {Q : VK} (h : te σ H fun x H1 => tyV K T x H1 ∧ r x [] H1 Q) : tBM0 K T r te σ H Q := h
theorem g_dnew {Q : VK} (h : ∀ p, H p = none → Q (.ref p) (upd H p (.dK []))) : tDNewK σ H Q := h
theorem g_dput {td ty tv : TE} (h : tv σ H fun v H1 => td σ H1 fun x H2 => ty σ H2 fun y H3 => ∃ a H4, x = .ref a ∧ DPut H3 a y v H4 ∧ nx σ H4) : sDPut td ty tv ⟨nx, rt, bk, ct⟩ σ H := h
theorem g_revL {te : TE} {Q : VK} (h : te σ H fun x H1 => ∃ a xs, x = .ref a ∧ SqL K H1 a xs ∧ ∀ p, H1 p = none → Q (.ref p) (upd H1 p (.lst xs.reverse))) : tRevL K te σ H Q := h
end
/-! ### a comprehension with a test -/
section
variable {K : PySem.W.Frag} {σ : L2.St} {H : Hp} {Q : VK} {te : TE} {vs : List Nat} {g : TG} {tt : TT} {tl : TE} {a : Addr} {xs : List V}
def MadeF (H : Hp) (D : Addr) (acc : Nat → List V) (i : Nat) (H' : Hp) : Prop := Same H H' ∧ H' D = some (.lst (acc i))
theorem madeF_next {H H' H4 : Hp} {D : Addr} {acc : Nat → List V} {i : Nat} {y : V} (hD : H D = none) (m : MadeF H D acc i H') (s4 : Same H' H4) (hz : (acc i).length < sizeLine) (e : acc (i + 1) = acc i ++ [y]) :
    ∃ l, H4 D = some (.lst l) ∧ l.length < sizeLine ∧ MadeF H D acc (i + 1) (upd H4 D (.lst (l ++ [y]))) :=
  ⟨_, s4 _ _ m.2, hz, same_mut (m.1.trans s4) hD, by rw [upd_same, e]⟩
theorem madeF_skip {H H' H4 : Hp} {D : Addr} {acc : Nat → List V} {i : Nat} (m : MadeF H D acc i H') (s4 : Same H' H4) (e : acc (i + 1) = acc i) : MadeF H D acc (i + 1) H4 := ⟨m.1.trans s4, by rw [e]; exact s4 _ _ m.2⟩
theorem lc_Q (acc : Nat → List V) (htl : ∀ Q' : VK, Q' (.ref a) H → tl σ H Q') (hx : SqL K H a xs ∨ SqT K H a xs) (h0 : acc 0 = [])
    (hs : ∀ D i x H', H D = none → xs[i]? = some x → MadeF H D acc i H' → g x (wipe σ vs) H' fun σ2 H2 => wipe σ2 vs = wipe σ vs ∧ tt σ2 H2 fun b H3 =>
      if b = true then te σ2 H3 fun y H4 => ∃ l, H4 D = some (.lst l) ∧ l.length < sizeLine ∧ MadeF H D acc (i + 1) (upd H4 D (.lst (l ++ [y]))) else MadeF H D acc (i + 1) H3)
    (hq : ∀ D H', H D = none → Same H H' → H' D = some (.lst (acc xs.length)) → Q (.ref D) H') : tLc (iLT K tl) g tt te vs σ H Q := by
  rcases hx with hx | hx
  · refine .inl (htl _ ⟨a, rfl, ⟨xs, hx⟩, fun D hD => ?_⟩)
    exact lc_list (K := K) (a := a) (xs := xs) (MadeF H D acc) ⟨same_new hD, by rw [upd_same, h0]⟩ (fun i H' _ m => m.1.seq hx) (fun i x H' hi' m => hs D i x H' hD hi' m) (fun H' m => hq D H' hD m.1 m.2)
  · refine .inr (htl _ ⟨a, rfl, ⟨xs, hx⟩, fun D hD => ?_⟩)
    exact lc_tup (K := K) (a := a) (xs := xs) (MadeF H D acc) ⟨same_new hD, by rw [upd_same, h0]⟩ (fun i H' _ m => same_sqT m.1 hx) (fun i x H' hi' m => hs D i x H' hD hi' m) (fun H' m => hq D H' hD m.1 m.2)
end
/-! ### sorted(d.items()), d a dict of ints by ints -/
section
variable {X : Cx}
def rItemsK : V → List V → Hp → VK → Prop := fun x xs H Q => ∃ (a : Addr) (kvs : List (Key × V)), x = .ref a ∧ xs = [] ∧ H a = some (.dK kvs) ∧ ∀ p, H p = none → Q (.ref p) (upd H p (L2.DX.itemsO p a))
theorem mt_itemsK : MtR X "dict.items" rItemsK := by
  intro pins s σ H x xs v us Q I rx rxs h
  obtain ⟨a, kvs, rfl, rfl, ha, q⟩ := h
  cases rx
  cases rxs
  obtain ⟨_, hd, vs, _, hdo⟩ := I.hok a _ ha
  obtain ⟨es, ep, ⟨o, ho, hx, hdat⟩, _⟩ := hdo.raw
  refine DT.callItems (es := es) (ep := ep) hd ⟨o, ho, hx, hdat⟩ ?_
  have hf : H s.heap.objs.size = none := I.hok.fresh (Nat.le_refl _)
  exact ⟨.ref s.heap.objs.size, upd H s.heap.objs.size (L2.DX.itemsO s.heap.objs.size a), I.laid (t' := s.toks) (fun b u e => Heap.get?_push_of_some _ e) (Nat.le_refl _) (L2.DX.itemsO_ok (Heap.get?_push_size _ rfl)), rfl, q _ hf⟩
def rSortA (K : PySem.W.Frag) : List V → Hp → VK → Prop := fun xs H Q => rSortedPO K xs H Q ∨ rSortedI K xs H Q
theorem cr_sortA : CallR X (.builtin "sorted") (rSortA X.K) := fun pins s σ H xs us Q I r h => h.elim (cr_sortedPO pins s σ H xs us Q I r) (cr_sortedI pins s σ H xs us Q I r)
def entI (q : Int × Int) : Key × V := (Sum.inl q.1, V.int q.2)
def rSortItK : List V → Hp → VK → Prop := fun vs H Q => ∃ (p a : Addr) (ps : List (Int × Int)), vs = [.ref p] ∧ H p = some (L2.DX.itemsO p a) ∧ H a = some (.dK (ps.map entI)) ∧
  ∀ (H' : Hp) (l : Addr) (ts : List Addr) (qs : List (Int × Int)), Same H H' → H l = none → qs.Perm ps → qs.Pairwise (fun x y => x.1 ≤ y.1) → H' l = some (.lst (ts.map V.ref)) →
    Paired (fun (t : Addr) (q : Int × Int) => H' t = some (.tup [.int q.1, .int q.2])) ts qs → Q (.ref l) H'
theorem paired_maps {α β γ : Type} {F : α → β → Prop} (f : γ → α) (k : γ → β) : ∀ l : List γ, (∀ z ∈ l, F (f z) (k z)) → Paired F (l.map f) (l.map k)
  | [], _ => .nil
  | z :: l, h => .cons (h z (List.mem_cons_self ..)) (paired_maps f k l fun y hy => h y (List.mem_cons_of_mem _ hy))
theorem paired_at {α β : Type} {F : α → β → Prop} : ∀ {xs : List α} {ys : List β}, Paired F xs ys → ∀ {i : Nat} {x : α}, xs[i]? = some x → ∃ y, ys[i]? = some y ∧ F x y
  | _, _, .nil, i, x, h => by simp at h
  | _, _, .cons r _, 0, x, h => by
    have e := Option.some.inj h
    subst e
    exact ⟨_, rfl, r⟩
  | _, _, .cons _ t, i + 1, x, h => paired_at t h
theorem isPair_uniq {h : Heap} {v : Value} {x y x' y' : Int} (p : Srt.IsPair h v x y) (q : Srt.IsPair h v x' y') : x = x' ∧ y = y' := by
  obtain ⟨a, o, t, u, n, e, ho, hc, hd⟩ := p
  obtain ⟨a', o', t', u', n', e', ho', hc', hd'⟩ := q
  subst e
  cases e'
  rw [ho] at ho'
  cases ho'
  rw [hd] at hd'
  injection hd' with e1 e2
  injection e1 with e1
  injection e1 with e3 e4
  injection e4 with e4 e5
  injection e3 with e3
  injection e4 with e4
  exact ⟨e3, e4⟩
theorem cr_sortedItK (hc : X.calm = true) : CallR X (.builtin "sorted") rSortItK := by
  intro pins s σ H xs us Q I r h
  obtain ⟨p, a, ps, rfl, hp, ha, q⟩ := h
  obtain rfl := Vals.ref1 r
  have view : s.heap.IsItemsView p a := (show ObjOk X.prog X.w H s.heap p (L2.DX.itemsO p a) from I.hok p _ hp).1
  obtain ⟨hz, hs0, vs, kv, hdo⟩ := I.hok a _ ha
  obtain ⟨es, ep, ⟨o, ho, hx, hdat⟩, hsz, he⟩ := hdo.raw
  have l1 : (ps.map entI).length = vs.length := Paired.length kv
  have l0 : (ps.map entI).length = ps.length := List.length_map _
  have hh : X.A.handled = none := I.ok.hd hc
  refine DT.sortedI (es := es) (ep := ep) hh view ⟨o, ho, hx, hdat⟩ (by omega) fun h' tk as hk hlt hl hG => ?_
  have lak : as.length = ps.length := by omega
  have nd : as.Nodup := List.Pairwise.imp (fun h => Nat.ne_of_lt h) hG.rise
  have pr : ∀ (j : Nat) (b : Addr), as[j]? = some b → ∃ (e : Int × Int) (t u : Tok), ps[j]? = some e ∧ h'.get? b = some { cls := .type "tuple", data := .seq #[Value.int e.1 t, Value.int e.2 u] } := by
    intro j b hj
    obtain ⟨en, e1, hg⟩ := hG.pairs j b hj
    obtain ⟨hi, e2⟩ := Array.getElem?_eq_some_iff.mp e1
    have hjp : j < ps.length := by omega
    have h3 : (ps.map entI)[j]? = some (entI ps[j]) := by rw [List.getElem?_map, List.getElem?_eq_getElem hjp]; rfl
    obtain ⟨y, h4, h5, h6⟩ := paired_at kv h3
    obtain ⟨h7, h8⟩ := he j hi y.1 y.2 h4
    rw [e2] at h7 h8
    rw [← h5] at h7
    obtain ⟨t, e3⟩ : RelV (V.int ps[j].1) en.key := relV_key (k := Sum.inl ps[j].1) h7
    obtain ⟨u, e4⟩ : RelV (V.int ps[j].2) y.2 := h6
    refine ⟨ps[j], t, u, List.getElem?_eq_getElem hjp, ?_⟩
    rw [hg, e3, h8, e4]
  have hob : (h'.push { cls := .type "list", data := .seq (as.map Value.ref).toArray }).get? h'.objs.size = some (seqObj "list" (as.map Value.ref).toArray 0) := Heap.get?_push_size _ rfl
  have kb : ∀ b o, s.heap.get? b = some o → (h'.push { cls := .type "list", data := .seq (as.map Value.ref).toArray }).get? b = some o := fun b o e => Heap.get?_push_of_some _ (hk b o e)
  have ne0 : ∀ b o, h'.get? b = some o → b ≠ h'.objs.size := fun b o e => Nat.ne_of_lt (Heap.lt_size e)
  generalize hh2 : h'.push { cls := .type "list", data := .seq (as.map Value.ref).toArray } = h2 at hob kb ⊢
  have ka : ∀ b o, h'.get? b = some o → h2.get? b = some o := fun b o e => by rw [← hh2]; exact Heap.get?_push_of_some _ e
  have at_ : ∀ v ∈ as.map Value.ref, ∃ (j : Nat) (b : Addr) (e : Int × Int), v = .ref b ∧ as[j]? = some b ∧ ps[j]? = some e ∧ Srt.IsPair h2 v e.1 e.2 := by
    intro v hv'
    obtain ⟨b, hb, rfl⟩ := List.mem_map.mp hv'
    obtain ⟨j, hj⟩ := List.mem_iff_getElem?.mp hb
    obtain ⟨e, t, u, hpe, hg⟩ := pr j b hj
    exact ⟨j, b, e, rfl, hj, hpe, b, _, t, u, 0, rfl, ka _ _ hg, rfl, rfl⟩
  obtain ⟨k, hk2⟩ : ∃ k : Value → Int × Int, ∀ v ∈ as.map Value.ref, Srt.IsPair h2 v (k v).1 (k v).2 := by
    classical
    refine ⟨fun v => if h : ∃ q : Int × Int, Srt.IsPair h2 v q.1 q.2 then Classical.choose h else (0, 0), fun v hv => ?_⟩
    obtain ⟨j, b, e, _, _, _, hp'⟩ := at_ v hv
    have hex : ∃ q : Int × Int, Srt.IsPair h2 v q.1 q.2 := ⟨e, hp'⟩
    dsimp only
    rw [dif_pos hex]
    exact Classical.choose_spec hex
  have hkj : ∀ (j : Nat) (b : Addr) (e : Int × Int), as[j]? = some b → ps[j]? = some e → k (.ref b) = e := by
    intro j b e hj hje
    have hm : Value.ref b ∈ as.map Value.ref := List.mem_map.mpr ⟨b, List.mem_of_getElem? hj, rfl⟩
    obtain ⟨e', t, u, hpe, hg⟩ := pr j b hj
    rw [hje] at hpe
    cases hpe
    have h1 : Srt.IsPair h2 (.ref b) e.1 e.2 := ⟨b, _, t, u, 0, rfl, ka _ _ hg, rfl, rfl⟩
    obtain ⟨z1, z2⟩ := isPair_uniq (hk2 _ hm) h1
    exact Prod.ext z1 z2
  have hlv : (as.map Value.ref).length ≤ sizeLine := by rw [List.length_map]; omega
  refine wpAny_call_entry PyProof.Rows.slot_list_sort ⟨_, hob, rfl⟩ PyProof.Rows.entry_list_sort
    (SrtO.list_sort_ord (s := { s with heap := h2, toks := tk }) (SrtO.swo_lex k) hob hlv (fun h2' => SrtO.pairs_sortableO (s := { s with heap := h2, toks := tk }) (by omega) hk2 fun o e => ?_) fun out o3 o2 => ⟨.none, rfl, ?_⟩) (PyProof.Rows.args_list_sort _)
  · have e' : some o = some (seqObj "list" (as.map Value.ref).toArray 0) := e.symm.trans hob
    cases e'
    intro c
    exact absurd (Value.type.inj c) (by decide)
  · show EP X pins σ Q (.ref h'.objs.size) { s with heap := sortedHeap h2 h'.objs.size (as.map Value.ref) out.toArray, toks := tk }
    have kF : ∀ b o, b ≠ h'.objs.size → h2.get? b = some o → (sortedHeap h2 h'.objs.size (as.map Value.ref) out.toArray).get? b = some o := fun b o hb e => (PyProof.Rows.sortedHeap_old hb (Heap.lt_size e)).trans e
    have kS : ∀ b o, s.heap.get? b = some o → (sortedHeap h2 h'.objs.size (as.map Value.ref) out.toArray).get? b = some o := fun b o e => kF b o (ne0 _ _ (hk b o e)) (kb b o e)
    obtain ⟨eF, heF⟩ := PyProof.Rows.sortedHeap_at (vs := as.map Value.ref) (out := out.toArray) hob
    have I1 : Inv X pins σ H { s with heap := sortedHeap h2 h'.objs.size (as.map Value.ref) out.toArray, toks := tk } := I.kept (t' := tk) kS
    have hn0 : H h'.objs.size = none := I.hok.fresh (Nat.le_of_lt hlt)
    -- the addresses of what stands in out
    let f : Value → Addr := fun v => match v with | .ref b => b | _ => 0
    have hout : ∀ v ∈ out, ∃ b, v = Value.ref b ∧ b ∈ as := fun v hv => by
      obtain ⟨b, hb, e⟩ := List.mem_map.mp (o2.perm.mem_iff.mp hv)
      exact ⟨b, e.symm, hb⟩
    have eout : out = (out.map f).map Value.ref := by
      rw [List.map_map]
      refine (List.map_congr_left fun v hv => ?_).trans (List.map_id _) |>.symm
      obtain ⟨b, rfl, _⟩ := hout v hv
      rfl
    have hlen : ((out.map f).map V.ref).length ≤ sizeLine := by
      have e := o2.perm.length_eq
      rw [List.length_map] at e
      rw [List.length_map, List.length_map]
      omega
    have rv : Vals ((out.map f).map V.ref) out := by
      have e2 : Vals ((out.map f).map V.ref) ((out.map f).map Value.ref) := vals_maps (fun z : Addr => V.ref z) (fun z => Value.ref z) _ fun _ _ => rfl
      rw [← eout] at e2
      exact e2
    have I2 : Inv X pins σ (upd H h'.objs.size (.lst ((out.map f).map V.ref))) { s with heap := sortedHeap h2 h'.objs.size (as.map Value.ref) out.toArray, toks := tk } :=
      I1.take (h' := sortedHeap h2 h'.objs.size (as.map Value.ref) out.toArray) (t' := tk) (fun b ob _ e => e) (I.fpOk (Nat.le_of_lt hlt) hn0) ⟨hlen, out, eF, rv, heF⟩
    obtain ⟨H2, I3, g, qt⟩ := L2.DX.takeT (P := fun b vs => ∃ (j : Nat) (e : Int × Int), as[j]? = some b ∧ ps[j]? = some e ∧ vs = [.int e.1, .int e.2]) I as _ I2 nd fun b hb => by
      obtain ⟨j, hj⟩ := List.mem_iff_getElem?.mp hb
      obtain ⟨e, t, u, he', hg⟩ := pr j b hj
      have hbl : s.heap.objs.size ≤ b := Nat.le_of_lt (hG.above b hb)
      refine ⟨hbl, ?_, [.int e.1, .int e.2], ⟨j, e, hj, he', rfl⟩, fun H3 => ⟨(by rw [sizeLine_eq]; show 2 ≤ 16777216; omega), [Value.int e.1 t, Value.int e.2 u], .cons ⟨t, rfl⟩ (.cons ⟨u, rfl⟩ .nil), ⟨_, kF _ _ (ne0 _ _ hg) (ka _ _ hg), rfl, 0, rfl⟩⟩⟩
      rw [upd_ne (ne0 _ _ hg)]
      exact I.hok.fresh hbl
    have gr : Same H H2 := fun b o e => g b o (by rw [upd_ne (ne_of_none e hn0)]; exact e)
    have hmap : (as.map Value.ref).map k = ps := by
      refine List.ext_getElem? fun j => ?_
      rw [List.map_map, List.getElem?_map]
      cases hj : as[j]? with
      | none =>
        have : as.length ≤ j := List.getElem?_eq_none_iff.mp hj
        rw [List.getElem?_eq_none (by omega)]
        rfl
      | some b =>
        obtain ⟨e, _, _, he', _⟩ := pr j b hj
        rw [he']
        exact congrArg some (hkj j b e hj he')
    refine ⟨.ref h'.objs.size, H2, I3, rfl, q H2 h'.objs.size (out.map f) (out.map k) gr hn0 ?_ ?_ (g _ _ upd_same) ?_⟩
    · rw [← hmap]
      exact o2.perm.map k
    · rw [List.pairwise_map]
      refine List.Pairwise.imp (fun {x y} h => ?_) o3
      have z := SrtO.lexB_no.mp h
      omega
    · refine paired_maps f k out fun v hv => ?_
      obtain ⟨b, rfl, hb⟩ := hout v hv
      obtain ⟨vs', ⟨j, e, j1, j2, ev⟩, hH⟩ := qt b hb
      rw [hkj j b e j1 j2, ← ev]
      exact hH
end
/-! ### dicts -/
section
variable {σ : L2.St} {H : Hp} {td ty tx : TE} {Q : VK}
theorem g_dget (h : td σ H fun x H1 => ty σ H1 fun y H2 => ∃ a v, x = .ref a ∧ DGet H2 a y (some v) ∧ Q v H2) : tDGet td ty σ H Q := h
theorem g_dget2 (h : td σ H fun x H1 => ∃ a, x = .ref a ∧ IsD H1 a ∧ ty σ H1 fun y H2 => tx σ H2 fun z H3 => ∃ o, DGet H3 a y o ∧ Q (o.getD z) H3) : tDGet2 td ty tx σ H Q := h
theorem g_dsetd (h : td σ H fun x H1 => ∃ a, x = .ref a ∧ IsD H1 a ∧ ty σ H1 fun y H2 => tx σ H2 fun z H3 => ∃ (kvs : List (Key × V)) (k : Key), H3 a = some (.dK kvs) ∧ y = kV k ∧ kvs.length < sizeLine ∧ (∀ v, valV kvs k = some v → Q v H3) ∧ (valV kvs k = none → Q z (upd H3 a (.dK (putK kvs k z))))) : tDSetd td ty tx σ H Q := h
theorem r_dget {a : Addr} {kvs : List (Key × V)} {k : Key} {v : V} (h : H a = some (.dK kvs)) (e : valV kvs k = some v) (q : Q v H) : ∃ b w, V.ref a = .ref b ∧ DGet H b (kV k) (some w) ∧ Q w H := ⟨a, v, rfl, by rw [← e]; exact DGet.k h, q⟩
end
end My
/-! ### the tactics: go1 one step, go as far as it goes; lk: what stands at an address -/
local macro_rules | `(tactic| walk_at "lk") => `(tactic| first
  | assumption
  | exact L2.upd_same
  | (refine My.lk_ne ?_ (by assumption); walk_at "lk")
  | (refine (show L2.Same _ _ by assumption) _ _ ?_; walk_at "lk"))
local macro_rules | `(tactic| walk_at "sm") => `(tactic| first
  | assumption
  | exact L2.Same.refl _
  | exact My.same_new (by assumption)
  | (refine L2.Same.trans ?_ (My.same_new (by assumption)); walk_at "sm")
  | (refine L2.Same.trans ?_ (show L2.Same _ _ by assumption); walk_at "sm"))
local macro_rules | `(tactic| walk_at "sq") => `(tactic| first
  | assumption
  | (refine L2.SqL.of ?_; walk_at "lk")
  | (refine L2.SqT.of ?_; walk_at "lk"))
local macro_rules | `(tactic| walk_at "go0") => `(tactic| first
  | (with_reducible refine' My.g_var ?h ?q; (case h => with_unfolding_all rfl))
  | with_reducible refine My.g_c ?_
  | with_reducible refine My.g_op ?_
  | with_reducible refine My.g_seq ?_
  | with_reducible refine My.g_set ?_
  | with_reducible refine My.g_cons ?_
  | with_reducible refine My.g_nil ?_
  | with_reducible refine My.g_call ?_
  | with_reducible refine My.r_plus ?_
  | with_reducible refine My.r_int ?_
  | (with_reducible refine' My.r_intC ?c ?q; (case c => walk_at "side"))
  | with_reducible refine My.g_CB ?_
  | with_reducible refine My.g_test ?_
  | with_reducible refine My.g_blI ?_
  | with_reducible refine My.g_bl ?_
  | with_reducible refine My.g_ret ?_
  | with_reducible refine My.g_tup ?_
  | with_reducible refine My.g_next ?_
  | with_reducible refine My.r_eqI ?_
  | with_reducible refine My.g_drop ?_
  | with_reducible refine My.g_bm ?_
  | with_reducible refine My.g_gcons ?_
  | with_reducible refine My.g_gname ?_
  | with_reducible refine My.g_gnil ?_
  | with_reducible refine My.g_asg ?_
  | with_reducible refine My.g_and ?_
  | with_reducible refine My.g_or ?_
  | with_reducible refine My.g_B ?_
  | with_reducible refine My.g_not ?_
  | with_reducible refine My.g_lst ?_
  | with_reducible refine My.r_isN ?_
  | with_reducible refine My.g_T ?_
  | with_reducible refine My.g_F ?_
  | with_reducible refine My.g_brk ?_
  | with_reducible refine My.g_cont ?_
  | with_reducible refine My.g_retN ?_
  | with_reducible refine My.g_un ?_
  | with_reducible refine My.r_U ?_
  | with_reducible refine My.r_neI ?_
  | with_reducible refine My.r_notN ?_
  | with_reducible refine My.g_andV ?_
  | with_reducible refine My.g_orV ?_
  | with_reducible refine My.g_notV ?_
  | with_reducible refine My.g_ifE ?_
  | with_reducible refine My.g_chain ?_
  | with_reducible refine My.g_fld ?_
  | with_reducible refine My.g_fldS ?_
  | with_reducible refine My.g_sl ?_
  | with_reducible refine My.g_part ?_
  | with_reducible refine My.g_nopart ?_
  | with_reducible refine My.g_partI ?_
  | with_reducible refine My.g_ipI ?_
  | with_reducible refine My.g_nT ?_
  | with_reducible refine My.g_nF ?_
  | with_reducible refine My.g_bm0 ?_
  | with_reducible refine My.g_meth ?_
  | with_reducible refine My.g_fldAug ?_
  | with_reducible refine My.r_add ?_
  | with_reducible refine My.g_js ?_
  | with_reducible refine My.g_js0 ?_
  | with_reducible refine My.g_fmt ?_
  | with_reducible refine My.g_allS ?_
  | with_reducible refine My.g_make ?_
  | with_reducible refine My.g_dnew ?_
  | with_reducible refine My.g_dput ?_
  | with_reducible refine My.g_revL ?_
  | with_reducible refine My.g_dget ?_
  | with_reducible refine My.g_dget2 ?_
  | with_reducible refine My.g_dsetd ?_
  | (with_reducible refine' My.g_aug ?h ?q; (case h => with_unfolding_all rfl)))
local macro_rules | `(tactic| walk_at "side") => `(tactic| first
  | decide
  | with_reducible exact My.cdiv_ok (by decide) (by decide)
  | with_reducible exact My.cmul_r (by decide) (by decide)
  | with_reducible exact My.cmul_l (by decide) (by decide)
  | ((with_reducible refine My.cdiv_ok ?_ ?_) <;> omega)
  | ((with_reducible refine My.cmul_r ?_ ?_) <;> omega)
  | ((with_reducible refine My.cmul_l ?_ ?_) <;> omega)
  | exact My.cpow_ok (by omega) (by omega) (by decide)
  | (show (0 : Int) < _; omega))
local macro_rules | `(tactic| walk_at "go1") => `(tactic| first | (walk_at "go0") | with_reducible refine My.g_ifS ?_)
local macro_rules | `(tactic| walk_at "gos") => `(tactic| repeat (walk_at "go0"))
local macro_rules | `(tactic| walk_at "sz") => `(tactic| exact Nat.le_of_ble_eq_true rfl)
local macro_rules | `(tactic| walk_at "go") => `(tactic| repeat (walk_at "go1"))

namespace NS
open PySem PySem.Spec PyProof.Rows L2 My
def top (i : Nat) : Stmt := PySem.Challenge.pw_rentroll_k15_letters_again.main.body.getD i (.Pass ⟨0, 0, 0, 0⟩)
abbrev s_is_whole : Stmt := top 16
abbrev s_is_within : Stmt := top 17
abbrev s_check_day : Stmt := top 18
abbrev s_month_days : Stmt := top 19
abbrev s_month_of : Stmt := top 20
abbrev s_is_leap : Stmt := top 21
abbrev s_length : Stmt := top 22
abbrev s_year_start : Stmt := top 23
abbrev s_check_flat : Stmt := top 26
abbrev s_check_amount : Stmt := top 27
abbrev s_is_flat : Stmt := top 28
abbrev s_in_order : Stmt := top 30
abbrev s_spans : Stmt := top 31
abbrev s_balance : Stmt := top 34
abbrev s_grown : Stmt := top 35
abbrev s_balances : Stmt := top 36
abbrev s_pair_held : Stmt := top 38
abbrev s_held : Stmt := top 39
abbrev s_owed : Stmt := top 41
abbrev s_parts : Stmt := top 42
abbrev s_parts_through : Stmt := top 43
abbrev s_Lease_init : Stmt := inClass (top 46) 0
abbrev s_Lease_lasts_to : Stmt := inClass (top 46) 1
abbrev s_Lease_owed_through : Stmt := inClass (top 46) 3
abbrev s_Lease_pledge_through : Stmt := inClass (top 46) 4
abbrev s_Roll_init : Stmt := inClass (top 52) 0
abbrev s_Roll_let : Stmt := inClass (top 52) 1
abbrev s_Roll_end : Stmt := inClass (top 52) 2
abbrev s_Roll_step : Stmt := inClass (top 52) 3
abbrev s_Roll_gauge : Stmt := inClass (top 52) 4
abbrev s_Roll_rate : Stmt := inClass (top 52) 5
abbrev s_Roll_paid : Stmt := inClass (top 52) 6
abbrev s_Roll_kept : Stmt := inClass (top 52) 7
abbrev s_Roll_close : Stmt := inClass (top 52) 8
abbrev s_Roll_bill : Stmt := inClass (top 52) 9
abbrev s_Roll_many : Stmt := inClass (top 52) 10
abbrev s_Roll_billed : Stmt := inClass (top 52) 11
abbrev s_Roll_lease : Stmt := inClass (top 52) 12
abbrev s_Roll_owed : Stmt := inClass (top 52) 14
abbrev s_Roll_pledge : Stmt := inClass (top 52) 15
abbrev s_Roll_sent : Stmt := inClass (top 52) 16
abbrev s_Roll_given : Stmt := inClass (top 52) 17
abbrev s_Roll_letters : Stmt := inClass (top 52) 18
abbrev s_Roll__known : Stmt := inClass (top 52) 19
abbrev s_Roll__check_free : Stmt := inClass (top 52) 20
abbrev s_Roll__check_end : Stmt := inClass (top 52) 21
abbrev s_Roll__move : Stmt := inClass (top 52) 22
abbrev s_Roll__done : Stmt := inClass (top 52) 23
abbrev s_roll_of : Stmt := top 54
abbrev s_tell : Stmt := top 55
abbrev s_l_cell_at : Stmt := top 57
abbrev s_l_mix : Stmt := top 58
abbrev s_l_base : Stmt := top 59
abbrev s_l_money : Stmt := top 60
abbrev s_l_number : Stmt := top 61
abbrev s_l_flats : Stmt := top 62
abbrev s_l_letter : Stmt := top 63
abbrev s_l_do : Stmt := top 64
abbrev s_l_told : Stmt := top 65
abbrev s_l_room : Stmt := top 66
abbrev s_l_all : Stmt := top 67
abbrev s_l_again : Stmt := top 68
abbrev s_law : Stmt := top 69
abbrev N_is_whole : List Str := ["thing"]
theorem sc_is_whole : FnScope N_is_whole ["thing"] (defScope s_is_whole) := ⟨rfl, rfl, rfl, by decide +kernel, rfl, by decide +kernel, by decide +kernel⟩
abbrev N_is_within : List Str := ["thing", "low", "high"]
theorem sc_is_within : FnScope N_is_within ["thing", "low", "high"] (defScope s_is_within) := ⟨rfl, rfl, rfl, by decide +kernel, rfl, by decide +kernel, by decide +kernel⟩
abbrev N_check_day : List Str := ["day"]
theorem sc_check_day : FnScope N_check_day ["day"] (defScope s_check_day) := ⟨rfl, rfl, rfl, by decide +kernel, rfl, by decide +kernel, by decide +kernel⟩
abbrev N_month_days : List Str := ["year", "month"]
theorem sc_month_days : FnScope N_month_days ["year", "month"] (defScope s_month_days) := ⟨rfl, rfl, rfl, by decide +kernel, rfl, by decide +kernel, by decide +kernel⟩
abbrev N_month_of : List Str := ["day", "year", "number", "month"]
theorem sc_month_of : FnScope N_month_of ["day"] (defScope s_month_of) := ⟨rfl, rfl, rfl, by decide +kernel, rfl, by decide +kernel, by decide +kernel⟩
abbrev N_is_leap : List Str := ["year"]
theorem sc_is_leap : FnScope N_is_leap ["year"] (defScope s_is_leap) := ⟨rfl, rfl, rfl, by decide +kernel, rfl, by decide +kernel, by decide +kernel⟩
abbrev N_length : List Str := ["year", "month"]
theorem sc_length : FnScope N_length ["year", "month"] (defScope s_length) := ⟨rfl, rfl, rfl, by decide +kernel, rfl, by decide +kernel, by decide +kernel⟩
abbrev N_year_start : List Str := ["year", "years", "leaps"]
theorem sc_year_start : FnScope N_year_start ["year"] (defScope s_year_start) := ⟨rfl, rfl, rfl, by decide +kernel, rfl, by decide +kernel, by decide +kernel⟩
abbrev N_check_flat : List Str := ["flat"]
theorem sc_check_flat : FnScope N_check_flat ["flat"] (defScope s_check_flat) := ⟨rfl, rfl, rfl, by decide +kernel, rfl, by decide +kernel, by decide +kernel⟩
abbrev N_check_amount : List Str := ["amount", "low", "high"]
theorem sc_check_amount : FnScope N_check_amount ["amount", "low", "high"] (defScope s_check_amount) := ⟨rfl, rfl, rfl, by decide +kernel, rfl, by decide +kernel, by decide +kernel⟩
abbrev N_is_flat : List Str := ["thing", "sign"]
theorem sc_is_flat : FnScope N_is_flat ["thing"] (defScope s_is_flat) := ⟨rfl, rfl, rfl, by decide +kernel, rfl, by decide +kernel, by decide +kernel⟩
abbrev N_in_order : List Str := ["terms", "values", "first", "value"]
theorem sc_in_order : FnScope N_in_order ["terms"] (defScope s_in_order) := ⟨rfl, rfl, rfl, by decide +kernel, rfl, by decide +kernel, by decide +kernel⟩
abbrev N_spans : List Str := ["terms", "first", "last", "found", "end", "pair", "begin"]
theorem sc_spans : FnScope N_spans ["terms", "first", "last"] (defScope s_spans) := ⟨rfl, rfl, rfl, by decide +kernel, rfl, by decide +kernel, by decide +kernel⟩
abbrev N_balance : List Str := ["moves", "day", "at", "cents"]
theorem sc_balance : FnScope N_balance ["moves", "day"] (defScope s_balance) := ⟨rfl, rfl, rfl, by decide +kernel, rfl, by decide +kernel, by decide +kernel⟩
abbrev N_grown : List Str := ["moves", "rates", "last", "total", "begin", "end", "known", "start", "stop", "rate"]
theorem sc_grown : FnScope N_grown ["moves", "rates", "last"] (defScope s_grown) := ⟨rfl, rfl, rfl, by decide +kernel, rfl, by decide +kernel, by decide +kernel⟩
abbrev N_balances : List Str := ["moves", "row", "total", "day", "cents"]
theorem sc_balances : FnScope N_balances ["moves"] (defScope s_balances) := ⟨rfl, rfl, rfl, by decide +kernel, rfl, by decide +kernel, by decide +kernel⟩
abbrev N_pair_held : List Str := ["terms", "day", "best", "pair"]
theorem sc_pair_held : FnScope N_pair_held ["terms", "day"] (defScope s_pair_held) := ⟨rfl, rfl, rfl, by decide +kernel, rfl, by decide +kernel, by decide +kernel⟩
abbrev N_held : List Str := ["terms", "day", "pair"]
theorem sc_held : FnScope N_held ["terms", "day"] (defScope s_held) := ⟨rfl, rfl, rfl, by decide +kernel, rfl, by decide +kernel, by decide +kernel⟩
abbrev N_owed : List Str := ["steps", "gauges", "first", "last", "total", "begin", "end", "step", "told_in", "start", "stop", "gauge", "rent"]
theorem sc_owed : FnScope N_owed ["steps", "gauges", "first", "last"] (defScope s_owed) := ⟨rfl, rfl, rfl, by decide +kernel, rfl, by decide +kernel, by decide +kernel⟩
abbrev N_parts : List Str := ["rent", "first", "last", "year", "month", "number", "ahead"]
theorem sc_parts : FnScope N_parts ["rent", "first", "last"] (defScope s_parts) := ⟨rfl, rfl, rfl, by decide +kernel, rfl, by decide +kernel, by decide +kernel⟩
abbrev N_parts_through : List Str := ["rent", "year", "month", "number", "months"]
theorem sc_parts_through : FnScope N_parts_through ["rent", "year", "month", "number"] (defScope s_parts_through) := ⟨rfl, rfl, rfl, by decide +kernel, rfl, by decide +kernel, by decide +kernel⟩
abbrev N_Lease_init : List Str := ["self", "flat", "first", "rent", "indexed"]
theorem sc_Lease_init : FnScope N_Lease_init ["self", "flat", "first", "rent", "indexed"] (defScope s_Lease_init) := ⟨rfl, rfl, rfl, by decide +kernel, rfl, by decide +kernel, by decide +kernel⟩
abbrev N_Lease_lasts_to : List Str := ["self", "day"]
theorem sc_Lease_lasts_to : FnScope N_Lease_lasts_to ["self", "day"] (defScope s_Lease_lasts_to) := ⟨rfl, rfl, rfl, by decide +kernel, rfl, by decide +kernel, by decide +kernel⟩
abbrev N_Lease_owed_through : List Str := ["self", "day", "gauges", "last"]
theorem sc_Lease_owed_through : FnScope N_Lease_owed_through ["self", "day", "gauges"] (defScope s_Lease_owed_through) := ⟨rfl, rfl, rfl, by decide +kernel, rfl, by decide +kernel, by decide +kernel⟩
abbrev N_Lease_pledge_through : List Str := ["self", "day", "rates"]
theorem sc_Lease_pledge_through : FnScope N_Lease_pledge_through ["self", "day", "rates"] (defScope s_Lease_pledge_through) := ⟨rfl, rfl, rfl, by decide +kernel, rfl, by decide +kernel, by decide +kernel⟩
abbrev N_Roll_init : List Str := ["self"]
theorem sc_Roll_init : FnScope N_Roll_init ["self"] (defScope s_Roll_init) := ⟨rfl, rfl, rfl, by decide +kernel, rfl, by decide +kernel, by decide +kernel⟩
abbrev N_Roll_let : List Str := ["self", "flat", "first", "rent", "indexed"]
theorem sc_Roll_let : FnScope N_Roll_let ["self", "flat", "first", "rent", "indexed"] (defScope s_Roll_let) := ⟨rfl, rfl, rfl, by decide +kernel, rfl, by decide +kernel, by decide +kernel⟩
abbrev N_Roll_end : List Str := ["self", "lease", "last", "ended"]
theorem sc_Roll_end : FnScope N_Roll_end ["self", "lease", "last"] (defScope s_Roll_end) := ⟨rfl, rfl, rfl, by decide +kernel, rfl, by decide +kernel, by decide +kernel⟩
abbrev N_Roll_step : List Str := ["self", "lease", "first", "rent", "known"]
theorem sc_Roll_step : FnScope N_Roll_step ["self", "lease", "first", "rent"] (defScope s_Roll_step) := ⟨rfl, rfl, rfl, by decide +kernel, rfl, by decide +kernel, by decide +kernel⟩
abbrev N_Roll_gauge : List Str := ["self", "first", "number"]
theorem sc_Roll_gauge : FnScope N_Roll_gauge ["self", "first", "number"] (defScope s_Roll_gauge) := ⟨rfl, rfl, rfl, by decide +kernel, rfl, by decide +kernel, by decide +kernel⟩
abbrev N_Roll_rate : List Str := ["self", "first", "hundredths"]
theorem sc_Roll_rate : FnScope N_Roll_rate ["self", "first", "hundredths"] (defScope s_Roll_rate) := ⟨rfl, rfl, rfl, by decide +kernel, rfl, by decide +kernel, by decide +kernel⟩
abbrev N_Roll_paid : List Str := ["self", "lease", "day", "cents"]
theorem sc_Roll_paid : FnScope N_Roll_paid ["self", "lease", "day", "cents"] (defScope s_Roll_paid) := ⟨rfl, rfl, rfl, by decide +kernel, rfl, by decide +kernel, by decide +kernel⟩
abbrev N_Roll_kept : List Str := ["self", "lease", "day", "cents"]
theorem sc_Roll_kept : FnScope N_Roll_kept ["self", "lease", "day", "cents"] (defScope s_Roll_kept) := ⟨rfl, rfl, rfl, by decide +kernel, rfl, by decide +kernel, by decide +kernel⟩
abbrev N_Roll_close : List Str := ["self", "lease", "day", "known"]
theorem sc_Roll_close : FnScope N_Roll_close ["self", "lease", "day"] (defScope s_Roll_close) := ⟨rfl, rfl, rfl, by decide +kernel, rfl, by decide +kernel, by decide +kernel⟩
abbrev N_Roll_bill : List Str := ["self", "day"]
theorem sc_Roll_bill : FnScope N_Roll_bill ["self", "day"] (defScope s_Roll_bill) := ⟨rfl, rfl, rfl, by decide +kernel, rfl, by decide +kernel, by decide +kernel⟩
abbrev N_Roll_many : List Str := ["self"]
theorem sc_Roll_many : FnScope N_Roll_many ["self"] (defScope s_Roll_many) := ⟨rfl, rfl, rfl, by decide +kernel, rfl, by decide +kernel, by decide +kernel⟩
abbrev N_Roll_billed : List Str := ["self"]
theorem sc_Roll_billed : FnScope N_Roll_billed ["self"] (defScope s_Roll_billed) := ⟨rfl, rfl, rfl, by decide +kernel, rfl, by decide +kernel, by decide +kernel⟩
abbrev N_Roll_lease : List Str := ["self", "number", "known"]
theorem sc_Roll_lease : FnScope N_Roll_lease ["self", "number"] (defScope s_Roll_lease) := ⟨rfl, rfl, rfl, by decide +kernel, rfl, by decide +kernel, by decide +kernel⟩
abbrev N_Roll_owed : List Str := ["self", "lease", "day", "known"]
theorem sc_Roll_owed : FnScope N_Roll_owed ["self", "lease", "day"] (defScope s_Roll_owed) := ⟨rfl, rfl, rfl, by decide +kernel, rfl, by decide +kernel, by decide +kernel⟩
abbrev N_Roll_pledge : List Str := ["self", "lease", "day", "known"]
theorem sc_Roll_pledge : FnScope N_Roll_pledge ["self", "lease", "day"] (defScope s_Roll_pledge) := ⟨rfl, rfl, rfl, by decide +kernel, rfl, by decide +kernel, by decide +kernel⟩
abbrev N_Roll_sent : List Str := ["self", "lease"]
theorem sc_Roll_sent : FnScope N_Roll_sent ["self", "lease"] (defScope s_Roll_sent) := ⟨rfl, rfl, rfl, by decide +kernel, rfl, by decide +kernel, by decide +kernel⟩
abbrev N_Roll_given : List Str := ["self", "lease"]
theorem sc_Roll_given : FnScope N_Roll_given ["self", "lease"] (defScope s_Roll_given) := ⟨rfl, rfl, rfl, by decide +kernel, rfl, by decide +kernel, by decide +kernel⟩
abbrev N_Roll_letters : List Str := ["self"]
theorem sc_Roll_letters : FnScope N_Roll_letters ["self"] (defScope s_Roll_letters) := ⟨rfl, rfl, rfl, by decide +kernel, rfl, by decide +kernel, by decide +kernel⟩
abbrev N_Roll__known : List Str := ["self", "number"]
theorem sc_Roll__known : FnScope N_Roll__known ["self", "number"] (defScope s_Roll__known) := ⟨rfl, rfl, rfl, by decide +kernel, rfl, by decide +kernel, by decide +kernel⟩
abbrev N_Roll__check_free : List Str := ["self", "flat", "first", "other"]
theorem sc_Roll__check_free : FnScope N_Roll__check_free ["self", "flat", "first"] (defScope s_Roll__check_free) := ⟨rfl, rfl, rfl, by decide +kernel, rfl, by decide +kernel, by decide +kernel⟩
abbrev N_Roll__check_end : List Str := ["self", "ended", "last", "other"]
theorem sc_Roll__check_end : FnScope N_Roll__check_end ["self", "ended", "last"] (defScope s_Roll__check_end) := ⟨rfl, rfl, rfl, by decide +kernel, rfl, by decide +kernel, by decide +kernel⟩
abbrev N_Roll__move : List Str := ["self", "lease", "day", "cents", "sign", "known"]
theorem sc_Roll__move : FnScope N_Roll__move ["self", "lease", "day", "cents", "sign"] (defScope s_Roll__move) := ⟨rfl, rfl, rfl, by decide +kernel, rfl, by decide +kernel, by decide +kernel⟩
abbrev N_Roll__done : List Str := ["self", "letter", "answer", "number", "lease", "cents"]
theorem sc_Roll__done : FnScope N_Roll__done ["self", "letter"] (defScope s_Roll__done) := ⟨rfl, rfl, rfl, by decide +kernel, rfl, by decide +kernel, by decide +kernel⟩
abbrev N_roll_of : List Str := ["letters", "roll", "letter"]
theorem sc_roll_of : FnScope N_roll_of ["letters"] (defScope s_roll_of) := ⟨rfl, rfl, rfl, by decide +kernel, rfl, by decide +kernel, by decide +kernel⟩
abbrev N_tell : List Str := ["roll", "letter", "flat", "first", "rent", "indexed", "lease", "last", "number", "hundredths", "day", "cents"]
theorem sc_tell : FnScope N_tell ["roll", "letter"] (defScope s_tell) := ⟨rfl, rfl, rfl, by decide +kernel, rfl, by decide +kernel, by decide +kernel⟩
abbrev N_l_cell_at : List Str := ["_law_script", "_law_k"]
theorem sc_l_cell_at : FnScope N_l_cell_at ["_law_script", "_law_k"] (defScope s_l_cell_at) := ⟨rfl, rfl, rfl, by decide +kernel, rfl, by decide +kernel, by decide +kernel⟩
abbrev N_l_mix : List Str := ["_law_number_here", "_law_k", "_law_more"]
theorem sc_l_mix : FnScope N_l_mix ["_law_number_here", "_law_k"] (defScope s_l_mix) := ⟨rfl, rfl, rfl, by decide +kernel, rfl, by decide +kernel, by decide +kernel⟩
abbrev N_l_base : List Str := ["_law_cell", "_law_near"]
theorem sc_l_base : FnScope N_l_base ["_law_cell"] (defScope s_l_base) := ⟨rfl, rfl, rfl, by decide +kernel, rfl, by decide +kernel, by decide +kernel⟩
abbrev N_l_money : List Str := ["_law_cell"]
theorem sc_l_money : FnScope N_l_money ["_law_cell"] (defScope s_l_money) := ⟨rfl, rfl, rfl, by decide +kernel, rfl, by decide +kernel, by decide +kernel⟩
abbrev N_l_number : List Str := ["_law_cell"]
theorem sc_l_number : FnScope N_l_number ["_law_cell"] (defScope s_l_number) := ⟨rfl, rfl, rfl, by decide +kernel, rfl, by decide +kernel, by decide +kernel⟩
abbrev N_l_flats : List Str := ["_law_cell", "_law_signs", "_law_root", "_law_k", "_law_sign", "_law_at"]
theorem sc_l_flats : FnScope N_l_flats ["_law_cell"] (defScope s_l_flats) := ⟨rfl, rfl, rfl, by decide +kernel, rfl, by decide +kernel, by decide +kernel⟩
abbrev N_l_letter : List Str := ["_law_cell", "_law_base_here", "_law_wide", "_law_flats_here", "_law_many", "_law_more", "_law_day", "_law_number_here", "_law_kind"]
theorem sc_l_letter : FnScope N_l_letter ["_law_cell", "_law_base_here", "_law_wide", "_law_flats_here", "_law_many"] (defScope s_l_letter) := ⟨rfl, rfl, rfl, by decide +kernel, rfl, by decide +kernel, by decide +kernel⟩
abbrev N_l_do : List Str := ["_law_roll", "_law_letter_here"]
theorem sc_l_do : FnScope N_l_do ["_law_roll", "_law_letter_here"] (defScope s_l_do) := ⟨rfl, rfl, rfl, by decide +kernel, rfl, by decide +kernel, by decide +kernel⟩
abbrev N_l_told : List Str := ["_law_roll", "_law_letter_here"]
theorem sc_l_told : FnScope N_l_told ["_law_roll", "_law_letter_here"] (defScope s_l_told) := ⟨rfl, rfl, rfl, by decide +kernel, rfl, by decide +kernel, by decide +kernel⟩
abbrev N_l_room : List Str := ["_law_script", "_law_small", "_law_great"]
theorem sc_l_room : FnScope N_l_room ["_law_script", "_law_small", "_law_great"] (defScope s_l_room) := ⟨rfl, rfl, rfl, by decide +kernel, rfl, by decide +kernel, by decide +kernel⟩
abbrev N_l_all : List Str := ["_law_roll", "_law_day", "_law_found", "_law_number_here"]
theorem sc_l_all : FnScope N_l_all ["_law_roll", "_law_day"] (defScope s_l_all) := ⟨rfl, rfl, rfl, by decide +kernel, rfl, by decide +kernel, by decide +kernel⟩
abbrev N_l_again : List Str := ["_law_letters"]
theorem sc_l_again : FnScope N_l_again ["_law_letters"] (defScope s_l_again) := ⟨rfl, rfl, rfl, by decide +kernel, rfl, by decide +kernel, by decide +kernel⟩
abbrev N_law : List Str := ["_law_script", "_law_base_here", "_law_flats_here", "_law_day", "_law_rolls", "_law_told_here", "_law_cell", "_law_turn", "_law_letter_here", "_law_ahead", "_law_found", "_law_handed", "_law_again_here", "_law_kept"]
theorem sc_law : FnScope N_law ["_law_script"] (defScope s_law) := ⟨rfl, rfl, rfl, by decide +kernel, rfl, by decide +kernel, by decide +kernel⟩
structure Txt (K : PySem.W.Frag) (mg : Str → Option Value) (base : Heap) where
  f_is_whole : Addr
  fd_is_whole : FuncData
  F_is_whole : Fun K "is_whole" "is_whole" s_is_whole f_is_whole fd_is_whole
  b_is_whole : Binds K fd_is_whole ["thing"] []
  g_is_whole : mg "is_whole" = some (.ref f_is_whole)
  f_is_within : Addr
  fd_is_within : FuncData
  F_is_within : Fun K "is_within" "is_within" s_is_within f_is_within fd_is_within
  b_is_within : Binds K fd_is_within ["thing", "low", "high"] []
  g_is_within : mg "is_within" = some (.ref f_is_within)
  f_check_day : Addr
  fd_check_day : FuncData
  F_check_day : Fun K "check_day" "check_day" s_check_day f_check_day fd_check_day
  b_check_day : Binds K fd_check_day ["day"] []
  g_check_day : mg "check_day" = some (.ref f_check_day)
  f_month_days : Addr
  fd_month_days : FuncData
  F_month_days : Fun K "month_days" "month_days" s_month_days f_month_days fd_month_days
  b_month_days : Binds K fd_month_days ["year", "month"] []
  g_month_days : mg "month_days" = some (.ref f_month_days)
  f_month_of : Addr
  fd_month_of : FuncData
  F_month_of : Fun K "month_of" "month_of" s_month_of f_month_of fd_month_of
  b_month_of : Binds K fd_month_of ["day"] []
  g_month_of : mg "month_of" = some (.ref f_month_of)
  f_is_leap : Addr
  fd_is_leap : FuncData
  F_is_leap : Fun K "_is_leap" "_is_leap" s_is_leap f_is_leap fd_is_leap
  b_is_leap : Binds K fd_is_leap ["year"] []
  g_is_leap : mg "_is_leap" = some (.ref f_is_leap)
  f_length : Addr
  fd_length : FuncData
  F_length : Fun K "_length" "_length" s_length f_length fd_length
  b_length : Binds K fd_length ["year", "month"] []
  g_length : mg "_length" = some (.ref f_length)
  f_year_start : Addr
  fd_year_start : FuncData
  F_year_start : Fun K "_year_start" "_year_start" s_year_start f_year_start fd_year_start
  b_year_start : Binds K fd_year_start ["year"] []
  g_year_start : mg "_year_start" = some (.ref f_year_start)
  f_check_flat : Addr
  fd_check_flat : FuncData
  F_check_flat : Fun K "check_flat" "check_flat" s_check_flat f_check_flat fd_check_flat
  b_check_flat : Binds K fd_check_flat ["flat"] []
  g_check_flat : mg "check_flat" = some (.ref f_check_flat)
  f_check_amount : Addr
  fd_check_amount : FuncData
  F_check_amount : Fun K "check_amount" "check_amount" s_check_amount f_check_amount fd_check_amount
  b_check_amount : Binds K fd_check_amount ["amount", "low", "high"] []
  g_check_amount : mg "check_amount" = some (.ref f_check_amount)
  f_is_flat : Addr
  fd_is_flat : FuncData
  k_is_flat : Addr
  P_is_flat : Addr
  C_is_flat : FunC K "_is_flat" "_is_flat" s_is_flat f_is_flat fd_is_flat k_is_flat
  tb_is_flat : GxR.TabB base mg k_is_flat P_is_flat
  F_is_flat : Fun K "_is_flat" "_is_flat" s_is_flat f_is_flat fd_is_flat
  b_is_flat : Binds K fd_is_flat ["thing"] []
  g_is_flat : mg "_is_flat" = some (.ref f_is_flat)
  f_in_order : Addr
  fd_in_order : FuncData
  F_in_order : Fun K "in_order" "in_order" s_in_order f_in_order fd_in_order
  b_in_order : Binds K fd_in_order ["terms"] []
  g_in_order : mg "in_order" = some (.ref f_in_order)
  f_spans : Addr
  fd_spans : FuncData
  F_spans : Fun K "spans" "spans" s_spans f_spans fd_spans
  b_spans : Binds K fd_spans ["terms", "first", "last"] []
  g_spans : mg "spans" = some (.ref f_spans)
  f_balance : Addr
  fd_balance : FuncData
  F_balance : Fun K "balance" "balance" s_balance f_balance fd_balance
  b_balance : Binds K fd_balance ["moves", "day"] []
  g_balance : mg "balance" = some (.ref f_balance)
  f_grown : Addr
  fd_grown : FuncData
  F_grown : Fun K "grown" "grown" s_grown f_grown fd_grown
  b_grown : Binds K fd_grown ["moves", "rates", "last"] []
  g_grown : mg "grown" = some (.ref f_grown)
  f_balances : Addr
  fd_balances : FuncData
  F_balances : Fun K "_balances" "_balances" s_balances f_balances fd_balances
  b_balances : Binds K fd_balances ["moves"] []
  g_balances : mg "_balances" = some (.ref f_balances)
  f_pair_held : Addr
  fd_pair_held : FuncData
  F_pair_held : Fun K "pair_held" "pair_held" s_pair_held f_pair_held fd_pair_held
  b_pair_held : Binds K fd_pair_held ["terms", "day"] []
  g_pair_held : mg "pair_held" = some (.ref f_pair_held)
  f_held : Addr
  fd_held : FuncData
  F_held : Fun K "held" "held" s_held f_held fd_held
  b_held : Binds K fd_held ["terms", "day"] []
  g_held : mg "held" = some (.ref f_held)
  f_owed : Addr
  fd_owed : FuncData
  F_owed : Fun K "owed" "owed" s_owed f_owed fd_owed
  b_owed : Binds K fd_owed ["steps", "gauges", "first", "last"] []
  g_owed : mg "owed" = some (.ref f_owed)
  f_parts : Addr
  fd_parts : FuncData
  F_parts : Fun K "_parts" "_parts" s_parts f_parts fd_parts
  b_parts : Binds K fd_parts ["rent", "first", "last"] []
  g_parts : mg "_parts" = some (.ref f_parts)
  f_parts_through : Addr
  fd_parts_through : FuncData
  F_parts_through : Fun K "_parts_through" "_parts_through" s_parts_through f_parts_through fd_parts_through
  b_parts_through : Binds K fd_parts_through ["rent", "year", "month", "number"] []
  g_parts_through : mg "_parts_through" = some (.ref f_parts_through)
  f_Lease_init : Addr
  fd_Lease_init : FuncData
  F_Lease_init : Fun K "__init__" "Lease.__init__" s_Lease_init f_Lease_init fd_Lease_init
  b_Lease_init : Binds K fd_Lease_init ["self", "flat", "first", "rent", "indexed"] []
  f_Lease_lasts_to : Addr
  fd_Lease_lasts_to : FuncData
  F_Lease_lasts_to : Fun K "lasts_to" "Lease.lasts_to" s_Lease_lasts_to f_Lease_lasts_to fd_Lease_lasts_to
  b_Lease_lasts_to : Binds K fd_Lease_lasts_to ["self", "day"] []
  f_Lease_owed_through : Addr
  fd_Lease_owed_through : FuncData
  F_Lease_owed_through : Fun K "owed_through" "Lease.owed_through" s_Lease_owed_through f_Lease_owed_through fd_Lease_owed_through
  b_Lease_owed_through : Binds K fd_Lease_owed_through ["self", "day", "gauges"] []
  f_Lease_pledge_through : Addr
  fd_Lease_pledge_through : FuncData
  F_Lease_pledge_through : Fun K "pledge_through" "Lease.pledge_through" s_Lease_pledge_through f_Lease_pledge_through fd_Lease_pledge_through
  b_Lease_pledge_through : Binds K fd_Lease_pledge_through ["self", "day", "rates"] []
  f_Roll_init : Addr
  fd_Roll_init : FuncData
  F_Roll_init : Fun K "__init__" "Roll.__init__" s_Roll_init f_Roll_init fd_Roll_init
  b_Roll_init : Binds K fd_Roll_init ["self"] []
  f_Roll_let : Addr
  fd_Roll_let : FuncData
  F_Roll_let : Fun K "let" "Roll.let" s_Roll_let f_Roll_let fd_Roll_let
  b_Roll_let : Binds K fd_Roll_let ["self", "flat", "first", "rent", "indexed"] []
  f_Roll_end : Addr
  fd_Roll_end : FuncData
  F_Roll_end : Fun K "end" "Roll.end" s_Roll_end f_Roll_end fd_Roll_end
  b_Roll_end : Binds K fd_Roll_end ["self", "lease", "last"] []
  f_Roll_step : Addr
  fd_Roll_step : FuncData
  F_Roll_step : Fun K "step" "Roll.step" s_Roll_step f_Roll_step fd_Roll_step
  b_Roll_step : Binds K fd_Roll_step ["self", "lease", "first", "rent"] []
  f_Roll_gauge : Addr
  fd_Roll_gauge : FuncData
  F_Roll_gauge : Fun K "gauge" "Roll.gauge" s_Roll_gauge f_Roll_gauge fd_Roll_gauge
  b_Roll_gauge : Binds K fd_Roll_gauge ["self", "first", "number"] []
  f_Roll_rate : Addr
  fd_Roll_rate : FuncData
  F_Roll_rate : Fun K "rate" "Roll.rate" s_Roll_rate f_Roll_rate fd_Roll_rate
  b_Roll_rate : Binds K fd_Roll_rate ["self", "first", "hundredths"] []
  f_Roll_paid : Addr
  fd_Roll_paid : FuncData
  F_Roll_paid : Fun K "paid" "Roll.paid" s_Roll_paid f_Roll_paid fd_Roll_paid
  b_Roll_paid : Binds K fd_Roll_paid ["self", "lease", "day", "cents"] []
  f_Roll_kept : Addr
  fd_Roll_kept : FuncData
  F_Roll_kept : Fun K "kept" "Roll.kept" s_Roll_kept f_Roll_kept fd_Roll_kept
  b_Roll_kept : Binds K fd_Roll_kept ["self", "lease", "day", "cents"] []
  f_Roll_close : Addr
  fd_Roll_close : FuncData
  F_Roll_close : Fun K "close" "Roll.close" s_Roll_close f_Roll_close fd_Roll_close
  b_Roll_close : Binds K fd_Roll_close ["self", "lease", "day"] []
  f_Roll_bill : Addr
  fd_Roll_bill : FuncData
  F_Roll_bill : Fun K "bill" "Roll.bill" s_Roll_bill f_Roll_bill fd_Roll_bill
  b_Roll_bill : Binds K fd_Roll_bill ["self", "day"] []
  f_Roll_many : Addr
  fd_Roll_many : FuncData
  F_Roll_many : Fun K "many" "Roll.many" s_Roll_many f_Roll_many fd_Roll_many
  b_Roll_many : Binds K fd_Roll_many ["self"] []
  f_Roll_billed : Addr
  fd_Roll_billed : FuncData
  F_Roll_billed : Fun K "billed" "Roll.billed" s_Roll_billed f_Roll_billed fd_Roll_billed
  b_Roll_billed : Binds K fd_Roll_billed ["self"] []
  f_Roll_lease : Addr
  fd_Roll_lease : FuncData
  F_Roll_lease : Fun K "lease" "Roll.lease" s_Roll_lease f_Roll_lease fd_Roll_lease
  b_Roll_lease : Binds K fd_Roll_lease ["self", "number"] []
  f_Roll_owed : Addr
  fd_Roll_owed : FuncData
  F_Roll_owed : Fun K "owed" "Roll.owed" s_Roll_owed f_Roll_owed fd_Roll_owed
  b_Roll_owed : Binds K fd_Roll_owed ["self", "lease", "day"] []
  f_Roll_pledge : Addr
  fd_Roll_pledge : FuncData
  F_Roll_pledge : Fun K "pledge" "Roll.pledge" s_Roll_pledge f_Roll_pledge fd_Roll_pledge
  b_Roll_pledge : Binds K fd_Roll_pledge ["self", "lease", "day"] []
  f_Roll_sent : Addr
  fd_Roll_sent : FuncData
  F_Roll_sent : Fun K "sent" "Roll.sent" s_Roll_sent f_Roll_sent fd_Roll_sent
  b_Roll_sent : Binds K fd_Roll_sent ["self", "lease"] []
  f_Roll_given : Addr
  fd_Roll_given : FuncData
  F_Roll_given : Fun K "given" "Roll.given" s_Roll_given f_Roll_given fd_Roll_given
  b_Roll_given : Binds K fd_Roll_given ["self", "lease"] []
  f_Roll_letters : Addr
  fd_Roll_letters : FuncData
  F_Roll_letters : Fun K "letters" "Roll.letters" s_Roll_letters f_Roll_letters fd_Roll_letters
  b_Roll_letters : Binds K fd_Roll_letters ["self"] []
  f_Roll__known : Addr
  fd_Roll__known : FuncData
  F_Roll__known : Fun K "_known" "Roll._known" s_Roll__known f_Roll__known fd_Roll__known
  b_Roll__known : Binds K fd_Roll__known ["self", "number"] []
  f_Roll__check_free : Addr
  fd_Roll__check_free : FuncData
  F_Roll__check_free : Fun K "_check_free" "Roll._check_free" s_Roll__check_free f_Roll__check_free fd_Roll__check_free
  b_Roll__check_free : Binds K fd_Roll__check_free ["self", "flat", "first"] []
  f_Roll__check_end : Addr
  fd_Roll__check_end : FuncData
  F_Roll__check_end : Fun K "_check_end" "Roll._check_end" s_Roll__check_end f_Roll__check_end fd_Roll__check_end
  b_Roll__check_end : Binds K fd_Roll__check_end ["self", "ended", "last"] []
  f_Roll__move : Addr
  fd_Roll__move : FuncData
  F_Roll__move : Fun K "_move" "Roll._move" s_Roll__move f_Roll__move fd_Roll__move
  b_Roll__move : Binds K fd_Roll__move ["self", "lease", "day", "cents", "sign"] []
  f_Roll__done : Addr
  fd_Roll__done : FuncData
  F_Roll__done : Fun K "_done" "Roll._done" s_Roll__done f_Roll__done fd_Roll__done
  b_Roll__done : Binds K fd_Roll__done ["self", "letter"] []
  f_roll_of : Addr
  fd_roll_of : FuncData
  F_roll_of : Fun K "roll_of" "roll_of" s_roll_of f_roll_of fd_roll_of
  b_roll_of : Binds K fd_roll_of ["letters"] []
  g_roll_of : mg "roll_of" = some (.ref f_roll_of)
  f_tell : Addr
  fd_tell : FuncData
  F_tell : Fun K "_tell" "_tell" s_tell f_tell fd_tell
  b_tell : Binds K fd_tell ["roll", "letter"] []
  g_tell : mg "_tell" = some (.ref f_tell)
  f_l_cell_at : Addr
  fd_l_cell_at : FuncData
  F_l_cell_at : Fun K "_law_cell_at" "_law_cell_at" s_l_cell_at f_l_cell_at fd_l_cell_at
  b_l_cell_at : Binds K fd_l_cell_at ["_law_script", "_law_k"] []
  g_l_cell_at : mg "_law_cell_at" = some (.ref f_l_cell_at)
  f_l_mix : Addr
  fd_l_mix : FuncData
  F_l_mix : Fun K "_law_mix" "_law_mix" s_l_mix f_l_mix fd_l_mix
  b_l_mix : Binds K fd_l_mix ["_law_number_here", "_law_k"] []
  g_l_mix : mg "_law_mix" = some (.ref f_l_mix)
  f_l_base : Addr
  fd_l_base : FuncData
  F_l_base : Fun K "_law_base" "_law_base" s_l_base f_l_base fd_l_base
  b_l_base : Binds K fd_l_base ["_law_cell"] []
  g_l_base : mg "_law_base" = some (.ref f_l_base)
  f_l_money : Addr
  fd_l_money : FuncData
  F_l_money : Fun K "_law_money" "_law_money" s_l_money f_l_money fd_l_money
  b_l_money : Binds K fd_l_money ["_law_cell"] []
  g_l_money : mg "_law_money" = some (.ref f_l_money)
  f_l_number : Addr
  fd_l_number : FuncData
  F_l_number : Fun K "_law_number" "_law_number" s_l_number f_l_number fd_l_number
  b_l_number : Binds K fd_l_number ["_law_cell"] []
  g_l_number : mg "_law_number" = some (.ref f_l_number)
  f_l_flats : Addr
  fd_l_flats : FuncData
  F_l_flats : Fun K "_law_flats" "_law_flats" s_l_flats f_l_flats fd_l_flats
  b_l_flats : Binds K fd_l_flats ["_law_cell"] []
  g_l_flats : mg "_law_flats" = some (.ref f_l_flats)
  f_l_letter : Addr
  fd_l_letter : FuncData
  F_l_letter : Fun K "_law_letter" "_law_letter" s_l_letter f_l_letter fd_l_letter
  b_l_letter : Binds K fd_l_letter ["_law_cell", "_law_base_here", "_law_wide", "_law_flats_here", "_law_many"] []
  g_l_letter : mg "_law_letter" = some (.ref f_l_letter)
  f_l_do : Addr
  fd_l_do : FuncData
  F_l_do : Fun K "_law_do" "_law_do" s_l_do f_l_do fd_l_do
  b_l_do : Binds K fd_l_do ["_law_roll", "_law_letter_here"] []
  g_l_do : mg "_law_do" = some (.ref f_l_do)
  f_l_told : Addr
  fd_l_told : FuncData
  F_l_told : Fun K "_law_told" "_law_told" s_l_told f_l_told fd_l_told
  b_l_told : Binds K fd_l_told ["_law_roll", "_law_letter_here"] []
  g_l_told : mg "_law_told" = some (.ref f_l_told)
  f_l_room : Addr
  fd_l_room : FuncData
  F_l_room : Fun K "_law_room" "_law_room" s_l_room f_l_room fd_l_room
  b_l_room : Binds K fd_l_room ["_law_script", "_law_small", "_law_great"] []
  g_l_room : mg "_law_room" = some (.ref f_l_room)
  f_l_all : Addr
  fd_l_all : FuncData
  F_l_all : Fun K "_law_all" "_law_all" s_l_all f_l_all fd_l_all
  b_l_all : Binds K fd_l_all ["_law_roll", "_law_day"] []
  g_l_all : mg "_law_all" = some (.ref f_l_all)
  f_l_again : Addr
  fd_l_again : FuncData
  F_l_again : Fun K "_law_again" "_law_again" s_l_again f_l_again fd_l_again
  b_l_again : Binds K fd_l_again ["_law_letters"] []
  g_l_again : mg "_law_again" = some (.ref f_l_again)
  f_law : Addr
  fd_law : FuncData
  F_law : Fun K "law" "law" s_law f_law fd_law
  b_law : Binds K fd_law ["_law_script"] []
  g_law : mg "law" = some (.ref f_law)
  c_RentError : Addr
  g_RentError : mg "RentError" = some (.ref c_RentError)
  c_BadDay : Addr
  g_BadDay : mg "BadDay" = some (.ref c_BadDay)
  c_BadFlat : Addr
  g_BadFlat : mg "BadFlat" = some (.ref c_BadFlat)
  c_BadAmount : Addr
  g_BadAmount : mg "BadAmount" = some (.ref c_BadAmount)
  c_NoLease : Addr
  g_NoLease : mg "NoLease" = some (.ref c_NoLease)
  c_Taken : Addr
  g_Taken : mg "Taken" = some (.ref c_Taken)
  c_Full : Addr
  g_Full : mg "Full" = some (.ref c_Full)
  c_Done : Addr
  g_Done : mg "Done" = some (.ref c_Done)
  x_BadDay : PySem.W.excIn K c_BadDay [.type "ValueError", .type "Exception", .type "BaseException", .type "object"] "ValueError.__new__" = true
  k_BadDay : PySem.W.keepIn K (.ref c_BadDay) = true
  s_BadDay : PySem.W.subIn K (.ref c_BadDay) (.type "BaseException") = some true
  t_BadDay : PySem.W.typeIn K (.ref c_BadDay) = some (.type "type")
  m_BadDay_NoLease : PySem.W.exmOne K (.ref c_BadDay) (.ref c_NoLease) = some false
  m_BadDay_BadDay : PySem.W.exmOne K (.ref c_BadDay) (.ref c_BadDay) = some true
  m_BadDay_Taken : PySem.W.exmOne K (.ref c_BadDay) (.ref c_Taken) = some false
  m_BadDay_Done : PySem.W.exmOne K (.ref c_BadDay) (.ref c_Done) = some false
  m_BadDay_Full : PySem.W.exmOne K (.ref c_BadDay) (.ref c_Full) = some false
  x_BadFlat : PySem.W.excIn K c_BadFlat [.type "ValueError", .type "Exception", .type "BaseException", .type "object"] "ValueError.__new__" = true
  k_BadFlat : PySem.W.keepIn K (.ref c_BadFlat) = true
  s_BadFlat : PySem.W.subIn K (.ref c_BadFlat) (.type "BaseException") = some true
  t_BadFlat : PySem.W.typeIn K (.ref c_BadFlat) = some (.type "type")
  m_BadFlat_NoLease : PySem.W.exmOne K (.ref c_BadFlat) (.ref c_NoLease) = some false
  m_BadFlat_BadDay : PySem.W.exmOne K (.ref c_BadFlat) (.ref c_BadDay) = some false
  m_BadFlat_Taken : PySem.W.exmOne K (.ref c_BadFlat) (.ref c_Taken) = some false
  m_BadFlat_Done : PySem.W.exmOne K (.ref c_BadFlat) (.ref c_Done) = some false
  m_BadFlat_Full : PySem.W.exmOne K (.ref c_BadFlat) (.ref c_Full) = some false
  x_BadAmount : PySem.W.excIn K c_BadAmount [.type "ValueError", .type "Exception", .type "BaseException", .type "object"] "ValueError.__new__" = true
  k_BadAmount : PySem.W.keepIn K (.ref c_BadAmount) = true
  s_BadAmount : PySem.W.subIn K (.ref c_BadAmount) (.type "BaseException") = some true
  t_BadAmount : PySem.W.typeIn K (.ref c_BadAmount) = some (.type "type")
  m_BadAmount_NoLease : PySem.W.exmOne K (.ref c_BadAmount) (.ref c_NoLease) = some false
  m_BadAmount_BadDay : PySem.W.exmOne K (.ref c_BadAmount) (.ref c_BadDay) = some false
  m_BadAmount_Taken : PySem.W.exmOne K (.ref c_BadAmount) (.ref c_Taken) = some false
  m_BadAmount_Done : PySem.W.exmOne K (.ref c_BadAmount) (.ref c_Done) = some false
  m_BadAmount_Full : PySem.W.exmOne K (.ref c_BadAmount) (.ref c_Full) = some false
  x_Full : PySem.W.excIn K c_Full [.type "ValueError", .type "Exception", .type "BaseException", .type "object"] "ValueError.__new__" = true
  k_Full : PySem.W.keepIn K (.ref c_Full) = true
  s_Full : PySem.W.subIn K (.ref c_Full) (.type "BaseException") = some true
  t_Full : PySem.W.typeIn K (.ref c_Full) = some (.type "type")
  m_Full_NoLease : PySem.W.exmOne K (.ref c_Full) (.ref c_NoLease) = some false
  m_Full_BadDay : PySem.W.exmOne K (.ref c_Full) (.ref c_BadDay) = some false
  m_Full_Taken : PySem.W.exmOne K (.ref c_Full) (.ref c_Taken) = some false
  m_Full_Done : PySem.W.exmOne K (.ref c_Full) (.ref c_Done) = some false
  m_Full_Full : PySem.W.exmOne K (.ref c_Full) (.ref c_Full) = some true
  x_Done : PySem.W.excIn K c_Done [.type "ValueError", .type "Exception", .type "BaseException", .type "object"] "ValueError.__new__" = true
  k_Done : PySem.W.keepIn K (.ref c_Done) = true
  s_Done : PySem.W.subIn K (.ref c_Done) (.type "BaseException") = some true
  t_Done : PySem.W.typeIn K (.ref c_Done) = some (.type "type")
  m_Done_NoLease : PySem.W.exmOne K (.ref c_Done) (.ref c_NoLease) = some false
  m_Done_BadDay : PySem.W.exmOne K (.ref c_Done) (.ref c_BadDay) = some false
  m_Done_Taken : PySem.W.exmOne K (.ref c_Done) (.ref c_Taken) = some false
  m_Done_Done : PySem.W.exmOne K (.ref c_Done) (.ref c_Done) = some true
  m_Done_Full : PySem.W.exmOne K (.ref c_Done) (.ref c_Full) = some false
  x_NoLease : PySem.W.excIn K c_NoLease [.type "ValueError", .type "Exception", .type "BaseException", .type "object"] "ValueError.__new__" = true
  k_NoLease : PySem.W.keepIn K (.ref c_NoLease) = true
  s_NoLease : PySem.W.subIn K (.ref c_NoLease) (.type "BaseException") = some true
  t_NoLease : PySem.W.typeIn K (.ref c_NoLease) = some (.type "type")
  m_NoLease_NoLease : PySem.W.exmOne K (.ref c_NoLease) (.ref c_NoLease) = some true
  m_NoLease_BadDay : PySem.W.exmOne K (.ref c_NoLease) (.ref c_BadDay) = some false
  m_NoLease_Taken : PySem.W.exmOne K (.ref c_NoLease) (.ref c_Taken) = some false
  m_NoLease_Done : PySem.W.exmOne K (.ref c_NoLease) (.ref c_Done) = some false
  m_NoLease_Full : PySem.W.exmOne K (.ref c_NoLease) (.ref c_Full) = some false
  x_Taken : PySem.W.excIn K c_Taken [.type "ValueError", .type "Exception", .type "BaseException", .type "object"] "ValueError.__new__" = true
  k_Taken : PySem.W.keepIn K (.ref c_Taken) = true
  s_Taken : PySem.W.subIn K (.ref c_Taken) (.type "BaseException") = some true
  t_Taken : PySem.W.typeIn K (.ref c_Taken) = some (.type "type")
  m_Taken_NoLease : PySem.W.exmOne K (.ref c_Taken) (.ref c_NoLease) = some false
  m_Taken_BadDay : PySem.W.exmOne K (.ref c_Taken) (.ref c_BadDay) = some false
  m_Taken_Taken : PySem.W.exmOne K (.ref c_Taken) (.ref c_Taken) = some true
  m_Taken_Done : PySem.W.exmOne K (.ref c_Taken) (.ref c_Done) = some false
  m_Taken_Full : PySem.W.exmOne K (.ref c_Taken) (.ref c_Full) = some false
  x_RentError : PySem.W.excIn K c_RentError [.type "ValueError", .type "Exception", .type "BaseException", .type "object"] "ValueError.__new__" = true
  k_RentError : PySem.W.keepIn K (.ref c_RentError) = true
  s_RentError : PySem.W.subIn K (.ref c_RentError) (.type "BaseException") = some true
  t_RentError : PySem.W.typeIn K (.ref c_RentError) = some (.type "type")
  m_RentError_NoLease : PySem.W.exmOne K (.ref c_RentError) (.ref c_NoLease) = some false
  m_RentError_BadDay : PySem.W.exmOne K (.ref c_RentError) (.ref c_BadDay) = some false
  m_RentError_Taken : PySem.W.exmOne K (.ref c_RentError) (.ref c_Taken) = some false
  m_RentError_Done : PySem.W.exmOne K (.ref c_RentError) (.ref c_Done) = some false
  m_RentError_Full : PySem.W.exmOne K (.ref c_RentError) (.ref c_Full) = some false
  c_Lease : Addr
  g_Lease : mg "Lease" = some (.ref c_Lease)
  cl_Lease : Cls K c_Lease
  n_Lease_flat : NoAttr K c_Lease "flat"
  n_Lease_first : NoAttr K c_Lease "first"
  n_Lease_last : NoAttr K c_Lease "last"
  n_Lease_indexed : NoAttr K c_Lease "indexed"
  n_Lease_steps : NoAttr K c_Lease "steps"
  n_Lease_moves : NoAttr K c_Lease "moves"
  n_Lease_closing : NoAttr K c_Lease "closing"
  n_Lease_cents_sent : NoAttr K c_Lease "cents_sent"
  n_Lease_cents_given : NoAttr K c_Lease "cents_given"
  mk_Lease : Mk K c_Lease f_Lease_init
  m_Lease_lasts_to : Meth K c_Lease "lasts_to" f_Lease_lasts_to
  m_Lease_owed_through : Meth K c_Lease "owed_through" f_Lease_owed_through
  m_Lease_pledge_through : Meth K c_Lease "pledge_through" f_Lease_pledge_through
  c_Roll : Addr
  g_Roll : mg "Roll" = some (.ref c_Roll)
  cl_Roll : Cls K c_Roll
  n_Roll__leases : NoAttr K c_Roll "_leases"
  n_Roll__gauges : NoAttr K c_Roll "_gauges"
  n_Roll__rates : NoAttr K c_Roll "_rates"
  n_Roll__billed : NoAttr K c_Roll "_billed"
  n_Roll__letters : NoAttr K c_Roll "_letters"
  mk_Roll : Mk K c_Roll f_Roll_init
  m_Roll_let : Meth K c_Roll "let" f_Roll_let
  m_Roll_end : Meth K c_Roll "end" f_Roll_end
  m_Roll_step : Meth K c_Roll "step" f_Roll_step
  m_Roll_gauge : Meth K c_Roll "gauge" f_Roll_gauge
  m_Roll_rate : Meth K c_Roll "rate" f_Roll_rate
  m_Roll_paid : Meth K c_Roll "paid" f_Roll_paid
  m_Roll_kept : Meth K c_Roll "kept" f_Roll_kept
  m_Roll_close : Meth K c_Roll "close" f_Roll_close
  m_Roll_bill : Meth K c_Roll "bill" f_Roll_bill
  m_Roll_many : Meth K c_Roll "many" f_Roll_many
  m_Roll_billed : Meth K c_Roll "billed" f_Roll_billed
  m_Roll_lease : Meth K c_Roll "lease" f_Roll_lease
  m_Roll_owed : Meth K c_Roll "owed" f_Roll_owed
  m_Roll_pledge : Meth K c_Roll "pledge" f_Roll_pledge
  m_Roll_sent : Meth K c_Roll "sent" f_Roll_sent
  m_Roll_given : Meth K c_Roll "given" f_Roll_given
  m_Roll_letters : Meth K c_Roll "letters" f_Roll_letters
  m_Roll__known : Meth K c_Roll "_known" f_Roll__known
  m_Roll__check_free : Meth K c_Roll "_check_free" f_Roll__check_free
  m_Roll__check_end : Meth K c_Roll "_check_end" f_Roll__check_end
  m_Roll__move : Meth K c_Roll "_move" f_Roll__move
  m_Roll__done : Meth K c_Roll "_done" f_Roll__done
  tk_FIRST_YEAR : Tok
  g_FIRST_YEAR : mg "FIRST_YEAR" = some (.int 2000 tk_FIRST_YEAR)
  tk_LAST_YEAR : Tok
  g_LAST_YEAR : mg "LAST_YEAR" = some (.int 2273 tk_LAST_YEAR)
  tk_LAST_DAY : Tok
  g_LAST_DAY : mg "LAST_DAY" = some (.int 99999 tk_LAST_DAY)
  tk_LONGEST_YEAR : Tok
  g_LONGEST_YEAR : mg "LONGEST_YEAR" = some (.int 366 tk_LONGEST_YEAR)
  a_LENGTHS : Addr
  g_LENGTHS : mg "LENGTHS" = some (.ref a_LENGTHS)
  q_LENGTHS : ∀ H : Hp, SqT K H a_LENGTHS [.int 31, .int 28, .int 31, .int 30, .int 31, .int 30, .int 31, .int 31, .int 30, .int 31, .int 30, .int 31]
  tk_LONGEST_FLAT : Tok
  g_LONGEST_FLAT : mg "LONGEST_FLAT" = some (.int 8 tk_LONGEST_FLAT)
  tk_WHOLE : Tok
  g_WHOLE : mg "WHOLE" = some (.int 3650000 tk_WHOLE)
  a_STEADY : Addr
  i_STEADY : Addr
  g_STEADY : mg "STEADY" = some (.ref a_STEADY)
  q_STEADY : ∀ H : Hp, SqT K H a_STEADY [.ref i_STEADY]
  qi_STEADY : ∀ H : Hp, SqT K H i_STEADY [.int 0, .int 100]
  tk_MOST_LEASES : Tok
  g_MOST_LEASES : mg "MOST_LEASES" = some (.int 20 tk_MOST_LEASES)
  tk_MOST_CENTS : Tok
  g_MOST_CENTS : mg "MOST_CENTS" = some (.int 1000000000 tk_MOST_CENTS)
  tk_MOST_GAUGE : Tok
  g_MOST_GAUGE : mg "MOST_GAUGE" = some (.int 1000000 tk_MOST_GAUGE)
  tk_MOST_RATE : Tok
  g_MOST_RATE : mg "MOST_RATE" = some (.int 10000 tk_MOST_RATE)
  n_isinstance : mg "isinstance" = none
  n_int : mg "int" = none
  n_bool : mg "bool" = none
  n_all : mg "all" = none
  n_str : mg "str" = none
  n_len : mg "len" = none
  n_sorted : mg "sorted" = none
  n_reversed : mg "reversed" = none
  n_max : mg "max" = none
  n_sum : mg "sum" = none
  n_list : mg "list" = none
  n_enumerate : mg "enumerate" = none
  n_range : mg "range" = none
  n_tuple : mg "tuple" = none

def isI : V → Bool
  | .int _ => true
  | _ => false
def isB : V → Bool
  | .bl _ => true
  | _ => false
def thing (H : Hp) : V → Prop
  | .int _ => True
  | .bl _ => True
  | .str _ => True
  | .non => True
  | .ref a => ∃ xs, H a = some (.tup xs)
  | _ => False
theorem thing_ty {K : PySem.W.Frag} {H : Hp} {x : V} (h : thing H x) : ∃ n : String, TyX K H x (.type n) ∧ kitB n "int" = some (isI x || isB x) ∧ kitB n "bool" = some (isB x) := by
  cases x with
  | int i => exact ⟨"int", .base (.int i), (by decide +kernel : kitB "int" "int" = some true), (by decide +kernel : kitB "int" "bool" = some false)⟩
  | bl i => exact ⟨"bool", .base (.bl i), (by decide +kernel : kitB "bool" "int" = some true), (by decide +kernel : kitB "bool" "bool" = some true)⟩
  | str i => exact ⟨"str", .base (.str i), (by decide +kernel : kitB "str" "int" = some false), (by decide +kernel : kitB "str" "bool" = some false)⟩
  | non => exact ⟨"NoneType", .base .non, by decide +kernel, by decide +kernel⟩
  | ref a => obtain ⟨xs, e⟩ := h; exact ⟨"tuple", .base (.tup e), (by decide +kernel : kitB "tuple" "int" = some false), (by decide +kernel : kitB "tuple" "bool" = some false)⟩
  | _ => exact h.elim
theorem thing_same {H H' : Hp} {x : V} (e : Same H H') (h : thing H x) : thing H' x := by
  cases x with
  | ref a => obtain ⟨xs, q⟩ := h; exact ⟨xs, e _ _ q⟩
  | _ => exact h
theorem isI_not {x : V} (h : isB x = true) : isI x = false := by
  cases x <;> first | rfl | cases h
def within (x : V) (lo hi : Int) : Bool := match x with
  | .int i => decide (lo ≤ i) && decide (i ≤ hi)
  | _ => false
def sp_is_whole : Sp := fun vs H Q _ => ∃ x, vs = [x] ∧ thing H x ∧ Q (.bl (isI x)) H
theorem at0 {x : V} {r : List V} : atI (x :: r) 0 = some x := atI_nat (j := 0) rfl
theorem at1 {x y : V} {r : List V} : atI (x :: y :: r) 1 = some y := atI_nat (j := 1) rfl
theorem at2 {x y z : V} {r : List V} : atI (x :: y :: z :: r) 2 = some z := atI_nat (j := 2) rfl

def sp_is_within : Sp := fun vs H Q _ => ∃ x lo hi, vs = [x, .int lo, .int hi] ∧ thing H x ∧ Q (.bl (within x lo hi)) H
def leap (y : Int) : Bool := if y % 100 = 0 then decide (y % 400 = 0) else decide (y % 4 = 0)
def lens : List Int := [31, 28, 31, 30, 31, 30, 31, 31, 30, 31, 30, 31]
def mlen (y m : Int) : Int := if m = 2 ∧ leap y = true then 29 else lens.getD (m - 1).toNat 0
def sp_is_leap : Sp := fun vs H Q _ => ∃ y, vs = [.int y] ∧ Q (.bl (leap y)) H
def sp_length : Sp := fun vs H Q _ => ∃ y m, vs = [.int y, .int m] ∧ 1 ≤ m ∧ m ≤ 12 ∧ Q (.int (mlen y m)) H
theorem at_lens {m : Int} (h1 : 1 ≤ m) (h2 : m ≤ 12) : atI (lens.map V.int) (m - 1) = some (.int (lens.getD (m - 1).toNat 0)) := by
  obtain rfl | rfl | rfl | rfl | rfl | rfl | rfl | rfl | rfl | rfl | rfl | rfl : m = 1 ∨ m = 2 ∨ m = 3 ∨ m = 4 ∨ m = 5 ∨ m = 6 ∨ m = 7 ∨ m = 8 ∨ m = 9 ∨ m = 10 ∨ m = 11 ∨ m = 12 := by omega
  all_goals rfl
theorem leap_eq (y : Int) : (decide (y % 4 = 0) && (decide (0 < y % 100) || decide (y % 400 = 0))) = leap y := by
  unfold leap
  by_cases h : y % 100 = 0
  · rw [if_pos h]
    by_cases h4 : y % 400 = 0
    · have : y % 4 = 0 := by omega
      simp [h4, this]
    · simp [h4, h]
  · rw [if_neg h]
    have : 0 < y % 100 := by omega
    simp [this]
def isdate (x y : V) : Bool := within x 2000 2273 && within y 1 12
def sp_month_days (C : Addr) : Sp := fun vs H Q E => ∃ x y, vs = [x, y] ∧ thing H x ∧ thing H y ∧
  (∀ i m, x = .int i → y = .int m → isdate x y = true → Q (.int (mlen i m)) H) ∧ (isdate x y = false → E (.ref C) none H)
def ystart (y : Int) : Int := 365 * (y - 2000) + ((y - 2000 + 3) / 4 - (y - 2000 + 99) / 100 + (y - 2000 + 399) / 400)
def ylen (y : Int) : Int := 365 + if leap y = true then 1 else 0
theorem ystart_succ (y : Int) : ystart (y + 1) = ystart y + ylen y := by
  unfold ystart ylen leap
  by_cases h : y % 100 = 0
  · rw [if_pos h]
    by_cases h4 : y % 400 = 0
    · simp only [h4, decide_true, if_pos]; omega
    · simp only [h4, decide_false, Bool.false_eq_true, if_false]; omega
  · rw [if_neg h]
    by_cases h4 : y % 4 = 0
    · simp only [h4, decide_true, if_pos]; omega
    · simp only [h4, decide_false, Bool.false_eq_true, if_false]; omega
theorem ystart_le {a b : Int} (h : a ≤ b) : ystart a ≤ ystart b := by unfold ystart; omega
theorem ystart_nn {a : Int} (h : 2000 ≤ a) : 0 ≤ ystart a := by unfold ystart; omega
theorem ystart_guess {d : Int} (h : 0 ≤ d) : ystart (2000 + d / 366) ≤ d := by unfold ystart; omega
def cum : List Int := [0, 31, 59, 90, 120, 151, 181, 212, 243, 273, 304, 334, 365]
def mstart (y m : Int) : Int := cum.getD (m - 1).toNat 0 + if 2 < m ∧ leap y = true then 1 else 0
theorem month12 {m : Int} (h1 : 1 ≤ m) (h2 : m ≤ 12) : m = 1 ∨ m = 2 ∨ m = 3 ∨ m = 4 ∨ m = 5 ∨ m = 6 ∨ m = 7 ∨ m = 8 ∨ m = 9 ∨ m = 10 ∨ m = 11 ∨ m = 12 := by omega
theorem mstart_succ {y m : Int} (h1 : 1 ≤ m) (h2 : m ≤ 12) : mstart y (m + 1) = mstart y m + mlen y m := by
  unfold mstart mlen
  cases leap y <;> rcases month12 h1 h2 with rfl | rfl | rfl | rfl | rfl | rfl | rfl | rfl | rfl | rfl | rfl | rfl <;> decide
theorem mstart_one (y : Int) : mstart y 1 = 0 := by
  unfold mstart
  cases leap y <;> decide
theorem mstart_end (y : Int) : mstart y 12 + mlen y 12 = ylen y := by
  unfold mstart mlen ylen
  cases leap y <;> decide
theorem mlen_pos {y m : Int} (h1 : 1 ≤ m) (h2 : m ≤ 12) : 28 ≤ mlen y m ∧ mlen y m ≤ 31 := by
  unfold mlen
  cases leap y <;> rcases month12 h1 h2 with rfl | rfl | rfl | rfl | rfl | rfl | rfl | rfl | rfl | rfl | rfl | rfl <;> decide
theorem mstart_le {y m : Int} (h1 : 1 ≤ m) : ∀ n : Nat, m + n ≤ 13 → mstart y m ≤ mstart y (m + n)
  | 0, _ => by rw [show m + ((0 : Nat) : Int) = m by omega]; exact Int.le_refl _
  | n + 1, h => by
    have ih := mstart_le (y := y) h1 n (by omega)
    have e := mstart_succ (y := y) (m := m + n) (by omega) (by omega)
    have p := mlen_pos (y := y) (m := m + n) (by omega) (by omega)
    rw [show m + ((n + 1 : Nat) : Int) = m + n + 1 by omega]
    omega
theorem mstart_mono {y m n : Int} (h1 : 1 ≤ m) (h2 : m ≤ n) (h3 : n ≤ 13) : mstart y m ≤ mstart y n := by
  have h := mstart_le (y := y) h1 (n - m).toNat (by omega)
  rw [show m + (((n - m).toNat : Nat) : Int) = n by omega] at h
  exact h
structure IsDate (d y m k : Int) : Prop where
  y1 : 2000 ≤ y
  m1 : 1 ≤ m
  m2 : m ≤ 12
  k1 : 1 ≤ k
  k2 : k ≤ mlen y m
  eq : d = ystart y + mstart y m + k - 1
theorem IsDate.inYear {d y m k : Int} (h : IsDate d y m k) : ystart y ≤ d ∧ d < ystart (y + 1) := by
  have e := ystart_succ y
  have e2 := mstart_end y
  have e3 := mstart_mono (y := y) h.m1 (show m ≤ m from Int.le_refl _) (by have := h.m2; omega)
  have e4 : mstart y 1 ≤ mstart y m := mstart_mono (by omega) h.m1 (by have := h.m2; omega)
  rw [mstart_one] at e4
  have e5 : mstart y (m + 1) ≤ mstart y 13 := mstart_mono (by have := h.m1; omega) (by have := h.m2; omega) (by omega)
  have e6 := mstart_succ (y := y) h.m1 h.m2
  have e7 : mstart y 13 = mstart y 12 + mlen y 12 := mstart_succ (y := y) (m := 12) (by omega) (by omega)
  have := h.k1
  have := h.k2
  have := h.eq
  omega
theorem IsDate.yle {d y m k : Int} (h : IsDate d y m k) (hd : d ≤ 99999) : y ≤ 2273 := by
  by_cases c : y ≤ 2273
  · exact c
  · have e := ystart_le (show 2274 ≤ y by omega)
    have e2 : ystart 2274 = 100077 := by decide
    have := h.inYear.1
    omega
theorem IsDate.uniq {d y m k y' m' k' : Int} (h : IsDate d y m k) (h' : IsDate d y' m' k') : y = y' ∧ m = m' ∧ k = k' := by
  have a := h.inYear
  have b := h'.inYear
  have ey : y = y' := by
    rcases Int.lt_trichotomy y y' with c | c | c
    · have := ystart_le (show y + 1 ≤ y' by omega); omega
    · exact c
    · have := ystart_le (show y' + 1 ≤ y by omega); omega
  subst ey
  have := h.k1; have := h.k2; have := h.eq; have := h.m1; have := h.m2
  have := h'.k1; have := h'.k2; have := h'.eq; have := h'.m1; have := h'.m2
  have em : m = m' := by
    rcases Int.lt_trichotomy m m' with c | c | c
    · have q1 := mstart_mono (y := y) (m := m + 1) (n := m') (by omega) (by omega) (by omega)
      have q2 := mstart_succ (y := y) (m := m) (by omega) (by omega)
      omega
    · exact c
    · have q1 := mstart_mono (y := y) (m := m' + 1) (n := m) (by omega) (by omega) (by omega)
      have q2 := mstart_succ (y := y) (m := m') (by omega) (by omega)
      omega
  subst em
  exact ⟨rfl, rfl, by omega⟩
theorem mstart_nn {y m : Int} (h1 : 1 ≤ m) (h2 : m ≤ 13) : 0 ≤ mstart y m := by
  have := mstart_mono (y := y) (m := 1) (n := m) (by omega) h1 h2
  rw [mstart_one] at this
  exact this
theorem mstart_sum (y : Int) : ∀ n : Nat, n ≤ 12 → ((List.range n).map fun (i : Nat) => mlen y (1 + (i : Int))).sum = mstart y (1 + (n : Int))
  | 0, _ => (mstart_one y).symm
  | n + 1, h => by
    have ih := mstart_sum y n (by omega)
    rw [range_more, List.sum_append, ih]
    have e := mstart_succ (y := y) (m := 1 + (n : Int)) (by omega) (by omega)
    rw [show (1 + ((n + 1 : Nat) : Int)) = 1 + (n : Int) + 1 by omega, e]
    simp
def sp_check_day (C : Addr) : Sp := fun vs H Q E => ∃ x, vs = [x] ∧ thing H x ∧ (within x 0 99999 = true → Q .non H) ∧ (within x 0 99999 = false → E (.ref C) none H)
def sp_year_start : Sp := fun vs H Q _ => ∃ y, vs = [.int y] ∧ Q (.int (ystart y)) H
def sp_month_of (C : Addr) : Sp := fun vs H Q E => ∃ x, vs = [x] ∧ thing H x ∧
  (∀ i y m k, x = .int i → 0 ≤ i → i ≤ 99999 → IsDate i y m k → ∀ p, H p = none → Q (.ref p) (upd H p (.tup [.int y, .int m, .int k]))) ∧ (within x 0 99999 = false → E (.ref C) none H)
def dayv (x y z : V) : Option Int := match x, y, z with
  | .int yy, .int mm, .int kk => if isdate (.int yy) (.int mm) = true ∧ 1 ≤ kk ∧ kk ≤ mlen yy mm ∧ ystart yy + mstart yy mm + kk - 1 ≤ 99999 then some (ystart yy + mstart yy mm + kk - 1) else none
  | _, _, _ => none
def sp_day_of (C : Addr) : Sp := fun vs H Q E => ∃ x y z, vs = [x, y, z] ∧ thing H x ∧ thing H y ∧ thing H z ∧
  (∀ d, dayv x y z = some d → ∀ H', Same H H' → Q (.int d) H') ∧ (dayv x y z = none → ∀ H', Same H H' → E (.ref C) none H')
theorem within_int {x : V} {lo hi : Int} (h : within x lo hi = true) : ∃ i, x = .int i ∧ lo ≤ i ∧ i ≤ hi := by
  cases x with
  | int i =>
    simp only [within, Bool.and_eq_true, decide_eq_true_eq] at h
    exact ⟨i, rfl, h⟩
  | _ => cases h
theorem isdate_ints {x y : V} (h : isdate x y = true) : ∃ i m, x = .int i ∧ y = .int m ∧ 2000 ≤ i ∧ i ≤ 2273 ∧ 1 ≤ m ∧ m ≤ 12 := by
  simp only [isdate, Bool.and_eq_true] at h
  obtain ⟨i, rfl, h1, h2⟩ := within_int h.1
  obtain ⟨m, rfl, h3, h4⟩ := within_int h.2
  exact ⟨i, m, rfl, rfl, h1, h2, h3, h4⟩
theorem dayv_no {x y z : V} (h : isdate x y = false) : dayv x y z = none := by
  cases x <;> cases y <;> cases z <;> first | rfl | (unfold dayv; exact if_neg fun q => by rw [h] at q; exact Bool.false_ne_true q.1)
theorem dayv_yes {d y m k : Int} (h : IsDate d y m k) (hd : d ≤ 99999) : dayv (.int y) (.int m) (.int k) = some d := by
  have hy := h.yle hd
  have e : isdate (.int y) (.int m) = true := by simp only [isdate, within, Bool.and_eq_true, decide_eq_true_eq]; exact ⟨⟨h.y1, hy⟩, h.m1, h.m2⟩
  have he := h.eq
  exact (if_pos ⟨e, h.k1, h.k2, by omega⟩).trans (congrArg some he.symm)
theorem dayv_noz {i m : Int} {z : V} (h : within z 1 (mlen i m) = false) : dayv (.int i) (.int m) z = none := by
  cases z <;> first | rfl | skip
  rename_i k
  unfold dayv
  refine if_neg fun q => ?_
  have : within (.int k) 1 (mlen i m) = true := by simp only [within, Bool.and_eq_true, decide_eq_true_eq]; exact ⟨q.2.1, q.2.2.1⟩
  rw [h] at this
  exact Bool.false_ne_true this
def cell (ns : List Int) (k : Int) : Int := ns.getD k.toNat 0
def sp_l_cell_at (K : PySem.W.Frag) : Sp := fun vs H Q _ => ∃ (a : Addr) (ns : List Int) (k : Int), vs = [.ref a, .int k] ∧ SqL K H a (ns.map V.int) ∧ 0 ≤ k ∧ Q (.int (cell ns k)) H
def sp_l_whole : Sp := sp_is_whole
/-- the objects as are pairs of ints ps, all of them -/
inductive Prs (K : PySem.W.Frag) (H : Hp) : List Addr → List (Int × Int) → Prop
  | nil : Prs K H [] []
  | cons {a : Addr} {p : Int × Int} {as : List Addr} {ps : List (Int × Int)} : SqT K H a [.int p.1, .int p.2] → Prs K H as ps → Prs K H (a :: as) (p :: ps)
theorem Prs.one {K : PySem.W.Frag} {H : Hp} {a : Addr} {x y : Int} (h : SqT K H a [.int x, .int y]) : Prs K H [a] [(x, y)] := .cons h .nil
theorem sqT_ty {K : PySem.W.Frag} {H : Hp} {a : Addr} {xs : List V} (h : SqT K H a xs) : TyX K H (.ref a) (.type "tuple") := by
  rcases h with (h | ⟨o, h⟩) | ⟨o, its, n, h, c, _⟩
  · exact .base (.tup h)
  · exact .fTuple h
  · exact .kTuple h c
theorem Prs.len {K : PySem.W.Frag} {H : Hp} : ∀ {as : List Addr} {ps : List (Int × Int)}, Prs K H as ps → as.length = ps.length
  | _, _, .nil => rfl
  | _, _, .cons _ t => by simp [Prs.len t]
theorem Prs.same {K : PySem.W.Frag} {H H' : Hp} (e : Same H H') : ∀ {as : List Addr} {ps : List (Int × Int)}, Prs K H as ps → Prs K H' as ps
  | _, _, .nil => .nil
  | _, _, .cons h t => .cons (same_sqT e h) (Prs.same e t)
theorem Prs.get {K : PySem.W.Frag} {H : Hp} : ∀ {as : List Addr} {ps : List (Int × Int)} {i : Nat} {p : Int × Int}, Prs K H as ps → ps[i]? = some p → ∃ a, as[i]? = some a ∧ SqT K H a [.int p.1, .int p.2]
  | _, _, 0, _, .cons h _, e => by simp at e; subst e; exact ⟨_, rfl, h⟩
  | _, _, i + 1, _, .cons _ t, e => by obtain ⟨a, h1, h2⟩ := Prs.get (i := i) t (by simpa using e); exact ⟨a, by simpa using h1, h2⟩
  | _, _, _, _, .nil, e => by simp at e
theorem Prs.append {K : PySem.W.Frag} {H : Hp} {bs : List Addr} {qs : List (Int × Int)} (t2 : Prs K H bs qs) : ∀ {as : List Addr} {ps : List (Int × Int)}, Prs K H as ps → Prs K H (as ++ bs) (ps ++ qs)
  | _, _, .nil => t2
  | _, _, .cons h t => .cons h (Prs.append t2 t)
theorem Prs.drop1 {K : PySem.W.Frag} {H : Hp} {as : List Addr} {ps : List (Int × Int)} (h : Prs K H as ps) : Prs K H (as.drop 1) (ps.drop 1) := by
  cases h with
  | nil => exact .nil
  | cons h t => exact t
/-- a list that is changed is no pair -/
theorem sqT_mut {K : PySem.W.Frag} {H : Hp} {a l : Addr} {xs ys : List V} {o : HO} (hl : H l = some (.lst xs)) (h : SqT K H a ys) : SqT K (upd H l o) a ys := by
  rcases h with (h | ⟨o', h⟩) | h
  · exact .inl (.inl (by rw [upd_ne (ne_of h hl (by intro q; cases q))]; exact h))
  · exact .inl (.inr ⟨o', by rw [upd_ne (ne_of h hl (by intro q; cases q))]; exact h⟩)
  · exact .inr h
theorem Prs.mut {K : PySem.W.Frag} {H : Hp} {l : Addr} {xs : List V} {o : HO} (hl : H l = some (.lst xs)) : ∀ {as : List Addr} {ps : List (Int × Int)}, Prs K H as ps → Prs K (upd H l o) as ps
  | _, _, .nil => .nil
  | _, _, .cons h t => .cons (sqT_mut hl h) (Prs.mut hl t)
theorem cut1 (xs : List V) : cutV xs (some 1) none = xs.drop 1 := by
  unfold cutV
  rw [HT.sIx_none, show HT.sIx xs.length 0 (some 1) = min 1 xs.length from HT.sIx_nat xs.length 0 1]
  cases xs with
  | nil => rfl
  | cons x r =>
    have e : min 1 (x :: r).length = 1 := by simp
    rw [e]
    simp
/-- a list or a tuple l of such pairs -/
def RowAt (K : PySem.W.Frag) (H : Hp) (l : Addr) (as : List Addr) (ps : List (Int × Int)) : Prop := (SqL K H l (as.map .ref) ∨ SqT K H l (as.map .ref)) ∧ Prs K H as ps
theorem RowAt.same {K : PySem.W.Frag} {H H' : Hp} {l : Addr} {as : List Addr} {ps : List (Int × Int)} (e : Same H H') (h : RowAt K H l as ps) : RowAt K H' l as ps := ⟨h.1.imp (fun x => e.seq x) (fun x => same_sqT e x), h.2.same e⟩
theorem RowAt.get {K : PySem.W.Frag} {H : Hp} {l : Addr} {as : List Addr} {ps : List (Int × Int)} {i : Nat} (h : RowAt K H l as ps) (hi : i < ps.length) : ∃ a p, as[i]? = some a ∧ ps[i]? = some p ∧ SqT K H a [.int p.1, .int p.2] := by
  have hp : ps[i]? = some ps[i] := List.getElem?_eq_getElem hi
  obtain ⟨a, h1, h2⟩ := h.2.get hp
  exact ⟨a, _, h1, hp, h2⟩
/-- a list l of such pairs -/
def RowL (K : PySem.W.Frag) (H : Hp) (l : Addr) (as : List Addr) (ps : List (Int × Int)) : Prop := SqL K H l (as.map .ref) ∧ Prs K H as ps
theorem RowL.q {K : PySem.W.Frag} {H : Hp} {l : Addr} {as : List Addr} {ps : List (Int × Int)} (h : RowL K H l as ps) : RowAt K H l as ps := ⟨.inl h.1, h.2⟩
theorem RowL.same {K : PySem.W.Frag} {H H' : Hp} {l : Addr} {as : List Addr} {ps : List (Int × Int)} (e : Same H H') (h : RowL K H l as ps) : RowL K H' l as ps := ⟨e.seq h.1, h.2.same e⟩
def dpair (p : Int × Int) : PyData := .tuple [.int p.1, .int p.2]
theorem dpair_at {K : PySem.W.Frag} {H : Hp} {a : Addr} {p : Int × Int} (h : SqT K H a [.int p.1, .int p.2]) : Dp K H (.ref a) (dpair p) := .tup h (.cons (.int _) (.cons (.int _) .nil))
theorem Prs.dp {K : PySem.W.Frag} {H : Hp} : ∀ {as : List Addr} {ps : List (Int × Int)}, Prs K H as ps → DpAll K H (as.map .ref) (ps.map dpair)
  | _, _, .nil => .nil
  | _, _, .cons h t => .cons (dpair_at h) (Prs.dp t)
theorem RowL.dp {K : PySem.W.Frag} {H : Hp} {l : Addr} {as : List Addr} {ps : List (Int × Int)} (h : RowL K H l as ps) : Dp K H (.ref l) (.list (ps.map dpair)) := .lst h.1 h.2.dp
theorem pairs_lay : ∀ ps : List (Int × Int), PyData.canLayAll0 (ps.map dpair) = true
  | [] => rfl
  | p :: ps => by
    show (PyData.canLay0 (dpair p) && PyData.canLayAll0 (ps.map dpair)) = true
    rw [pairs_lay ps]
    rfl
theorem row_lay (ps : List (Int × Int)) : PyData.canLay0 (.list (ps.map dpair)) = true := pairs_lay ps
theorem pairs_depth : ∀ ps : List (Int × Int), PyData.depthAll (ps.map dpair) ≤ 1
  | [] => Nat.zero_le _
  | p :: ps => by
    show max (PyData.depth (dpair p)) (PyData.depthAll (ps.map dpair)) ≤ 1
    have h1 := pairs_depth ps
    have h2 : PyData.depth (dpair p) = 1 := rfl
    omega
theorem row_shaped (ps : List (Int × Int)) : SeqAt.shaped (.list (ps.map dpair)) = true := by
  unfold SeqAt.shaped
  rw [row_lay]
  have h : PyData.depth (.list (ps.map dpair)) = PyData.depthAll (ps.map dpair) + 1 := rfl
  have h1 := pairs_depth ps
  rw [h, decide_eq_true (by omega)]
  rfl
/-- the place of the pair that holds on a day, of the first n -/
def bestStep (ps : List (Int × Int)) (day : Int) (b : Option Nat) (i : Nat) : Option Nat := match b with
  | none => if (ps.getD i (0, 0)).1 ≤ day then some i else none
  | some j => if (ps.getD i (0, 0)).1 ≤ day ∧ (ps.getD j (0, 0)).1 ≤ (ps.getD i (0, 0)).1 then some i else some j
def bestN (ps : List (Int × Int)) (day : Int) : Nat → Option Nat
  | 0 => none
  | n + 1 => bestStep ps day (bestN ps day n) n
def best (ps : List (Int × Int)) (day : Int) : Option Nat := bestN ps day ps.length
theorem bestN_lt {ps : List (Int × Int)} {day : Int} : ∀ {n j : Nat}, bestN ps day n = some j → j < n
  | 0, j, h => by cases h
  | n + 1, j, h => by
    unfold bestN at h
    cases e : bestN ps day n with
    | none =>
      rw [e] at h
      unfold bestStep at h
      dsimp only at h
      split at h
      · cases h; omega
      · cases h
    | some i =>
      rw [e] at h
      unfold bestStep at h
      dsimp only at h
      have := bestN_lt e
      split at h <;> (cases h; omega)
theorem best_lt {ps : List (Int × Int)} {day : Int} {j : Nat} (h : best ps day = some j) : j < ps.length := bestN_lt h
def heldV (ps : List (Int × Int)) (day : Int) : Option Int := (best ps day).map fun j => (ps.getD j (0, 0)).2
/-- the pair, the value, as Python has them -/
def pairV (as : List Addr) : Option Nat → V
  | none => .non
  | some j => .ref (as.getD j 0)
def optV : Option Int → V
  | none => .non
  | some i => .int i
theorem getD_of {α : Type} {l : List α} {i : Nat} {x d : α} (h : l[i]? = some x) : l.getD i d = x := by rw [List.getD, h]; rfl
def sp_pair_held (K : PySem.W.Frag) : Sp := fun vs H Q _ => ∃ l day as ps, vs = [.ref l, .int day] ∧ RowAt K H l as ps ∧ Q (pairV as (best ps day)) H
def sp_held (K : PySem.W.Frag) : Sp := fun vs H Q _ => ∃ l day as ps, vs = [.ref l, .int day] ∧ RowAt K H l as ps ∧ Q (optV (heldV ps day)) H
/-! ### which pair holds, told by the last pairs of each first -/
theorem bestN_some {ps : List (Int × Int)} {day : Int} : ∀ {n j : Nat}, bestN ps day n = some j → (ps.getD j (0, 0)).1 ≤ day ∧ ∀ i, i < n → (ps.getD i (0, 0)).1 ≤ day → (ps.getD i (0, 0)).1 ≤ (ps.getD j (0, 0)).1 ∧ ((ps.getD i (0, 0)).1 = (ps.getD j (0, 0)).1 → i ≤ j)
  | 0, j, h => by cases h
  | n + 1, j, h => by
    unfold bestN at h
    cases e : bestN ps day n with
    | none =>
      rw [e] at h
      unfold bestStep at h
      dsimp only at h
      have hn := @bestN_none ps day n e
      split at h
      · cases h
        rename_i c
        refine ⟨c, fun i hi c2 => ?_⟩
        by_cases q : i = n
        · subst q; exact ⟨Int.le_refl _, fun _ => Nat.le_refl _⟩
        · exact absurd c2 (by have := hn i (by omega); omega)
      · cases h
    | some b =>
      rw [e] at h
      unfold bestStep at h
      dsimp only at h
      obtain ⟨b1, b2⟩ := bestN_some e
      have bl := bestN_lt e
      split at h
      · cases h
        rename_i c
        refine ⟨c.1, fun i hi c2 => ?_⟩
        by_cases q : i = n
        · subst q; exact ⟨Int.le_refl _, fun _ => Nat.le_refl _⟩
        · have z := b2 i (by omega) c2
          exact ⟨by omega, fun _ => by omega⟩
      · cases h
        rename_i c
        refine ⟨b1, fun i hi c2 => ?_⟩
        by_cases q : i = n
        · subst q
          have : ¬ (ps.getD j (0, 0)).1 ≤ (ps.getD i (0, 0)).1 := fun z => c ⟨c2, z⟩
          exact ⟨by omega, fun _ => by omega⟩
        · exact b2 i (by omega) c2
where
  bestN_none {ps : List (Int × Int)} {day : Int} : ∀ {n : Nat}, bestN ps day n = none → ∀ i, i < n → day < (ps.getD i (0, 0)).1
  | 0, _, i, hi => absurd hi (Nat.not_lt_zero i)
  | n + 1, h, i, hi => by
    unfold bestN at h
    cases e : bestN ps day n with
    | none =>
      rw [e] at h
      unfold bestStep at h
      dsimp only at h
      split at h
      · cases h
      · rename_i c
        by_cases q : i = n
        · subst q; omega
        · exact bestN_none e i (by omega)
    | some b =>
      rw [e] at h
      unfold bestStep at h
      dsimp only at h
      split at h <;> cases h
def bestN_none {ps : List (Int × Int)} {day : Int} {n : Nat} (h : bestN ps day n = none) : ∀ i, i < n → day < (ps.getD i (0, 0)).1 := bestN_some.bestN_none h
/-- the pair that holds -/
def pairH (ps : List (Int × Int)) (day : Int) : Option (Int × Int) := (best ps day).map fun j => ps.getD j (0, 0)
theorem heldV_pair (ps : List (Int × Int)) (day : Int) : heldV ps day = (pairH ps day).map (·.2) := by
  unfold heldV pairH
  cases best ps day <;> rfl
/-- the pairs that a dict keeps of a row -/
def dput (q : List (Int × Int)) (p : Int × Int) : List (Int × Int) := if q.any (fun x => decide (x.1 = p.1)) then q.map (fun x => if x.1 = p.1 then p else x) else q ++ [p]
def dlast (ps : List (Int × Int)) : List (Int × Int) := ps.foldl dput []
theorem dlast_snoc (ps : List (Int × Int)) (p : Int × Int) : dlast (ps ++ [p]) = dput (dlast ps) p := by rw [dlast, List.foldl_append]; rfl
theorem mem_dput {q : List (Int × Int)} {p x : Int × Int} : x ∈ dput q p ↔ x = p ∨ (x.1 ≠ p.1 ∧ x ∈ q) := by
  unfold dput
  by_cases h : q.any (fun x => decide (x.1 = p.1)) = true
  · rw [if_pos h, List.mem_map]
    constructor
    · rintro ⟨y, hy, e⟩
      split at e
      · exact .inl e.symm
      · rename_i c
        subst e
        exact .inr ⟨c, hy⟩
    · rintro (rfl | ⟨c, hx⟩)
      · obtain ⟨y, hy, e⟩ := List.any_eq_true.mp h
        exact ⟨y, hy, if_pos (of_decide_eq_true e)⟩
      · exact ⟨x, hx, if_neg c⟩
  · rw [if_neg h, List.mem_append, List.mem_singleton]
    constructor
    · rintro (hx | rfl)
      · refine .inr ⟨fun c => h (List.any_eq_true.mpr ⟨x, hx, decide_eq_true c⟩), hx⟩
      · exact .inl rfl
    · rintro (rfl | ⟨_, hx⟩)
      · exact .inr rfl
      · exact .inl hx
theorem dput_nodup {q : List (Int × Int)} {p : Int × Int} (h : (q.map (·.1)).Nodup) : ((dput q p).map (·.1)).Nodup := by
  unfold dput
  by_cases c : q.any (fun x => decide (x.1 = p.1)) = true
  · rw [if_pos c, List.map_map]
    have e : ((fun x : Int × Int => x.1) ∘ fun x => if x.1 = p.1 then p else x) = fun x => x.1 := by
      funext x
      show (if x.1 = p.1 then p else x).1 = x.1
      split
      · rename_i z; exact z.symm
      · rfl
    rw [e]
    exact h
  · rw [if_neg c, List.map_append]
    refine List.nodup_append.mpr ⟨h, by simp, fun a ha b hb => ?_⟩
    rintro rfl
    obtain ⟨x, hx, e⟩ := List.mem_map.mp ha
    have hb' : a = p.1 := by simpa using hb
    exact c (List.any_eq_true.mpr ⟨x, hx, decide_eq_true (e.trans hb')⟩)
theorem dput_len {q : List (Int × Int)} {p : Int × Int} : (dput q p).length ≤ q.length + 1 := by
  unfold dput
  split
  · rw [List.length_map]; omega
  · rw [List.length_append]; exact Nat.le_refl _
theorem dlast_take {ps : List (Int × Int)} {i : Nat} {p : Int × Int} (h : ps[i]? = some p) : dlast (ps.take (i + 1)) = dput (dlast (ps.take i)) p := by
  rw [List.take_add_one, h]
  exact dlast_snoc _ _
theorem dlast_nodup (ps : List (Int × Int)) : ∀ n, ((dlast (ps.take n)).map (·.1)).Nodup
  | 0 => by simp [dlast]
  | n + 1 => by
    cases h : ps[n]? with
    | none => rw [List.take_add_one, h]; simpa using dlast_nodup ps n
    | some p => rw [dlast_take h]; exact dput_nodup (dlast_nodup ps n)
theorem dlast_len (ps : List (Int × Int)) : ∀ n, (dlast (ps.take n)).length ≤ n
  | 0 => by simp [dlast]
  | n + 1 => by
    cases h : ps[n]? with
    | none => rw [List.take_add_one, h]; have := dlast_len ps n; simpa using (by omega : (dlast (ps.take n)).length ≤ n + 1)
    | some p => rw [dlast_take h]; exact Nat.le_trans dput_len (by have := dlast_len ps n; omega)
theorem mem_dlast {ps : List (Int × Int)} {x : Int × Int} : ∀ n, x ∈ dlast (ps.take n) ↔ ∃ j, j < n ∧ ps[j]? = some x ∧ ∀ i p, j < i → i < n → ps[i]? = some p → p.1 ≠ x.1
  | 0 => by simp [dlast]
  | n + 1 => by
    have ih := mem_dlast (ps := ps) (x := x) n
    cases h : ps[n]? with
    | none =>
      rw [List.take_add_one, h]
      simp only [Option.toList_none, List.append_nil]
      rw [ih]
      have hn : ps.length ≤ n := List.getElem?_eq_none_iff.mp h
      constructor
      · rintro ⟨j, h1, h2, h3⟩
        refine ⟨j, by omega, h2, fun i p a b c => h3 i p a ?_ c⟩
        have := (List.getElem?_eq_some_iff.mp c).1
        omega
      · rintro ⟨j, h1, h2, h3⟩
        have := (List.getElem?_eq_some_iff.mp h2).1
        exact ⟨j, by omega, h2, fun i p a b c => h3 i p a (by omega) c⟩
    | some p =>
      rw [dlast_take h, mem_dput, ih]
      constructor
      · rintro (rfl | ⟨c, j, h1, h2, h3⟩)
        · exact ⟨n, by omega, h, fun i p a b _ => absurd a (by omega)⟩
        · refine ⟨j, by omega, h2, fun i p' a b q => ?_⟩
          by_cases e : i = n
          · subst e
            rw [h] at q
            cases q
            exact fun z => c z.symm
          · exact h3 i p' a (by omega) q
      · rintro ⟨j, h1, h2, h3⟩
        by_cases e : j = n
        · subst e
          rw [h] at h2
          cases h2
          exact .inl rfl
        · exact .inr ⟨fun z => h3 n p (by omega) (by omega) h z.symm, j, by omega, h2, fun i p' a b q => h3 i p' a (by omega) q⟩
theorem dlast_all (ps : List (Int × Int)) : dlast (ps.take ps.length) = dlast ps := by rw [List.take_length]
theorem mem_row {ps : List (Int × Int)} {x : Int × Int} (h : x ∈ dlast ps) : x ∈ ps := by
  rw [← dlast_all, mem_dlast] at h
  obtain ⟨j, _, h2, _⟩ := h
  exact List.mem_of_getElem? h2
theorem pairH_some {ps : List (Int × Int)} {day : Int} {x : Int × Int} (h : pairH ps day = some x) : x ∈ dlast ps ∧ x.1 ≤ day ∧ ∀ y, y ∈ ps → y.1 ≤ day → y.1 ≤ x.1 := by
  unfold pairH at h
  cases e : best ps day with
  | none => rw [e] at h; cases h
  | some j =>
    rw [e] at h
    have h' : ps.getD j (0, 0) = x := Option.some.inj h
    have hl := best_lt e
    obtain ⟨h1, h2⟩ := bestN_some e
    have hx : ps[j]? = some x := by rw [← h', List.getD, List.getElem?_eq_getElem hl]; rfl
    rw [h'] at h1 h2
    refine ⟨?_, h1, fun y hy c => ?_⟩
    · rw [← dlast_all, mem_dlast]
      refine ⟨j, hl, hx, fun i p a b c z => ?_⟩
      have gp : ps.getD i (0, 0) = p := getD_of c
      have q := h2 i b (by rw [gp]; omega)
      rw [gp] at q
      have := q.2 z
      omega
    · obtain ⟨i, hi⟩ := List.mem_iff_getElem?.mp hy
      have gp : ps.getD i (0, 0) = y := getD_of hi
      have q := h2 i (List.getElem?_eq_some_iff.mp hi).1 (by rw [gp]; exact c)
      rw [gp] at q
      exact q.1
theorem pairH_none {ps : List (Int × Int)} {day : Int} (h : pairH ps day = none) : ∀ y, y ∈ ps → day < y.1 := by
  intro y hy
  unfold pairH at h
  cases e : best ps day with
  | some j => rw [e] at h; cases h
  | none =>
    obtain ⟨i, hi⟩ := List.mem_iff_getElem?.mp hy
    have gp : ps.getD i (0, 0) = y := getD_of hi
    have q := bestN_none e i (List.getElem?_eq_some_iff.mp hi).1
    rw [gp] at q
    exact q
/-- of pairs by falling firsts the first one that has begun -/
def holdR : List (Int × Int) → Int → Option (Int × Int)
  | [], _ => none
  | p :: r, d => if p.1 ≤ d then some p else holdR r d
theorem holdR_none {d : Int} : ∀ {R : List (Int × Int)}, (∀ x, x ∈ R → d < x.1) → holdR R d = none
  | [], _ => rfl
  | p :: r, h => by
    rw [holdR, if_neg (by have := h p (List.mem_cons_self ..); omega)]
    exact holdR_none fun x hx => h x (List.mem_cons_of_mem _ hx)
theorem holdR_some {d : Int} {p : Int × Int} : ∀ {R : List (Int × Int)}, R.Pairwise (fun x y => y.1 < x.1) → p ∈ R → p.1 ≤ d → (∀ x, x ∈ R → x.1 ≤ d → x.1 ≤ p.1) → holdR R d = some p
  | [], _, h, _, _ => by cases h
  | x :: r, hs, hm, hd, h => by
    obtain ⟨s1, s2⟩ := List.pairwise_cons.mp hs
    by_cases c : x.1 ≤ d
    · rw [holdR, if_pos c]
      have q := h x (List.mem_cons_self ..) c
      rcases List.mem_cons.mp hm with e | hr
      · rw [e]
      · have := s1 p hr
        omega
    · rw [holdR, if_neg c]
      rcases List.mem_cons.mp hm with e | hr
      · rw [e] at hd; exact absurd hd c
      · exact holdR_some s2 hr hd fun y hy => h y (List.mem_cons_of_mem _ hy)
structure Desc (R ps : List (Int × Int)) : Prop where
  fall : R.Pairwise (fun x y => y.1 < x.1)
  mem : ∀ x, x ∈ R ↔ x ∈ dlast ps
theorem Desc.hold {R ps : List (Int × Int)} (h : Desc R ps) (d : Int) : holdR R d = pairH ps d := by
  cases e : pairH ps d with
  | none => exact holdR_none fun x hx => pairH_none e x (mem_row ((h.mem x).mp hx))
  | some p =>
    obtain ⟨h1, h2, h3⟩ := pairH_some e
    exact holdR_some h.fall ((h.mem p).mpr h1) h2 fun x hx => h3 x (mem_row ((h.mem x).mp hx))
/-! ### sums over days -/
def isum (f : Int → Int) (a : Int) : Nat → Int
  | 0 => 0
  | n + 1 => isum f a n + f (a + n)
def dsum (f : Int → Int) (a b : Int) : Int := isum f a (b + 1 - a).toNat
theorem isum_congr {f g : Int → Int} {a : Int} : ∀ {n : Nat}, (∀ i : Nat, i < n → f (a + i) = g (a + i)) → isum f a n = isum g a n
  | 0, _ => rfl
  | n + 1, h => by rw [isum, isum, isum_congr (n := n) (fun i hi => h i (by omega)), h n (by omega)]
theorem isum_add {f : Int → Int} {a : Int} (m : Nat) : ∀ n : Nat, isum f a (m + n) = isum f a m + isum f (a + m) n
  | 0 => by simp [isum]
  | n + 1 => by
    rw [← Nat.add_assoc, isum, isum, isum_add m n, show a + ((m + n : Nat) : Int) = a + m + n by omega]
    omega
theorem dsum_empty {f : Int → Int} {a b : Int} (h : b < a) : dsum f a b = 0 := by rw [dsum, show (b + 1 - a).toNat = 0 by omega]; rfl
theorem dsum_congr {f g : Int → Int} {a b : Int} (h : ∀ d, a ≤ d → d ≤ b → f d = g d) : dsum f a b = dsum g a b := isum_congr fun i hi => h _ (by omega) (by omega)
theorem dsum_split {f : Int → Int} {a b : Int} (c : Int) (h1 : a ≤ c) (h2 : c ≤ b + 1) : dsum f a b = dsum f a (c - 1) + dsum f c b := by
  have h := isum_add (f := f) (a := a) (c - a).toNat (b + 1 - c).toNat
  rw [show a + ((c - a).toNat : Int) = c by omega, show (c - a).toNat + (b + 1 - c).toNat = (b + 1 - a).toNat by omega] at h
  rw [dsum, h, dsum, dsum, show c - 1 + 1 - a = c - a by omega]
theorem dsum_const {k a b : Int} (h : a ≤ b + 1) : dsum (fun _ => k) a b = k * (b - a + 1) := by
  have key : ∀ n : Nat, isum (fun _ => k) a n = k * n := by
    intro n
    induction n with
    | zero => simp [isum]
    | succ n ih => rw [isum, ih, Int.natCast_succ, Int.mul_add]; omega
  rw [dsum, key, show ((b + 1 - a).toNat : Int) = b - a + 1 by omega]
theorem dsum_zero {a b : Int} : dsum (fun _ => 0) a b = 0 := by
  by_cases h : a ≤ b + 1
  · rw [dsum_const h, Int.zero_mul]
  · exact dsum_empty (by omega)
theorem dsum_succ {f : Int → Int} {a b : Int} (h : a ≤ b + 1) : dsum f a (b + 1) = dsum f a b + f (b + 1) := by
  rw [dsum_split (b + 1) h (by omega), show b + 1 - 1 = b by omega]
  have : dsum f (b + 1) (b + 1) = f (b + 1) := by
    rw [dsum, show (b + 1 + 1 - (b + 1)).toNat = 1 by omega, isum, isum, show b + 1 + ((0 : Nat) : Int) = b + 1 by omega]
    omega
  rw [this]
theorem dsum_one {f : Int → Int} {a : Int} : dsum f a a = f a := by
  rw [dsum, show (a + 1 - a).toNat = 1 by omega, isum, isum, show a + ((0 : Nat) : Int) = a by omega]
  omega
theorem dsum_nonneg {f : Int → Int} {a b : Int} (h : ∀ d, a ≤ d → d ≤ b → 0 ≤ f d) : 0 ≤ dsum f a b := by
  have key : ∀ n : Nat, (∀ i : Nat, i < n → 0 ≤ f (a + i)) → 0 ≤ isum f a n := by
    intro n
    induction n with
    | zero => intro _; exact Int.le_refl _
    | succ n ih => intro h; have h1 := ih (fun i hi => h i (by omega)); have h2 := h n (by omega); rw [isum]; omega
  exact key _ fun i hi => h _ (by omega) (by omega)
/-! ### spans -/
abbrev Span := Int × Int × Int × Int
def mx (a b : Int) : Int := if b > a then b else a
def spanR : List (Int × Int) → Int → Int → List Span
  | [], _, _ => []
  | p :: r, f, e => if mx p.1 f ≤ e then (mx p.1 f, e, p) :: spanR r f (mx p.1 f - 1) else spanR r f e
theorem mx_le {a b : Int} : a ≤ mx a b ∧ b ≤ mx a b ∧ (mx a b = a ∨ mx a b = b) := by
  unfold mx
  split <;> omega
theorem spanR_in {s : Span} : ∀ {R : List (Int × Int)} {f e : Int}, s ∈ spanR R f e → f ≤ s.1 ∧ s.1 ≤ s.2.1 ∧ s.2.1 ≤ e ∧ s.2.2 ∈ R ∧ s.2.2.1 ≤ s.1
  | [], _, _, h => by cases h
  | p :: r, f, e, h => by
    have m := mx_le (a := p.1) (b := f)
    rw [spanR] at h
    split at h
    · rename_i c
      rcases List.mem_cons.mp h with rfl | h
      · exact ⟨by dsimp only; omega, by dsimp only; omega, by dsimp only; omega, List.mem_cons_self .., by dsimp only; omega⟩
      · obtain ⟨h1, h2, h3, h4, h5⟩ := spanR_in h
        exact ⟨h1, h2, by omega, List.mem_cons_of_mem _ h4, h5⟩
    · obtain ⟨h1, h2, h3, h4, h5⟩ := spanR_in h
      exact ⟨h1, h2, h3, List.mem_cons_of_mem _ h4, h5⟩
def sumS (G : Int × Int → Int → Int) (l : List Span) : Int := (l.map fun s => dsum (G s.2.2) s.1 s.2.1).sum
theorem sumS_cons (G : Int × Int → Int → Int) (s : Span) (l : List Span) : sumS G (s :: l) = dsum (G s.2.2) s.1 s.2.1 + sumS G l := by rw [sumS, List.map_cons, List.sum_cons]; rfl
theorem sumS_snoc (G : Int × Int → Int → Int) (s : Span) (l : List Span) : sumS G (l ++ [s]) = sumS G l + dsum (G s.2.2) s.1 s.2.1 := by rw [sumS, List.map_append, List.sum_append]; simp [sumS]
theorem sumS_rev (G : Int × Int → Int → Int) : ∀ l : List Span, sumS G l.reverse = sumS G l
  | [] => rfl
  | s :: l => by rw [List.reverse_cons, sumS_snoc, sumS_rev G l, sumS_cons]; omega
def holdG (G : Int × Int → Int → Int) (o : Option (Int × Int)) (d : Int) : Int := match o with
  | none => 0
  | some p => G p d
theorem span_sum (G : Int × Int → Int → Int) : ∀ (R : List (Int × Int)) (f e : Int), R.Pairwise (fun x y => y.1 < x.1) → sumS G (spanR R f e) = dsum (fun d => holdG G (holdR R d) d) f e
  | [], f, e, _ => by
    rw [spanR, sumS]
    exact dsum_zero.symm
  | p :: r, f, e, hs => by
    obtain ⟨s1, s2⟩ := List.pairwise_cons.mp hs
    have m := mx_le (a := p.1) (b := f)
    rw [spanR]
    split
    · rename_i c
      rw [sumS_cons, span_sum G r _ _ s2, dsum_split (f := fun d => holdG G (holdR (p :: r) d) d) (mx p.1 f) m.2.1 (by omega)]
      have e1 : dsum (fun d => holdG G (holdR (p :: r) d) d) (mx p.1 f) e = dsum (G p) (mx p.1 f) e := dsum_congr fun d h1 h2 => by
        rw [holdR, if_pos (by omega)]
        rfl
      have e2 : dsum (fun d => holdG G (holdR (p :: r) d) d) f (mx p.1 f - 1) = dsum (fun d => holdG G (holdR r d) d) f (mx p.1 f - 1) := dsum_congr fun d h1 h2 => by
        rw [holdR, if_neg (by omega)]
      rw [e1, e2]
      show dsum (G p) (mx p.1 f) e + _ = _
      omega
    · rename_i c
      rw [span_sum G r _ _ s2]
      refine dsum_congr fun d h1 h2 => ?_
      rw [holdR, if_neg (by omega)]
theorem span_sumH (G : Int × Int → Int → Int) {R ps : List (Int × Int)} (h : Desc R ps) (f e : Int) : sumS G (spanR R f e) = dsum (fun d => holdG G (pairH ps d) d) f e := by
  rw [span_sum G R f e h.fall]
  exact dsum_congr fun d _ _ => by rw [h.hold]
theorem sumS_take {G : Int × Int → Int → Int} {L : List Span} {i : Nat} {s : Span} (h : L[i]? = some s) : sumS G (L.take (i + 1)) = sumS G (L.take i) + dsum (G s.2.2) s.1 s.2.1 := by
  rw [List.take_add_one, h]
  exact sumS_snoc G s _
theorem sumS_nil (G : Int × Int → Int → Int) : sumS G [] = 0 := rfl
theorem span_at {R : List (Int × Int)} {f e : Int} {i : Nat} {s : Span} (h : (spanR R f e).reverse[i]? = some s) : s ∈ spanR R f e := List.mem_reverse.mp (List.mem_of_getElem? h)

theorem ylen_feb (y : Int) : ylen y = 337 + mlen y 2 := by
  unfold ylen mlen
  cases leap y <;> decide
def nextT (t : Int × Int × Int) : Int × Int × Int := if t.2.2 < mlen t.1 t.2.1 then (t.1, t.2.1, t.2.2 + 1) else if t.2.1 < 12 then (t.1, t.2.1 + 1, 1) else (t.1 + 1, 1, 1)
theorem IsDate.next {d y m k : Int} (h : IsDate d y m k) : IsDate (d + 1) (nextT (y, m, k)).1 (nextT (y, m, k)).2.1 (nextT (y, m, k)).2.2 := by
  have e := h.eq; have h1 := h.y1; have h2 := h.m1; have h3 := h.m2; have h4 := h.k1; have h5 := h.k2
  unfold nextT
  dsimp only
  by_cases c : k < mlen y m
  · rw [if_pos c]
    exact ⟨h1, h2, h3, by dsimp only; omega, by dsimp only; omega, by dsimp only; omega⟩
  · rw [if_neg c]
    by_cases c2 : m < 12
    · rw [if_pos c2]
      have q := mstart_succ (y := y) h2 h3
      have q2 := mlen_pos (y := y) (m := m + 1) (by omega) (by omega)
      exact ⟨h1, by dsimp only; omega, by dsimp only; omega, by dsimp only; omega, by dsimp only; omega, by dsimp only; omega⟩
    · rw [if_neg c2]
      have em : m = 12 := by omega
      subst em
      have q := ystart_succ y
      have q2 := mstart_end y
      have q3 := mstart_one (y + 1)
      have q4 := mlen_pos (y := y + 1) (m := 1) (by omega) (by omega)
      exact ⟨by dsimp only; omega, by dsimp only; omega, by dsimp only; omega, by dsimp only; omega, by dsimp only; omega, by dsimp only; omega⟩
/-- the date of a day -/
def dat : Nat → Int × Int × Int
  | 0 => (2000, 1, 1)
  | n + 1 => nextT (dat n)
theorem dat_is : ∀ n : Nat, IsDate (n : Int) (dat n).1 (dat n).2.1 (dat n).2.2
  | 0 => ⟨by decide, by decide, by decide, by decide, by decide, by decide⟩
  | n + 1 => by
    have h := (dat_is n).next
    rw [show ((n + 1 : Nat) : Int) = (n : Int) + 1 by omega]
    exact h
def dyr (d : Int) : Int := (dat d.toNat).1
def dmo (d : Int) : Int := (dat d.toNat).2.1
def dnum (d : Int) : Int := (dat d.toNat).2.2
def dlen (d : Int) : Int := mlen (dyr d) (dmo d)
theorem date_is {d : Int} (h0 : 0 ≤ d) : IsDate d (dyr d) (dmo d) (dnum d) := by
  have h := dat_is d.toNat
  rw [show ((d.toNat : Nat) : Int) = d by omega] at h
  exact h
theorem date_at {d y m k : Int} (h0 : 0 ≤ d) (h : IsDate d y m k) : dyr d = y ∧ dmo d = m ∧ dnum d = k := (date_is h0).uniq h
theorem dlen_at {d y m k : Int} (h0 : 0 ≤ d) (h : IsDate d y m k) : dlen d = mlen y m := by
  obtain ⟨e1, e2, _⟩ := date_at h0 h
  rw [dlen, e1, e2]
theorem dlen_pos {d : Int} (h0 : 0 ≤ d) : 28 ≤ dlen d ∧ dlen d ≤ 31 := mlen_pos (date_is h0).m1 (date_is h0).m2
theorem dnum_in {d : Int} (h0 : 0 ≤ d) : 1 ≤ dnum d ∧ dnum d ≤ dlen d := ⟨(date_is h0).k1, (date_is h0).k2⟩
/-- the part of a rent for a day -/
def partd (r d : Int) : Int := r * dnum d / dlen d - r * (dnum d - 1) / dlen d
theorem partd_at {r d y m k : Int} (h0 : 0 ≤ d) (h : IsDate d y m k) : partd r d = r * k / mlen y m - r * (k - 1) / mlen y m := by
  obtain ⟨_, _, e3⟩ := date_at h0 h
  rw [partd, dlen_at h0 h, e3]
theorem partd_in {r d : Int} (hr : 0 ≤ r) (h0 : 0 ≤ d) : 0 ≤ partd r d ∧ partd r d ≤ r := by
  have hl := dlen_pos h0
  unfold partd
  generalize dlen d = n at hl
  generalize dnum d = k
  have e : r * k = r * (k - 1) + r := by rw [Int.mul_sub]; omega
  rw [e]
  generalize r * (k - 1) = a
  have h1 : a / n ≤ (a + r) / n := Int.ediv_le_ediv (by omega) (by omega)
  have h2 : (a + r) / n ≤ (a + r * n) / n := Int.ediv_le_ediv (by omega) (by
    have : r * 1 ≤ r * n := Int.mul_le_mul_of_nonneg_left (by omega) hr
    omega)
  rw [Int.add_mul_ediv_right _ _ (by omega)] at h2
  omega
def tab (b : Int) (n : Nat) : List (Int × Int) := (List.range n).map fun (i : Nat) => (dnum (b + (i : Int)), dlen (b + (i : Int)))
def sp_l_table (K : PySem.W.Frag) : Sp := fun vs H Q _ => ∃ b n, vs = [.int b, .int n] ∧ 0 ≤ b ∧ 0 ≤ n ∧ n ≤ 100000 ∧ ∀ l as H', Same H H' → H l = none → H' l = some (.lst (as.map .ref)) → Prs K H' as (tab b n.toNat) → Q (.ref l) H'
def sp_l_money : Sp := fun vs H Q _ => ∃ c, vs = [.int c] ∧ ∀ r, 0 ≤ r → r ≤ 1000000000 → ∀ H', Same H H' → Q (.int r) H'
/-- the spans, as they stand in a list -/
inductive Sps (K : PySem.W.Frag) (H : Hp) : List Addr → List Span → Prop
  | nil : Sps K H [] []
  | cons {a p : Addr} {s : Span} {as : List Addr} {ss : List Span} : SqT K H a [.int s.1, .int s.2.1, .ref p] → SqT K H p [.int s.2.2.1, .int s.2.2.2] → Sps K H as ss → Sps K H (a :: as) (s :: ss)
theorem Sps.len {K : PySem.W.Frag} {H : Hp} : ∀ {as : List Addr} {ss : List Span}, Sps K H as ss → as.length = ss.length
  | _, _, .nil => rfl
  | _, _, .cons _ _ t => by simp [Sps.len t]
theorem Sps.same {K : PySem.W.Frag} {H H' : Hp} (e : Same H H') : ∀ {as : List Addr} {ss : List Span}, Sps K H as ss → Sps K H' as ss
  | _, _, .nil => .nil
  | _, _, .cons h1 h2 t => .cons (same_sqT e h1) (same_sqT e h2) (Sps.same e t)
theorem Sps.mut {K : PySem.W.Frag} {H : Hp} {l : Addr} {xs : List V} {o : HO} (hl : H l = some (.lst xs)) : ∀ {as : List Addr} {ss : List Span}, Sps K H as ss → Sps K (upd H l o) as ss
  | _, _, .nil => .nil
  | _, _, .cons h1 h2 t => .cons (sqT_mut hl h1) (sqT_mut hl h2) (Sps.mut hl t)
theorem Sps.append {K : PySem.W.Frag} {H : Hp} {bs : List Addr} {qs : List Span} (t2 : Sps K H bs qs) : ∀ {as : List Addr} {ss : List Span}, Sps K H as ss → Sps K H (as ++ bs) (ss ++ qs)
  | _, _, .nil => t2
  | _, _, .cons h1 h2 t => .cons h1 h2 (Sps.append t2 t)
theorem Sps.get {K : PySem.W.Frag} {H : Hp} : ∀ {as : List Addr} {ss : List Span} {i : Nat} {s : Span}, Sps K H as ss → ss[i]? = some s → ∃ a p, as[i]? = some a ∧ SqT K H a [.int s.1, .int s.2.1, .ref p] ∧ SqT K H p [.int s.2.2.1, .int s.2.2.2]
  | _, _, 0, s, .cons h1 h2 _, e => by simp at e; subst e; exact ⟨_, _, rfl, h1, h2⟩
  | _, _, i + 1, s, .cons _ _ t, e => by obtain ⟨a, p, h1, h2, h3⟩ := Sps.get (i := i) t (by simpa using e); exact ⟨a, p, by simpa using h1, h2, h3⟩
  | _, _, _, _, .nil, e => by simp at e
theorem Sps.rev {K : PySem.W.Frag} {H : Hp} : ∀ {as : List Addr} {ss : List Span}, Sps K H as ss → Sps K H as.reverse ss.reverse
  | _, _, .nil => .nil
  | _, _, .cons h1 h2 t => by rw [List.reverse_cons, List.reverse_cons]; exact Sps.append (.cons h1 h2 .nil) (Sps.rev t)
theorem putK_int (q : List (Int × Int)) (p : Int × Int) : putK (q.map entI) (Sum.inl p.1 : Key) (V.int p.2) = (dput q p).map entI := by
  unfold putK dput
  have e : ((q.map entI).any fun kv => decide (kv.1 = (Sum.inl p.1 : Key))) = q.any fun x => decide (x.1 = p.1) := by
    rw [List.any_map]
    congr 1
    funext x
    show decide ((Sum.inl x.1 : Key) = Sum.inl p.1) = decide (x.1 = p.1)
    simp
  rw [e]
  split
  · rw [List.map_map, List.map_map]
    refine List.map_congr_left fun x _ => ?_
    show (if (Sum.inl x.1 : Key) = Sum.inl p.1 then (Sum.inl x.1, V.int p.2) else (Sum.inl x.1, V.int x.2)) = entI (if x.1 = p.1 then p else x)
    by_cases c : x.1 = p.1
    · rw [if_pos (by rw [c]), if_pos c, c]; rfl
    · rw [if_neg (by simpa using c), if_neg c]; rfl
  · rw [List.map_append]; rfl
def sp_in_order (K : PySem.W.Frag) : Sp := fun vs H Q _ => ∃ l as ps, vs = [.ref l] ∧ RowAt K H l as ps ∧ ps.length ≤ 10000 ∧
  ∀ H' l' ts qs, Same H H' → H l' = none → H' l' = some (.lst (ts.map .ref)) → Prs K H' ts qs → Desc qs.reverse ps → qs.length ≤ ps.length → Q (.ref l') H'
def sp_spans (K : PySem.W.Frag) : Sp := fun vs H Q _ => ∃ l as ps f e, vs = [.ref l, .int f, .int e] ∧ RowAt K H l as ps ∧ ps.length ≤ 10000 ∧
  ∀ H' l' ts R, Same H H' → H l' = none → H' l' = some (.lst (ts.map .ref)) → Desc R ps → Sps K H' ts (spanR R f e).reverse → Q (.ref l') H'
theorem prs_of {K : PySem.W.Frag} {H : Hp} : ∀ {ts : List Addr} {qs : List (Int × Int)}, Paired (fun (t : Addr) (q : Int × Int) => H t = some (.tup [.int q.1, .int q.2])) ts qs → Prs K H ts qs
  | _, _, .nil => .nil
  | _, _, .cons h t => .cons (SqT.of h) (prs_of t)
def sp_l_mix : Sp := fun vs H Q _ => ∃ n k, vs = [.int n, .int k] ∧ ∀ z, 0 ≤ z → z < 999983 → Q (.int z) H
def sp_l_base : Sp := fun vs H Q _ => ∃ c, vs = [.int c] ∧ ∀ b, 0 ≤ b → b ≤ 99600 → ∀ H', Same H H' → Q (.int b) H'
def sp_l_held (K : PySem.W.Frag) : Sp := sp_pair_held K
theorem RowAt.pair {K : PySem.W.Frag} {H : Hp} {l : Addr} {as : List Addr} {ps : List (Int × Int)} {j : Nat} {b p : Int} (h : RowAt K H l as ps) (e : ps[j]? = some (b, p)) : ∃ a, pairV as (some j) = .ref a ∧ SqT K H a [.int b, .int p] := by
  obtain ⟨a, h1, h2⟩ := h.2.get e
  exact ⟨a, by show V.ref (as.getD j 0) = _; rw [getD_of h1], h2⟩
theorem cutTo1 (xs : List V) : cutV xs none (some 1) = xs.take 1 := by
  unfold cutV
  rw [HT.sIx_none, show HT.sIx xs.length xs.length (some 1) = min 1 xs.length from HT.sIx_nat xs.length xs.length 1]
  cases xs with
  | nil => rfl
  | cons x r =>
    have e : min 1 (x :: r).length = 1 := by simp
    rw [e]
    simp
theorem Prs.take1 {K : PySem.W.Frag} {H : Hp} {as : List Addr} {ps : List (Int × Int)} (h : Prs K H as ps) : Prs K H (as.take 1) (ps.take 1) := by
  cases h with
  | nil => exact .nil
  | cons h t => exact .cons h .nil
def dtwo (ps qs : List (Int × Int)) : PyData := .tuple [.list (ps.map dpair), .list (qs.map dpair)]
theorem two_lay (ps qs : List (Int × Int)) : PyData.canLay0 (dtwo ps qs) = true := by
  show (PyData.canLay0 (.list (ps.map dpair)) && (PyData.canLay0 (.list (qs.map dpair)) && true)) = true
  rw [row_lay, row_lay]
  rfl
theorem two_shaped (ps qs : List (Int × Int)) : SeqAt.shaped (dtwo ps qs) = true := by
  unfold SeqAt.shaped
  rw [two_lay]
  have h : PyData.depth (dtwo ps qs) = max (PyData.depthAll (ps.map dpair) + 1) (max (PyData.depthAll (qs.map dpair) + 1) 0) + 1 := rfl
  have h1 := pairs_depth ps
  have h2 := pairs_depth qs
  rw [h, decide_eq_true (by omega)]
  rfl
theorem two_dp {K : PySem.W.Frag} {H : Hp} {t l1 l2 : Addr} {as bs : List Addr} {ps qs : List (Int × Int)} (ht : SqT K H t [.ref l1, .ref l2]) (h1 : RowL K H l1 as ps) (h2 : RowL K H l2 bs qs) : Dp K H (.ref t) (dtwo ps qs) := .tup ht (.cons h1.dp (.cons h2.dp .nil))
def sp_l_number : Sp := fun vs H Q _ => ∃ c, vs = [.int c] ∧ ∀ r, 1 ≤ r → r ≤ 1000000 → ∀ H', Same H H' → Q (.int r) H'
/-- steps: firsts not below 0, rents within their bounds -/
def StepsOk (ps : List (Int × Int)) : Prop := ∀ p, p ∈ ps → 0 ≤ p.1 ∧ 0 ≤ p.2 ∧ p.2 ≤ 1000000000
/-- gauges: numbers within their bounds, one from day 0 on -/
def GaugesOk (ps : List (Int × Int)) : Prop := (∀ p, p ∈ ps → 0 ≤ p.1 ∧ 1 ≤ p.2 ∧ p.2 ≤ 1000000) ∧ ∃ g r, ps = (0, g) :: r
theorem StepsOk.drop {ps : List (Int × Int)} (h : StepsOk ps) : StepsOk (ps.drop 1) := fun p hp => h p (List.mem_of_mem_drop hp)
theorem GaugesOk.take {ps : List (Int × Int)} (h : GaugesOk ps) : GaugesOk (ps.take 1) := by
  obtain ⟨h1, g, r, rfl⟩ := h
  exact ⟨fun p hp => h1 p (List.mem_of_mem_take hp), g, [], rfl⟩
def sp_l_steps (K : PySem.W.Frag) : Sp := fun vs H Q _ => ∃ c b w, vs = [.int c, .int b, .int w] ∧ 0 < w ∧
  ∀ l as ps H', Same H H' → H l = none → H' l = some (.lst (as.map .ref)) → Prs K H' as ps → ps.length ≤ 4 → StepsOk ps → Q (.ref l) H'
def sp_l_gauges (K : PySem.W.Frag) : Sp := fun vs H Q _ => ∃ c b w, vs = [.int c, .int b, .int w] ∧ 0 < w ∧
  ∀ l as ps H', Same H H' → H l = none → H' l = some (.lst (as.map .ref)) → Prs K H' as ps → ps.length ≤ 4 → GaugesOk ps → Q (.ref l) H'
theorem GaugesOk.held {ps : List (Int × Int)} (h : GaugesOk ps) {d : Int} (h0 : 0 ≤ d) : ∃ j b p, best ps d = some j ∧ ps[j]? = some (b, p) ∧ heldV ps d = some p ∧ pairH ps d = some (b, p) ∧ 1 ≤ p ∧ p ≤ 1000000 := by
  cases e : best ps d with
  | none =>
    obtain ⟨g, r, h1⟩ := h.2
    have := pairH_none (ps := ps) (day := d) (by rw [pairH, e]; rfl) (0, g) (by rw [h1]; exact List.mem_cons_self ..)
    dsimp only at this
    omega
  | some j =>
    have hl := best_lt e
    have hx : ps[j]? = some ps[j] := List.getElem?_eq_getElem hl
    have g : ps.getD j (0, 0) = ps[j] := getD_of hx
    have b := h.1 _ (List.mem_of_getElem? hx)
    exact ⟨j, ps[j].1, ps[j].2, rfl, hx, by rw [heldV, e, Option.map_some, g], by rw [pairH, e, Option.map_some, g], b.2⟩
theorem StepsOk.held {ps : List (Int × Int)} (h : StepsOk ps) {d : Int} {j : Nat} (e : best ps d = some j) : ∃ b p, ps[j]? = some (b, p) ∧ pairH ps d = some (b, p) ∧ 0 ≤ b ∧ 0 ≤ p ∧ p ≤ 1000000000 := by
  have hl := best_lt e
  have hx : ps[j]? = some ps[j] := List.getElem?_eq_getElem hl
  have g : ps.getD j (0, 0) = ps[j] := getD_of hx
  have b := h _ (List.mem_of_getElem? hx)
  exact ⟨ps[j].1, ps[j].2, hx, by rw [pairH, e, Option.map_some, g], b⟩
/-- the rent on a day -/
def rentd (st ga : List (Int × Int)) (d : Int) : Int := match pairH st d with
  | none => 0
  | some p => p.2 * (heldV ga d).getD 0 / (heldV ga p.1).getD 1
def sp_l_rent (K : PySem.W.Frag) : Sp := fun vs H Q _ => ∃ l1 as st l2 bs ga d, vs = [.ref l1, .ref l2, .int d] ∧ RowAt K H l1 as st ∧ RowAt K H l2 bs ga ∧ StepsOk st ∧ GaugesOk ga ∧ 0 ≤ d ∧ Q (.int (rentd st ga d)) H
def sp_rent_on (K : PySem.W.Frag) : Sp := sp_l_rent K
def thr (r d : Int) : Int := r * (dyr d * 12 + dmo d) + r * dnum d / dlen d
def ahd (r d : Int) : Int := r * (dyr d * 12 + dmo d) + r * (dnum d - 1) / dlen d
theorem partd_thr (r d : Int) : partd r d = thr r d - ahd r d := by unfold partd thr ahd; omega
theorem partd_zero (d : Int) : partd 0 d = 0 := by simp [partd]
theorem ahd_succ {r d : Int} (h0 : 0 ≤ d) : ahd r (d + 1) = thr r d := by
  have hd := date_is h0
  have hn := hd.next
  obtain ⟨e1, e2, e3⟩ := date_at (show 0 ≤ d + 1 by omega) hn
  have e4 := dlen_at (show 0 ≤ d + 1 by omega) hn
  have hl := dlen_pos h0
  have hl2 := dlen_pos (d := d + 1) (by omega)
  have k2 := hd.k2
  have m2 := hd.m2
  unfold ahd thr
  rw [e1, e2, e3, e4]
  unfold nextT
  dsimp only
  by_cases c : dnum d < mlen (dyr d) (dmo d)
  · rw [if_pos c]
    dsimp only
    rw [show dnum d + 1 - 1 = dnum d by omega]
    rfl
  · rw [if_neg c]
    have ek : dnum d = dlen d := by show dnum d = mlen (dyr d) (dmo d); omega
    have er : r * dnum d / dlen d = r := by rw [ek, Int.mul_ediv_cancel _ (by omega)]
    rw [er]
    by_cases c2 : dmo d < 12
    · rw [if_pos c2]
      dsimp only
      rw [show (1 : Int) - 1 = 0 by omega, Int.mul_zero, Int.zero_ediv, show dyr d * 12 + (dmo d + 1) = (dyr d * 12 + dmo d) + 1 by omega, Int.mul_add]
      omega
    · rw [if_neg c2]
      dsimp only
      rw [show (1 : Int) - 1 = 0 by omega, Int.mul_zero, Int.zero_ediv, show (dyr d + 1) * 12 + 1 = (dyr d * 12 + dmo d) + 1 by omega, Int.mul_add]
      omega
theorem parts_sum {r s : Int} (h0 : 0 ≤ s) : ∀ n : Nat, dsum (partd r) s (s + n) = thr r (s + n) - ahd r s
  | 0 => by rw [show s + ((0 : Nat) : Int) = s by omega, dsum_one, partd_thr]
  | n + 1 => by
    rw [show s + ((n + 1 : Nat) : Int) = s + n + 1 by omega, dsum_succ (by omega), parts_sum h0 n, partd_thr, ahd_succ (by omega)]
    omega
def sp_parts_through : Sp := fun vs H Q _ => ∃ r y m k, vs = [.int r, .int y, .int m, .int k] ∧ 2000 ≤ y ∧ y ≤ 2273 ∧ 1 ≤ m ∧ m ≤ 12 ∧ 0 ≤ k ∧ k ≤ 31 ∧ Q (.int (r * (y * 12 + m) + r * k / mlen y m)) H
def sp_parts : Sp := fun vs H Q _ => ∃ r s t, vs = [.int r, .int s, .int t] ∧ 0 ≤ s ∧ s ≤ t ∧ t ≤ 99999 ∧ ∀ H', Same H H' → Q (.int (dsum (partd r) s t)) H'
def owedV (st ga : List (Int × Int)) (f e : Int) : Int := dsum (fun d => partd (rentd st ga d) d) f e
def sp_owed (K : PySem.W.Frag) : Sp := fun vs H Q _ => ∃ l1 as st l2 bs ga f e, vs = [.ref l1, .ref l2, .int f, .int e] ∧ RowAt K H l1 as st ∧ RowAt K H l2 bs ga ∧ StepsOk st ∧ GaugesOk ga ∧ st.length ≤ 10000 ∧ ga.length ≤ 10000 ∧ 0 ≤ f ∧ e ≤ 99999 ∧
  ∀ H', Same H H' → Q (.int (owedV st ga f e)) H'
def stepG (ga : List (Int × Int)) (p : Int × Int) (d : Int) : Int := partd (p.2 * (heldV ga d).getD 0 / (heldV ga p.1).getD 1) d
theorem owedV_eq (st ga : List (Int × Int)) (f e : Int) : dsum (fun d => holdG (stepG ga) (pairH st d) d) f e = owedV st ga f e := by
  refine dsum_congr fun d _ _ => ?_
  unfold rentd
  cases pairH st d with
  | none => exact (partd_zero d).symm
  | some p => rfl
/-- the objects as are tuples that stand in H, pairs of ints ps -/
inductive PrT (H : Hp) : List Addr → List (Int × Int) → Prop
  | nil : PrT H [] []
  | cons {a : Addr} {p : Int × Int} {as : List Addr} {ps : List (Int × Int)} : H a = some (.tup [.int p.1, .int p.2]) → PrT H as ps → PrT H (a :: as) (p :: ps)
theorem PrT.prs {K : PySem.W.Frag} {H : Hp} : ∀ {as : List Addr} {ps : List (Int × Int)}, PrT H as ps → Prs K H as ps
  | _, _, .nil => .nil
  | _, _, .cons h t => .cons (SqT.of h) (PrT.prs t)
theorem PrT.same {H H' : Hp} (e : Same H H') : ∀ {as : List Addr} {ps : List (Int × Int)}, PrT H as ps → PrT H' as ps
  | _, _, .nil => .nil
  | _, _, .cons h t => .cons (e _ _ h) (PrT.same e t)
theorem PrT.mut {H : Hp} {l : Addr} {xs : List V} {o : HO} (hl : H l = some (.lst xs)) : ∀ {as : List Addr} {ps : List (Int × Int)}, PrT H as ps → PrT (upd H l o) as ps
  | _, _, .nil => .nil
  | _, _, .cons h t => .cons (by rw [upd_ne (ne_of h hl (by intro q; cases q))]; exact h) (PrT.mut hl t)
theorem PrT.append {H : Hp} {bs : List Addr} {qs : List (Int × Int)} (t2 : PrT H bs qs) : ∀ {as : List Addr} {ps : List (Int × Int)}, PrT H as ps → PrT H (as ++ bs) (ps ++ qs)
  | _, _, .nil => t2
  | _, _, .cons h t => .cons h (PrT.append t2 t)
theorem PrT.one {H : Hp} {a : Addr} {x y : Int} (h : H a = some (.tup [.int x, .int y])) : PrT H [a] [(x, y)] := .cons h .nil
def kH (H : Hp) : V → Int × Int
  | .ref t => match H t with
    | some (.tup [.int x, .int y]) => (x, y)
    | _ => (0, 0)
  | _ => (0, 0)
theorem kH_at {H : Hp} {t : Addr} {x y : Int} (h : H t = some (.tup [.int x, .int y])) : kH H (.ref t) = (x, y) := by
  show (match H t with
    | some (.tup [.int x, .int y]) => (x, y)
    | _ => (0, 0)) = (x, y)
  rw [h]
theorem PrT.keys {H : Hp} : ∀ {as : List Addr} {ps : List (Int × Int)}, PrT H as ps → (as.map V.ref).map (kH H) = ps
  | _, _, .nil => rfl
  | _, _, .cons h t => by rw [List.map_cons, List.map_cons, kH_at h, PrT.keys t]
theorem PrT.each {H : Hp} : ∀ {as : List Addr} {ps : List (Int × Int)}, PrT H as ps → ∀ x, x ∈ as.map V.ref → ∃ t, x = V.ref t ∧ H t = some (.tup [.int (kH H x).1, .int (kH H x).2])
  | _, _, .nil, x, h => by cases h
  | _, _, .cons h t, x, hx => by
    rw [List.map_cons] at hx
    rcases List.mem_cons.mp hx with e | hx
    · subst e
      exact ⟨_, rfl, by rw [kH_at h]; exact h⟩
    · exact PrT.each t x hx
theorem PrT.of {H : Hp} : ∀ ys : List V, (∀ x, x ∈ ys → ∃ t, x = V.ref t ∧ H t = some (.tup [.int (kH H x).1, .int (kH H x).2])) → ∃ bs : List Addr, ys = bs.map V.ref ∧ PrT H bs (ys.map (kH H))
  | [], _ => ⟨[], rfl, .nil⟩
  | y :: ys, h => by
    obtain ⟨t, e, ht⟩ := h y (List.mem_cons_self ..)
    obtain ⟨bs, e2, hp⟩ := PrT.of ys fun x hx => h x (List.mem_cons_of_mem _ hx)
    exact ⟨t :: bs, by rw [e, e2]; rfl, .cons ht hp⟩
/-- the balance on a day -/
def bal (ms : List (Int × Int)) (d : Int) : Int := ((ms.filter fun p => decide (p.1 ≤ d)).map (·.2)).sum
theorem bal_nil (d : Int) : bal [] d = 0 := rfl
theorem bal_snoc (ms : List (Int × Int)) (p : Int × Int) (d : Int) : bal (ms ++ [p]) d = bal ms d + if p.1 ≤ d then p.2 else 0 := by
  rw [bal, List.filter_append, List.map_append, List.sum_append]
  by_cases c : p.1 ≤ d
  · rw [List.filter_cons_of_pos (by simpa using c), if_pos c]; simp [bal]
  · rw [List.filter_cons_of_neg (by simpa using c), if_neg c]; simp [bal]
theorem sum_perm : ∀ {l m : List Int}, l.Perm m → l.sum = m.sum := by
  intro l m h
  induction h with
  | nil => rfl
  | cons x _ ih => rw [List.sum_cons, List.sum_cons, ih]
  | swap x y l => simp only [List.sum_cons]; omega
  | trans _ _ h1 h2 => exact h1.trans h2
theorem bal_perm {l m : List (Int × Int)} (h : l.Perm m) (d : Int) : bal l d = bal m d := sum_perm ((h.filter _).map _)
theorem bal_all {ms : List (Int × Int)} {d : Int} (h : ∀ p, p ∈ ms → p.1 ≤ d) : bal ms d = (ms.map (·.2)).sum := by
  rw [bal, List.filter_eq_self.mpr fun p hp => by simpa using h p hp]
theorem bal_none {ms : List (Int × Int)} {d : Int} (h : ∀ p, p ∈ ms → d < p.1) : bal ms d = 0 := by
  rw [bal, List.filter_eq_nil_iff.mpr fun p hp => by have := h p hp; simp; omega]
  rfl
/-- behind each move the sum so far -/
def runs : List (Int × Int) → Int → List (Int × Int)
  | [], _ => []
  | m :: r, t => (m.1, t + m.2) :: runs r (t + m.2)
theorem runs_snoc (p : Int × Int) : ∀ (l : List (Int × Int)) (t : Int), runs (l ++ [p]) t = runs l t ++ [(p.1, t + (l.map (·.2)).sum + p.2)]
  | [], t => by simp [runs]
  | m :: r, t => by
    rw [List.cons_append, runs, runs_snoc p r, runs, List.cons_append, List.map_cons, List.sum_cons]
    rw [show t + m.2 + (r.map (·.2)).sum + p.2 = t + (m.2 + (r.map (·.2)).sum) + p.2 by omega]
theorem runs_len : ∀ (l : List (Int × Int)) (t : Int), (runs l t).length = l.length
  | [], _ => rfl
  | m :: r, t => by rw [runs, List.length_cons, runs_len r, List.length_cons]
theorem runs_firsts : ∀ (l : List (Int × Int)) (t : Int), (runs l t).map (·.1) = l.map (·.1)
  | [], _ => rfl
  | m :: r, t => by rw [runs, List.map_cons, runs_firsts r, List.map_cons]
theorem bestN_app (r s : List (Int × Int)) (d : Int) : ∀ n, n ≤ r.length → bestN (r ++ s) d n = bestN r d n
  | 0, _ => rfl
  | n + 1, h => by
    have g : ∀ i, i < r.length → (r ++ s).getD i (0, 0) = r.getD i (0, 0) := fun i hi => by rw [List.getD, List.getD, List.getElem?_append_left hi]
    rw [bestN, bestN, bestN_app r s d n (by omega)]
    cases e : bestN r d n with
    | none => unfold bestStep; dsimp only; rw [g n (by omega)]
    | some j =>
      have hj := bestN_lt e
      unfold bestStep
      dsimp only
      rw [g n (by omega), g j (by omega)]
theorem pairH_snoc {r : List (Int × Int)} {p : Int × Int} {d : Int} (h : ∀ x, x ∈ r → x.1 ≤ p.1) : pairH (r ++ [p]) d = if p.1 ≤ d then some p else pairH r d := by
  have hl : (r ++ [p]).length = r.length + 1 := by rw [List.length_append]; rfl
  have gp : (r ++ [p]).getD r.length (0, 0) = p := by rw [List.getD, List.getElem?_append_right (Nat.le_refl _), Nat.sub_self]; rfl
  have g : ∀ i, i < r.length → (r ++ [p]).getD i (0, 0) = r.getD i (0, 0) := fun i hi => by rw [List.getD, List.getD, List.getElem?_append_left hi]
  unfold pairH best
  rw [hl, bestN, bestN_app r [p] d r.length (Nat.le_refl _)]
  cases e : bestN r d r.length with
  | none =>
    unfold bestStep
    dsimp only
    rw [gp]
    split
    · rw [Option.map_some, gp]
    · rfl
  | some j =>
    have hj := bestN_lt e
    have hx : r.getD j (0, 0) ∈ r := by rw [List.getD, List.getElem?_eq_getElem hj]; exact List.getElem_mem hj
    unfold bestStep
    dsimp only
    rw [gp, g j hj]
    have hh := h _ hx
    by_cases c : p.1 ≤ d
    · rw [if_pos ⟨c, hh⟩, if_pos c, Option.map_some, gp]
    · rw [if_neg (fun z => c z.1), if_neg c, Option.map_some, Option.map_some, g j hj]
theorem runs_hold {qs : List (Int × Int)} (hs : qs.Pairwise (fun x y => x.1 ≤ y.1)) (d : Int) : ∀ n, n ≤ qs.length → ((pairH (runs (qs.take n) 0) d).map (·.2)).getD 0 = bal (qs.take n) d
  | 0, _ => rfl
  | n + 1, h => by
    have hn : qs[n]? = some qs[n] := List.getElem?_eq_getElem (by omega)
    have ih := runs_hold hs d n (by omega)
    have hle : ∀ x, x ∈ qs.take n → x.1 ≤ (qs[n]).1 := by
      intro x hx
      obtain ⟨i, hi⟩ := List.mem_iff_getElem?.mp hx
      obtain ⟨hi1, hi2⟩ := List.getElem?_eq_some_iff.mp hi
      rw [List.getElem_take] at hi2
      rw [List.length_take] at hi1
      rw [← hi2]
      exact List.pairwise_iff_getElem.mp hs i n (by omega) (by omega) (by omega)
    rw [List.take_add_one, hn]
    show ((pairH (runs (qs.take n ++ [qs[n]]) 0) d).map (·.2)).getD 0 = bal (qs.take n ++ [qs[n]]) d
    rw [runs_snoc, pairH_snoc, bal_snoc]
    · dsimp only
      by_cases c : (qs[n]).1 ≤ d
      · rw [if_pos c, if_pos c, bal_all (fun p hp => Int.le_trans (hle p hp) c)]
        simp
      · rw [if_neg c, if_neg c, ih]
        omega
    · intro x hx
      have : x.1 ∈ (runs (qs.take n) 0).map (·.1) := List.mem_map.mpr ⟨x, hx, rfl⟩
      rw [runs_firsts] at this
      obtain ⟨y, hy, e⟩ := List.mem_map.mp this
      rw [← e]
      exact hle y hy
theorem runs_holds {qs : List (Int × Int)} (hs : qs.Pairwise (fun x y => x.1 ≤ y.1)) (d : Int) : ((pairH (runs qs 0) d).map (·.2)).getD 0 = bal qs d := by
  have h := runs_hold hs d qs.length (Nat.le_refl _)
  rw [List.take_length] at h
  exact h
/-- rates: within their bounds, one from day 0 on -/
def RatesOk (ps : List (Int × Int)) : Prop := (∀ p, p ∈ ps → 0 ≤ p.1 ∧ 0 ≤ p.2 ∧ p.2 ≤ 10000) ∧ ∃ g r, ps = (0, g) :: r
theorem RatesOk.held {ps : List (Int × Int)} (h : RatesOk ps) {d : Int} (h0 : 0 ≤ d) : ∃ j b p, best ps d = some j ∧ ps[j]? = some (b, p) ∧ heldV ps d = some p ∧ pairH ps d = some (b, p) ∧ 0 ≤ p ∧ p ≤ 10000 := by
  cases e : best ps d with
  | none =>
    obtain ⟨g, r, h1⟩ := h.2
    have := pairH_none (ps := ps) (day := d) (by rw [pairH, e]; rfl) (0, g) (by rw [h1]; exact List.mem_cons_self ..)
    dsimp only at this
    omega
  | some j =>
    have hl := best_lt e
    have hx : ps[j]? = some ps[j] := List.getElem?_eq_getElem hl
    have g : ps.getD j (0, 0) = ps[j] := getD_of hx
    have b := h.1 _ (List.mem_of_getElem? hx)
    exact ⟨j, ps[j].1, ps[j].2, rfl, hx, by rw [heldV, e, Option.map_some, g], by rw [pairH, e, Option.map_some, g], b.2⟩
def grownS (ms ra : List (Int × Int)) (f e : Int) : Int := dsum (fun d => bal ms d * (heldV ra d).getD 0) f e
def grownV (ms ra : List (Int × Int)) (e : Int) : Int := grownS ms ra 0 e / 3650000
def sp_balance (K : PySem.W.Frag) : Sp := fun vs H Q _ => ∃ l as ms d, vs = [.ref l, .int d] ∧ RowAt K H l as ms ∧ ms.length ≤ 10000 ∧ ∀ H', Same H H' → Q (.int (bal ms d)) H'
def sp_balances (K : PySem.W.Frag) : Sp := fun vs H Q _ => ∃ l as ms, vs = [.ref l] ∧ SqL K H l (as.map .ref) ∧ PrT H as ms ∧ ms.length ≤ 10000 ∧
  ∀ H' l' ts qs, Same H H' → H l' = none → H' l' = some (.lst (ts.map .ref)) → Prs K H' ts (runs qs 0) → qs.Perm ms → qs.Pairwise (fun x y => x.1 ≤ y.1) → Q (.ref l') H'
def sp_grown (K : PySem.W.Frag) : Sp := fun vs H Q _ => ∃ l1 as ms l2 bs ra e, vs = [.ref l1, .ref l2, .int e] ∧ SqL K H l1 (as.map .ref) ∧ PrT H as ms ∧ ms.length ≤ 10000 ∧ RowAt K H l2 bs ra ∧ RatesOk ra ∧ ra.length ≤ 10000 ∧ e ≤ 99999 ∧
  ∀ H', Same H H' → Q (.int (grownV ms ra e)) H'
def sp_l_balance (K : PySem.W.Frag) : Sp := fun vs H Q _ => ∃ l as ms d, vs = [.ref l, .int d] ∧ RowAt K H l as ms ∧ Q (.int (bal ms d)) H
def sp_l_grown (K : PySem.W.Frag) : Sp := fun vs H Q _ => ∃ l1 as ms l2 bs ra f e, vs = [.ref l1, .ref l2, .int f, .int e] ∧ RowAt K H l1 as ms ∧ RowAt K H l2 bs ra ∧ RatesOk ra ∧ 0 ≤ f ∧ f ≤ 200000 ∧ -10 ≤ e ∧ e ≤ 200000 ∧ Q (.int (grownS ms ra f e / 3650000)) H
def balAcc (ms : List (Int × Int)) (d : Int) (i : Nat) : List V := (((ms.take i).filter fun p => decide (p.1 ≤ d)).map (·.2)).map V.int
/-! ### heaps in which only the table at P may change -/
def NT (o : HO) : Prop := ∀ ps, o ≠ .tbl ps
structure Kept (P : Addr) (H H' : Hp) : Prop where
  keep : ∀ b o, NT o → H b = some o → H' b = some o
  tab : GxR.TabG H P → GxR.TabG H' P
  free : ∀ b, H' b = none → H b = none
theorem Kept.refl (P : Addr) (H : Hp) : Kept P H H := ⟨fun _ _ _ e => e, fun h => h, fun _ h => h⟩
theorem Kept.trans {P : Addr} {H H' H'' : Hp} (a : Kept P H H') (b : Kept P H' H'') : Kept P H H'' := ⟨fun x o n e => b.keep x o n (a.keep x o n e), fun h => b.tab (a.tab h), fun x h => a.free x (b.free x h)⟩
theorem Kept.of {P : Addr} {H H' : Hp} (e : Same H H') : Kept P H H' := ⟨fun b o _ h => e b o h, fun ⟨ps, h, t⟩ => ⟨ps, e _ _ h, t⟩, fun b h => e.free h⟩
theorem Kept.tabbed {P : Addr} {H H' : Hp} (h : GxR.TabG H P) (t : GxR.Tabbed P H H') : Kept P H H' := by
  obtain ⟨ps, hp, _⟩ := h
  have ne : ∀ b o, NT o → H b = some o → b ≠ P := fun b o n e z => by
    rw [z, hp] at e
    exact n ps (Option.some.inj e).symm
  refine ⟨fun b o n e => by rw [t.2 b (ne b o n e)]; exact e, fun _ => t.1, fun b e => ?_⟩
  by_cases z : b = P
  · obtain ⟨qs, hq, _⟩ := t.1
    rw [z, hq] at e
    cases e
  · rw [← t.2 b z]; exact e
def flatB : V → Bool
  | .str s => (decide (1 ≤ (s.length : Int)) && decide ((s.length : Int) ≤ 8)) && s.cps.toList.all signP
  | _ => false
def flatL : V → Bool
  | .str s => decide (1 ≤ (s.length : Int)) && decide ((s.length : Int) ≤ 8)
  | _ => false
def isS : V → Bool
  | .str _ => true
  | _ => false
/-- a thing that may be handed in: no text beyond all bounds -/
def thingS (H : Hp) (x : V) : Prop := thing H x ∧ ∀ s, x = .str s → s.length ≤ sizeLine
theorem thing_str {K : PySem.W.Frag} {H : Hp} {x : V} (h : thing H x) : ∃ n : String, TyX K H x (.type n) ∧ kitB n "str" = some (isS x) := by
  cases x with
  | int i => exact ⟨"int", .base (.int i), (by decide +kernel : kitB "int" "str" = some false)⟩
  | bl i => exact ⟨"bool", .base (.bl i), (by decide +kernel : kitB "bool" "str" = some false)⟩
  | str i => exact ⟨"str", .base (.str i), (by decide +kernel : kitB "str" "str" = some true)⟩
  | non => exact ⟨"NoneType", .base .non, (by decide +kernel : kitB "NoneType" "str" = some false)⟩
  | ref a => obtain ⟨xs, e⟩ := h; exact ⟨"tuple", .base (.tup e), (by decide +kernel : kitB "tuple" "str" = some false)⟩
  | _ => exact h.elim
def sp_is_flat (P : Addr) : Sp := fun vs H Q _ => ∃ x, vs = [x] ∧ thingS H x ∧ GxR.TabG H P ∧ ∀ H', Kept P H H' → Q (.bl (flatB x)) H'
def sp_check_flat (P C : Addr) : Sp := fun vs H Q E => ∃ x, vs = [x] ∧ thingS H x ∧ GxR.TabG H P ∧ (flatB x = true → ∀ H', Kept P H H' → Q .non H') ∧ (flatB x = false → ∀ H', Kept P H H' → E (.ref C) none H')
def sp_check_amount (C : Addr) : Sp := fun vs H Q E => ∃ x lo hi, vs = [x, .int lo, .int hi] ∧ thing H x ∧ (lo = 0 ∨ lo = 1) ∧ (hi = 1000000000 ∨ hi = 1000000 ∨ hi = 10000) ∧ (within x lo hi = true → Q .non H) ∧ (within x lo hi = false → E (.ref C) none H)
/-! ### one lease -/
structure LeM where
  flat : Str
  first : Int
  last : Option Int
  indexed : Bool
  steps : List (Int × Int)
  moves : List (Int × Int)
  closing : Option Int
  sent : Int
  given : Int
/-- where it stands: the object, its dict, its two lists and what they hold -/
structure LeA where
  x : Addr
  dx : Addr
  s : Addr
  m : Addr
  sa : List Addr
  ma : List Addr
def leFs (a : LeA) (m : LeM) : List (Str × V) := [("flat", .str m.flat), ("first", .int m.first), ("last", optV m.last), ("indexed", .bl m.indexed), ("steps", .ref a.s), ("moves", .ref a.m), ("closing", optV m.closing), ("cents_sent", .int m.sent), ("cents_given", .int m.given)]
structure LeAt (C : Addr) (H : Hp) (a : LeA) (m : LeM) : Prop where
  ob : H a.x = some (.ins C a.dx (leFs a m))
  st : H a.s = some (.lst (a.sa.map .ref))
  sp : PrT H a.sa m.steps
  mv : H a.m = some (.lst (a.ma.map .ref))
  mp : PrT H a.ma m.moves
structure LeOk (m : LeM) : Prop where
  f0 : 0 ≤ m.first
  f1 : m.first ≤ 99999
  l1 : ∀ d, m.last = some d → d ≤ 99999
  c1 : ∀ d, m.closing = some d → d ≤ 99999
  so : StepsOk m.steps
  sn : m.steps.length ≤ 1000
  mn : m.moves.length ≤ 1000
def lastsTo (m : LeM) (d : Int) : Bool := match m.last with
  | none => true
  | some l => decide (d ≤ l)
def lastDay (m : LeM) (d : Int) : Int := match m.last with
  | none => d
  | some l => if d ≤ l then d else l
def steady : List (Int × Int) := [(0, 100)]
def leOwed (m : LeM) (gs : List (Int × Int)) (d : Int) : Int := owedV m.steps (if m.indexed = true then gs else steady) m.first (lastDay m d)
def leWorth (m : LeM) (rs : List (Int × Int)) (d : Int) : Int := bal m.moves d + grownV m.moves rs d
theorem steady_ok : GaugesOk steady := ⟨fun p hp => by rw [List.mem_singleton.mp hp]; exact ⟨by decide, by decide, by decide⟩, 100, [], rfl⟩
/-- a new lease -/
def newLe (flat : Str) (first rent : Int) (ix : Bool) : LeM := ⟨flat, first, none, ix, [(first, rent)], [], none, 0, 0⟩
def sp_Lease_init (C : Addr) : Sp := fun vs H Q _ => ∃ x dx flat first rent ix, vs = [.ref x, .str flat, .int first, .int rent, .bl ix] ∧ H x = some (.ins C dx []) ∧
  ∀ a H', a.x = x → a.dx = dx → H a.s = none → H a.m = none → a.s ≠ a.m → LeAt C H' a (newLe flat first rent ix) → (∀ b, b ≠ x → ∀ o, H b = some o → H' b = some o) → (∀ b, H' b = none → H b = none) → Q .non H'
def sp_Lease_lasts_to (C : Addr) : Sp := fun vs H Q _ => ∃ a m d, vs = [.ref a.x, .int d] ∧ LeAt C H a m ∧ Q (.bl (lastsTo m d)) H
def sp_Lease_owed_through (K : PySem.W.Frag) (C : Addr) : Sp := fun vs H Q _ => ∃ a m d g ga gs, vs = [.ref a.x, .int d, .ref g] ∧ LeAt C H a m ∧ LeOk m ∧ RowAt K H g ga gs ∧ GaugesOk gs ∧ gs.length ≤ 1000 ∧ d ≤ 99999 ∧ ∀ H', Same H H' → Q (.int (leOwed m gs d)) H'
def sp_Lease_pledge_through (K : PySem.W.Frag) (C : Addr) : Sp := fun vs H Q _ => ∃ a m d g ga gs, vs = [.ref a.x, .int d, .ref g] ∧ LeAt C H a m ∧ LeOk m ∧ RowAt K H g ga gs ∧ RatesOk gs ∧ gs.length ≤ 1000 ∧ d ≤ 99999 ∧ ∀ H', Same H H' → Q (.int (leWorth m gs d)) H'
/-- all but the object at x stands -/
structure K0 (x : Addr) (H H' : Hp) : Prop where
  keep : ∀ b, b ≠ x → ∀ o, H b = some o → H' b = some o
  free : ∀ b, H' b = none → H b = none
theorem K0.refl (x : Addr) (H : Hp) : K0 x H H := ⟨fun _ _ _ e => e, fun _ e => e⟩
theorem K0.trans {x : Addr} {H H' H'' : Hp} (a : K0 x H H') (b : K0 x H' H'') : K0 x H H'' := ⟨fun c n o e => b.keep c n o (a.keep c n o e), fun c e => a.free c (b.free c e)⟩
theorem K0.of {x : Addr} {H H' : Hp} (e : Same H H') : K0 x H H' := ⟨fun b _ o h => e b o h, fun b h => e.free h⟩
theorem K0.at_ {x : Addr} {H : Hp} {o u : HO} (h : H x = some o) : K0 x H (upd H x u) := by
  refine ⟨fun b n o' e => by rw [upd_ne n]; exact e, fun b e => ?_⟩
  by_cases z : b = x
  · rw [z, upd_same] at e; cases e
  · rw [upd_ne z] at e; exact e
theorem g_fldX {K : PySem.W.Frag} {H : Hp} {a C dx : Addr} {fs : List (Str × V)} {f : Str} {y : V} {σ : L2.St} {nx : L2.St → Hp → Prop} (hx : H a = some (.ins C dx fs)) (c : Cls K C) (n : NoAttr K C f) (hl : fs.length < 1000)
    (h : ∀ H', H' a = some (.ins C dx (putF f y fs)) → K0 a H H' → nx σ H') : ∃ a' C' dx' fs', V.ref a = .ref a' ∧ H a' = some (.ins C' dx' fs') ∧ Cls K C' ∧ NoAttr K C' f ∧ fs'.length < 1000 ∧ nx σ (upd H a' (.ins C' dx' (putF f y fs'))) :=
  ⟨a, C, dx, fs, rfl, hx, c, n, hl, h _ upd_same (K0.at_ hx)⟩
theorem LeAt.same {C : Addr} {H H' : Hp} {a : LeA} {m : LeM} (e : Same H H') (h : LeAt C H a m) : LeAt C H' a m := ⟨e _ _ h.ob, e _ _ h.st, h.sp.same e, e _ _ h.mv, h.mp.same e⟩
/-! ### the roll -/
structure RoM where
  leases : List LeM
  gauges : List (Int × Int)
  rates : List (Int × Int)
  billed : Int
  letters : List (List V)
structure RoA where
  x : Addr
  dx : Addr
  l : Addr
  g : Addr
  r : Addr
  t : Addr
  ls : List LeA
  ga : List Addr
  ra : List Addr
  ta : List Addr
def roFs (a : RoA) (m : RoM) : List (Str × V) := [("_leases", .ref a.l), ("_gauges", .ref a.g), ("_rates", .ref a.r), ("_billed", .int m.billed), ("_letters", .ref a.t)]
inductive LesAt (C : Addr) (H : Hp) : List LeA → List LeM → Prop
  | nil : LesAt C H [] []
  | cons {a : LeA} {m : LeM} {as : List LeA} {ms : List LeM} : LeAt C H a m → LesAt C H as ms → LesAt C H (a :: as) (m :: ms)
theorem LesAt.len {C : Addr} {H : Hp} : ∀ {as : List LeA} {ms : List LeM}, LesAt C H as ms → as.length = ms.length
  | _, _, .nil => rfl
  | _, _, .cons _ t => by rw [List.length_cons, List.length_cons, LesAt.len t]
theorem LesAt.get {C : Addr} {H : Hp} : ∀ {as : List LeA} {ms : List LeM} {i : Nat} {m : LeM}, LesAt C H as ms → ms[i]? = some m → ∃ a, as[i]? = some a ∧ LeAt C H a m
  | _, _, 0, _, .cons h _, e => by simp at e; subst e; exact ⟨_, rfl, h⟩
  | _, _, i + 1, _, .cons _ t, e => by obtain ⟨a, h1, h2⟩ := LesAt.get (i := i) t (by simpa using e); exact ⟨a, by simpa using h1, h2⟩
  | _, _, _, _, .nil, e => by simp at e
theorem LesAt.same {C : Addr} {H H' : Hp} (e : Same H H') : ∀ {as : List LeA} {ms : List LeM}, LesAt C H as ms → LesAt C H' as ms
  | _, _, .nil => .nil
  | _, _, .cons h t => .cons (h.same e) (LesAt.same e t)
inductive TupsAt (H : Hp) : List Addr → List (List V) → Prop
  | nil : TupsAt H [] []
  | cons {t : Addr} {vs : List V} {ts : List Addr} {ls : List (List V)} : H t = some (.tup vs) → TupsAt H ts ls → TupsAt H (t :: ts) (vs :: ls)
theorem TupsAt.same {H H' : Hp} (e : Same H H') : ∀ {ts : List Addr} {ls : List (List V)}, TupsAt H ts ls → TupsAt H' ts ls
  | _, _, .nil => .nil
  | _, _, .cons h t => .cons (e _ _ h) (TupsAt.same e t)
structure RoAt (CR CL : Addr) (H : Hp) (a : RoA) (m : RoM) : Prop where
  ob : H a.x = some (.ins CR a.dx (roFs a m))
  lo : H a.l = some (.lst (a.ls.map fun e => V.ref e.x))
  ls : LesAt CL H a.ls m.leases
  go : H a.g = some (.lst (a.ga.map .ref))
  gp : PrT H a.ga m.gauges
  ro : H a.r = some (.lst (a.ra.map .ref))
  rp : PrT H a.ra m.rates
  to : H a.t = some (.lst (a.ta.map .ref))
  tp : TupsAt H a.ta m.letters
  nl : (a.l :: a.g :: a.r :: a.t :: (a.ls.flatMap fun e => [e.s, e.m])).Nodup
  nx : (a.ls.map (·.x)).Nodup
theorem RoAt.same {CR CL : Addr} {H H' : Hp} {a : RoA} {m : RoM} (e : Same H H') (h : RoAt CR CL H a m) : RoAt CR CL H' a m :=
  ⟨e _ _ h.ob, e _ _ h.lo, h.ls.same e, e _ _ h.go, h.gp.same e, e _ _ h.ro, h.rp.same e, e _ _ h.to, h.tp.same e, h.nl, h.nx⟩
structure RoOk (m : RoM) : Prop where
  le : ∀ e, e ∈ m.leases → LeOk e
  ga : GaugesOk m.gauges
  ra : RatesOk m.rates
  gn : m.gauges.length ≤ 1000
  rn : m.rates.length ≤ 1000
  ln : m.leases.length ≤ 20
  tn : m.letters.length ≤ 1000
  b0 : -1 ≤ m.billed
  b1 : m.billed ≤ 99999
def sp_Roll__known (CR CL C : Addr) : Sp := fun vs H Q E => ∃ a m x, vs = [.ref a.x, x] ∧ RoAt CR CL H a m ∧ thing H x ∧
  (∀ (i : Nat) e le, x = .int i → m.leases[i]? = some e → a.ls[i]? = some le → LeAt CL H le e → Q (.ref le.x) H) ∧ (within x 0 ((m.leases.length : Int) - 1) = false → E (.ref C) none H)
def sp_Roll_many (CR CL : Addr) : Sp := fun vs H Q _ => ∃ a m, vs = [.ref a.x] ∧ RoAt CR CL H a m ∧ Q (.int m.leases.length) H
def sp_Roll_billed (CR CL : Addr) : Sp := fun vs H Q _ => ∃ a m, vs = [.ref a.x] ∧ RoAt CR CL H a m ∧ Q (.int m.billed) H
def sp_Roll_sent (CR CL C : Addr) : Sp := fun vs H Q E => ∃ a m x, vs = [.ref a.x, x] ∧ RoAt CR CL H a m ∧ thing H x ∧
  (∀ (i : Nat) e, x = .int i → m.leases[i]? = some e → Q (.int e.sent) H) ∧ (within x 0 ((m.leases.length : Int) - 1) = false → E (.ref C) none H)
def sp_Roll_given (CR CL C : Addr) : Sp := fun vs H Q E => ∃ a m x, vs = [.ref a.x, x] ∧ RoAt CR CL H a m ∧ thing H x ∧
  (∀ (i : Nat) e, x = .int i → m.leases[i]? = some e → Q (.int e.given) H) ∧ (within x 0 ((m.leases.length : Int) - 1) = false → E (.ref C) none H)
/-- let stands in nobody's way -/
def freeAt (m : RoM) (flat : Str) (first : Int) : Bool := m.leases.all fun e => !(decide (e.flat = flat) && lastsTo e first)
def sp_Roll__check_free (CR CL C : Addr) : Sp := fun vs H Q E => ∃ a m flat first, vs = [.ref a.x, .str flat, .int first] ∧ RoAt CR CL H a m ∧ m.leases.length ≤ 20 ∧ (freeAt m flat first = true → Q .non H) ∧ (freeAt m flat first = false → E (.ref C) none H)
/-- an end stands in nobody's way -/
def endFree (m : RoM) (e : LeM) (last : Int) : Bool := m.leases.all fun o => !(decide (o.flat = e.flat) && (decide (e.first < o.first) && decide (o.first ≤ last)))
def sp_Roll__check_end (CR CL C : Addr) : Sp := fun vs H Q E => ∃ a m le e last, vs = [.ref a.x, .ref le.x, .int last] ∧ RoAt CR CL H a m ∧ LeAt CL H le e ∧ m.leases.length ≤ 20 ∧ (endFree m e last = true → Q .non H) ∧ (endFree m e last = false → E (.ref C) none H)
theorem PrT.k0 {H H' : Hp} {x : Addr} {o : HO} (hx : H x = some o) (ho : ∀ xs, o ≠ .tup xs) (k : K0 x H H') : ∀ {as : List Addr} {ps : List (Int × Int)}, PrT H as ps → PrT H' as ps
  | _, _, .nil => .nil
  | _, _, .cons h t => .cons (k.keep _ (ne_of h hx (fun q => ho _ q.symm)) _ h) (PrT.k0 hx ho k t)
theorem TupsAt.k0 {H H' : Hp} {x : Addr} {o : HO} (hx : H x = some o) (ho : ∀ xs, o ≠ .tup xs) (k : K0 x H H') : ∀ {ts : List Addr} {ls : List (List V)}, TupsAt H ts ls → TupsAt H' ts ls
  | _, _, .nil => .nil
  | _, _, .cons h t => .cons (k.keep _ (ne_of h hx (fun q => ho _ q.symm)) _ h) (TupsAt.k0 hx ho k t)
/-- a lease stands where another object has changed -/
theorem LeAt.k0 {C : Addr} {H H' : Hp} {x : Addr} {o : HO} (hx : H x = some o) (ho : ∀ xs, o ≠ .tup xs) (k : K0 x H H') {a : LeA} {m : LeM} (n1 : a.x ≠ x) (n2 : a.s ≠ x) (n3 : a.m ≠ x) (h : LeAt C H a m) : LeAt C H' a m :=
  ⟨k.keep _ n1 _ h.ob, k.keep _ n2 _ h.st, h.sp.k0 hx ho k, k.keep _ n3 _ h.mv, h.mp.k0 hx ho k⟩
theorem LesAt.k0 {C : Addr} {H H' : Hp} {x : Addr} {o : HO} (hx : H x = some o) (ho : ∀ xs, o ≠ .tup xs) (k : K0 x H H') : ∀ {as : List LeA} {ms : List LeM}, (∀ a, a ∈ as → a.x ≠ x ∧ a.s ≠ x ∧ a.m ≠ x) → LesAt C H as ms → LesAt C H' as ms
  | _, _, _, .nil => .nil
  | _, _, n, .cons h t => .cons (h.k0 hx ho k (n _ (List.mem_cons_self ..)).1 (n _ (List.mem_cons_self ..)).2.1 (n _ (List.mem_cons_self ..)).2.2) (LesAt.k0 hx ho k (fun a ha => n a (List.mem_cons_of_mem _ ha)) t)
theorem LesAt.of_mem {C : Addr} {H : Hp} : ∀ {as : List LeA} {ms : List LeM}, LesAt C H as ms → ∀ {a : LeA}, a ∈ as → ∃ m, LeAt C H a m
  | _, _, .nil, _, h => by cases h
  | _, _, .cons h t, a, ha => by
    rcases List.mem_cons.mp ha with e | ha
    · rw [e]; exact ⟨_, h⟩
    · exact t.of_mem ha
/-- the object of one lease has changed -/
theorem LesAt.set {C : Addr} {H H' : Hp} {le : LeA} {fs : List (Str × V)} {e' : LeM} (hx : H le.x = some (.ins C le.dx fs)) (k : K0 le.x H H') (h' : LeAt C H' le e') : ∀ {as : List LeA} {ms : List LeM} {i : Nat}, as[i]? = some le → (as.map (·.x)).Nodup → LesAt C H as ms → LesAt C H' as (ms.set i e')
  | _, _, _, e, _, .nil => by simp at e
  | _, _, 0, e, n, .cons h t => by
    simp at e
    subst e
    rw [List.map_cons, List.nodup_cons] at n
    refine .cons h' (t.k0 hx (fun xs q => by cases q) k fun a ha => ⟨fun z => n.1 (List.mem_map.mpr ⟨a, ha, z⟩), ?_, ?_⟩)
    · obtain ⟨m, hB⟩ := t.of_mem ha
      exact ne_of hB.st hx (fun q => by cases q)
    · obtain ⟨m, hB⟩ := t.of_mem ha
      exact ne_of hB.mv hx (fun q => by cases q)
  | _, _, i + 1, e, n, .cons h t => by
    have e2 : _ := e
    rw [List.getElem?_cons_succ] at e2
    rw [List.map_cons, List.nodup_cons] at n
    rw [List.set_cons_succ]
    exact .cons (h.k0 hx (fun xs q => by cases q) k (fun z => n.1 (List.mem_map.mpr ⟨le, List.mem_of_getElem? e2, z.symm⟩)) (ne_of h.st hx (fun q => by cases q)) (ne_of h.mv hx (fun q => by cases q))) (LesAt.set hx k h' e2 n.2 t)
theorem RoAt.setLe {CR CL : Addr} {H H' : Hp} {a : RoA} {m : RoM} {i : Nat} {le : LeA} {e e' : LeM} (h : RoAt CR CL H a m) (hl : a.ls[i]? = some le) (hx : LeAt CL H le e) (k : K0 le.x H H') (h' : LeAt CL H' le e') : RoAt CR CL H' a { m with leases := m.leases.set i e' } := by
  have ho : ∀ xs, HO.ins CL le.dx (leFs le e) ≠ .tup xs := fun xs q => by cases q
  have nx : a.x ≠ le.x := fun z => by
    have q := h.ob
    rw [z, hx.ob] at q
    have q2 := congrArg (fun o : Option HO => match o with | some (.ins _ _ fs) => fs.length | _ => 0) q
    exact absurd q2 (by show ¬ 9 = 5; decide)
  exact ⟨k.keep _ nx _ h.ob, k.keep _ (ne_of h.lo hx.ob (fun q => by cases q)) _ h.lo, h.ls.set hx.ob k h' hl h.nx, k.keep _ (ne_of h.go hx.ob (fun q => by cases q)) _ h.go, h.gp.k0 hx.ob ho k,
    k.keep _ (ne_of h.ro hx.ob (fun q => by cases q)) _ h.ro, h.rp.k0 hx.ob ho k, k.keep _ (ne_of h.to hx.ob (fun q => by cases q)) _ h.to, h.tp.k0 hx.ob ho k, h.nl, h.nx⟩
/-! ### behind each letter -/
def owns (a : RoA) : List Addr := a.x :: a.l :: a.g :: a.r :: a.t :: (a.ls.flatMap fun e => [e.x, e.s, e.m])
theorem owns_le {a : RoA} {le : LeA} (h : le ∈ a.ls) : le.x ∈ owns a ∧ le.s ∈ owns a ∧ le.m ∈ owns a := by
  unfold owns
  refine ⟨?_, ?_, ?_⟩
  all_goals
    iterate 5 refine List.mem_cons_of_mem _ ?_
    exact List.mem_flatMap.mpr ⟨le, h, by simp⟩
theorem RoAt.k0 {CR CL : Addr} {H H' : Hp} {x : Addr} {o : HO} {a : RoA} {m : RoM} (h : RoAt CR CL H a m) (hx : H x = some o) (ho : ∀ xs, o ≠ .tup xs) (n : x ∉ owns a) (k : K0 x H H') : RoAt CR CL H' a m := by
  have n1 : ∀ b, b ∈ owns a → b ≠ x := fun b hb z => n (z ▸ hb)
  have m1 : a.x ∈ owns a ∧ a.l ∈ owns a ∧ a.g ∈ owns a ∧ a.r ∈ owns a ∧ a.t ∈ owns a := by unfold owns; simp
  exact ⟨k.keep _ (n1 _ m1.1) _ h.ob, k.keep _ (n1 _ m1.2.1) _ h.lo, h.ls.k0 hx ho k (fun e he => ⟨n1 _ (owns_le he).1, n1 _ (owns_le he).2.1, n1 _ (owns_le he).2.2⟩), k.keep _ (n1 _ m1.2.2.1) _ h.go, h.gp.k0 hx ho k,
    k.keep _ (n1 _ m1.2.2.2.1) _ h.ro, h.rp.k0 hx ho k, k.keep _ (n1 _ m1.2.2.2.2) _ h.to, h.tp.k0 hx ho k, h.nl, h.nx⟩
/-- what is not the roll's own stands -/
structure FrO (a : RoA) (H H' : Hp) : Prop where
  keep : ∀ b o, b ∉ owns a → H b = some o → H' b = some o
  free : ∀ b, H' b = none → H b = none
theorem FrO.refl (a : RoA) (H : Hp) : FrO a H H := ⟨fun _ _ _ e => e, fun _ e => e⟩
theorem FrO.trans {a : RoA} {H H' H'' : Hp} (x : FrO a H H') (y : FrO a H' H'') : FrO a H H'' := ⟨fun b o n e => y.keep b o n (x.keep b o n e), fun b e => x.free b (y.free b e)⟩
theorem FrO.of {a : RoA} {H H' : Hp} (e : Same H H') : FrO a H H' := ⟨fun b o _ h => e b o h, fun b h => e.free h⟩
theorem FrO.k0 {a : RoA} {H H' : Hp} {x : Addr} (hx : x ∈ owns a) (k : K0 x H H') : FrO a H H' := ⟨fun b o n h => k.keep b (fun z => n (z ▸ hx)) o h, k.free⟩
/-- an object that was not there at first has changed -/
theorem FrO.new {a : RoA} {H0 H H' : Hp} {x : Addr} (e : FrO a H0 H) (h0 : H0 x = none) (k : K0 x H H') : FrO a H0 H' := ⟨fun b o n h => k.keep b (ne_of_none h h0) o (e.keep b o n h), fun b h => e.free b (k.free b h)⟩
def doneLe (gs rs : List (Int × Int)) (b : Int) (e : LeM) : LeM := { e with sent := leOwed e gs b, given := match e.closing with | none => e.given | some c => leWorth e rs c }
def ansRent (gs : List (Int × Int)) (b : Int) (i : Nat) (e : LeM) : List (List V) := if leOwed e gs b - e.sent ≠ 0 then [[.str "rent", .int i, .int (leOwed e gs b - e.sent)]] else []
def ansPledge (rs : List (Int × Int)) (i : Nat) (e : LeM) : List (List V) := match e.closing with
  | none => []
  | some c => if leWorth e rs c - e.given ≠ 0 then [[.str "pledge", .int i, .int (leWorth e rs c - e.given)]] else []
def ansUp (gs rs : List (Int × Int)) (b : Int) (ms : List LeM) (i : Nat) : List (List V) := (List.range i).flatMap fun j => match ms[j]? with
  | none => []
  | some e => ansRent gs b j e ++ ansPledge rs j e
def doneUp (gs rs : List (Int × Int)) (b : Int) (ms : List LeM) (i : Nat) : List LeM := (ms.take i).map (doneLe gs rs b) ++ ms.drop i
theorem ansUp_succ {gs rs : List (Int × Int)} {b : Int} {ms : List LeM} {i : Nat} {e : LeM} (h : ms[i]? = some e) : ansUp gs rs b ms (i + 1) = ansUp gs rs b ms i ++ (ansRent gs b i e ++ ansPledge rs i e) := by
  unfold ansUp
  rw [List.range_succ, List.flatMap_append, List.flatMap_singleton, h]
theorem doneUp_at {gs rs : List (Int × Int)} {b : Int} {ms : List LeM} {i : Nat} {e : LeM} (h : ms[i]? = some e) : (doneUp gs rs b ms i)[i]? = some e := by
  have hl := (List.getElem?_eq_some_iff.mp h).1
  unfold doneUp
  rw [List.getElem?_append_right (by rw [List.length_map, List.length_take]; exact Nat.min_le_left _ _), List.length_map, List.length_take, Nat.min_eq_left (Nat.le_of_lt hl), Nat.sub_self, List.getElem?_drop, Nat.add_zero]
  exact h
theorem doneUp_succ {gs rs : List (Int × Int)} {b : Int} {ms : List LeM} {i : Nat} {e : LeM} (h : ms[i]? = some e) : (doneUp gs rs b ms i).set i (doneLe gs rs b e) = doneUp gs rs b ms (i + 1) := by
  have hl := (List.getElem?_eq_some_iff.mp h).1
  have hd : ms.drop i = e :: ms.drop (i + 1) := by
    obtain ⟨hh, e3⟩ := List.getElem?_eq_some_iff.mp h
    rw [← e3]
    exact List.drop_eq_getElem_cons hh
  unfold doneUp
  rw [List.set_append_right _ _ (by rw [List.length_map, List.length_take]; exact Nat.min_le_left _ _), List.length_map, List.length_take, Nat.min_eq_left (Nat.le_of_lt hl), Nat.sub_self, hd, List.set_cons_zero, List.take_add_one, h, List.map_append, List.append_assoc]
  rfl
theorem doneUp_len {gs rs : List (Int × Int)} {b : Int} {ms : List LeM} {i : Nat} : (doneUp gs rs b ms i).length = ms.length := by
  unfold doneUp
  rw [List.length_append, List.length_map, List.length_take, List.length_drop]
  omega
theorem doneUp_all {gs rs : List (Int × Int)} {b : Int} {ms : List LeM} : doneUp gs rs b ms ms.length = ms.map (doneLe gs rs b) := by
  unfold doneUp
  rw [List.take_length, List.drop_length, List.append_nil]
theorem TupsAt.append {H : Hp} {us : List Addr} {ks : List (List V)} (t2 : TupsAt H us ks) : ∀ {ts : List Addr} {ls : List (List V)}, TupsAt H ts ls → TupsAt H (ts ++ us) (ls ++ ks)
  | _, _, .nil => t2
  | _, _, .cons h t => .cons h (TupsAt.append t2 t)
theorem TupsAt.len {H : Hp} : ∀ {ts : List Addr} {ls : List (List V)}, TupsAt H ts ls → ts.length = ls.length
  | _, _, .nil => rfl
  | _, _, .cons _ t => by rw [List.length_cons, List.length_cons, TupsAt.len t]
/-- a letter is kept -/
theorem RoAt.letter {CR CL : Addr} {H : Hp} {a : RoA} {m : RoM} {p : Addr} {lv : List V} (h : RoAt CR CL H a m) (hp : H p = some (.tup lv)) : RoAt CR CL (upd H a.t (.lst (a.ta.map V.ref ++ [V.ref p]))) { a with ta := a.ta ++ [p] } { m with letters := m.letters ++ [lv] } := by
  have k := K0.at_ (u := .lst (a.ta.map V.ref ++ [V.ref p])) h.to
  have ho : ∀ xs, HO.lst (a.ta.map V.ref) ≠ .tup xs := fun xs q => by cases q
  have nn := h.nl
  simp only [List.nodup_cons, List.mem_cons, not_or] at nn
  obtain ⟨⟨l1, l2, l3, l4⟩, ⟨g1, g2, g3⟩, ⟨r1, r2⟩, t1, _⟩ := nn
  refine ⟨k.keep _ (ne_of h.ob h.to (fun q => by cases q)) _ h.ob, k.keep _ l3 _ h.lo, h.ls.k0 h.to ho k (fun e he => ⟨?_, ?_, ?_⟩), k.keep _ g2 _ h.go, h.gp.k0 h.to ho k, k.keep _ r1 _ h.ro, h.rp.k0 h.to ho k, ?_, ?_, h.nl, h.nx⟩
  · obtain ⟨m', hm'⟩ := h.ls.of_mem he
    exact ne_of hm'.ob h.to (fun q => by cases q)
  · exact fun z => t1 (List.mem_flatMap.mpr ⟨e, he, by rw [← z]; simp⟩)
  · exact fun z => t1 (List.mem_flatMap.mpr ⟨e, he, by rw [← z]; simp⟩)
  · rw [upd_same, List.map_append]; rfl
  · exact TupsAt.append (.cons (by rw [upd_ne (ne_of hp h.to (fun q => by cases q))]; exact hp) .nil) (h.tp.k0 h.to ho k)
def doneM (m : RoM) (lv : List V) : RoM := { m with leases := m.leases.map (doneLe m.gauges m.rates m.billed), letters := m.letters ++ [lv] }
def ansM (m : RoM) : List (List V) := ansUp m.gauges m.rates m.billed m.leases m.leases.length
def sp_Roll__done (CR CL : Addr) : Sp := fun vs H Q _ => ∃ a m p lv, vs = [.ref a.x, .ref p] ∧ H p = some (.tup lv) ∧ RoAt CR CL H a m ∧ RoOk m ∧
  ∀ H' l ts, FrO a H H' → H l = none → RoAt CR CL H' { a with ta := a.ta ++ [p] } (doneM m lv) → H' l = some (.lst (ts.map V.ref)) → TupsAt H' ts (ansM m) → Q (.ref l) H'
theorem RoAt.not_new {CR CL : Addr} {H : Hp} {a : RoA} {m : RoM} (h : RoAt CR CL H a m) {b : Addr} (hb : H b = none) : b ∉ owns a := by
  intro z
  unfold owns at z
  simp only [List.mem_cons, List.mem_flatMap, List.not_mem_nil, or_false] at z
  rcases z with rfl | rfl | rfl | rfl | rfl | ⟨e, he, z⟩
  · rw [h.ob] at hb; cases hb
  · rw [h.lo] at hb; cases hb
  · rw [h.go] at hb; cases hb
  · rw [h.ro] at hb; cases hb
  · rw [h.to] at hb; cases hb
  · obtain ⟨m', hm'⟩ := h.ls.of_mem he
    rcases z with rfl | rfl | rfl
    · rw [hm'.ob] at hb; cases hb
    · rw [hm'.st] at hb; cases hb
    · rw [hm'.mv] at hb; cases hb
theorem LeAt.self {C : Addr} {H : Hp} {le : LeA} {e e' : LeM} (h : LeAt C H le e) (h1 : e'.steps = e.steps) (h2 : e'.moves = e.moves) : LeAt C (upd H le.x (.ins C le.dx (leFs le e'))) le e' := by
  have k := K0.at_ (u := .ins C le.dx (leFs le e')) h.ob
  have ho : ∀ xs, HO.ins C le.dx (leFs le e) ≠ .tup xs := fun xs q => by cases q
  exact ⟨upd_same, k.keep _ (ne_of h.st h.ob (fun q => by cases q)) _ h.st, by rw [h1]; exact h.sp.k0 h.ob ho k, k.keep _ (ne_of h.mv h.ob (fun q => by cases q)) _ h.mv, by rw [h2]; exact h.mp.k0 h.ob ho k⟩
theorem ansRent_len {gs : List (Int × Int)} {b : Int} {i : Nat} {e : LeM} : (ansRent gs b i e).length ≤ 1 := by unfold ansRent; split <;> simp
theorem ansPledge_len {rs : List (Int × Int)} {i : Nat} {e : LeM} : (ansPledge rs i e).length ≤ 1 := by
  unfold ansPledge
  split
  · simp
  · split <;> simp
theorem ansUp_len {gs rs : List (Int × Int)} {b : Int} {ms : List LeM} : ∀ i, (ansUp gs rs b ms i).length ≤ 2 * i
  | 0 => by simp [ansUp]
  | i + 1 => by
    have ih := ansUp_len (gs := gs) (rs := rs) (b := b) (ms := ms) i
    cases h : ms[i]? with
    | none =>
      unfold ansUp at ih ⊢
      rw [List.range_succ, List.flatMap_append, List.flatMap_singleton, h, List.append_nil]
      omega
    | some e =>
      have h1 := ansRent_len (gs := gs) (b := b) (i := i) (e := e)
      have h2 := ansPledge_len (rs := rs) (i := i) (e := e)
      rw [ansUp_succ h, List.length_append, List.length_append]
      omega
theorem list_set_same {α : Type} {l : List α} {i : Nat} {x : α} (h : l[i]? = some x) : l.set i x = l := by
  refine List.ext_getElem? fun j => ?_
  rw [List.getElem?_set]
  split
  · rename_i e
    subst e
    rw [if_pos (List.getElem?_eq_some_iff.mp h).1, h]
  · rfl
def newRo : RoM := ⟨[], [(0, 100)], [(0, 0)], -1, []⟩
def sp_Roll_init (CR CL : Addr) : Sp := fun vs H Q _ => ∃ x dx, vs = [.ref x] ∧ H x = some (.ins CR dx []) ∧
  ∀ a H', a.x = x → a.dx = dx → RoAt CR CL H' a newRo → K0 x H H' → (∀ b, b ∈ owns a → b ≠ x → H b = none) → Q .non H'
/-- a gauge more -/
theorem RoAt.gauge {CR CL : Addr} {H : Hp} {a : RoA} {m : RoM} {p : Addr} {d n : Int} (h : RoAt CR CL H a m) (hp : H p = some (.tup [.int d, .int n])) : RoAt CR CL (upd H a.g (.lst (a.ga.map V.ref ++ [V.ref p]))) { a with ga := a.ga ++ [p] } { m with gauges := m.gauges ++ [(d, n)] } := by
  have k := K0.at_ (u := .lst (a.ga.map V.ref ++ [V.ref p])) h.go
  have ho : ∀ xs, HO.lst (a.ga.map V.ref) ≠ .tup xs := fun xs q => by cases q
  have nn := h.nl
  simp only [List.nodup_cons, List.mem_cons, not_or] at nn
  obtain ⟨⟨l1, l2, l3, l4⟩, ⟨g1, g2, g3⟩, ⟨r1, r2⟩, t1, _⟩ := nn
  refine ⟨k.keep _ (ne_of h.ob h.go (fun q => by cases q)) _ h.ob, k.keep _ l1 _ h.lo, h.ls.k0 h.go ho k (fun e he => ⟨?_, ?_, ?_⟩), ?_, ?_, k.keep _ (fun z => g1 z.symm) _ h.ro, h.rp.k0 h.go ho k, k.keep _ (fun z => g2 z.symm) _ h.to, h.tp.k0 h.go ho k, h.nl, h.nx⟩
  · obtain ⟨m', hm'⟩ := h.ls.of_mem he
    exact ne_of hm'.ob h.go (fun q => by cases q)
  · exact fun z => g3 (List.mem_flatMap.mpr ⟨e, he, by rw [← z]; simp⟩)
  · exact fun z => g3 (List.mem_flatMap.mpr ⟨e, he, by rw [← z]; simp⟩)
  · rw [upd_same, List.map_append]; rfl
  · exact PrT.append (PrT.one (by rw [upd_ne (ne_of hp h.go (fun q => by cases q))]; exact hp)) (h.gp.k0 h.go ho k)

/-! ### refusals and letters, as the document has them -/
inductive Err | noLease | badFlat | badDay | badAmount | taken | full | done
  deriving DecidableEq
def clsT {K : PySem.W.Frag} {mg : Str → Option Value} {base : Heap} (T : Txt K mg base) : Err → Addr
  | .noLease => T.c_NoLease
  | .badFlat => T.c_BadFlat
  | .badDay => T.c_BadDay
  | .badAmount => T.c_BadAmount
  | .taken => T.c_Taken
  | .full => T.c_Full
  | .done => T.c_Done
/-- goes on where b, else refuses -/
def chk (b : Bool) (e : Err) (r : Option Err) : Option Err := if b = true then r else some e
theorem chk_t {b : Bool} {e : Err} {r : Option Err} (h : b = true) : chk b e r = r := if_pos h
theorem chk_f {b : Bool} {e : Err} {r : Option Err} (h : b = false) : chk b e r = some e := if_neg (by rw [h]; decide)
theorem chk_none {b : Bool} {e : Err} {r : Option Err} (h : chk b e r = none) : b = true ∧ r = none := by
  cases b with
  | true => exact ⟨rfl, h⟩
  | false => cases h
inductive Lt
  | let (f x y : V) (ix : Bool)
  | fin (n x : V)
  | step (n x y : V)
  | gauge (x y : V)
  | rate (x y : V)
  | paid (n x y : V)
  | kept (n x y : V)
  | close (n x : V)
  | bill (x : V)
def Lt.vals : Lt → List V
  | .let f x y ix => [.str "let", f, x, y, .bl ix]
  | .fin n x => [.str "end", n, x]
  | .step n x y => [.str "step", n, x, y]
  | .gauge x y => [.str "gauge", x, y]
  | .rate x y => [.str "rate", x, y]
  | .paid n x y => [.str "paid", n, x, y]
  | .kept n x y => [.str "kept", n, x, y]
  | .close n x => [.str "close", n, x]
  | .bill x => [.str "bill", x]
def intV : V → Int
  | .int i => i
  | _ => 0
def leV (m : RoM) : V → Option LeM
  | .int i => m.leases[i.toNat]?
  | _ => none
def isLe (m : RoM) (n : V) : Bool := within n 0 ((m.leases.length : Int) - 1)
theorem isLe_at {m : RoM} {n : V} (h : isLe m n = true) : ∃ (i : Nat) (e : LeM), n = .int i ∧ m.leases[i]? = some e ∧ leV m n = some e := by
  obtain ⟨i, rfl, h0, h1⟩ := within_int h
  obtain ⟨j, rfl⟩ : ∃ j : Nat, i = (j : Int) := ⟨i.toNat, by omega⟩
  have hj : j < m.leases.length := by omega
  exact ⟨j, _, rfl, List.getElem?_eq_getElem hj, List.getElem?_eq_getElem hj⟩
def updLe (m : RoM) (n : V) (f : LeM → LeM) : RoM := match leV m n with
  | some e => { m with leases := m.leases.set (intV n).toNat (f e) }
  | none => m
theorem updLe_at {m : RoM} {i : Nat} {e : LeM} {f : LeM → LeM} (h : m.leases[i]? = some e) : updLe m (.int i) f = { m with leases := m.leases.set i (f e) } := by
  unfold updLe
  rw [show leV m (.int i) = some e from h]
  rfl
def freeV (m : RoM) : V → V → Bool
  | .str s, .int d => freeAt m s d
  | _, _ => true
def onLe (m : RoM) (n : V) (p : LeM → Bool) : Bool := match leV m n with
  | some e => p e
  | none => true
theorem onLe_at {m : RoM} {i : Nat} {e : LeM} {p : LeM → Bool} (h : m.leases[i]? = some e) : onLe m (.int i) p = p e := by
  unfold onLe
  rw [show leV m (.int i) = some e from h]
def Lt.out (m : RoM) : Lt → Option Err
  | .let f x y _ => chk (flatB f) .badFlat (chk (within x 0 99999) .badDay (chk (within y 0 1000000000) .badAmount (chk (freeV m f x) .taken (chk (decide (m.leases.length < 20)) .full none))))
  | .fin n x => chk (isLe m n) .noLease (chk (within x 0 99999) .badDay (chk (onLe m n fun e => decide (e.first ≤ intV x)) .badDay (chk (onLe m n fun e => endFree m e (intV x)) .taken none)))
  | .step n x y => chk (isLe m n) .noLease (chk (within x 0 99999) .badDay (chk (within y 0 1000000000) .badAmount none))
  | .gauge x y => chk (within x 0 99999) .badDay (chk (within y 1 1000000) .badAmount none)
  | .rate x y => chk (within x 0 99999) .badDay (chk (within y 0 10000) .badAmount none)
  | .paid n x y => chk (isLe m n) .noLease (chk (within x 0 99999) .badDay (chk (within y 1 1000000000) .badAmount none))
  | .kept n x y => chk (isLe m n) .noLease (chk (within x 0 99999) .badDay (chk (within y 1 1000000000) .badAmount none))
  | .close n x => chk (isLe m n) .noLease (chk (within x 0 99999) .badDay (chk (onLe m n fun e => decide (e.closing = none)) .done none))
  | .bill x => chk (within x 0 99999) .badDay (chk (decide (m.billed ≤ intV x)) .done none)
def Lt.new (m : RoM) : Lt → RoM
  | .let f x y ix => match f with
    | .str s => { m with leases := m.leases ++ [newLe s (intV x) (intV y) ix] }
    | _ => m
  | .fin n x => updLe m n fun e => { e with last := some (intV x) }
  | .step n x y => updLe m n fun e => { e with steps := e.steps ++ [(intV x, intV y)] }
  | .gauge x y => { m with gauges := m.gauges ++ [(intV x, intV y)] }
  | .rate x y => { m with rates := m.rates ++ [(intV x, intV y)] }
  | .paid n x y => updLe m n fun e => { e with moves := e.moves ++ [(intV x, intV y)] }
  | .kept n x y => updLe m n fun e => { e with moves := e.moves ++ [(intV x, -intV y)] }
  | .close n x => updLe m n fun e => { e with closing := some (intV x) }
  | .bill x => { m with billed := intV x }
/-- the things of it are things -/
def Lt.things (H : Hp) : Lt → Prop
  | .let f x y _ => thingS H f ∧ thing H x ∧ thing H y
  | .fin n x => thing H n ∧ thing H x
  | .step n x y => thing H n ∧ thing H x ∧ thing H y
  | .gauge x y => thing H x ∧ thing H y
  | .rate x y => thing H x ∧ thing H y
  | .paid n x y => thing H n ∧ thing H x ∧ thing H y
  | .kept n x y => thing H n ∧ thing H x ∧ thing H y
  | .close n x => thing H n ∧ thing H x
  | .bill x => thing H x
/-! ### what is kept within bounds: k letters ahead of what is written -/
structure RoG (k : Nat) (m : RoM) : Prop where
  le : ∀ e, e ∈ m.leases → 0 ≤ e.first ∧ e.first ≤ 99999 ∧ (∀ d, e.last = some d → e.first ≤ d ∧ d ≤ 99999) ∧ (∀ d, e.closing = some d → 0 ≤ d ∧ d ≤ 99999) ∧ StepsOk e.steps ∧ e.steps.length ≤ m.letters.length + k ∧ e.moves.length ≤ m.letters.length + k
  ga : GaugesOk m.gauges
  ra : RatesOk m.rates
  gn : m.gauges.length ≤ m.letters.length + k
  rn : m.rates.length ≤ m.letters.length + k
  ln : m.leases.length ≤ 20
  b0 : -1 ≤ m.billed
  b1 : m.billed ≤ 99999
theorem RoG.ok {k : Nat} {m : RoM} (h : RoG k m) (hn : m.letters.length + k ≤ 1000) : RoOk m :=
  ⟨fun e he => by
    obtain ⟨h0, h1, h2, h3, h4, h5, h6⟩ := h.le e he
    exact ⟨h0, h1, fun d hd => (h2 d hd).2, fun d hd => (h3 d hd).2, h4, by omega, by omega⟩, h.ga, h.ra, by have := h.gn; omega, by have := h.rn; omega, h.ln, by omega, h.b0, h.b1⟩
theorem RoG.mono {k j : Nat} {m : RoM} (h : RoG k m) (hk : k ≤ j) : RoG j m :=
  ⟨fun e he => by
    obtain ⟨h0, h1, h2, h3, h4, h5, h6⟩ := h.le e he
    exact ⟨h0, h1, h2, h3, h4, by omega, by omega⟩, h.ga, h.ra, by have := h.gn; omega, by have := h.rn; omega, h.ln, h.b0, h.b1⟩
theorem newRo_g : RoG 1 newRo := ⟨fun e he => (by cases he), ⟨fun p hp => by rw [List.mem_singleton.mp hp]; decide, 100, [], rfl⟩, ⟨fun p hp => by rw [List.mem_singleton.mp hp]; decide, 0, [], rfl⟩, by decide, by decide, by decide, by decide, by decide⟩
theorem RoG.done {k : Nat} {m : RoM} {lv : List V} (h : RoG (k + 1) m) : RoG k (doneM m lv) := by
  have hl : (doneM m lv).letters.length = m.letters.length + 1 := by show (m.letters ++ [lv]).length = _; rw [List.length_append]; rfl
  refine ⟨fun e he => ?_, h.ga, h.ra, by rw [hl]; have := h.gn; show m.gauges.length ≤ _; omega, by rw [hl]; have := h.rn; show m.rates.length ≤ _; omega, by show (m.leases.map _).length ≤ 20; rw [List.length_map]; exact h.ln, h.b0, h.b1⟩
  obtain ⟨e0, he0, rfl⟩ := List.mem_map.mp he
  obtain ⟨h0, h1, h2, h3, h4, h5, h6⟩ := h.le e0 he0
  exact ⟨h0, h1, h2, h3, h4, by rw [hl]; show e0.steps.length ≤ _; omega, by rw [hl]; show e0.moves.length ≤ _; omega⟩
theorem RoG.setLe {k j : Nat} {m : RoM} {i : Nat} {e e' : LeM} (h : RoG k m) (hk : k ≤ j) (_he : m.leases[i]? = some e)
    (h' : 0 ≤ e'.first ∧ e'.first ≤ 99999 ∧ (∀ d, e'.last = some d → e'.first ≤ d ∧ d ≤ 99999) ∧ (∀ d, e'.closing = some d → 0 ≤ d ∧ d ≤ 99999) ∧ StepsOk e'.steps ∧ e'.steps.length ≤ m.letters.length + j ∧ e'.moves.length ≤ m.letters.length + j) : RoG j { m with leases := m.leases.set i e' } := by
  have hm := h.mono hk
  refine ⟨fun o ho => ?_, hm.ga, hm.ra, hm.gn, hm.rn, by show (m.leases.set i e').length ≤ 20; rw [List.length_set]; exact hm.ln, hm.b0, hm.b1⟩
  rcases List.mem_or_eq_of_mem_set ho with q | q
  · exact hm.le o q
  · rw [q]; exact h'
theorem RoG.new {m : RoM} {L : Lt} (h : RoG 1 m) (ho : L.out m = none) : RoG 2 (L.new m) := by
  have hm := h.mono (show 1 ≤ 2 by decide)
  cases L with
  | «let» f x y ix =>
    obtain ⟨c1, ho⟩ := chk_none ho
    obtain ⟨c2, ho⟩ := chk_none ho
    obtain ⟨c3, ho⟩ := chk_none ho
    obtain ⟨c4, ho⟩ := chk_none ho
    obtain ⟨c5, _⟩ := chk_none ho
    have c5 := of_decide_eq_true c5
    obtain ⟨d, rfl, d0, d1⟩ := within_int c2
    obtain ⟨r, rfl, r0, r1⟩ := within_int c3
    unfold Lt.new
    cases f with
    | str s =>
      refine ⟨fun e he => ?_, hm.ga, hm.ra, hm.gn, hm.rn, by show (m.leases ++ [_]).length ≤ 20; rw [List.length_append]; exact c5, hm.b0, hm.b1⟩
      rcases List.mem_append.mp he with he | he
      · exact hm.le e he
      · rw [List.mem_singleton.mp he]
        refine ⟨d0, d1, fun _ z => (by cases z), fun _ z => (by cases z), fun p hp => ?_, by show 1 ≤ m.letters.length + 2; omega, Nat.zero_le _⟩
        rw [List.mem_singleton.mp hp]
        exact ⟨d0, r0, r1⟩
    | _ => exact hm
  | fin n x =>
    obtain ⟨c1, ho⟩ := chk_none ho
    obtain ⟨c2, ho⟩ := chk_none ho
    obtain ⟨c3, ho⟩ := chk_none ho
    obtain ⟨d, rfl, d0, d1⟩ := within_int c2
    obtain ⟨i, e, rfl, he, _⟩ := isLe_at c1
    obtain ⟨h0, h1, h2, h3, h4, h5, h6⟩ := h.le e (List.mem_of_getElem? he)
    refine (show RoG 2 (updLe m (.int i) _) from ?_)
    rw [onLe_at he] at c3
    have c3 : e.first ≤ d := of_decide_eq_true c3
    rw [updLe_at he]
    exact h.setLe (by decide) he ⟨h0, h1, fun _ z => (by cases z; exact ⟨c3, d1⟩), h3, h4, by show e.steps.length ≤ _; omega, by show e.moves.length ≤ _; omega⟩
  | step n x y =>
    obtain ⟨c1, ho⟩ := chk_none ho
    obtain ⟨c2, ho⟩ := chk_none ho
    obtain ⟨c3, ho⟩ := chk_none ho
    obtain ⟨d, rfl, d0, d1⟩ := within_int c2
    obtain ⟨r, rfl, r0, r1⟩ := within_int c3
    obtain ⟨i, e, rfl, he, _⟩ := isLe_at c1
    obtain ⟨h0, h1, h2, h3, h4, h5, h6⟩ := h.le e (List.mem_of_getElem? he)
    refine (show RoG 2 (updLe m (.int i) _) from ?_)
    rw [updLe_at he]
    refine h.setLe (by decide) he ⟨h0, h1, h2, h3, fun p hp => ?_, by show (e.steps ++ [_]).length ≤ _; rw [List.length_append, List.length_singleton]; omega, by show e.moves.length ≤ _; omega⟩
    rcases List.mem_append.mp hp with hp | hp
    · exact h4 p hp
    · rw [List.mem_singleton.mp hp]; exact ⟨d0, r0, r1⟩
  | gauge x y =>
    obtain ⟨c2, ho⟩ := chk_none ho
    obtain ⟨c3, ho⟩ := chk_none ho
    obtain ⟨d, rfl, d0, d1⟩ := within_int c2
    obtain ⟨r, rfl, r0, r1⟩ := within_int c3
    refine ⟨hm.le, ⟨fun q hq => ?_, ?_⟩, hm.ra, by show (m.gauges ++ [_]).length ≤ _; rw [List.length_append, List.length_singleton]; have := h.gn; show _ ≤ m.letters.length + 2; omega, hm.rn, hm.ln, hm.b0, hm.b1⟩
    · rcases List.mem_append.mp hq with hq | hq
      · exact hm.ga.1 q hq
      · rw [List.mem_singleton.mp hq]; exact ⟨d0, r0, r1⟩
    · obtain ⟨g, r', e⟩ := hm.ga.2
      exact ⟨g, _, by show m.gauges ++ _ = _; rw [e]; rfl⟩
  | rate x y =>
    obtain ⟨c2, ho⟩ := chk_none ho
    obtain ⟨c3, ho⟩ := chk_none ho
    obtain ⟨d, rfl, d0, d1⟩ := within_int c2
    obtain ⟨r, rfl, r0, r1⟩ := within_int c3
    refine ⟨hm.le, hm.ga, ⟨fun q hq => ?_, ?_⟩, hm.gn, by show (m.rates ++ [_]).length ≤ _; rw [List.length_append, List.length_singleton]; have := h.rn; show _ ≤ m.letters.length + 2; omega, hm.ln, hm.b0, hm.b1⟩
    · rcases List.mem_append.mp hq with hq | hq
      · exact hm.ra.1 q hq
      · rw [List.mem_singleton.mp hq]; exact ⟨d0, r0, r1⟩
    · obtain ⟨g, r', e⟩ := hm.ra.2
      exact ⟨g, _, by show m.rates ++ _ = _; rw [e]; rfl⟩
  | paid n x y =>
    obtain ⟨c1, ho⟩ := chk_none ho
    obtain ⟨i, e, rfl, he, _⟩ := isLe_at c1
    obtain ⟨h0, h1, h2, h3, h4, h5, h6⟩ := h.le e (List.mem_of_getElem? he)
    refine (show RoG 2 (updLe m (.int i) _) from ?_)
    rw [updLe_at he]
    exact h.setLe (by decide) he ⟨h0, h1, h2, h3, h4, by show e.steps.length ≤ _; omega, by show (e.moves ++ [_]).length ≤ _; rw [List.length_append, List.length_singleton]; omega⟩
  | kept n x y =>
    obtain ⟨c1, ho⟩ := chk_none ho
    obtain ⟨i, e, rfl, he, _⟩ := isLe_at c1
    obtain ⟨h0, h1, h2, h3, h4, h5, h6⟩ := h.le e (List.mem_of_getElem? he)
    refine (show RoG 2 (updLe m (.int i) _) from ?_)
    rw [updLe_at he]
    exact h.setLe (by decide) he ⟨h0, h1, h2, h3, h4, by show e.steps.length ≤ _; omega, by show (e.moves ++ [_]).length ≤ _; rw [List.length_append, List.length_singleton]; omega⟩
  | close n x =>
    obtain ⟨c1, ho⟩ := chk_none ho
    obtain ⟨c2, ho⟩ := chk_none ho
    obtain ⟨d, rfl, d0, d1⟩ := within_int c2
    obtain ⟨i, e, rfl, he, _⟩ := isLe_at c1
    obtain ⟨h0, h1, h2, h3, h4, h5, h6⟩ := h.le e (List.mem_of_getElem? he)
    refine (show RoG 2 (updLe m (.int i) _) from ?_)
    rw [updLe_at he]
    exact h.setLe (by decide) he ⟨h0, h1, h2, fun _ z => (by cases z; exact ⟨d0, d1⟩), h4, by show e.steps.length ≤ _; omega, by show e.moves.length ≤ _; omega⟩
  | bill x =>
    obtain ⟨c2, ho⟩ := chk_none ho
    obtain ⟨d, rfl, d0, d1⟩ := within_int c2
    exact ⟨hm.le, hm.ga, hm.ra, hm.gn, hm.rn, hm.ln, show (-1 : Int) ≤ d by omega, d1⟩
/-- the roll behind a letter that was done -/
def Lt.then (m : RoM) (L : Lt) : RoM := doneM (L.new m) L.vals
theorem RoG.then {m : RoM} {L : Lt} (h : RoG 1 m) (ho : L.out m = none) : RoG 1 (L.then m) := (h.new ho).done
theorem updLe_letters {m : RoM} {n : V} {f : LeM → LeM} : (updLe m n f).letters = m.letters := by unfold updLe; split <;> rfl
theorem new_letters {m : RoM} {L : Lt} : (L.new m).letters = m.letters := by
  cases L with
  | «let» f x y ix => cases f <;> rfl
  | gauge x y => rfl
  | rate x y => rfl
  | bill x => rfl
  | _ => exact updLe_letters
theorem then_letters {m : RoM} {L : Lt} : (L.then m).letters = m.letters ++ [L.vals] := by
  show (L.new m).letters ++ _ = _
  rw [new_letters]
/-! ### heaps: what a letter changes -/
structure FrP (P : Addr) (S : List Addr) (H H' : Hp) : Prop where
  keep : ∀ b o, NT o → b ∉ S → H b = some o → H' b = some o
  tab : GxR.TabG H P → GxR.TabG H' P
  free : ∀ b, H' b = none → H b = none
theorem nt_lst {xs : List V} : NT (.lst xs) := fun _ z => by cases z
theorem nt_tup {xs : List V} : NT (.tup xs) := fun _ z => by cases z
theorem nt_ins {C dx : Addr} {fs : List (Str × V)} : NT (.ins C dx fs) := fun _ z => by cases z
/-- from one state of a roll to another one -/
structure Stp (P : Addr) (H : Hp) (a : RoA) (H' : Hp) (a' : RoA) : Prop where
  fr : FrP P (owns a) H H'
  own : ∀ b, b ∈ owns a' → b ∈ owns a ∨ H b = none
  x : a'.x = a.x
theorem Stp.trans {P : Addr} {H H1 H2 : Hp} {a a1 a2 : RoA} (s : Stp P H a H1 a1) (t : Stp P H1 a1 H2 a2) : Stp P H a H2 a2 := by
  refine ⟨⟨fun b o n nb e => t.fr.keep b o n (fun z => ?_) (s.fr.keep b o n nb e), fun h => t.fr.tab (s.fr.tab h), fun b e => s.fr.free b (t.fr.free b e)⟩, fun b hb => ?_, t.x.trans s.x⟩
  · rcases s.own b z with q | q
    · exact nb q
    · rw [e] at q; cases q
  · rcases t.own b hb with q | q
    · exact s.own b q
    · exact .inr (s.fr.free b q)
theorem Stp.kept {P : Addr} {H H' : Hp} {a : RoA} (k : Kept P H H') : Stp P H a H' a := ⟨⟨fun b o n _ e => k.keep b o n e, k.tab, k.free⟩, fun _ h => .inl h, rfl⟩
theorem Stp.same {P : Addr} {H H' : Hp} {a : RoA} (e : Same H H') : Stp P H a H' a := Stp.kept (Kept.of e)
theorem RoAt.noTab {CR CL P : Addr} {H : Hp} {a : RoA} {m : RoM} (h : RoAt CR CL H a m) (hT : GxR.TabG H P) : P ∉ owns a := by
  obtain ⟨ps, hp, _⟩ := hT
  intro z
  unfold owns at z
  simp only [List.mem_cons, List.mem_flatMap, List.not_mem_nil, or_false] at z
  rcases z with rfl | rfl | rfl | rfl | rfl | ⟨e, he, z⟩
  · rw [h.ob] at hp; cases hp
  · rw [h.lo] at hp; cases hp
  · rw [h.go] at hp; cases hp
  · rw [h.ro] at hp; cases hp
  · rw [h.to] at hp; cases hp
  · obtain ⟨m', hm'⟩ := h.ls.of_mem he
    rcases z with rfl | rfl | rfl
    · rw [hm'.ob] at hp; cases hp
    · rw [hm'.st] at hp; cases hp
    · rw [hm'.mv] at hp; cases hp
theorem FrO.frP {CR CL P : Addr} {H H' : Hp} {a : RoA} {m : RoM} (h : RoAt CR CL H a m) (f : FrO a H H') : FrP P (owns a) H H' :=
  ⟨fun b o _ nb e => f.keep b o nb e, fun hT => by
    have n := h.noTab hT
    obtain ⟨ps, hp, t⟩ := hT
    exact ⟨ps, f.keep _ _ n hp, t⟩, f.free⟩
theorem Stp.frO {CR CL P : Addr} {H H' : Hp} {a a' : RoA} {m : RoM} (h : RoAt CR CL H a m) (f : FrO a H H') (o : ∀ b, b ∈ owns a' → b ∈ owns a ∨ H b = none) (x : a'.x = a.x) : Stp P H a H' a' := ⟨f.frP h, o, x⟩
/-- one object of the roll has changed -/
theorem Stp.at_ {CR CL P : Addr} {H : Hp} {a a' : RoA} {m : RoM} {x : Addr} {o u : HO} (h : RoAt CR CL H a m) (hx : x ∈ owns a) (ho : H x = some o) (e : owns a' = owns a) (ex : a'.x = a.x) : Stp P H a (upd H x u) a' :=
  .frO h (FrO.k0 hx (K0.at_ ho)) (fun b hb => .inl (by rw [← e]; exact hb)) ex
/-! ### a roll stands in heaps in which only tables have changed -/
theorem PrT.kept {P : Addr} {H H' : Hp} (k : Kept P H H') : ∀ {as : List Addr} {ps : List (Int × Int)}, PrT H as ps → PrT H' as ps
  | _, _, .nil => .nil
  | _, _, .cons h t => .cons (k.keep _ _ nt_tup h) (PrT.kept k t)
theorem TupsAt.kept {P : Addr} {H H' : Hp} (k : Kept P H H') : ∀ {ts : List Addr} {ls : List (List V)}, TupsAt H ts ls → TupsAt H' ts ls
  | _, _, .nil => .nil
  | _, _, .cons h t => .cons (k.keep _ _ nt_tup h) (TupsAt.kept k t)
theorem LeAt.kept {P C : Addr} {H H' : Hp} (k : Kept P H H') {a : LeA} {m : LeM} (h : LeAt C H a m) : LeAt C H' a m := ⟨k.keep _ _ nt_ins h.ob, k.keep _ _ nt_lst h.st, h.sp.kept k, k.keep _ _ nt_lst h.mv, h.mp.kept k⟩
theorem LesAt.kept {P C : Addr} {H H' : Hp} (k : Kept P H H') : ∀ {as : List LeA} {ms : List LeM}, LesAt C H as ms → LesAt C H' as ms
  | _, _, .nil => .nil
  | _, _, .cons h t => .cons (h.kept k) (LesAt.kept k t)
theorem RoAt.kept {P CR CL : Addr} {H H' : Hp} {a : RoA} {m : RoM} (k : Kept P H H') (h : RoAt CR CL H a m) : RoAt CR CL H' a m :=
  ⟨k.keep _ _ nt_ins h.ob, k.keep _ _ nt_lst h.lo, h.ls.kept k, k.keep _ _ nt_lst h.go, h.gp.kept k, k.keep _ _ nt_lst h.ro, h.rp.kept k, k.keep _ _ nt_lst h.to, h.tp.kept k, h.nl, h.nx⟩
theorem thing_kept {P : Addr} {H H' : Hp} {x : V} (k : Kept P H H') (h : thing H x) : thing H' x := by
  cases x with
  | ref a => obtain ⟨xs, q⟩ := h; exact ⟨xs, k.keep _ _ nt_tup q⟩
  | _ => exact h
theorem thingS_kept {P : Addr} {H H' : Hp} {x : V} (k : Kept P H H') (h : thingS H x) : thingS H' x := ⟨thing_kept k h.1, h.2⟩
/-! ### two rolls side by side -/
theorem RoAt.noTup {CR CL : Addr} {H : Hp} {a : RoA} {m : RoM} (h : RoAt CR CL H a m) {b : Addr} {xs : List V} (hb : H b = some (.tup xs)) : b ∉ owns a := by
  intro z
  unfold owns at z
  simp only [List.mem_cons, List.mem_flatMap, List.not_mem_nil, or_false] at z
  rcases z with rfl | rfl | rfl | rfl | rfl | ⟨e, he, z⟩
  · rw [h.ob] at hb; cases hb
  · rw [h.lo] at hb; cases hb
  · rw [h.go] at hb; cases hb
  · rw [h.ro] at hb; cases hb
  · rw [h.to] at hb; cases hb
  · obtain ⟨m', hm'⟩ := h.ls.of_mem he
    rcases z with rfl | rfl | rfl
    · rw [hm'.ob] at hb; cases hb
    · rw [hm'.st] at hb; cases hb
    · rw [hm'.mv] at hb; cases hb
theorem RoAt.live {CR CL : Addr} {H : Hp} {a : RoA} {m : RoM} (h : RoAt CR CL H a m) {b : Addr} (hb : b ∈ owns a) : ∃ o, H b = some o := by
  cases e : H b with
  | some o => exact ⟨o, rfl⟩
  | none => exact absurd hb (h.not_new e)
/-- what the roll does not own: tuples stand, other things where they are not its own -/
theorem FrP.tup {CR CL P : Addr} {H H' : Hp} {a : RoA} {m : RoM} (h : RoAt CR CL H a m) (f : FrP P (owns a) H H') {b : Addr} {xs : List V} (hb : H b = some (.tup xs)) : H' b = some (.tup xs) := f.keep b _ nt_tup (h.noTup hb) hb
theorem PrT.tups {H H' : Hp} (f : ∀ b xs, H b = some (.tup xs) → H' b = some (.tup xs)) : ∀ {as : List Addr} {ps : List (Int × Int)}, PrT H as ps → PrT H' as ps
  | _, _, .nil => .nil
  | _, _, .cons h t => .cons (f _ _ h) (PrT.tups f t)
theorem TupsAt.tups {H H' : Hp} (f : ∀ b xs, H b = some (.tup xs) → H' b = some (.tup xs)) : ∀ {ts : List Addr} {ls : List (List V)}, TupsAt H ts ls → TupsAt H' ts ls
  | _, _, .nil => .nil
  | _, _, .cons h t => .cons (f _ _ h) (TupsAt.tups f t)
theorem LesAt.frs {C : Addr} {H H' : Hp} (f : ∀ b xs, H b = some (.tup xs) → H' b = some (.tup xs)) : ∀ {as : List LeA} {ms : List LeM}, (∀ e, e ∈ as → ∀ b o, (b = e.x ∨ b = e.s ∨ b = e.m) → NT o → H b = some o → H' b = some o) → LesAt C H as ms → LesAt C H' as ms
  | _, _, _, .nil => .nil
  | _, _, g, .cons h t => .cons ⟨g _ (List.mem_cons_self ..) _ _ (.inl rfl) nt_ins h.ob, g _ (List.mem_cons_self ..) _ _ (.inr (.inl rfl)) nt_lst h.st, h.sp.tups f, g _ (List.mem_cons_self ..) _ _ (.inr (.inr rfl)) nt_lst h.mv, h.mp.tups f⟩
    (LesAt.frs f (fun e he => g e (List.mem_cons_of_mem _ he)) t)
theorem RoAt.frP {CR CL P : Addr} {H H' : Hp} {a b : RoA} {m n : RoM} (h : RoAt CR CL H a m) (h2 : RoAt CR CL H b n) (d : ∀ x, x ∈ owns b → x ∉ owns a) (f : FrP P (owns a) H H') : RoAt CR CL H' b n := by
  have ft : ∀ b xs, H b = some (.tup xs) → H' b = some (.tup xs) := fun b xs e => f.tup h e
  have g : ∀ x o, x ∈ owns b → NT o → H x = some o → H' x = some o := fun x o hx n e => f.keep x o n (d x hx) e
  have m1 : b.x ∈ owns b ∧ b.l ∈ owns b ∧ b.g ∈ owns b ∧ b.r ∈ owns b ∧ b.t ∈ owns b := by unfold owns; simp
  refine ⟨g _ _ m1.1 nt_ins h2.ob, g _ _ m1.2.1 nt_lst h2.lo, h2.ls.frs ft (fun e he x o hx n q => g x o ?_ n q), g _ _ m1.2.2.1 nt_lst h2.go, h2.gp.tups ft, g _ _ m1.2.2.2.1 nt_lst h2.ro, h2.rp.tups ft, g _ _ m1.2.2.2.2 nt_lst h2.to, h2.tp.tups ft, h2.nl, h2.nx⟩
  obtain ⟨o1, o2, o3⟩ := owns_le he
  rcases hx with rfl | rfl | rfl
  · exact o1
  · exact o2
  · exact o3
/-! ### what a letter answers, what it is refused by -/
def Answers (CR CL P : Addr) (H : Hp) (a : RoA) (m : RoM) (lv : List V) (Q : VK) : Prop := ∀ H' l ts a', Stp P H a H' a' → H l = none → l ∉ owns a' → RoAt CR CL H' a' (doneM m lv) → H' l = some (.lst (ts.map V.ref)) → TupsAt H' ts (ansM m) → Q (.ref l) H'
def Told (CR CL P : Addr) (cls : Err → Addr) (H : Hp) (a : RoA) (m : RoM) (L : Lt) (Q : VK) (E : XK) : Prop :=
  RoAt CR CL H a m ∧ RoG 1 m ∧ m.letters.length ≤ 900 ∧ L.things H ∧ GxR.TabG H P ∧ (L.out m = none → Answers CR CL P H a (L.new m) L.vals Q) ∧ ∀ e, L.out m = some e → ∀ H', Kept P H H' → E (.ref (cls e)) none H'
theorem done_use {CR CL P : Addr} {H H1 : Hp} {a a1 : RoA} {m1 : RoM} {t : Addr} {lv : List V} {Q : VK} {E : XK} (st : Stp P H a H1 a1) (hA : RoAt CR CL H1 a1 m1) (hm : RoOk m1) (ht : H1 t = none) (k : Answers CR CL P H a m1 lv Q) :
    sp_Roll__done CR CL [.ref a1.x, .ref t] (upd H1 t (.tup lv)) Q E := by
  have s1 : Same H1 (upd H1 t (.tup lv)) := same_new ht
  have hA1 := hA.same s1
  refine ⟨a1, m1, t, lv, rfl, upd_same, hA1, hm, fun H' l ts f hl hR hl' hT => ?_⟩
  have s2 : Stp P (upd H1 t (.tup lv)) a1 H' { a1 with ta := a1.ta ++ [t] } := .frO hA1 f (fun b hb => .inl hb) rfl
  have s3 := st.trans ((Stp.same s1).trans s2)
  have hl1 : H1 l = none := s1.free hl
  refine k H' l ts _ s3 (st.fr.free l hl1) (fun z => ?_) hR hl' hT
  exact (hA1.not_new hl) z
def sp_Roll_let (CR CL P : Addr) (cls : Err → Addr) : Sp := fun vs H Q E => ∃ a m f x y ix, vs = [.ref a.x, f, x, y, .bl ix] ∧ Told CR CL P cls H a m (.let f x y ix) Q E
def sp_Roll_end (CR CL P : Addr) (cls : Err → Addr) : Sp := fun vs H Q E => ∃ a m n x, vs = [.ref a.x, n, x] ∧ Told CR CL P cls H a m (.fin n x) Q E
def sp_Roll_step (CR CL P : Addr) (cls : Err → Addr) : Sp := fun vs H Q E => ∃ a m n x y, vs = [.ref a.x, n, x, y] ∧ Told CR CL P cls H a m (.step n x y) Q E
def sp_Roll_gauge (CR CL P : Addr) (cls : Err → Addr) : Sp := fun vs H Q E => ∃ a m x y, vs = [.ref a.x, x, y] ∧ Told CR CL P cls H a m (.gauge x y) Q E
def sp_Roll_rate (CR CL P : Addr) (cls : Err → Addr) : Sp := fun vs H Q E => ∃ a m x y, vs = [.ref a.x, x, y] ∧ Told CR CL P cls H a m (.rate x y) Q E
def sp_Roll_paid (CR CL P : Addr) (cls : Err → Addr) : Sp := fun vs H Q E => ∃ a m n x y, vs = [.ref a.x, n, x, y] ∧ Told CR CL P cls H a m (.paid n x y) Q E
def sp_Roll_kept (CR CL P : Addr) (cls : Err → Addr) : Sp := fun vs H Q E => ∃ a m n x y, vs = [.ref a.x, n, x, y] ∧ Told CR CL P cls H a m (.kept n x y) Q E
def sp_Roll_close (CR CL P : Addr) (cls : Err → Addr) : Sp := fun vs H Q E => ∃ a m n x, vs = [.ref a.x, n, x] ∧ Told CR CL P cls H a m (.close n x) Q E
def sp_Roll_bill (CR CL P : Addr) (cls : Err → Addr) : Sp := fun vs H Q E => ∃ a m x, vs = [.ref a.x, x] ∧ Told CR CL P cls H a m (.bill x) Q E
/-! ### how each letter changes the heap -/
theorem RoAt.rate {CR CL : Addr} {H : Hp} {a : RoA} {m : RoM} {p : Addr} {d n : Int} (h : RoAt CR CL H a m) (hp : H p = some (.tup [.int d, .int n])) : RoAt CR CL (upd H a.r (.lst (a.ra.map V.ref ++ [V.ref p]))) { a with ra := a.ra ++ [p] } { m with rates := m.rates ++ [(d, n)] } := by
  have k := K0.at_ (u := .lst (a.ra.map V.ref ++ [V.ref p])) h.ro
  have ho : ∀ xs, HO.lst (a.ra.map V.ref) ≠ .tup xs := fun xs q => by cases q
  have nn := h.nl
  simp only [List.nodup_cons, List.mem_cons, not_or] at nn
  obtain ⟨⟨l1, l2, l3, l4⟩, ⟨g1, g2, g3⟩, ⟨r1, r2⟩, t1, _⟩ := nn
  refine ⟨k.keep _ (ne_of h.ob h.ro (fun q => by cases q)) _ h.ob, k.keep _ l2 _ h.lo, h.ls.k0 h.ro ho k (fun e he => ⟨?_, ?_, ?_⟩), k.keep _ g1 _ h.go, h.gp.k0 h.ro ho k, ?_, ?_, k.keep _ (fun z => r1 z.symm) _ h.to, h.tp.k0 h.ro ho k, h.nl, h.nx⟩
  · obtain ⟨m', hm'⟩ := h.ls.of_mem he
    exact ne_of hm'.ob h.ro (fun q => by cases q)
  · exact fun z => r2 (List.mem_flatMap.mpr ⟨e, he, by rw [← z]; simp⟩)
  · exact fun z => r2 (List.mem_flatMap.mpr ⟨e, he, by rw [← z]; simp⟩)
  · rw [upd_same, List.map_append]; rfl
  · exact PrT.append (PrT.one (by rw [upd_ne (ne_of hp h.ro (fun q => by cases q))]; exact hp)) (h.rp.k0 h.ro ho k)
theorem RoAt.own {CR CL : Addr} {H : Hp} {a : RoA} {m m' : RoM} (h : RoAt CR CL H a m) (e : m' = { m with billed := m'.billed }) : RoAt CR CL (upd H a.x (.ins CR a.dx (roFs a m'))) a m' := by
  have k := K0.at_ (u := .ins CR a.dx (roFs a m')) h.ob
  have ho : ∀ xs, HO.ins CR a.dx (roFs a m) ≠ .tup xs := fun xs q => by cases q
  have h1 : ∀ e, e ∈ a.ls → e.x ≠ a.x := fun e he z => by
    obtain ⟨m2, hm2⟩ := h.ls.of_mem he
    have q := hm2.ob
    rw [z, h.ob] at q
    have q2 := congrArg (fun o : Option HO => match o with | some (.ins _ _ fs) => fs.length | _ => 0) q
    exact absurd q2 (by show ¬ 5 = 9; decide)
  rw [e] at k ⊢
  refine ⟨upd_same, k.keep _ (ne_of h.lo h.ob (fun q => by cases q)) _ h.lo, h.ls.k0 h.ob ho k (fun e he => ?_), k.keep _ (ne_of h.go h.ob (fun q => by cases q)) _ h.go, h.gp.k0 h.ob ho k, k.keep _ (ne_of h.ro h.ob (fun q => by cases q)) _ h.ro, h.rp.k0 h.ob ho k, k.keep _ (ne_of h.to h.ob (fun q => by cases q)) _ h.to, h.tp.k0 h.ob ho k, h.nl, h.nx⟩
  obtain ⟨m2, hm2⟩ := h.ls.of_mem he
  exact ⟨h1 e he, ne_of hm2.st h.ob (fun q => by cases q), ne_of hm2.mv h.ob (fun q => by cases q)⟩
theorem flat_apart : ∀ {as : List LeA} {i j : Nat} {le b : LeA}, (as.flatMap fun e => [e.s, e.m]).Nodup → as[i]? = some le → as[j]? = some b → j ≠ i → b.s ≠ le.s ∧ b.m ≠ le.s ∧ b.s ≠ le.m ∧ b.m ≠ le.m
  | [], _, _, _, _, _, h, _, _ => by simp at h
  | c :: as, 0, 0, _, _, _, _, _, h => absurd rfl h
  | c :: as, 0, j + 1, le, b, n, h, h2, _ => by
    simp at h
    subst h
    have hb : b ∈ as := List.mem_of_getElem? (by simpa using h2)
    rw [List.flatMap_cons, List.nodup_append] at n
    obtain ⟨_, _, n3⟩ := n
    have q1 : b.s ∈ as.flatMap fun e => [e.s, e.m] := List.mem_flatMap.mpr ⟨b, hb, by simp⟩
    have q2 : b.m ∈ as.flatMap fun e => [e.s, e.m] := List.mem_flatMap.mpr ⟨b, hb, by simp⟩
    exact ⟨fun z => n3 c.s (by simp) _ q1 z.symm, fun z => n3 c.s (by simp) _ q2 z.symm, fun z => n3 c.m (by simp) _ q1 z.symm, fun z => n3 c.m (by simp) _ q2 z.symm⟩
  | c :: as, i + 1, 0, le, b, n, h, h2, _ => by
    simp at h2
    subst h2
    have hb : le ∈ as := List.mem_of_getElem? (by simpa using h)
    rw [List.flatMap_cons, List.nodup_append] at n
    obtain ⟨_, _, n3⟩ := n
    have q1 : le.s ∈ as.flatMap fun e => [e.s, e.m] := List.mem_flatMap.mpr ⟨le, hb, by simp⟩
    have q2 : le.m ∈ as.flatMap fun e => [e.s, e.m] := List.mem_flatMap.mpr ⟨le, hb, by simp⟩
    exact ⟨n3 c.s (by simp) _ q1, n3 c.m (by simp) _ q1, n3 c.s (by simp) _ q2, n3 c.m (by simp) _ q2⟩
  | c :: as, i + 1, j + 1, le, b, n, h, h2, ne => by
    rw [List.flatMap_cons, List.nodup_append] at n
    exact flat_apart n.2.1 (by simpa using h) (by simpa using h2) (by omega)
theorem flat_self {as : List LeA} {le : LeA} (n : (as.flatMap fun e => [e.s, e.m]).Nodup) (h : le ∈ as) : le.s ≠ le.m := by
  induction as with
  | nil => cases h
  | cons c as ih =>
    rw [List.flatMap_cons, List.nodup_append] at n
    rcases List.mem_cons.mp h with e | h
    · subst e
      have := n.1
      simp at this
      exact this
    · exact ih n.2.1 h
/-- a list of one lease has changed -/
theorem LesAt.setL {C : Addr} {H H' : Hp} {y : Addr} {xs : List V} {le le' : LeA} {e' : LeM} (hy : H y = some (.lst xs)) (k : K0 y H H') (h' : LeAt C H' le' e') : ∀ {as : List LeA} {ms : List LeM} {i : Nat}, as[i]? = some le → (∀ j b, as[j]? = some b → j ≠ i → b.s ≠ y ∧ b.m ≠ y) → LesAt C H as ms → LesAt C H' (as.set i le') (ms.set i e')
  | _, _, _, e, _, .nil => by simp at e
  | _, _, 0, e, n, .cons h t => by
    rw [List.set_cons_zero, List.set_cons_zero]
    refine .cons h' (t.k0 hy (fun xs q => by cases q) k fun a ha => ?_)
    obtain ⟨j, hj⟩ := List.mem_iff_getElem?.mp ha
    obtain ⟨m, hB⟩ := t.of_mem ha
    have q := n (j + 1) a (by simpa using hj) (by omega)
    exact ⟨ne_of hB.ob hy (fun q => by cases q), q.1, q.2⟩
  | _, _, i + 1, e, n, .cons h t => by
    rw [List.set_cons_succ, List.set_cons_succ]
    have q := n 0 _ rfl (by omega)
    exact .cons (h.k0 hy (fun xs q => by cases q) k (ne_of h.ob hy (fun q => by cases q)) q.1 q.2) (LesAt.setL hy k h' (by simpa using e) (fun j b hj ne => n (j + 1) b (by simpa using hj) (by omega)) t)
theorem map_set_same {α β : Type} {f : α → β} {l : List α} {i : Nat} {x y : α} (h : l[i]? = some x) (e : f y = f x) : (l.set i y).map f = l.map f := by
  rw [List.map_set, e]
  exact list_set_same (by rw [List.getElem?_map, h]; rfl)
theorem flat_set {l : List LeA} {i : Nat} {x y : LeA} {f : LeA → List Addr} (h : l[i]? = some x) (e : f y = f x) : (l.set i y).flatMap f = l.flatMap f := by
  rw [List.flatMap_def, List.flatMap_def, map_set_same (f := f) h e]
theorem RoAt.setL {CR CL : Addr} {H H' : Hp} {a : RoA} {m : RoM} {i : Nat} {le le' : LeA} {e' : LeM} {y : Addr} {xs : List V} (h : RoAt CR CL H a m) (hl : a.ls[i]? = some le) (hy : H y = some (.lst xs)) (hyl : y = le.s ∨ y = le.m) (k : K0 y H H') (h' : LeAt CL H' le' e') (e1 : le'.x = le.x) (e2 : le'.s = le.s) (e3 : le'.m = le.m) :
    RoAt CR CL H' { a with ls := a.ls.set i le' } { m with leases := m.leases.set i e' } := by
  have ho : ∀ zs, HO.lst xs ≠ .tup zs := fun zs q => by cases q
  have hin : le ∈ a.ls := List.mem_of_getElem? hl
  have nn := h.nl
  simp only [List.nodup_cons, List.mem_cons, not_or] at nn
  obtain ⟨⟨l1, l2, l3, l4⟩, ⟨g1, g2, g3⟩, ⟨r1, r2⟩, t1, nf⟩ := nn
  have hf : y ∈ a.ls.flatMap fun e => [e.s, e.m] := List.mem_flatMap.mpr ⟨le, hin, by rcases hyl with z | z <;> rw [z] <;> simp⟩
  have q : ∀ b, b ∉ (a.ls.flatMap fun e => [e.s, e.m]) → b ≠ y := fun b hb z => hb (z ▸ hf)
  refine ⟨k.keep _ (ne_of h.ob hy (fun q => by cases q)) _ h.ob, ?_, h.ls.setL hy k h' hl (fun j b hj ne => ?_), k.keep _ (q _ g3) _ h.go, h.gp.k0 hy ho k, k.keep _ (q _ r2) _ h.ro, h.rp.k0 hy ho k, k.keep _ (q _ t1) _ h.to, h.tp.k0 hy ho k, ?_, ?_⟩
  · show H' a.l = some (.lst ((a.ls.set i le').map fun e => V.ref e.x))
    rw [map_set_same (f := fun e : LeA => V.ref e.x) hl (by show V.ref le'.x = V.ref le.x; rw [e1])]
    exact k.keep _ (q _ l4) _ h.lo
  · obtain ⟨a1, a2, a3, a4⟩ := flat_apart nf hl hj ne
    rcases hyl with z | z <;> rw [z]
    · exact ⟨a1, a2⟩
    · exact ⟨a3, a4⟩
  · show (a.l :: a.g :: a.r :: a.t :: ((a.ls.set i le').flatMap fun e => [e.s, e.m])).Nodup
    rw [flat_set (f := fun e : LeA => [e.s, e.m]) hl (by show [le'.s, le'.m] = [le.s, le.m]; rw [e2, e3])]
    exact h.nl
  · show ((a.ls.set i le').map (·.x)).Nodup
    rw [map_set_same (f := fun e : LeA => e.x) hl e1]
    exact h.nx
theorem owns_setL {a : RoA} {i : Nat} {le le' : LeA} (hl : a.ls[i]? = some le) (e1 : le'.x = le.x) (e2 : le'.s = le.s) (e3 : le'.m = le.m) : owns { a with ls := a.ls.set i le' } = owns a := by
  unfold owns
  show a.x :: a.l :: a.g :: a.r :: a.t :: ((a.ls.set i le').flatMap fun e => [e.x, e.s, e.m]) = _
  rw [flat_set (f := fun e : LeA => [e.x, e.s, e.m]) hl (by show [le'.x, le'.s, le'.m] = [le.x, le.s, le.m]; rw [e1, e2, e3])]
/-- a step more -/
theorem LeAt.stepUp {C : Addr} {H : Hp} {le : LeA} {e : LeM} {p : Addr} {d n : Int} (h : LeAt C H le e) (ns : le.s ≠ le.m) (hp : H p = some (.tup [.int d, .int n])) :
    LeAt C (upd H le.s (.lst (le.sa.map V.ref ++ [V.ref p]))) { le with sa := le.sa ++ [p] } { e with steps := e.steps ++ [(d, n)] } := by
  have k := K0.at_ (u := .lst (le.sa.map V.ref ++ [V.ref p])) h.st
  have ho : ∀ xs, HO.lst (le.sa.map V.ref) ≠ .tup xs := fun xs q => by cases q
  refine ⟨k.keep _ (ne_of h.ob h.st (fun q => by cases q)) _ h.ob, ?_, ?_, k.keep _ ns.symm _ h.mv, h.mp.k0 h.st ho k⟩
  · rw [upd_same, List.map_append]; rfl
  · exact PrT.append (PrT.one (by rw [upd_ne (ne_of hp h.st (fun q => by cases q))]; exact hp)) (h.sp.k0 h.st ho k)
theorem LeAt.moveUp {C : Addr} {H : Hp} {le : LeA} {e : LeM} {p : Addr} {d n : Int} (h : LeAt C H le e) (ns : le.s ≠ le.m) (hp : H p = some (.tup [.int d, .int n])) :
    LeAt C (upd H le.m (.lst (le.ma.map V.ref ++ [V.ref p]))) { le with ma := le.ma ++ [p] } { e with moves := e.moves ++ [(d, n)] } := by
  have k := K0.at_ (u := .lst (le.ma.map V.ref ++ [V.ref p])) h.mv
  have ho : ∀ xs, HO.lst (le.ma.map V.ref) ≠ .tup xs := fun xs q => by cases q
  refine ⟨k.keep _ (ne_of h.ob h.mv (fun q => by cases q)) _ h.ob, k.keep _ ns _ h.st, h.sp.k0 h.mv ho k, ?_, ?_⟩
  · rw [upd_same, List.map_append]; rfl
  · exact PrT.append (PrT.one (by rw [upd_ne (ne_of hp h.mv (fun q => by cases q))]; exact hp)) (h.mp.k0 h.mv ho k)
theorem LesAt.append {C : Addr} {H : Hp} {bs : List LeA} {ns : List LeM} (t2 : LesAt C H bs ns) : ∀ {as : List LeA} {ms : List LeM}, LesAt C H as ms → LesAt C H (as ++ bs) (ms ++ ns)
  | _, _, .nil => t2
  | _, _, .cons h t => .cons h (LesAt.append t2 t)
/-- a lease more -/
theorem RoAt.more {CR CL : Addr} {H : Hp} {a : RoA} {m : RoM} {le : LeA} {e : LeM} (h : RoAt CR CL H a m) (hL : LeAt CL H le e) (n1 : le.x ∉ owns a) (n2 : le.s ∉ owns a) (n3 : le.m ∉ owns a) (ns : le.s ≠ le.m) :
    RoAt CR CL (upd H a.l (.lst ((a.ls.map fun e => V.ref e.x) ++ [V.ref le.x]))) { a with ls := a.ls ++ [le] } { m with leases := m.leases ++ [e] } := by
  have k := K0.at_ (u := .lst ((a.ls.map fun e => V.ref e.x) ++ [V.ref le.x])) h.lo
  have ho : ∀ xs, HO.lst (a.ls.map fun e => V.ref e.x) ≠ .tup xs := fun xs q => by cases q
  have nn := h.nl
  simp only [List.nodup_cons, List.mem_cons, not_or] at nn
  obtain ⟨⟨l1, l2, l3, l4⟩, ⟨g1, g2, g3⟩, ⟨r1, r2⟩, t1, nf⟩ := nn
  have m1 : a.x ∈ owns a ∧ a.l ∈ owns a ∧ a.g ∈ owns a ∧ a.r ∈ owns a ∧ a.t ∈ owns a := by unfold owns; simp
  have q2 : ∀ b, b ∈ owns a → b ≠ le.s := fun b hb z => n2 (z ▸ hb)
  have q3 : ∀ b, b ∈ owns a → b ≠ le.m := fun b hb z => n3 (z ▸ hb)
  refine ⟨k.keep _ (ne_of h.ob h.lo (fun q => by cases q)) _ h.ob, ?_, LesAt.append (.cons (hL.k0 h.lo ho k (ne_of hL.ob h.lo (fun q => by cases q)) (fun z => q2 _ m1.2.1 z.symm) (fun z => q3 _ m1.2.1 z.symm)) .nil) (h.ls.k0 h.lo ho k (fun e he => ⟨?_, ?_, ?_⟩)), k.keep _ (fun z => l1 z.symm) _ h.go, h.gp.k0 h.lo ho k, k.keep _ (fun z => l2 z.symm) _ h.ro, h.rp.k0 h.lo ho k, k.keep _ (fun z => l3 z.symm) _ h.to, h.tp.k0 h.lo ho k, ?_, ?_⟩
  · show upd H a.l _ a.l = some (.lst ((a.ls ++ [le]).map fun e => V.ref e.x))
    rw [upd_same, List.map_append]; rfl
  · obtain ⟨m', hm'⟩ := h.ls.of_mem he
    exact ne_of hm'.ob h.lo (fun q => by cases q)
  · exact fun z => l4 (List.mem_flatMap.mpr ⟨e, he, by rw [← z]; simp⟩)
  · exact fun z => l4 (List.mem_flatMap.mpr ⟨e, he, by rw [← z]; simp⟩)
  · show (a.l :: a.g :: a.r :: a.t :: ((a.ls ++ [le]).flatMap fun e => [e.s, e.m])).Nodup
    rw [List.flatMap_append, List.flatMap_singleton, show a.l :: a.g :: a.r :: a.t :: ((a.ls.flatMap fun e => [e.s, e.m]) ++ [le.s, le.m]) = (a.l :: a.g :: a.r :: a.t :: (a.ls.flatMap fun e => [e.s, e.m])) ++ [le.s, le.m] from rfl, List.nodup_append]
    have ow : ∀ b, b ∈ a.l :: a.g :: a.r :: a.t :: (a.ls.flatMap fun e => [e.s, e.m]) → b ∈ owns a := fun b hb => by
      simp only [List.mem_cons] at hb
      rcases hb with rfl | rfl | rfl | rfl | hb
      · exact m1.2.1
      · exact m1.2.2.1
      · exact m1.2.2.2.1
      · exact m1.2.2.2.2
      · obtain ⟨e, he, hb⟩ := List.mem_flatMap.mp hb
        simp only [List.mem_cons, List.not_mem_nil, or_false] at hb
        rcases hb with rfl | rfl
        · exact (owns_le he).2.1
        · exact (owns_le he).2.2
    refine ⟨h.nl, by simp [ns], fun b hb c hc => ?_⟩
    simp only [List.mem_cons, List.not_mem_nil, or_false] at hc
    rcases hc with rfl | rfl
    · exact q2 _ (ow b hb)
    · exact q3 _ (ow b hb)
  · show ((a.ls ++ [le]).map (·.x)).Nodup
    rw [List.map_append, List.nodup_append]
    refine ⟨h.nx, by simp, fun b hb c hc => ?_⟩
    obtain ⟨e, he, rfl⟩ := List.mem_map.mp hb
    simp only [List.map_cons, List.map_nil, List.mem_cons, List.not_mem_nil, or_false] at hc
    subst hc
    exact fun z => n1 (z ▸ (owns_le he).1)
theorem owns_more {a : RoA} {le : LeA} {b : Addr} (h : b ∈ owns { a with ls := a.ls ++ [le] }) : b ∈ owns a ∨ b = le.x ∨ b = le.s ∨ b = le.m := by
  unfold owns at h ⊢
  simp only [List.mem_cons, List.mem_flatMap, List.mem_append, List.not_mem_nil, or_false] at h ⊢
  rcases h with h | h | h | h | h | ⟨e, he | he, h⟩
  · exact .inl (.inl h)
  · exact .inl (.inr (.inl h))
  · exact .inl (.inr (.inr (.inl h)))
  · exact .inl (.inr (.inr (.inr (.inl h))))
  · exact .inl (.inr (.inr (.inr (.inr (.inl h)))))
  · exact .inl (.inr (.inr (.inr (.inr (.inr ⟨e, he, h⟩)))))
  · subst he
    exact .inr h
def sp_Roll__move (CR CL P : Addr) (cls : Err → Addr) : Sp := fun vs H Q E => ∃ (a : RoA) (m : RoM) (n x y : V) (sg : Int), vs = [.ref a.x, n, x, y, .int sg] ∧ (sg = 1 ∨ sg = -1) ∧ RoAt CR CL H a m ∧ RoG 1 m ∧ m.letters.length ≤ 900 ∧ thing H n ∧ thing H x ∧ thing H y ∧
  (isLe m n = false → E (.ref (cls .noLease)) none H) ∧ (isLe m n = true → within x 0 99999 = false → E (.ref (cls .badDay)) none H) ∧ (isLe m n = true → within x 0 99999 = true → within y 1 1000000000 = false → E (.ref (cls .badAmount)) none H) ∧
  (isLe m n = true → within x 0 99999 = true → within y 1 1000000000 = true → ∀ H' a', Stp P H a H' a' → RoAt CR CL H' a' (updLe m n fun e => { e with moves := e.moves ++ [(intV x, sg * intV y)] }) → Q .non H')
theorem known_len {CR CL : Addr} {H : Hp} {a : RoA} {m : RoM} {i : Nat} {e : LeM} (h : RoAt CR CL H a m) (he : m.leases[i]? = some e) : ∃ le, a.ls[i]? = some le ∧ LeAt CL H le e ∧ le ∈ a.ls := by
  obtain ⟨le, h1, h2⟩ := h.ls.get he
  exact ⟨le, h1, h2, List.mem_of_getElem? h1⟩
theorem RoAt.flat {CR CL : Addr} {H : Hp} {a : RoA} {m : RoM} (h : RoAt CR CL H a m) : (a.ls.flatMap fun e => [e.s, e.m]).Nodup := by
  have nn := h.nl
  simp only [List.nodup_cons] at nn
  exact nn.2.2.2.2
/-- one lease's object has changed, its lists have not -/
theorem RoAt.setOb {CR CL P : Addr} {H : Hp} {a : RoA} {m : RoM} {i : Nat} {le : LeA} {e e' : LeM} (h : RoAt CR CL H a m) (hl : a.ls[i]? = some le) (hx : LeAt CL H le e) (h1 : e'.steps = e.steps) (h2 : e'.moves = e.moves) :
    RoAt CR CL (upd H le.x (.ins CL le.dx (leFs le e'))) a { m with leases := m.leases.set i e' } ∧ Stp P H a (upd H le.x (.ins CL le.dx (leFs le e'))) a :=
  ⟨h.setLe hl hx (K0.at_ hx.ob) (hx.self h1 h2), Stp.at_ h (owns_le (List.mem_of_getElem? hl)).1 hx.ob rfl rfl⟩
def tupL (e : LeM) : List V := [.str e.flat, .int e.first, optV e.last, .bl e.indexed]
def sp_Roll_lease (CR CL : Addr) (cls : Err → Addr) : Sp := fun vs H Q E => ∃ (a : RoA) (m : RoM) (n : V), vs = [.ref a.x, n] ∧ RoAt CR CL H a m ∧ thing H n ∧
  (isLe m n = false → E (.ref (cls .noLease)) none H) ∧ (∀ (i : Nat) e, n = .int i → m.leases[i]? = some e → ∀ p, H p = none → Q (.ref p) (upd H p (.tup (tupL e))))
def sp_Roll_owed (CR CL : Addr) (cls : Err → Addr) : Sp := fun vs H Q E => ∃ (a : RoA) (m : RoM) (n x : V), vs = [.ref a.x, n, x] ∧ RoAt CR CL H a m ∧ RoOk m ∧ thing H n ∧ thing H x ∧
  (isLe m n = false → E (.ref (cls .noLease)) none H) ∧ (isLe m n = true → within x 0 99999 = false → E (.ref (cls .badDay)) none H) ∧
  (∀ (i : Nat) e d, n = .int i → m.leases[i]? = some e → x = .int d → 0 ≤ d → d ≤ 99999 → ∀ H', Same H H' → Q (.int (leOwed e m.gauges d)) H')
def sp_Roll_pledge (CR CL : Addr) (cls : Err → Addr) : Sp := fun vs H Q E => ∃ (a : RoA) (m : RoM) (n x : V), vs = [.ref a.x, n, x] ∧ RoAt CR CL H a m ∧ RoOk m ∧ thing H n ∧ thing H x ∧
  (isLe m n = false → E (.ref (cls .noLease)) none H) ∧ (isLe m n = true → within x 0 99999 = false → E (.ref (cls .badDay)) none H) ∧
  (∀ (i : Nat) e d, n = .int i → m.leases[i]? = some e → x = .int d → 0 ≤ d → d ≤ 99999 → ∀ H', Same H H' → Q (.int (leWorth e m.rates d)) H')
def sp_Roll_letters (CR CL : Addr) : Sp := fun vs H Q _ => ∃ a m, vs = [.ref a.x] ∧ RoAt CR CL H a m ∧ ∀ p, H p = none → Q (.ref p) (upd H p (.lst (a.ta.map V.ref)))
def coversL (e : LeM) (d : Int) : Bool := decide (e.first ≤ d) && lastsTo e d
def sp_Lease_covers (C : Addr) : Sp := fun vs H Q _ => ∃ a m d, vs = [.ref a.x, .int d] ∧ LeAt C H a m ∧ Q (.bl (coversL m d)) H
/-- the first lease of that flat that covers the day, of the first n -/
def tenN (ms : List LeM) (fl : Str) (d : Int) : Nat → Option Nat
  | 0 => none
  | n + 1 => match tenN ms fl d n with
    | some i => some i
    | none => match ms[n]? with
      | some e => if (decide (e.flat = fl) && coversL e d) = true then some n else none
      | none => none
def tenV (m : RoM) (fl : Str) (d : Int) : V := match tenN m.leases fl d m.leases.length with
  | some i => .int (i : Nat)
  | none => .non
theorem tenN_stop {ms : List LeM} {fl : Str} {d : Int} {i : Nat} : ∀ {n : Nat}, i < n → tenN ms fl d (i + 1) = some i → tenN ms fl d n = some i
  | 0, h, _ => by omega
  | n + 1, h, e => by
    by_cases c : i = n
    · rw [c] at e ⊢; exact e
    · have ih := tenN_stop (n := n) (by omega) e
      unfold tenN
      rw [ih]
def sp_Roll_tenant (CR CL P : Addr) (cls : Err → Addr) : Sp := fun vs H Q E => ∃ (a : RoA) (m : RoM) (f x : V), vs = [.ref a.x, f, x] ∧ RoAt CR CL H a m ∧ m.leases.length ≤ 20 ∧ thingS H f ∧ thing H x ∧ GxR.TabG H P ∧
  (flatB f = false → ∀ H', Kept P H H' → E (.ref (cls .badFlat)) none H') ∧ (flatB f = true → within x 0 99999 = false → ∀ H', Kept P H H' → E (.ref (cls .badDay)) none H') ∧
  (∀ fl d, f = .str fl → x = .int d → flatB f = true → within x 0 99999 = true → ∀ H', Kept P H H' → Q (tenV m fl d) H')
def sp_law (K : PySem.W.Frag) (P : Addr) : Sp := fun vs H Q _ => ∃ (a : Addr) (ns : List Int), vs = [.ref a] ∧ SqL K H a (ns.map V.int) ∧ ns.length ≤ 63 ∧ H P = some (.tbl #[]) ∧ ∀ H', Q (.bl true) H'

/-! ### the heap of a law: rolls, side by side, and the law's own lists and dicts -/
/-- what was sent and given is what must be -/
def Settled (m : RoM) : Prop := ∀ e, e ∈ m.leases → e.sent = leOwed e m.gauges m.billed ∧ e.given = match e.closing with
  | none => 0
  | some c => leWorth e m.rates c
theorem newRo_se : Settled newRo := fun e he => (by cases he)
/-- where a pledge isn't closed nothing was given -/
def Ungiven (m : RoM) : Prop := ∀ e, e ∈ m.leases → e.closing = none → e.given = 0
theorem Settled.un {m : RoM} (h : Settled m) : Ungiven m := fun e he hc => by
  have q := (h e he).2
  rw [hc] at q
  exact q
theorem done_se {m : RoM} {lv : List V} (h : Ungiven m) : Settled (doneM m lv) := by
  intro e he
  obtain ⟨e0, h0, rfl⟩ := List.mem_map.mp he
  refine ⟨rfl, ?_⟩
  show (doneLe m.gauges m.rates m.billed e0).given = _
  unfold doneLe
  cases hc : e0.closing with
  | none => exact h e0 h0 hc
  | some c => rfl
theorem Ungiven.set {m : RoM} {n : V} {f : LeM → LeM} (h : Ungiven m) (hf : ∀ e, (f e).given = e.given ∧ ((f e).closing = none → e.closing = none)) : Ungiven (updLe m n f) := by
  unfold updLe
  cases hl : leV m n with
  | none => exact h
  | some e0 =>
    intro e he hc
    rcases List.mem_or_eq_of_mem_set he with q | q
    · exact h e q hc
    · subst q
      have hm : e0 ∈ m.leases := by
        cases n with
        | int i => exact List.mem_of_getElem? hl
        | _ => cases hl
      rw [(hf e0).1]
      exact h e0 hm ((hf e0).2 hc)
theorem new_un {m : RoM} {L : Lt} (h : Ungiven m) : Ungiven (L.new m) := by
  cases L with
  | «let» f x y ix =>
    cases f with
    | str s =>
      intro e he hc
      rcases List.mem_append.mp he with q | q
      · exact h e q hc
      · rw [List.mem_singleton.mp q]; rfl
    | _ => exact h
  | gauge x y => exact h
  | rate x y => exact h
  | bill x => exact h
  | fin n x => exact h.set fun e => ⟨rfl, fun z => z⟩
  | step n x y => exact h.set fun e => ⟨rfl, fun z => z⟩
  | paid n x y => exact h.set fun e => ⟨rfl, fun z => z⟩
  | kept n x y => exact h.set fun e => ⟨rfl, fun z => z⟩
  | close n x => exact h.set fun e => ⟨rfl, fun z => by cases z⟩
theorem Settled.then {m : RoM} {L : Lt} (h : Settled m) : Settled (L.then m) := done_se (new_un h.un)
/-- lists and dicts -/
def CellO (o : HO) : Prop := (∃ xs, o = .lst xs) ∨ (∃ kvs, o = .dK kvs) ∨ ∃ kvs, o = .dT kvs
theorem CellO.nt {o : HO} (h : CellO o) : NT o := by
  rcases h with ⟨_, rfl⟩ | ⟨_, rfl⟩ | ⟨_, rfl⟩ <;> exact fun _ z => (by cases z)
theorem CellO.no {o : HO} (h : CellO o) : ∀ xs, o ≠ .tup xs := by
  rcases h with ⟨_, rfl⟩ | ⟨_, rfl⟩ | ⟨_, rfl⟩ <;> exact fun _ z => (by cases z)
theorem cell_lst {xs : List V} : CellO (.lst xs) := .inl ⟨xs, rfl⟩
theorem cell_dK {kvs : List (Key × V)} : CellO (.dK kvs) := .inr (.inl ⟨kvs, rfl⟩)
theorem cell_dT {kvs : List (List Key × V)} : CellO (.dT kvs) := .inr (.inr ⟨kvs, rfl⟩)
/-- tuples stand -/
def Tups (H H' : Hp) : Prop := ∀ b xs, H b = some (.tup xs) → H' b = some (.tup xs)
theorem Tups.refl (H : Hp) : Tups H H := fun _ _ e => e
theorem Tups.trans {H H' H'' : Hp} (x : Tups H H') (y : Tups H' H'') : Tups H H'' := fun b xs e => y b xs (x b xs e)
theorem Tups.kept {P : Addr} {H H' : Hp} (k : Kept P H H') : Tups H H' := fun b xs e => k.keep b _ nt_tup e
theorem Tups.same {H H' : Hp} (k : Same H H') : Tups H H' := fun b xs e => k b _ e
theorem Tups.upd {H : Hp} {l : Addr} {o u : HO} (hl : H l = some o) (hc : CellO o) : Tups H (upd H l u) := fun b xs e => by
  rw [upd_ne (ne_of e hl (fun z => hc.no xs z.symm))]
  exact e
structure LawAt (CR CL P : Addr) (H0 H : Hp) (rs : List (RoA × RoM)) (cs : List (Addr × HO)) : Prop where
  old : Kept P H0 H
  tab : GxR.TabG H P
  ro : ∀ r, r ∈ rs → RoAt CR CL H r.1 r.2 ∧ RoG 1 r.2 ∧ Settled r.2 ∧ ∀ b, b ∈ owns r.1 → H0 b = none
  ap : rs.Pairwise fun p q => ∀ x, x ∈ owns p.1 → x ∉ owns q.1
  ce : ∀ c, c ∈ cs → H c.1 = some c.2 ∧ CellO c.2 ∧ H0 c.1 = none ∧ ∀ r, r ∈ rs → c.1 ∉ owns r.1
  nd : (cs.map (·.1)).Nodup
section
variable {CR CL P : Addr} {H0 H H' : Hp} {rs : List (RoA × RoM)} {cs : List (Addr × HO)}
theorem LawAt.roll (h : LawAt CR CL P H0 H rs cs) {i : Nat} {a : RoA} {m : RoM} (hi : rs[i]? = some (a, m)) : RoAt CR CL H a m := (h.ro _ (List.mem_of_getElem? hi)).1
theorem LawAt.rog (h : LawAt CR CL P H0 H rs cs) {i : Nat} {a : RoA} {m : RoM} (hi : rs[i]? = some (a, m)) : RoG 1 m := (h.ro _ (List.mem_of_getElem? hi)).2.1
theorem LawAt.set (h : LawAt CR CL P H0 H rs cs) {i : Nat} {a : RoA} {m : RoM} (hi : rs[i]? = some (a, m)) : Settled m := (h.ro _ (List.mem_of_getElem? hi)).2.2.1
theorem LawAt.cell (h : LawAt CR CL P H0 H rs cs) {i : Nat} {l : Addr} {o : HO} (hi : cs[i]? = some (l, o)) : H l = some o := (h.ce _ (List.mem_of_getElem? hi)).1
theorem LawAt.kept (h : LawAt CR CL P H0 H rs cs) (k : Kept P H H') : LawAt CR CL P H0 H' rs cs :=
  ⟨h.old.trans k, k.tab h.tab, fun r hr => ⟨(h.ro r hr).1.kept k, (h.ro r hr).2⟩, h.ap, fun c hc => ⟨k.keep _ _ (h.ce c hc).2.1.nt (h.ce c hc).1, (h.ce c hc).2⟩, h.nd⟩
theorem LawAt.same (h : LawAt CR CL P H0 H rs cs) (k : Same H H') : LawAt CR CL P H0 H' rs cs := h.kept (Kept.of k)
theorem pairwise_at {α : Type} {R : α → α → Prop} (sym : ∀ x y, R x y → R y x) : ∀ {l : List α} {i j : Nat} {x y : α}, l.Pairwise R → l[i]? = some x → l[j]? = some y → i ≠ j → R x y
  | [], _, _, _, _, _, h, _, _ => by simp at h
  | c :: l, 0, 0, _, _, _, _, _, n => absurd rfl n
  | c :: l, 0, j + 1, x, y, p, h, h2, _ => by
    simp at h
    subst h
    rw [List.pairwise_cons] at p
    exact p.1 y (List.mem_of_getElem? (by simpa using h2))
  | c :: l, i + 1, 0, x, y, p, h, h2, _ => by
    simp at h2
    subst h2
    rw [List.pairwise_cons] at p
    exact sym _ _ (p.1 x (List.mem_of_getElem? (by simpa using h)))
  | c :: l, i + 1, j + 1, x, y, p, h, h2, n => by
    rw [List.pairwise_cons] at p
    exact pairwise_at sym p.2 (by simpa using h) (by simpa using h2) (by omega)
theorem pairwise_set {α : Type} {R : α → α → Prop} (sym : ∀ x y, R x y → R y x) : ∀ {l : List α} {i : Nat} {x : α}, l.Pairwise R → (∀ j y, l[j]? = some y → j ≠ i → R x y) → (l.set i x).Pairwise R
  | [], _, _, _, _ => by simp
  | c :: l, 0, x, p, h => by
    rw [List.pairwise_cons] at p
    rw [List.set_cons_zero, List.pairwise_cons]
    refine ⟨fun y hy => ?_, p.2⟩
    obtain ⟨j, hj⟩ := List.mem_iff_getElem?.mp hy
    exact h (j + 1) y (by simpa using hj) (by omega)
  | c :: l, i + 1, x, p, h => by
    rw [List.pairwise_cons] at p
    rw [List.set_cons_succ, List.pairwise_cons]
    refine ⟨fun y hy => ?_, pairwise_set sym p.2 fun j y hj ne => h (j + 1) y (by simpa using hj) (by omega)⟩
    rcases List.mem_or_eq_of_mem_set hy with q | q
    · exact p.1 y q
    · rw [q]; exact sym _ _ (h 0 c rfl (by omega))
/-- one roll has been told a letter -/
theorem LawAt.stp (h : LawAt CR CL P H0 H rs cs) {i : Nat} {a a' : RoA} {m m' : RoM} (hi : rs[i]? = some (a, m)) (s : Stp P H a H' a') (hR : RoAt CR CL H' a' m') (hg : RoG 1 m') (hs : Settled m') :
    LawAt CR CL P H0 H' (rs.set i (a', m')) cs ∧ Tups H H' := by
  have hA := h.roll hi
  have hm := List.mem_of_getElem? hi
  have h00 := (h.ro _ hm).2.2.2
  have sym : ∀ p q : RoA × RoM, (∀ x, x ∈ owns p.1 → x ∉ owns q.1) → ∀ x, x ∈ owns q.1 → x ∉ owns p.1 := fun p q d x hx hp => d x hp hx
  have tu : Tups H H' := fun b xs e => s.fr.tup hA e
  have dis : ∀ j r, rs[j]? = some r → j ≠ i → ∀ x, x ∈ owns a' → x ∉ owns r.1 := fun j r hj ne x hx hr => by
    rcases s.own x hx with q | q
    · exact pairwise_at sym h.ap hi hj (Ne.symm ne) x q hr
    · exact (h.ro _ (List.mem_of_getElem? hj)).1.not_new q hr
  refine ⟨⟨⟨fun b o n e => s.fr.keep b o n (fun z => ?_) (h.old.keep b o n e), fun t => s.fr.tab (h.old.tab t), fun b e => h.old.free b (s.fr.free b e)⟩, s.fr.tab h.tab, fun r hr => ?_, pairwise_set sym h.ap dis, fun c hc => ?_, h.nd⟩, tu⟩
  · have q := h00 b z
    rw [e] at q; cases q
  · rcases List.mem_or_eq_of_mem_set hr with q | q
    · obtain ⟨j, hj⟩ := List.mem_iff_getElem?.mp q
      by_cases c : j = i
      · -- the old one at i may stand elsewhere only
        obtain ⟨j', hj'⟩ := List.mem_iff_getElem?.mp hr
        by_cases c2 : j' = i
        · subst c2
          rw [List.getElem?_set_self (List.getElem?_eq_some_iff.mp hi).1] at hj'
          cases hj'
          exact ⟨hR, hg, hs, fun b hb => (s.own b hb).elim (fun z => h00 b z) fun z => h.old.free b z⟩
        · rw [List.getElem?_set_ne (Ne.symm c2)] at hj'
          have r2 := h.ro _ (List.mem_of_getElem? hj')
          exact ⟨r2.1 |> fun r1 => hA.frP r1 (fun x hx => fun hx2 => pairwise_at sym h.ap hj' hi c2 x hx hx2) s.fr, r2.2⟩
      · have r2 := h.ro _ q
        exact ⟨hA.frP r2.1 (fun x hx hx2 => pairwise_at sym h.ap hj hi c x hx hx2) s.fr, r2.2⟩
    · rw [q]
      exact ⟨hR, hg, hs, fun b hb => (s.own b hb).elim (fun z => h00 b z) fun z => h.old.free b z⟩
  · obtain ⟨c1, c2, c3, c4⟩ := h.ce c hc
    refine ⟨s.fr.keep _ _ c2.nt (c4 _ hm) c1, c2, c3, fun r hr hx => ?_⟩
    rcases List.mem_or_eq_of_mem_set hr with q | q
    · exact c4 r q hx
    · rw [q] at hx
      rcases s.own _ hx with z | z
      · exact c4 _ hm z
      · rw [c1] at z; cases z
/-- a cell has changed -/
theorem LawAt.put (h : LawAt CR CL P H0 H rs cs) {i : Nat} {l : Addr} {o u : HO} (hi : cs[i]? = some (l, o)) (hu : CellO u) : LawAt CR CL P H0 (upd H l u) rs (cs.set i (l, u)) ∧ Tups H (upd H l u) := by
  have hm := List.mem_of_getElem? hi
  obtain ⟨c1, c2, c3, c4⟩ := h.ce _ hm
  have k : K0 l H (upd H l u) := K0.at_ c1
  refine ⟨⟨⟨fun b ob n e => k.keep b (fun z => ?_) ob (h.old.keep b ob n e), fun t => ?_, fun b e => h.old.free b (k.free b e)⟩, ?_, fun r hr => ⟨(h.ro r hr).1.k0 c1 c2.no (c4 r hr) k, (h.ro r hr).2⟩, h.ap, fun c hc => ?_, ?_⟩, Tups.upd c1 c2⟩
  · have q : H0 b = none := by rw [z]; exact c3
    rw [e] at q; cases q
  · obtain ⟨ps, hp, t'⟩ := h.old.tab t
    exact ⟨ps, k.keep P (fun z => by have q := c1; rw [← z] at q; dsimp only at q; rw [hp] at q; cases q; exact c2.nt ps rfl) _ hp, t'⟩
  · obtain ⟨ps, hp, t'⟩ := h.tab
    exact ⟨ps, k.keep P (fun z => by have q := c1; rw [← z] at q; dsimp only at q; rw [hp] at q; cases q; exact c2.nt ps rfl) _ hp, t'⟩
  · rcases List.mem_or_eq_of_mem_set hc with q | q
    · obtain ⟨d1, d2, d3, d4⟩ := h.ce c q
      by_cases z : c.1 = l
      · -- the one at i, by its place
        obtain ⟨j, hj⟩ := List.mem_iff_getElem?.mp hc
        by_cases cj : j = i
        · subst cj
          rw [List.getElem?_set_self (List.getElem?_eq_some_iff.mp hi).1] at hj
          cases hj
          exact ⟨upd_same, hu, c3, c4⟩
        · rw [List.getElem?_set_ne (Ne.symm cj)] at hj
          have n1 := h.nd
          have e1 : (cs.map (·.1))[j]? = some l := by rw [List.getElem?_map, hj]; exact congrArg some z
          have e2 : (cs.map (·.1))[i]? = some l := by rw [List.getElem?_map, hi]; rfl
          have := (List.getElem?_inj (List.getElem?_eq_some_iff.mp e1).1 n1).mp (e1.trans e2.symm)
          exact absurd this cj
      · exact ⟨k.keep _ z _ d1, d2, d3, d4⟩
    · rw [q]
      exact ⟨upd_same, hu, c3, c4⟩
  · rw [map_set_same (f := fun c : Addr × HO => c.1) (y := (l, u)) hi rfl]
    exact h.nd
/-- a new cell -/
theorem LawAt.cellNew (h : LawAt CR CL P H0 H rs cs) {l : Addr} {u : HO} (hl : H l = none) (hu : CellO u) : LawAt CR CL P H0 (upd H l u) rs (cs ++ [(l, u)]) := by
  have s := same_new (o := u) hl
  have h1 := h.same s
  refine ⟨h1.old, h1.tab, h1.ro, h1.ap, fun c hc => ?_, ?_⟩
  · rcases List.mem_append.mp hc with q | q
    · exact h1.ce c q
    · rw [List.mem_singleton.mp q]
      exact ⟨upd_same, hu, h.old.free l hl, fun r hr => (h.ro r hr).1.not_new hl⟩
  · rw [List.map_append, List.nodup_append]
    refine ⟨h.nd, by simp, fun b hb d hd => ?_⟩
    obtain ⟨c, hc, rfl⟩ := List.mem_map.mp hb
    simp only [List.map_cons, List.map_nil, List.mem_singleton] at hd
    rw [hd]
    intro z
    have q := (h.ce c hc).1
    rw [z, hl] at q
    cases q
/-- a new cell that was made before the heap came to this -/
theorem LawAt.cellAt (h : LawAt CR CL P H0 H rs cs) {H1 : Hp} {l : Addr} {u : HO} (hl : H l = none) (k : Kept P H H1) (hu : CellO u) (e : H1 l = some u) : LawAt CR CL P H0 H1 rs (cs ++ [(l, u)]) := by
  have h1 := h.kept k
  refine ⟨h1.old, h1.tab, h1.ro, h1.ap, fun c hc => ?_, ?_⟩
  · rcases List.mem_append.mp hc with q | q
    · exact h1.ce c q
    · rw [List.mem_singleton.mp q]
      exact ⟨e, hu, h.old.free l hl, fun r hr => (h.ro r hr).1.not_new hl⟩
  · rw [List.map_append, List.nodup_append]
    refine ⟨h.nd, by simp, fun b hb d hd => ?_⟩
    obtain ⟨c, hc, rfl⟩ := List.mem_map.mp hb
    simp only [List.map_cons, List.map_nil, List.mem_singleton] at hd
    rw [hd]
    intro z
    have q := (h.ce c hc).1
    rw [z, hl] at q
    cases q
/-- a roll more -/
theorem LawAt.rollNew (h : LawAt CR CL P H0 H rs cs) {a : RoA} {x : Addr} (hx : H x = none) (k : K0 x H H') (hR : RoAt CR CL H' a newRo) (ho : ∀ b, b ∈ owns a → H b = none) : LawAt CR CL P H0 H' (rs ++ [(a, newRo)]) cs := by
  have s : Same H H' := fun b o e => k.keep b (ne_of_none e hx) o e
  have h1 := h.same s
  refine ⟨h1.old, h1.tab, fun r hr => ?_, ?_, fun c hc => ?_, h.nd⟩
  · rcases List.mem_append.mp hr with q | q
    · exact h1.ro r q
    · rw [List.mem_singleton.mp q]
      exact ⟨hR, newRo_g, newRo_se, fun b hb => h.old.free b (ho b hb)⟩
  · rw [List.pairwise_append]
    refine ⟨h.ap, by simp, fun r hr q hq x hx1 => ?_⟩
    rw [List.mem_singleton.mp hq]
    intro z
    exact (h.ro r hr).1.not_new (ho x z) hx1
  · obtain ⟨c1, c2, c3, c4⟩ := h1.ce c hc
    refine ⟨c1, c2, c3, fun r hr => ?_⟩
    rcases List.mem_append.mp hr with q | q
    · exact c4 r q
    · rw [List.mem_singleton.mp q]
      intro z
      have := (h.ce c hc).1
      rw [ho _ z] at this
      cases this
/-- a cell is no more looked at -/
theorem LawAt.sub (h : LawAt CR CL P H0 H rs cs) {ds : List (Addr × HO)} (hs : ds.Sublist cs) : LawAt CR CL P H0 H rs ds :=
  ⟨h.old, h.tab, h.ro, h.ap, fun c hc => h.ce c (hs.subset hc), (hs.map _).nodup h.nd⟩
theorem LawAt.subR (h : LawAt CR CL P H0 H rs cs) {qs : List (RoA × RoM)} (hs : qs.Sublist rs) : LawAt CR CL P H0 H qs cs :=
  ⟨h.old, h.tab, fun r hr => h.ro r (hs.subset hr), h.ap.sublist hs, fun c hc => ⟨(h.ce c hc).1, (h.ce c hc).2.1, (h.ce c hc).2.2.1, fun r hr => (h.ce c hc).2.2.2 r (hs.subset hr)⟩, h.nd⟩
theorem LawAt.start (hT : GxR.TabG H P) : LawAt CR CL P H H [] [] := ⟨Kept.refl _ _, hT, fun r hr => (by cases hr), .nil, fun c hc => (by cases hc), .nil⟩
/-- from here on anew -/
theorem LawAt.tups (h : LawAt CR CL P H0 H rs cs) : Tups H0 H := Tups.kept h.old
theorem sqL_kept {K : PySem.W.Frag} {a : Addr} {xs : List V} (h : SqL K H a xs) (k : Kept P H H') : SqL K H' a xs := by
  rcases h with (h | ⟨o, h⟩) | h
  · exact .inl (.inl (k.keep _ _ nt_lst h))
  · exact .inl (.inr ⟨o, k.keep _ _ (fun _ z => by cases z) h⟩)
  · exact .inr h
theorem sqT_kept {K : PySem.W.Frag} {a : Addr} {xs : List V} (h : SqT K H a xs) (k : Kept P H H') : SqT K H' a xs := by
  rcases h with (h | ⟨o, h⟩) | h
  · exact .inl (.inl (k.keep _ _ nt_tup h))
  · exact .inl (.inr ⟨o, k.keep _ _ (fun _ z => by cases z) h⟩)
  · exact .inr h
/-- a letter that is done, told by a law -/
theorem LawAt.told (h : LawAt CR CL P H0 H rs cs) {i : Nat} {a : RoA} {m : RoM} {L : Lt} {Q : VK} (hi : rs[i]? = some (a, m)) (ho : L.out m = none)
    (k : ∀ H' l ts a', LawAt CR CL P H0 H' (rs.set i (a', L.then m)) cs → Tups H H' → a'.x = a.x → H l = none → (∀ c, c ∈ cs → c.1 ≠ l) → (∀ r, r ∈ rs.set i (a', L.then m) → l ∉ owns r.1) → H' l = some (.lst (ts.map V.ref)) → TupsAt H' ts (ansM (L.new m)) → Q (.ref l) H') :
    Answers CR CL P H a (L.new m) L.vals Q := by
  intro H' l ts a' st hl hno hR hl' hT
  obtain ⟨h1, tu⟩ := h.stp hi st hR ((h.rog hi).then ho) (h.set hi).then
  refine k H' l ts a' h1 tu st.x hl (fun c hc z => ?_) (fun r hr => ?_) hl' hT
  · have q := (h.ce c hc).1
    rw [z, hl] at q; cases q
  · rcases List.mem_or_eq_of_mem_set hr with q | q
    · exact (h.ro r q).1.not_new hl
    · rw [q]; exact hno
/-- a letter that is refused -/
theorem LawAt.refused (h : LawAt CR CL P H0 H rs cs) (k : Kept P H H') : LawAt CR CL P H0 H' rs cs ∧ Tups H H' := ⟨h.kept k, Tups.kept k⟩
end
section
variable {CR CL P : Addr} {H0 H H' : Hp} {rs : List (RoA × RoM)} {cs : List (Addr × HO)}
/-- a new tuple is put at the end of one's own list -/
theorem LawAt.app (h : LawAt CR CL P H0 H rs cs) {i : Nat} {l p : Addr} {as : List Addr} {vs : List V} (hi : cs[i]? = some (l, .lst (as.map V.ref))) (hp : H p = none) :
    LawAt CR CL P H0 (upd (upd H p (.tup vs)) l (.lst (as.map V.ref ++ [V.ref p]))) rs (cs.set i (l, .lst ((as ++ [p]).map V.ref))) ∧ Tups H (upd (upd H p (.tup vs)) l (.lst (as.map V.ref ++ [V.ref p]))) ∧
    upd (upd H p (.tup vs)) l (.lst (as.map V.ref ++ [V.ref p])) p = some (.tup vs) := by
  have s := same_new (o := .tup vs) hp
  have h1 := h.same s
  have q := h1.put (u := .lst ((as ++ [p]).map V.ref)) hi cell_lst
  have e : (as ++ [p]).map V.ref = as.map V.ref ++ [V.ref p] := List.map_append
  have e2 : (upd (upd H p (.tup vs)) l (.lst ((as ++ [p]).map V.ref))) = upd (upd H p (.tup vs)) l (.lst (as.map V.ref ++ [V.ref p])) := by rw [e]
  rw [← e2]
  exact ⟨q.1, (Tups.same s).trans q.2, q.2 p _ upd_same⟩
/-- a thing is put at the end of one's own list -/
theorem LawAt.appV (h : LawAt CR CL P H0 H rs cs) {i : Nat} {l p : Addr} {as : List Addr} (hi : cs[i]? = some (l, .lst (as.map V.ref))) :
    LawAt CR CL P H0 (upd H l (.lst (as.map V.ref ++ [V.ref p]))) rs (cs.set i (l, .lst ((as ++ [p]).map V.ref))) ∧ Tups H (upd H l (.lst (as.map V.ref ++ [V.ref p]))) := by
  have q := h.put (u := .lst ((as ++ [p]).map V.ref)) hi cell_lst
  have e : (as ++ [p]).map V.ref = as.map V.ref ++ [V.ref p] := List.map_append
  rw [e] at q
  rw [e]
  exact q
theorem PrT.app {as : List Addr} {ps : List (Int × Int)} {p : Addr} {x y : Int} (h : PrT H as ps) (t : Tups H H') (hp : H' p = some (.tup [.int x, .int y])) : PrT H' (as ++ [p]) (ps ++ [(x, y)]) := PrT.append (PrT.one hp) (h.tups t)
end
theorem PrT.length {H : Hp} {as : List Addr} {ps : List (Int × Int)} (h : PrT H as ps) : as.length = ps.length := (h.prs (K := ([] : PySem.W.Frag))).len
theorem LawAt.rollMake {CR CL P : Addr} {H0 H H2 : Hp} {rs : List (RoA × RoM)} {cs : List (Addr × HO)} (h : LawAt CR CL P H0 H rs cs) {x dx : Addr} {a : RoA} (hx : H x = none) (hdx : H dx = none) (nd : dx ≠ x) (_e1 : a.x = x) (hR : RoAt CR CL H2 a newRo)
    (k0 : K0 x (upd (upd H dx (.own x)) x (.ins CR dx [])) H2) (fr : ∀ b, b ∈ owns a → b ≠ x → (upd (upd H dx (.own x)) x (.ins CR dx [])) b = none) : LawAt CR CL P H0 H2 (rs ++ [(a, newRo)]) cs ∧ Same H H2 := by
  have sx : Same H (upd (upd H dx (.own x)) x (.ins CR dx [])) := (same_new hdx).trans (same_new (by rw [upd_ne nd.symm]; exact hx))
  have k1 : K0 x H H2 := ⟨fun b n o e => k0.keep b n o (sx b o e), fun b e => sx.free (k0.free b e)⟩
  refine ⟨h.rollNew hx k1 hR fun b hb => ?_, fun b o e => k1.keep b (ne_of_none e hx) o e⟩
  by_cases z : b = x
  · rw [z]; exact hx
  · exact sx.free (fr b hb z)
theorem TupsAt.get {H : Hp} : ∀ {ts : List Addr} {ls : List (List V)} {i : Nat} {vs : List V}, TupsAt H ts ls → ls[i]? = some vs → ∃ t, ts[i]? = some t ∧ H t = some (.tup vs)
  | _, _, 0, _, .cons h _, e => by simp at e; subst e; exact ⟨_, rfl, h⟩
  | _, _, i + 1, _, .cons _ t, e => by obtain ⟨a, h1, h2⟩ := TupsAt.get (i := i) t (by simpa using e); exact ⟨a, by simpa using h1, h2⟩
  | _, _, _, _, .nil, e => by simp at e
theorem TupsAt.drop {H : Hp} : ∀ (n : Nat) {ts : List Addr} {ls : List (List V)}, TupsAt H ts ls → TupsAt H (ts.drop n) (ls.drop n)
  | 0, _, _, h => by simpa using h
  | n + 1, _, _, .nil => by simpa using TupsAt.nil
  | n + 1, _, _, .cons _ t => by simpa using TupsAt.drop n t
theorem TupsAt.take {H : Hp} : ∀ (n : Nat) {ts : List Addr} {ls : List (List V)}, TupsAt H ts ls → TupsAt H (ts.take n) (ls.take n)
  | 0, _, _, _ => by simpa using TupsAt.nil
  | n + 1, _, _, .nil => by simpa using TupsAt.nil
  | n + 1, _, _, .cons h t => by simpa using TupsAt.cons h (TupsAt.take n t)
theorem TupsAt.reverse {H : Hp} : ∀ {ts : List Addr} {ls : List (List V)}, TupsAt H ts ls → TupsAt H ts.reverse ls.reverse
  | _, _, .nil => .nil
  | _, _, .cons h t => by rw [List.reverse_cons, List.reverse_cons]; exact TupsAt.append (.cons h .nil) (TupsAt.reverse t)
/-- a list that stands already becomes a cell -/
theorem LawAt.cellAdd {CR CL P : Addr} {H0 H : Hp} {rs : List (RoA × RoM)} {cs : List (Addr × HO)} (h : LawAt CR CL P H0 H rs cs) {l : Addr} {u : HO} (e : H l = some u) (hu : CellO u) (h0 : H0 l = none) (hcl : ∀ c, c ∈ cs → c.1 ≠ l) (hro : ∀ r, r ∈ rs → l ∉ owns r.1) :
    LawAt CR CL P H0 H rs (cs ++ [(l, u)]) := by
  refine ⟨h.old, h.tab, h.ro, h.ap, fun c hc => ?_, ?_⟩
  · rcases List.mem_append.mp hc with q | q
    · exact h.ce c q
    · rw [List.mem_singleton.mp q]
      exact ⟨e, hu, h0, hro⟩
  · rw [List.map_append, List.nodup_append]
    refine ⟨h.nd, by simp, fun b hb d hd => ?_⟩
    obtain ⟨c, hc, rfl⟩ := List.mem_map.mp hb
    simp only [List.map_cons, List.map_nil, List.mem_singleton] at hd
    rw [hd]
    exact hcl c hc

/-! ### in, not in: over lists, tuples, dicts -/
section
variable {X : Cx}
def rInDk (neg : Bool) : R2 := fun x y H Q => ∃ a o, y = .ref a ∧ DGet H a x o ∧ Q (.bl (if neg then !o.isSome else o.isSome)) H
def rInA (K : PySem.W.Frag) (neg : Bool) : R2 := fun x y H Q => rIn K neg x y H Q ∨ rInDk neg x y H Q
theorem op_inDk (hu : X.A.units + 1 < cLine) : OpR X (compareOp .In) (rInDk false) := by
  intro pins s σ H x y v u Q I rx ry h
  obtain ⟨a, o, rfl, g, q⟩ := h
  obtain rfl : u = Value.ref a := ry
  exact d_in hu I g rx fun s3 I3 => ⟨.bl o.isSome, H, I3, rfl, q⟩
theorem op_notInDk (hu : X.A.units + 1 < cLine) : OpR X (compareOp .NotIn) (rInDk true) := by
  intro pins s σ H x y v u Q I rx ry h
  obtain ⟨a, o, rfl, g, q⟩ := h
  obtain rfl : u = Value.ref a := ry
  exact d_notIn hu I g rx fun s3 I3 => ⟨.bl (!o.isSome), H, I3, rfl, q⟩
theorem op_inA (hu : X.A.units + 1 < cLine) : OpR X (compareOp .In) (rInA X.K false) := op_in_seq.or (op_inDk hu)
theorem op_notInA (hu : X.A.units + 1 < cLine) : OpR X (compareOp .NotIn) (rInA X.K true) := op_notIn_seq.or (op_notInDk hu)
end
section
variable {K : PySem.W.Frag} {H : Hp} {a : Addr} {kvs : List (Key × V)} {Q : VK}
theorem r_inK {k : Key} (h : H a = some (.dK kvs)) (q : Q (.bl (valV kvs k).isSome) H) : rInA K false (kV k) (.ref a) H Q := .inr ⟨a, _, rfl, DGet.k h, q⟩
theorem r_notInK {k : Key} (h : H a = some (.dK kvs)) (q : Q (.bl (!(valV kvs k).isSome)) H) : rInA K true (kV k) (.ref a) H Q := .inr ⟨a, _, rfl, DGet.k h, q⟩
theorem r_notInKT {kvs : List (List Key × V)} {b : Addr} {k : List Key} (h : H a = some (.dT kvs)) (hb : H b = some (.tup (k.map kV))) (q : Q (.bl (!(valV kvs k).isSome)) H) : rInA K true (.ref b) (.ref a) H Q := .inr ⟨a, _, rfl, DGet.t h hb, q⟩
end

def sp_l_room (K : PySem.W.Frag) : Sp := fun vs H Q _ => ∃ (a : Addr) (ns : List Int) (x y : Int), vs = [.ref a, .int x, .int y] ∧ SqL K H a (ns.map V.int) ∧ ns.length ≤ 63 ∧ Q (.int x) H
theorem cutV_len (xs : List V) (i j : Int) : (cutV xs (some i) (some j)).length ≤ xs.length := by
  unfold cutV
  rw [List.length_take]
  refine Nat.le_trans (Nat.min_le_right _ _) ?_
  rw [List.length_drop]
  omega
def sp_l_do (CR CL P : Addr) (cls : Err → Addr) : Sp := fun vs H Q E => ∃ a m L p, vs = [.ref a.x, .ref p] ∧ H p = some (.tup (Lt.vals L)) ∧ Told CR CL P cls H a m L Q E
def nameE : Err → Str
  | .noLease => "NoLease"
  | .badFlat => "BadFlat"
  | .badDay => "BadDay"
  | .badAmount => "BadAmount"
  | .taken => "Taken"
  | .full => "Full"
  | .done => "Done"
def sp_l_told (CR CL P : Addr) : Sp := fun vs H Q _ => ∃ a m L p, vs = [.ref a.x, .ref p] ∧ H p = some (.tup (Lt.vals L)) ∧ RoAt CR CL H a m ∧ RoG 1 m ∧ m.letters.length ≤ 900 ∧ L.things H ∧ GxR.TabG H P ∧
  (L.out m = none → Answers CR CL P H a (L.new m) L.vals Q) ∧ ∀ e, L.out m = some e → e ≠ .badFlat ∧ e ≠ .badAmount ∧ ∀ H' t, Kept P H H' → H t = none → H' t = some (.tup [.str (nameE e)]) → Q (.ref t) H'
theorem cut_ints (ns : List Int) (lo hi : Option Int) : ∃ zs : List Int, cutV (ns.map V.int) lo hi = zs.map V.int ∧ zs.length ≤ ns.length := by
  have h := cutV_length (ns.map V.int) lo hi
  rw [List.length_map] at h
  unfold cutV at h ⊢
  rw [← List.map_drop, ← List.map_take] at h ⊢
  refine ⟨_, rfl, ?_⟩
  rw [List.length_map] at h
  exact h

/-! ### a comprehension over a range that makes a list of pairs of ints -/
theorem lc_r1P {σ : L2.St} {H : Hp} {Q : VK} {te : TE} {vs : List Nat} {j : Nat} {ta : TA} {hi : Int} (f : Nat → Int × Int) (hta : ∀ Q' : List V → Hp → Prop, Q' [.int hi] H → ta σ H Q') (b2 : -100000 ≤ hi ∧ hi ≤ 100000)
    (hw : ∀ x, wipe ((wipe σ vs).set j (some x)) vs = wipe σ vs)
    (hs : ∀ (i : Nat) H', (i : Int) < hi → Same H H' → ∀ Q' : VK, (∀ p H'', Same H' H'' → H'' p = some (.tup [.int (f i).1, .int (f i).2]) → Q' (.ref p) H'') → te ((wipe σ vs).set j (some (.int (0 + i)))) H' Q')
    (hq : ∀ D H' as, H D = none → Same H H' → H' D = some (.lst (as.map V.ref)) → PrT H' as ((List.range hi.toNat).map f) → Q (.ref D) H') : tLc (iRng1 ta) (gName j) tYes te vs σ H Q := by
  refine hta _ ⟨hi, rfl, by omega, by omega, fun D hD => ?_⟩
  refine lc_range (lo := 0) (n := hi.toNat) (fun i H' => Same H H' ∧ ∃ as : List Addr, H' D = some (.lst (as.map V.ref)) ∧ PrT H' as ((List.range i).map f)) ⟨same_new hD, [], upd_same, .nil⟩ (fun i H' hi' m => ?_) (fun H' m => ?_)
  · obtain ⟨sm, as, h1, h2⟩ := m
    have hl := h2.length
    rw [List.length_map, List.length_range] at hl
    refine ⟨hw _, hs i H' (by omega) sm _ fun p H4 s4 hp => ⟨as.map V.ref, s4 _ _ h1, ?_, same_mut (sm.trans s4) hD, as ++ [p], ?_, ?_⟩⟩
    · rw [List.length_map]; exact Nat.lt_of_lt_of_le (show as.length < 100000 by omega) (by decide)
    · rw [upd_same, List.map_append]; rfl
    · rw [List.range_succ, List.map_append]
      have h4 := s4 _ _ h1
      exact PrT.append (PrT.one (by rw [upd_ne (ne_of hp h4 (fun z => by cases z))]; exact hp)) ((h2.same s4).mut h4)
  · obtain ⟨sm, as, h1, h2⟩ := m
    exact hq D H' as hD sm h1 h2
theorem cutV_to (xs : List V) (k : Nat) : cutV xs none (some (k : Int)) = xs.take k := by
  unfold cutV
  rw [HT.sIx_none, HT.sIx_nat, Nat.sub_zero, List.drop_zero]
  by_cases c : k ≤ xs.length
  · rw [Nat.min_eq_left c]
  · rw [Nat.min_eq_right (by omega), List.take_length, List.take_of_length_le (by omega)]
theorem cutV_from (xs : List V) (k : Nat) : cutV xs (some (k : Int)) none = xs.drop k := by
  unfold cutV
  rw [HT.sIx_none, HT.sIx_nat]
  by_cases c : k ≤ xs.length
  · rw [Nat.min_eq_left c]
    refine List.take_of_length_le ?_
    rw [List.length_drop]
    omega
  · rw [Nat.min_eq_right (by omega), Nat.sub_self, List.take_zero, List.drop_of_length_le (by omega)]

/-! ### rules of texts beside those of lists and ints -/
section
variable {X : Cx}
def rStrP : R2 := fun x y H Q => ∃ i j, x = .str i ∧ y = .str j ∧ i.length + j.length ≤ sizeLine ∧ Q (.str (i ++ j)) H
def rPlusS : R2 := fun x y H Q => rPlus x y H Q ∨ rStrP x y H Q
theorem op_plusS : OpR X (binaryOp .Add) rPlusS := op_plus.or op_add_str
def rIx3 (K : PySem.W.Frag) : R2 := fun x y H Q => rIx2 K x y H Q ∨ rIxS x y H Q
theorem ix_3 : IxR X (rIx3 X.K) := ix_lt.or ix_str
def rSlA (K : PySem.W.Frag) : V → Option Int → Option Int → Hp → VK → Prop := fun x lo hi H Q => rSlL K x lo hi H Q ∨ rSlS x lo hi H Q
theorem sl_anyA : SlR X (rSlA X.K) := by
  intro pins s σ H x v vl vu lo hi sl Q I rx hs pl pu h
  rcases h with h | h
  · exact sl_list pins s σ H x v vl vu lo hi sl Q I rx hs pl pu h
  · exact sl_str pins s σ H x v vl vu lo hi sl Q I rx hs pl pu h
def rLenS (K : PySem.W.Frag) : List V → Hp → VK → Prop := fun xs H Q => rLen K xs H Q ∨ ∃ z, xs = [.str z] ∧ z.length ≤ sizeLine ∧ Q (.int z.length) H
theorem call_lenS : CallR X (.builtin "len") (rLenS X.K) := fun pins s σ H xs us Q I r h => h.elim (call_lenA pins s σ H xs us Q I r) (call_len_str pins s σ H xs us Q I r)
end
section
variable {K : PySem.W.Frag} {H : Hp} {Q : VK} {v : V}
theorem r_plusI {m n : Int} (q : Q (.int (m + n)) H) : rPlusS (.int m) (.int n) H Q := .inl (r_plus q)
theorem r_plusT {i j : Str} (h : i.length + j.length ≤ sizeLine) (q : Q (.str (i ++ j)) H) : rPlusS (.str i) (.str j) H Q := .inr ⟨i, j, rfl, rfl, h, q⟩
theorem r_plusC {l b : Addr} {xs zs : List V} (h1 : H l = some (.lst xs)) (h2 : H b = some (.lst zs)) (hz : xs.length + zs.length ≤ sizeLine) (q : ∀ p, H p = none → Q (.ref p) (upd H p (.lst (xs ++ zs)))) : rPlusS (.ref l) (.ref b) H Q := .inl (r_cat h1 h2 hz q)
theorem r_ix3T {z : Str} {i : Int} {c : Nat} (h : z.length ≤ sizeLine) (e : atI z.cps.toList i = some c) (q : Q (.str ⟨#[c]⟩) H) : rIx3 K (.str z) (.int i) H Q := .inr ⟨z, i, c, rfl, rfl, h, e, q⟩
theorem r_ix3L {l : Addr} {xs : List V} {n : Int} (h : SqL K H l xs) (ha : atI xs n = some v) (q : Q v H) : rIx3 K (.ref l) (.int n) H Q := .inl (r_ixL h ha q)
theorem r_ix3P {l : Addr} {xs : List V} {n : Int} (h : SqT K H l xs) (ha : atI xs n = some v) (q : Q v H) : rIx3 K (.ref l) (.int n) H Q := .inl (r_ixT h ha q)
end
/-- small letters only, n of them -/
structure Small (s : Str) (n : Nat) : Prop where
  all : s.cps.toList.all signP = true
  len : s.length = n
theorem Small.empty : Small (Str.ofString "") 0 := ⟨by decide, by decide⟩
theorem str_toList_append (s t : Str) : (s ++ t).cps.toList = s.cps.toList ++ t.cps.toList := Array.toList_append
theorem str_len (s : Str) : s.length = s.cps.toList.length := by rw [Array.length_toList]; rfl
theorem Small.app {s t : Str} {n m : Nat} (h : Small s n) (g : Small t m) : Small (s ++ t) (n + m) :=
  ⟨by rw [str_toList_append, List.all_append, h.all, g.all]; rfl, by rw [str_len, str_toList_append, List.length_append, ← str_len, ← str_len, h.len, g.len]⟩
theorem Small.one {c : Nat} (h : signP c = true) : Small ⟨#[c]⟩ 1 := ⟨by show ([c].all signP) = true; simp [h], rfl⟩
theorem Small.cut {s : Str} {n : Nat} (h : Small s n) (lo hi : Option Int) : Small (cutS s lo hi) (cutS s lo hi).length := by
  refine ⟨?_, rfl⟩
  unfold cutS
  rw [List.all_eq_true]
  intro c hc
  exact List.all_eq_true.mp h.all c (List.mem_of_mem_drop (List.mem_of_mem_take (by simpa using hc)))
theorem cutS_parts (s : Str) (k : Nat) : (cutS s none (some (k : Int))).length + (cutS s (some (k : Int)) none).length = s.length := by
  have e1 : (cutS s none (some (k : Int))).length = min k s.length := by
    unfold cutS
    show (List.toArray _).size = _
    rw [List.size_toArray, List.length_take, List.length_drop, ← str_len, HT.sIx_none, HT.sIx_nat]
    omega
  have e2 : (cutS s (some (k : Int)) none).length = s.length - min k s.length := by
    unfold cutS
    show (List.toArray _).size = _
    rw [List.size_toArray, List.length_take, List.length_drop, ← str_len, HT.sIx_none, HT.sIx_nat]
    omega
  omega
theorem Small.flat {s : Str} {n : Nat} (h : Small s n) (h1 : 1 ≤ n) (h8 : n ≤ 8) : flatB (.str s) = true ∧ s.length ≤ 8 := by
  have e := h.len
  refine ⟨?_, by omega⟩
  unfold flatB
  dsimp only
  rw [h.all, Bool.and_true, decide_eq_true (by omega), decide_eq_true (by omega)]
  rfl
theorem Small.size {s : Str} {n : Nat} (h : Small s n) (hn : n ≤ 1000) : s.length ≤ sizeLine := by
  rw [h.len]
  exact Nat.le_trans hn (by decide)
def abc : Str := Str.ofString "abcdefghijklmnopqrstuvwxyz"
theorem abc_at (z : Int) : ∃ c, atI abc.cps.toList (z % 26) = some c ∧ signP c = true := by
  obtain ⟨j, hj, ej⟩ : ∃ j : Nat, j < 26 ∧ z % 26 = (j : Int) := ⟨(z % 26).toNat, by omega, by omega⟩
  rw [ej]
  have h : ∀ j : Fin 26, abc.cps.toList[j.val]? = some (97 + j.val) ∧ signP (97 + j.val) = true := by decide +kernel
  obtain ⟨h1, h2⟩ := h ⟨j, hj⟩
  exact ⟨_, atI_nat h1, h2⟩
theorem abc_len : abc.length ≤ sizeLine := Nat.le_trans (show abc.length ≤ 26 by decide +kernel) (by decide)
local macro_rules | `(tactic| walk_at "go0") => `(tactic| with_reducible refine NS.r_plusI ?_)

def FlatS (s : Str) : Prop := flatB (.str s) = true ∧ s.length ≤ 8
def sp_l_flats : Sp := fun vs H Q _ => ∃ c, vs = [.int c] ∧ ∀ l f0 f1 f2 H', Same H H' → H l = none → H' l = some (.lst [.str f0, .str f1, .str f2]) → FlatS f0 → FlatS f1 → FlatS f2 → Q (.ref l) H'
/-- letters as a law draws them: days from lo to hi, leases below many -/
def GoodL (fs : Str → Prop) (lo hi many : Int) : Lt → Prop
  | .let f x y _ => ∃ s d r, f = .str s ∧ x = .int d ∧ y = .int r ∧ fs s ∧ (lo ≤ d ∧ d ≤ hi) ∧ 0 ≤ r ∧ r ≤ 1000000000
  | .fin n x => ∃ (i : Nat) (d : Int), n = .int i ∧ x = .int d ∧ (i : Int) < many ∧ lo ≤ d ∧ d ≤ hi
  | .step n x y => ∃ (i : Nat) (d r : Int), n = .int i ∧ x = .int d ∧ y = .int r ∧ (i : Int) < many ∧ (lo ≤ d ∧ d ≤ hi) ∧ 0 ≤ r ∧ r ≤ 1000000000
  | .gauge x y => ∃ d r : Int, x = .int d ∧ y = .int r ∧ (lo ≤ d ∧ d ≤ hi) ∧ 1 ≤ r ∧ r ≤ 1000000
  | .rate x y => ∃ d r : Int, x = .int d ∧ y = .int r ∧ (lo ≤ d ∧ d ≤ hi) ∧ 0 ≤ r ∧ r ≤ 10000
  | .paid n x y => ∃ (i : Nat) (d r : Int), n = .int i ∧ x = .int d ∧ y = .int r ∧ (i : Int) < many ∧ (lo ≤ d ∧ d ≤ hi) ∧ 1 ≤ r ∧ r ≤ 1000000000
  | .kept n x y => ∃ (i : Nat) (d r : Int), n = .int i ∧ x = .int d ∧ y = .int r ∧ (i : Int) < many ∧ (lo ≤ d ∧ d ≤ hi) ∧ 1 ≤ r ∧ r ≤ 1000000000
  | .close n x => ∃ (i : Nat) (d : Int), n = .int i ∧ x = .int d ∧ (i : Int) < many ∧ lo ≤ d ∧ d ≤ hi
  | .bill x => ∃ d : Int, x = .int d ∧ lo ≤ d ∧ d ≤ hi

def sp_l_letter (K : PySem.W.Frag) : Sp := fun vs H Q _ => ∃ (c b w : Int) (fl : Addr) (many : Int) (f0 f1 f2 : Str), vs = [.int c, .int b, .int w, .ref fl, .int many] ∧ SqL K H fl [.str f0, .str f1, .str f2] ∧ 4 ≤ w ∧
  ∀ L t H', Same H H' → H t = none → H' t = some (.tup L.vals) → GoodL (fun s => s = f0 ∨ s = f1 ∨ s = f2) b (b + w - 1) (if many > 1 then many else 1) L → Q (.ref t) H'
/-! ### lists of tuples of flat things as data -/
def datV : V → PyData
  | .int i => .int i
  | .str s => .str s
  | .bl b => .bool b
  | _ => .none
def flatD : V → Bool
  | .int _ => true
  | .str s => PyData.canLay0 (.str s)
  | .bl _ => true
  | .non => true
  | _ => false
def datT (vs : List V) : PyData := .tuple (vs.map datV)
def datL (ls : List (List V)) : PyData := .list (ls.map datT)
theorem datV_dp {K : PySem.W.Frag} {H : Hp} {v : V} (h : flatD v = true) : Dp K H v (datV v) := by
  cases v with
  | int i => exact .int i
  | str s => exact .str s
  | bl b => exact .bl b
  | non => exact .non
  | _ => cases h
theorem datV_lay {v : V} (h : flatD v = true) : PyData.canLay0 (datV v) = true ∧ PyData.depth (datV v) = 0 := by
  cases v with
  | int i => exact ⟨rfl, rfl⟩
  | str s => exact ⟨h, rfl⟩
  | bl b => exact ⟨rfl, rfl⟩
  | non => exact ⟨rfl, rfl⟩
  | _ => cases h
theorem datVs_dp {K : PySem.W.Frag} {H : Hp} : ∀ {vs : List V}, vs.all flatD = true → DpAll K H vs (vs.map datV)
  | [], _ => .nil
  | v :: vs, h => by
    rw [List.all_cons, Bool.and_eq_true] at h
    exact .cons (datV_dp h.1) (datVs_dp h.2)
theorem datVs_lay : ∀ {vs : List V}, vs.all flatD = true → PyData.canLayAll0 (vs.map datV) = true ∧ PyData.depthAll (vs.map datV) = 0
  | [], _ => ⟨rfl, rfl⟩
  | v :: vs, h => by
    rw [List.all_cons, Bool.and_eq_true] at h
    obtain ⟨h1, h2⟩ := datV_lay h.1
    obtain ⟨h3, h4⟩ := datVs_lay h.2
    refine ⟨?_, ?_⟩
    · show (PyData.canLay0 (datV v) && PyData.canLayAll0 (vs.map datV)) = true
      rw [h1, h3]; rfl
    · show max (PyData.depth (datV v)) (PyData.depthAll (vs.map datV)) = 0
      rw [h2, h4]; rfl
theorem datT_dp {K : PySem.W.Frag} {H : Hp} {a : Addr} {vs : List V} (h : SqT K H a vs) (hv : vs.all flatD = true) : Dp K H (.ref a) (datT vs) := .tup h (datVs_dp hv)
theorem datT_lay {vs : List V} (hv : vs.all flatD = true) : PyData.canLay0 (datT vs) = true ∧ PyData.depth (datT vs) = 1 := by
  obtain ⟨h1, h2⟩ := datVs_lay hv
  refine ⟨h1, ?_⟩
  show PyData.depthAll (vs.map datV) + 1 = 1
  rw [h2]
theorem datT_shaped {vs : List V} (hv : vs.all flatD = true) : SeqAt.shaped (datT vs) = true := by
  obtain ⟨h1, h2⟩ := datT_lay hv
  unfold SeqAt.shaped
  rw [h1, h2]
  rfl
def FlatLs (ls : List (List V)) : Prop := ∀ vs, vs ∈ ls → vs.all flatD = true
theorem TupsAt.dps {K : PySem.W.Frag} {H : Hp} : ∀ {ts : List Addr} {ls : List (List V)}, TupsAt H ts ls → FlatLs ls → DpAll K H (ts.map V.ref) (ls.map datT)
  | _, _, .nil, _ => .nil
  | _, _, .cons h t, f => .cons (datT_dp (SqT.of h) (f _ (List.mem_cons_self ..))) (TupsAt.dps t fun vs hv => f vs (List.mem_cons_of_mem _ hv))
theorem TupsAt.dp {K : PySem.W.Frag} {H : Hp} {l : Addr} {ts : List Addr} {ls : List (List V)} (h : TupsAt H ts ls) (hl : H l = some (.lst (ts.map V.ref))) (f : FlatLs ls) : Dp K H (.ref l) (datL ls) := .lst (SqL.of hl) (h.dps f)
theorem datLs_lay : ∀ {ls : List (List V)}, FlatLs ls → PyData.canLayAll0 (ls.map datT) = true ∧ PyData.depthAll (ls.map datT) ≤ 1
  | [], _ => ⟨rfl, Nat.zero_le _⟩
  | vs :: ls, f => by
    obtain ⟨h1, h2⟩ := datT_lay (f vs (List.mem_cons_self ..))
    obtain ⟨h3, h4⟩ := datLs_lay (ls := ls) fun vs hv => f vs (List.mem_cons_of_mem _ hv)
    refine ⟨?_, ?_⟩
    · show (PyData.canLay0 (datT vs) && PyData.canLayAll0 (ls.map datT)) = true
      rw [h1, h3]; rfl
    · show max (PyData.depth (datT vs)) (PyData.depthAll (ls.map datT)) ≤ 1
      omega
theorem datL_lay {ls : List (List V)} (f : FlatLs ls) : PyData.canLay0 (datL ls) = true := (datLs_lay f).1
theorem datL_shaped {ls : List (List V)} (f : FlatLs ls) : SeqAt.shaped (datL ls) = true := by
  obtain ⟨h1, h2⟩ := datLs_lay f
  unfold SeqAt.shaped
  rw [datL_lay f, decide_eq_true (show PyData.depth (datL ls) ≤ 64 by show PyData.depthAll (ls.map datT) + 1 ≤ 64; omega)]
  rfl
/-- equal lists, equal tuples -/
theorem TupsAt.eq {K : PySem.W.Frag} {H : Hp} {l1 l2 : Addr} {t1 t2 : List Addr} {ls : List (List V)} {Q : VK} (h1 : TupsAt H t1 ls) (e1 : H l1 = some (.lst (t1.map V.ref))) (h2 : TupsAt H t2 ls) (e2 : H l2 = some (.lst (t2.map V.ref))) (f : FlatLs ls) (q : Q (.bl true) H) : rEqA K (.ref l1) (.ref l2) H Q :=
  r_eqDD (h1.dp e1 f) (h2.dp e2 f) (datL_shaped f) (datL_lay f) q
theorem TupsAt.ne {K : PySem.W.Frag} {H : Hp} {l1 l2 : Addr} {t1 t2 : List Addr} {ls : List (List V)} {Q : VK} (h1 : TupsAt H t1 ls) (e1 : H l1 = some (.lst (t1.map V.ref))) (h2 : TupsAt H t2 ls) (e2 : H l2 = some (.lst (t2.map V.ref))) (f : FlatLs ls) (q : Q (.bl false) H) : rNeA K (.ref l1) (.ref l2) H Q :=
  r_neDD (h1.dp e1 f) (h2.dp e2 f) (datL_shaped f) (datL_lay f) q
/-- an answer's tuples are flat -/
theorem flat3 {s : Str} {i j : Int} (h : flatD (.str s) = true) : ([.str s, .int i, .int j] : List V).all flatD = true := by
  show (flatD (.str s) && (true && (true && true))) = true
  rw [h]
  rfl
theorem flat_rent : flatD (.str "rent") = true := by decide +kernel
theorem flat_pledge : flatD (.str "pledge") = true := by decide +kernel
theorem ansUp_flat {gs rs : List (Int × Int)} {b : Int} {ms : List LeM} (i : Nat) : FlatLs (ansUp gs rs b ms i) := by
  intro vs hv
  unfold ansUp at hv
  obtain ⟨j, _, hv⟩ := List.mem_flatMap.mp hv
  cases h : ms[j]? with
  | none => rw [h] at hv; cases hv
  | some e =>
    rw [h] at hv
    rcases List.mem_append.mp hv with q | q
    · unfold ansRent at q
      split at q
      · rw [List.mem_singleton.mp q]; exact flat3 flat_rent
      · cases q
    · unfold ansPledge at q
      split at q
      · cases q
      · split at q
        · rw [List.mem_singleton.mp q]; exact flat3 flat_pledge
        · cases q
theorem flat_ok {s : Str} (h : s.cps.toList.all signP = true) : flatD (.str s) = true := by
  show s.cps.all _ = true
  rw [← Array.all_toList]
  refine List.all_eq_true.mpr fun c hc => ?_
  have q := List.all_eq_true.mp h c hc
  unfold signP at q
  rw [Bool.and_eq_true] at q
  have q2 : ¬ [122] < [c] := by simpa using q.2
  refine decide_eq_true ?_
  by_cases z : c < 1114112
  · exact z
  · exact absurd (List.Lex.rel (show 122 < c by omega)) q2
theorem flat_flat {s : Str} (h : flatB (.str s) = true) : flatD (.str s) = true := by
  unfold flatB at h
  dsimp only at h
  rw [Bool.and_eq_true] at h
  exact flat_ok h.2
theorem word_flat : flatD (.str "let") = true ∧ flatD (.str "end") = true ∧ flatD (.str "step") = true ∧ flatD (.str "gauge") = true ∧ flatD (.str "rate") = true ∧ flatD (.str "paid") = true ∧ flatD (.str "kept") = true ∧ flatD (.str "close") = true ∧ flatD (.str "bill") = true := by decide +kernel
/-- a letter's tuple is flat -/
theorem GoodL.flat {fs : Str → Prop} {lo hi many : Int} {L : Lt} (h : GoodL fs lo hi many L) (hf : ∀ s, fs s → flatB (.str s) = true) : L.vals.all flatD = true := by
  obtain ⟨w1, w2, w3, w4, w5, w6, w7, w8, w9⟩ := word_flat
  cases L with
  | «let» f x y ix =>
    obtain ⟨s, d, r, rfl, rfl, rfl, hs, _⟩ := h
    show (flatD (.str "let") && (flatD (.str s) && true)) = true
    rw [w1, flat_flat (hf s hs)]; rfl
  | fin n x =>
    obtain ⟨i, d, rfl, rfl, _⟩ := h
    show (flatD (.str "end") && true) = true
    rw [w2]; rfl
  | step n x y =>
    obtain ⟨i, d, r, rfl, rfl, rfl, _⟩ := h
    show (flatD (.str "step") && true) = true
    rw [w3]; rfl
  | gauge x y =>
    obtain ⟨d, r, rfl, rfl, _⟩ := h
    show (flatD (.str "gauge") && true) = true
    rw [w4]; rfl
  | rate x y =>
    obtain ⟨d, r, rfl, rfl, _⟩ := h
    show (flatD (.str "rate") && true) = true
    rw [w5]; rfl
  | paid n x y =>
    obtain ⟨i, d, r, rfl, rfl, rfl, _⟩ := h
    show (flatD (.str "paid") && true) = true
    rw [w6]; rfl
  | kept n x y =>
    obtain ⟨i, d, r, rfl, rfl, rfl, _⟩ := h
    show (flatD (.str "kept") && true) = true
    rw [w7]; rfl
  | close n x =>
    obtain ⟨i, d, rfl, rfl, _⟩ := h
    show (flatD (.str "close") && true) = true
    rw [w8]; rfl
  | bill x =>
    obtain ⟨d, rfl, _⟩ := h
    show (flatD (.str "bill") && true) = true
    rw [w9]; rfl
theorem GoodL.things {H : Hp} {fs : Str → Prop} {lo hi many : Int} {L : Lt} (h : GoodL fs lo hi many L) (hf : ∀ s, fs s → s.length ≤ 8) : L.things H := by
  cases L with
  | «let» f x y ix =>
    obtain ⟨s, d, r, rfl, rfl, rfl, hs, _⟩ := h
    exact ⟨⟨trivial, fun z hz => by cases hz; exact Nat.le_trans (hf s hs) (by decide)⟩, trivial, trivial⟩
  | fin n x => obtain ⟨i, d, rfl, rfl, _⟩ := h; exact ⟨trivial, trivial⟩
  | step n x y => obtain ⟨i, d, r, rfl, rfl, rfl, _⟩ := h; exact ⟨trivial, trivial, trivial⟩
  | gauge x y => obtain ⟨d, r, rfl, rfl, _⟩ := h; exact ⟨trivial, trivial⟩
  | rate x y => obtain ⟨d, r, rfl, rfl, _⟩ := h; exact ⟨trivial, trivial⟩
  | paid n x y => obtain ⟨i, d, r, rfl, rfl, rfl, _⟩ := h; exact ⟨trivial, trivial, trivial⟩
  | kept n x y => obtain ⟨i, d, r, rfl, rfl, rfl, _⟩ := h; exact ⟨trivial, trivial, trivial⟩
  | close n x => obtain ⟨i, d, rfl, rfl, _⟩ := h; exact ⟨trivial, trivial⟩
  | bill x => obtain ⟨d, rfl, _⟩ := h; exact trivial
/-- what such a letter may be refused by -/
theorem GoodL.out {m : RoM} {fs : Str → Prop} {lo hi many : Int} {L : Lt} (h : GoodL fs lo hi many L) (hf : ∀ s, fs s → flatB (.str s) = true) (h0 : 0 ≤ lo) (h1 : hi ≤ 99999) : L.out m = match L with
    | .let f x _ _ => chk (freeV m f x) .taken (chk (decide (m.leases.length < 20)) .full none)
    | .fin n x => chk (isLe m n) .noLease (chk (onLe m n fun e => decide (e.first ≤ intV x)) .badDay (chk (onLe m n fun e => endFree m e (intV x)) .taken none))
    | .step n _ _ => chk (isLe m n) .noLease none
    | .gauge _ _ => none
    | .rate _ _ => none
    | .paid n _ _ => chk (isLe m n) .noLease none
    | .kept n _ _ => chk (isLe m n) .noLease none
    | .close n _ => chk (isLe m n) .noLease (chk (onLe m n fun e => decide (e.closing = none)) .done none)
    | .bill x => chk (decide (m.billed ≤ intV x)) .done none := by
  have wd : ∀ d : Int, lo ≤ d ∧ d ≤ hi → within (.int d) 0 99999 = true := fun d hd => by simp [within]; omega
  have wr : ∀ a b r : Int, a ≤ r ∧ r ≤ b → within (.int r) a b = true := fun a b r hr => by simp [within]; omega
  cases L with
  | «let» f x y ix =>
    obtain ⟨s, d, r, rfl, rfl, rfl, hs, hd, hr⟩ := h
    show chk _ _ (chk _ _ (chk _ _ _)) = _
    rw [chk_t (hf s hs), chk_t (wd d hd), chk_t (wr _ _ r hr)]
  | fin n x =>
    obtain ⟨i, d, rfl, rfl, _, hd⟩ := h
    show chk _ _ (chk _ _ _) = _
    rw [chk_t (b := within _ _ _) (wd d hd)]
  | step n x y =>
    obtain ⟨i, d, r, rfl, rfl, rfl, _, hd, hr⟩ := h
    show chk _ _ (chk _ _ (chk _ _ _)) = _
    rw [chk_t (b := within (.int d) _ _) (wd d hd), chk_t (b := within (.int r) _ _) (wr _ _ r hr)]
  | gauge x y =>
    obtain ⟨d, r, rfl, rfl, hd, hr⟩ := h
    show chk _ _ (chk _ _ _) = _
    rw [chk_t (wd d hd), chk_t (wr _ _ r hr)]
  | rate x y =>
    obtain ⟨d, r, rfl, rfl, hd, hr⟩ := h
    show chk _ _ (chk _ _ _) = _
    rw [chk_t (wd d hd), chk_t (wr _ _ r hr)]
  | paid n x y =>
    obtain ⟨i, d, r, rfl, rfl, rfl, _, hd, hr⟩ := h
    show chk _ _ (chk _ _ (chk _ _ _)) = _
    rw [chk_t (b := within (.int d) _ _) (wd d hd), chk_t (b := within (.int r) _ _) (wr _ _ r hr)]
  | kept n x y =>
    obtain ⟨i, d, r, rfl, rfl, rfl, _, hd, hr⟩ := h
    show chk _ _ (chk _ _ (chk _ _ _)) = _
    rw [chk_t (b := within (.int d) _ _) (wd d hd), chk_t (b := within (.int r) _ _) (wr _ _ r hr)]
  | close n x =>
    obtain ⟨i, d, rfl, rfl, _, hd⟩ := h
    show chk _ _ (chk _ _ _) = _
    rw [chk_t (b := within _ _ _) (wd d hd)]
  | bill x =>
    obtain ⟨d, rfl, hd⟩ := h
    show chk _ _ _ = _
    rw [chk_t (wd d hd)]
theorem chk_some {b : Bool} {e e' : Err} {r : Option Err} (h : chk b e r = some e') : e' = e ∨ r = some e' := by
  cases b with
  | true => exact .inr h
  | false => exact .inl (Option.some.inj h).symm
theorem GoodL.mild {m : RoM} {fs : Str → Prop} {lo hi many : Int} {L : Lt} (h : GoodL fs lo hi many L) (hf : ∀ s, fs s → flatB (.str s) = true) (h0 : 0 ≤ lo) (h1 : hi ≤ 99999) {e : Err} (he : L.out m = some e) : e ≠ .badFlat ∧ e ≠ .badAmount := by
  rw [h.out hf h0 h1] at he
  cases L with
  | «let» f x y ix =>
    rcases chk_some he with rfl | he
    · decide
    · rcases chk_some he with rfl | he
      · decide
      · cases he
  | fin n x =>
    rcases chk_some he with rfl | he
    · decide
    · rcases chk_some he with rfl | he
      · decide
      · rcases chk_some he with rfl | he
        · decide
        · cases he
  | gauge x y => cases he
  | rate x y => cases he
  | close n x =>
    rcases chk_some he with rfl | he
    · decide
    · rcases chk_some he with rfl | he
      · decide
      · cases he
  | _ =>
    rcases chk_some he with rfl | he
    · decide
    · cases he
theorem GoodL.mono {fs : Str → Prop} {lo hi many more : Int} {L : Lt} (h : GoodL fs lo hi many L) (hm : many ≤ more) : GoodL fs lo hi more L := by
  cases L with
  | «let» f x y ix => exact h
  | gauge x y => exact h
  | rate x y => exact h
  | bill x => exact h
  | fin n x => obtain ⟨i, d, h1, h2, h3, h4⟩ := h; exact ⟨i, d, h1, h2, by omega, h4⟩
  | close n x => obtain ⟨i, d, h1, h2, h3, h4⟩ := h; exact ⟨i, d, h1, h2, by omega, h4⟩
  | step n x y => obtain ⟨i, d, r, h1, h2, h3, h4, h5⟩ := h; exact ⟨i, d, r, h1, h2, h3, by omega, h5⟩
  | paid n x y => obtain ⟨i, d, r, h1, h2, h3, h4, h5⟩ := h; exact ⟨i, d, r, h1, h2, h3, by omega, h5⟩
  | kept n x y => obtain ⟨i, d, r, h1, h2, h3, h4, h5⟩ := h; exact ⟨i, d, r, h1, h2, h3, by omega, h5⟩

theorem two_upd {m : RoM} {e0 e1 : LeM} {f : LeM → LeM} (h : m.leases = [e0, e1]) (i : Nat) (hi : i = 0 ∨ i = 1) : (updLe m (.int (i : Int)) f).leases = [if i = 0 then f e0 else e0, if i = 1 then f e1 else e1] := by
  rcases hi with rfl | rfl
  · rw [updLe_at (i := 0) (e := e0) (by rw [h]; rfl)]
    show m.leases.set 0 (f e0) = _
    rw [h]; rfl
  · rw [updLe_at (i := 1) (e := e1) (by rw [h]; rfl)]
    show m.leases.set 1 (f e1) = _
    rw [h]; rfl
theorem upd_rest {m : RoM} {n : V} {f : LeM → LeM} : (updLe m n f).rates = m.rates ∧ (updLe m n f).gauges = m.gauges ∧ (updLe m n f).billed = m.billed := by unfold updLe; split <;> exact ⟨rfl, rfl, rfl⟩
theorem within_le {m : RoM} {e0 e1 : LeM} (h : m.leases = [e0, e1]) {i : Nat} (hi : i = 0 ∨ i = 1) : isLe m (.int (i : Int)) = true := by
  unfold isLe within
  rw [h]
  rcases hi with rfl | rfl <;> rfl
theorem within_i {i lo hi : Int} (h0 : lo ≤ i) (h1 : i ≤ hi) : within (.int i) lo hi = true := by simp [within, h0, h1]

/-! ### match of a tuple that begins with a word -/
def setAll : L2.St → List Nat → List V → L2.St
  | g, i :: is, v :: vs => setAll (g.set i (some v)) is vs
  | g, _, _ => g
/-- names that catch, and where they stand -/
inductive Caps (X : Cx) : List Pattern → List Str → List Nat → Prop
  | nil : Caps X [] [] []
  | cons {y : Str} {i : Nat} {p : Pos} {more : List Pattern} {ys : List Str} {is : List Nat} (at_ : X.N[i]? = some y) (loc : Loc X.env.scope y) (fn : X.fn y = true ∨ X.env.scope.names.lookup y = some .local) (r : Caps X more ys is) : Caps X (.MatchAs none (some y) p :: more) (y :: ys) (i :: is)
def tArms (K : PySem.W.Frag) (x : V) : List (Str × List Nat × TS) → TS → TS
  | [], u => u
  | (w, is, t) :: r, u => fun D g h => ∃ a z us, x = .ref a ∧ SqT K h a (.str z :: us) ∧ us.length ≤ 1000 ∧ if us.length = is.length ∧ z = w then t D (setAll g is us) h else tArms K x r u D g h
inductive Arms (X : Cx) (u : TS) : List MatchCase → List (Str × List Nat × TS) → Prop
  | last {p : Pos} {body : List Stmt} (h : PSs X body u) : Arms X u [⟨.MatchAs none none p, none, body⟩] []
  | arm {w : Str} {k : Nat} {p1 p2 p3 : Pos} {caps : List Pattern} {ys : List Str} {is : List Nat} {body : List Stmt} {t : TS} {more : List MatchCase} {r : List (Str × List Nat × TS)} (c : Caps X caps ys is) (h : PSs X body t) (next : Arms X u more r) :
      Arms X u (⟨.MatchSequence (.MatchValue (.Constant (.str w) k p1) p2 :: caps) p3, none, body⟩ :: more) ((w, is, t) :: r)
section
variable {X : Cx}
theorem Caps.len {cs : List Pattern} {ys : List Str} {is : List Nat} (h : Caps X cs ys is) : cs.length = is.length ∧ ys.length = is.length := by
  induction h with
  | nil => exact ⟨rfl, rfl⟩
  | cons _ _ _ _ ih => exact ⟨congrArg (· + 1) ih.1, congrArg (· + 1) ih.2⟩
theorem Caps.each {cs : List Pattern} {ys : List Str} {is : List Nat} (h : Caps X cs ys is) {M : Model} {A : Around} {E : Value → Shared → Prop} : ∀ {us : List Value} {s : Shared} {Q : Option (List (Str × Value)) → Shared → Prop}, us.length = is.length → Q (some (ys.zip us)) s → wpAny M A (matchEach cs X.env us) Q E s := by
  induction h with
  | nil =>
    intro us s Q hl q
    exact wpAny_matchEach_nil q
  | @cons y i p more ys is _ _ _ _ ih =>
    intro us s Q hl q
    cases us with
    | nil => cases hl
    | cons x xs =>
      refine wpAny_matchEach_cons (wpAny_matchPattern_Capture ?_)
      exact ih (by simpa using hl) q
theorem Caps.bind {cs : List Pattern} {ys : List Str} {is : List Nat} (h : Caps X cs ys is) (nd : X.N.Nodup) {pins : List (Addr × Obj)} {hp : Hp} {E : Value → Shared → Prop} : ∀ {g : L2.St} {vs : List V} {us : List Value} {s : Shared} {Q : Unit → Shared → Prop}, Inv X pins g hp s → Vals vs us → vs.length = is.length →
    (∀ s', Inv X pins (setAll g is vs) hp s' → Q () s') → wpAny (model X.prog X.w) X.A (assignInOrder ((ys.zip us).map fun (n, _) => bindName X.env n) ((ys.zip us).map (·.2))) Q E s := by
  induction h with
  | nil =>
    intro g vs us s Q I r hl q
    exact wpAny_assignInOrder_none (q s I)
  | @cons y i p more ys is at_ loc fn _ ih =>
    intro g vs us s Q I r hl q
    cases r with
    | nil => cases hl
    | @cons v u vs us r1 rr =>
      refine wpAny_assignInOrder_more (wpAny_bindName (store_ok I nd at_ loc r1 (fun s1 I1 => ?_) fn))
      exact ih I1 rr (by simpa using hl) q
theorem Caps.plain {cs : List Pattern} {ys : List Str} {is : List Nat} (h : Caps X cs ys is) : ∀ p, p ∈ cs → p.isStar = false := by
  induction h with
  | nil => intro p hp; cases hp
  | cons _ _ _ _ ih =>
    intro p hp
    rcases List.mem_cons.mp hp with q | q
    · rw [q]; rfl
    · exact ih p q
theorem arm_meets {w : Str} {k : Nat} {p1 p2 p3 : Pos} {cs : List Pattern} {ys : List Str} {is : List Nat} (calm : X.calm = true) (c : Caps X cs ys is) {pins : List (Addr × Obj)} {g : L2.St} {hp : Hp} {s : Shared} {a : Addr} {z : Str} {vs : List V} (I : Inv X pins g hp s) (hq : SqT X.K hp a (.str z :: vs)) (hl : vs.length ≤ 1000)
    {Q : Option (List (Str × Value)) → Shared → Prop} (yes : vs.length = is.length → z = w → ∀ us s1, Vals vs us → Inv X pins g hp s1 → Q (some (ys.zip us)) s1) (no : ¬ (vs.length = is.length ∧ z = w) → ∀ s1, Inv X pins g hp s1 → Q none s1) :
    wpAny (model X.prog X.w) X.A (matchPattern (.MatchSequence (.MatchValue (.Constant (.str w) k p1) p2 :: cs) p3) X.env (.ref a)) Q X.xe s := by
  obtain ⟨its, rv, ht, _⟩ := I.tuple hq
  have hlen := rv.length
  obtain ⟨u0, us, rfl, r0, rr⟩ : ∃ u0 us, its = u0 :: us ∧ RelV (.str z) u0 ∧ Vals vs us := by
    cases rv with
    | cons p q => exact ⟨_, _, rfl, p, q⟩
  have hul := rr.length
  have cl := c.len
  refine wpAny_matchPattern_Sequence (wpAny_collectionFlag ht.typeIs flag_seq_tuple ?_) ?_ ?_
  · refine pyLen_tuple ht (by simp; omega) ?_
    by_cases hn : vs.length = is.length
    · have I1 : Inv X pins g hp { s with toks := s.toks + 1 + 1 } := I.tok _
      rw [if_neg (by simp; omega)]
      have hn2 : (Pattern.MatchValue (.Constant (.str w) k p1) p2 :: cs).length = (u0 :: us).toArray.size := by simp; omega
      rw [hn2]
      refine unpackItems_tuple (I.ok.hd calm) (by exact ht) fun h' hx => ?_
      have I2 : Inv X pins g hp { s with heap := h', toks := s.toks + 1 + 1 } := I.kept fun b o e => hx b o (Nat.ne_of_lt (Heap.lt_size e)) e
      show wpAny _ _ (matchEach (_ :: cs) X.env (u0 :: us)) _ _ _
      refine wpAny_matchEach_cons (wpAny_matchPattern_Value ?_)
      refine thn (pe_str.run pins _ g hp (fun v H' => v = .str w ∧ H' = hp) I2 ⟨rfl, rfl⟩) fun x s1 ⟨v, H1, I3, r3, hv, hH⟩ => ?_
      subst hv
      subst hH
      refine thn (op_eq pins s1 g H1 (.str z) (.str w) u0 x (fun v H' => v = .bl (decide (V.str z = V.str w)) ∧ H' = H1) I3 r0 r3 ⟨rfl, rfl, rfl⟩) fun y s2 ⟨v, H2, I4, r4, hv, hH⟩ => ?_
      subst hv
      subst hH
      cases r4
      refine wpAny_truthy_bool ?_
      by_cases hz : z = w
      · rw [if_pos (decide_eq_true (by rw [hz]))]
        exact c.each (by omega) (yes hn hz us _ rr I4)
      · rw [if_neg (by rw [decide_eq_false (fun q => hz (V.str.inj q))]; decide)]
        exact no (fun q => hz q.2) _ I4
    · rw [if_pos (by simp; omega)]
      exact no (fun q => hn q.1) _ (I.tok _)
  · refine List.findIdx?_eq_none_iff.mpr fun p hp => ?_
    rcases List.mem_cons.mp hp with q | q
    · rw [q]; rfl
    · rw [c.plain p q]
  · rfl
theorem arms_run {u : TS} (calm : X.calm = true) (nd : X.N.Nodup) {cases_ : List MatchCase} {r : List (Str × List Nat × TS)} (h : Arms X u cases_ r) {pins : List (Addr × Obj)} {g : L2.St} {hp : Hp} {D : Ends} {x : V} : ∀ {v : Value} {s : Shared} {first : Bool}, Inv X pins g hp s → RelV x v → tArms X.K x r u D g hp →
    wpAny (model X.prog X.w) X.A (matchCases cases_ X.env v first) (SP X pins D) X.xe s := by
  induction h with
  | last h =>
    intro v s first I rx t
    refine wpAny_matchCases_cons (wpAny_matchPattern_Capture ?_)
    exact wpAny_assignInOrder_none (h.run pins s g hp D I t)
  | @arm w k p1 p2 p3 caps ys is body t more r c h _ ih =>
    intro v s first I rx q
    obtain ⟨a, z, us, rfl, hq, hl, q⟩ := q
    cases rx
    refine wpAny_matchCases_cons (arm_meets calm c I hq hl (fun hn hz ws s1 rr I1 => ?_) fun hno s1 I1 => ?_)
    · rw [if_pos ⟨hn, hz⟩] at q
      exact c.bind nd I1 rr hn fun s2 I2 => h.run pins s2 _ hp D I2 q
    · rw [if_neg hno] at q
      exact ih I1 rfl q
theorem ps_match {u : TS} {e : Expr} {te : TE} {cases_ : List MatchCase} {r : List (Str × List Nat × TS)} {pos : Pos} (calm : X.calm = true) (nd : X.N.Nodup) (he : PE X e te) (h : Arms X u cases_ r) :
    PS X (.Match e cases_ pos) (fun D g hp => te g hp fun x hp1 => tArms X.K x r u D g hp1) := by
  constructor
  intro pins s g hp D I t
  exact wpAny_Match (thn (he.run pins s g hp _ I t) fun v s1 ⟨x, hp1, I1, rx, q⟩ => arms_run calm nd h I1 rx q)
end
theorem arms_hit {K : PySem.W.Frag} {H : Hp} {D : Ends} {g : L2.St} {a : Addr} {w : Str} {us : List V} {is : List Nat} {t u : TS} {r : List (Str × List Nat × TS)} (hp : SqT K H a (.str w :: us)) (hl : us.length ≤ 1000) (hn : us.length = is.length) (q : t D (setAll g is us) H) : tArms K (.ref a) ((w, is, t) :: r) u D g H :=
  ⟨a, w, us, rfl, hp, hl, by rw [if_pos ⟨hn, rfl⟩]; exact q⟩
theorem arms_miss {K : PySem.W.Frag} {H : Hp} {D : Ends} {g : L2.St} {a : Addr} {z w : Str} {us : List V} {is : List Nat} {t u : TS} {r : List (Str × List Nat × TS)} (hp : SqT K H a (.str z :: us)) (hl : us.length ≤ 1000) (hn : z ≠ w) (q : tArms K (.ref a) r u D g H) : tArms K (.ref a) ((w, is, t) :: r) u D g H :=
  ⟨a, z, us, rfl, hp, hl, by rw [if_neg (fun h => hn h.2)]; exact q⟩

def sp_tell (CR CL P : Addr) (cls : Err → Addr) : Sp := fun vs H Q E => ∃ (a : RoA) (m : RoM) (L : Lt) (p : Addr), vs = [.ref a.x, .ref p] ∧ H p = some (.tup L.vals) ∧ RoAt CR CL H a m ∧ RoG 1 m ∧ m.letters.length ≤ 900 ∧ L.things H ∧ GxR.TabG H P ∧
  (L.out m = none → Answers CR CL P H a (L.new m) L.vals (fun _ H' => Q .non H')) ∧ ∀ e, L.out m = some e → ∀ H', Kept P H H' → E (.ref (cls e)) none H'
/-- letters told one after another, up to the first that is refused -/
def tellAll : RoM → List Lt → RoM × Option Err
  | m, [] => (m, none)
  | m, L :: r => match L.out m with
    | none => tellAll (L.then m) r
    | some e => (m, some e)
theorem tell_none {m : RoM} {L : Lt} {r : List Lt} (h : L.out m = none) : tellAll m (L :: r) = tellAll (L.then m) r := by
  show (match L.out m with | none => _ | some e => _) = _
  rw [h]
theorem tell_some {m : RoM} {L : Lt} {r : List Lt} {e : Err} (h : L.out m = some e) : tellAll m (L :: r) = (m, some e) := by
  show (match L.out m with | none => _ | some e => _) = _
  rw [h]
def sp_roll_of (CR CL P : Addr) (cls : Err → Addr) (K : PySem.W.Frag) : Sp := fun vs H Q E => ∃ (H0 : Hp) (rs : List (RoA × RoM)) (cs : List (Addr × HO)) (l : Addr) (ts : List Addr) (tls : List Lt) (fs : Str → Prop) (lo hi many : Int), vs = [.ref l] ∧ LawAt CR CL P H0 H rs cs ∧ (∃ k : Nat, cs[k]? = some (l, HO.lst (ts.map V.ref))) ∧ TupsAt H ts (tls.map Lt.vals) ∧ (∀ L, L ∈ tls → GoodL fs lo hi many L) ∧ (∀ s, fs s → s.length ≤ 8) ∧ tls.length ≤ 100 ∧
  ((tellAll newRo tls).2 = none → ∀ H' a, LawAt CR CL P H0 H' (rs ++ [(a, (tellAll newRo tls).1)]) cs → Tups H H' → Q (.ref a.x) H') ∧ ∀ e, (tellAll newRo tls).2 = some e → ∀ H', LawAt CR CL P H0 H' rs cs → Tups H H' → E (.ref (cls e)) none H'
def sp_l_again (CR CL P : Addr) (K : PySem.W.Frag) : Sp := fun vs H Q _ => ∃ (H0 : Hp) (rs : List (RoA × RoM)) (cs : List (Addr × HO)) (l : Addr) (ts : List Addr) (tls : List Lt) (fs : Str → Prop) (lo hi many : Int), vs = [.ref l] ∧ LawAt CR CL P H0 H rs cs ∧ (∃ k : Nat, cs[k]? = some (l, HO.lst (ts.map V.ref))) ∧ TupsAt H ts (tls.map Lt.vals) ∧ (∀ L, L ∈ tls → GoodL fs lo hi many L) ∧ (∀ s, fs s → s.length ≤ 8) ∧ tls.length ≤ 100 ∧
  ((tellAll newRo tls).2 = none → ∀ H', LawAt CR CL P H0 H' rs cs → Tups H H' → Q .non H') ∧ ∀ e, (tellAll newRo tls).2 = some e → e ≠ .badFlat ∧ e ≠ .badAmount ∧ ∀ H' t, LawAt CR CL P H0 H' rs cs → Tups H H' → H' t = some (.tup [.str (nameE e)]) → Q (.ref t) H'
/-! ### all that a roll answers, as data -/
/-- a tuple of two sums, or of a lease and two sums -/
def TD (H : Hp) (t : Addr) (D : PyData) : Prop := (∃ x y : Int, H t = some (.tup [.int x, .int y]) ∧ D = .tuple [.int x, .int y]) ∨ ∃ (u : Addr) (e : LeM) (x y : Int), H t = some (.tup [.ref u, .int x, .int y]) ∧ H u = some (.tup (tupL e)) ∧ (tupL e).all flatD = true ∧ D = .tuple [datT (tupL e), .int x, .int y]
theorem TD.tups {H H' : Hp} {t : Addr} {D : PyData} (h : TD H t D) (tu : Tups H H') : TD H' t D := by
  rcases h with ⟨x, y, h, rfl⟩ | ⟨u, e, x, y, h1, h2, h3, rfl⟩
  · exact .inl ⟨x, y, tu _ _ h, rfl⟩
  · exact .inr ⟨u, e, x, y, tu _ _ h1, tu _ _ h2, h3, rfl⟩
theorem TD.dp {K : PySem.W.Frag} {H : Hp} {t : Addr} {D : PyData} (h : TD H t D) : Dp K H (.ref t) D := by
  rcases h with ⟨x, y, h, rfl⟩ | ⟨u, e, x, y, h1, h2, h3, rfl⟩
  · exact .tup (SqT.of h) (.cons (.int x) (.cons (.int y) .nil))
  · exact .tup (SqT.of h1) (.cons (datT_dp (SqT.of h2) h3) (.cons (.int x) (.cons (.int y) .nil)))
inductive TDs (H : Hp) : List Addr → List PyData → Prop
  | nil : TDs H [] []
  | cons {t : Addr} {D : PyData} {ts : List Addr} {Ds : List PyData} : TD H t D → TDs H ts Ds → TDs H (t :: ts) (D :: Ds)
theorem TDs.tups {H H' : Hp} (tu : Tups H H') : ∀ {ts : List Addr} {Ds : List PyData}, TDs H ts Ds → TDs H' ts Ds
  | _, _, .nil => .nil
  | _, _, .cons h t => .cons (h.tups tu) (TDs.tups tu t)
theorem TDs.dps {K : PySem.W.Frag} {H : Hp} : ∀ {ts : List Addr} {Ds : List PyData}, TDs H ts Ds → DpAll K H (ts.map V.ref) Ds
  | _, _, .nil => .nil
  | _, _, .cons h t => .cons h.dp (TDs.dps t)
theorem TDs.snoc {H : Hp} {t : Addr} {D : PyData} (h : TD H t D) : ∀ {ts : List Addr} {Ds : List PyData}, TDs H ts Ds → TDs H (ts ++ [t]) (Ds ++ [D])
  | _, _, .nil => .cons h .nil
  | _, _, .cons h1 t1 => .cons h1 (TDs.snoc h t1)
theorem TDs.len {H : Hp} : ∀ {ts : List Addr} {Ds : List PyData}, TDs H ts Ds → ts.length = Ds.length
  | _, _, .nil => rfl
  | _, _, .cons _ t => congrArg (· + 1) (TDs.len t)
/-- what is said of one lease on a day -/
def dLease (m : RoM) (d : Int) (e : LeM) : List PyData :=
  if d % 2 = 1 then [.tuple [.int e.given, .int e.sent], .tuple [datT (tupL e), .int (leOwed e m.gauges d), .int (leWorth e m.rates d)]]
  else [.tuple [datT (tupL e), .int (leOwed e m.gauges d), .int (leWorth e m.rates d)], .tuple [.int e.given, .int e.sent]]
def dLeases (m : RoM) (d : Int) (i : Nat) : List PyData := (m.leases.take i).flatMap (dLease m d)
def dAll (m : RoM) (d : Int) : PyData := .list (.int m.leases.length :: .int m.billed :: datL m.letters :: dLeases m d m.leases.length)
theorem dLeases_succ {m : RoM} {d : Int} {i : Nat} {e : LeM} (h : m.leases[i]? = some e) : dLeases m d (i + 1) = dLeases m d i ++ dLease m d e := by
  unfold dLeases
  rw [List.take_add_one, h, List.flatMap_append]
  show _ ++ List.flatMap _ [e] = _
  rw [List.flatMap_singleton]
theorem dLeases_len {m : RoM} {d : Int} (i : Nat) : (dLeases m d i).length ≤ 2 * i := by
  induction i with
  | zero => simp [dLeases]
  | succ i ih =>
    cases h : m.leases[i]? with
    | none =>
      have : dLeases m d (i + 1) = dLeases m d i := by
        unfold dLeases
        rw [List.take_add_one, h]
        simp
      rw [this]
      omega
    | some e =>
      rw [dLeases_succ h, List.length_append]
      have : (dLease m d e).length = 2 := by unfold dLease; split <;> rfl
      omega
/-- the list of _law_all in a heap -/
structure AllAt (H : Hp) (l p : Addr) (ps ts : List Addr) (m : RoM) (d : Int) : Prop where
  ls : TupsAt H ps m.letters
  ds : TDs H ts (dLeases m d m.leases.length)
def allV (p : Addr) (ts : List Addr) (m : RoM) : List V := .int m.leases.length :: .int m.billed :: .ref p :: ts.map V.ref
theorem AllAt.dp {K : PySem.W.Frag} {H : Hp} {l p : Addr} {ps ts : List Addr} {m : RoM} {d : Int} (h : AllAt H l p ps ts m d) (hl : H l = some (.lst (allV p ts m))) (hp : H p = some (.lst (ps.map V.ref))) (hf : FlatLs m.letters) : Dp K H (.ref l) (dAll m d) :=
  .lst (SqL.of hl) (.cons (.int _) (.cons (.int _) (.cons (h.ls.dp hp hf) h.ds.dps)))
theorem AllAt.tups {H H' : Hp} {l p : Addr} {ps ts : List Addr} {m : RoM} {d : Int} (h : AllAt H l p ps ts m d) (tu : Tups H H') : AllAt H' l p ps ts m d := ⟨h.ls.tups tu, h.ds.tups tu⟩
theorem app_all {H H2 : Hp} {l p t : Addr} {ts : List Addr} {m : RoM} {vs q : List V} (s : Same H H2) (hl0 : H l = none) (hlp : l ≠ p) (hl : H2 l = some (.lst (allV p ts m))) (hp : H2 p = some (.lst q)) (ht : H2 t = none) :
    Same H (upd (upd H2 t (.tup vs)) l (.lst (allV p ts m ++ [V.ref t]))) ∧ (upd (upd H2 t (.tup vs)) l (.lst (allV p ts m ++ [V.ref t]))) l = some (.lst (allV p (ts ++ [t]) m)) ∧ (upd (upd H2 t (.tup vs)) l (.lst (allV p ts m ++ [V.ref t]))) p = some (.lst q) ∧
    Tups H2 (upd (upd H2 t (.tup vs)) l (.lst (allV p ts m ++ [V.ref t]))) ∧ (upd (upd H2 t (.tup vs)) l (.lst (allV p ts m ++ [V.ref t]))) t = some (.tup vs) := by
  have s1 : Same H2 (upd H2 t (.tup vs)) := same_new ht
  have tu : Tups H2 (upd (upd H2 t (.tup vs)) l (.lst (allV p ts m ++ [V.ref t]))) := (Tups.same s1).trans (Tups.upd (s1 _ _ hl) cell_lst)
  refine ⟨same_mut (s.trans s1) hl0, ?_, ?_, tu, Tups.upd (s1 _ _ hl) cell_lst _ _ upd_same⟩
  · rw [upd_same]
    unfold allV
    rw [List.map_append]
    rfl
  · rw [upd_ne hlp.symm]
    exact s1 _ _ hp
def sp_l_all (K : PySem.W.Frag) (CR CL P : Addr) : Sp := fun vs H Q _ => ∃ (a : RoA) (m : RoM) (d : Int), vs = [.ref a.x, .int d] ∧ RoAt CR CL H a m ∧ RoG 1 m ∧ m.letters.length ≤ 900 ∧ 0 ≤ d ∧ d ≤ 99999 ∧ (∀ e, e ∈ m.leases → flatB (.str e.flat) = true) ∧
  ∀ H' l p ps ts, Same H H' → H l = none → H p = none → l ≠ p → H' l = some (.lst (allV p ts m)) → H' p = some (.lst (ps.map V.ref)) → AllAt H' l p ps ts m d → Q (.ref l) H'
theorem nameE_flat (e : Err) : ([V.str (nameE e)] : List V).all flatD = true := by cases e <;> decide +kernel
theorem tellAll_app {m' : RoM} {L : Lt} {e : Err} : ∀ {r : List Lt} {m : RoM}, tellAll m r = (m', none) → L.out m' = some e → (tellAll m (r ++ [L])).2 = some e
  | [], m, h, ho => by
    cases h
    show (tellAll m' [L]).2 = _
    rw [tell_some ho]
  | M :: r, m, h, ho => by
    cases hM : M.out m with
    | none =>
      rw [tell_none hM] at h
      show (tellAll m (M :: (r ++ [L]))).2 = _
      rw [tell_none hM]
      exact tellAll_app h ho
    | some e' => rw [tell_some hM] at h; cases h
theorem tellAll_more {m' : RoM} {L : Lt} : ∀ {r : List Lt} {m : RoM}, tellAll m r = (m', none) → L.out m' = none → tellAll m (r ++ [L]) = (L.then m', none)
  | [], m, h, ho => by
    cases h
    show tellAll m' [L] = _
    rw [tell_none ho]
    rfl
  | M :: r, m, h, ho => by
    cases hM : M.out m with
    | none =>
      rw [tell_none hM] at h
      show tellAll m (M :: (r ++ [L])) = _
      rw [tell_none hM]
      exact tellAll_more h ho
    | some e' => rw [tell_some hM] at h; cases h
/-- all flats are flats -/
def FlM (m : RoM) : Prop := ∀ e, e ∈ m.leases → flatB (.str e.flat) = true
theorem FlM.then {m : RoM} {L : Lt} {fs : Str → Prop} {lo hi many : Int} (h : FlM m) (hg : GoodL fs lo hi many L) (hf : ∀ s, fs s → flatB (.str s) = true) : FlM (L.then m) := by
  have up : ∀ {n : V} {f : LeM → LeM}, (∀ e, (f e).flat = e.flat) → FlM (updLe m n f) := fun {n f} hk e he => by
    unfold updLe at he
    cases hl : leV m n with
    | none => rw [hl] at he; exact h e he
    | some e0 =>
      rw [hl] at he
      rcases List.mem_or_eq_of_mem_set he with q | q
      · exact h e q
      · rw [q, hk]
        cases n with
        | int i => exact h e0 (List.mem_of_getElem? hl)
        | _ => cases hl
  have new : FlM (L.new m) := by
    cases L with
    | «let» f x y ix =>
      obtain ⟨s, d, r, rfl, rfl, rfl, hs, _⟩ := hg
      intro e he
      rcases List.mem_append.mp he with q | q
      · exact h e q
      · rw [List.mem_singleton.mp q]; exact hf s hs
    | gauge x y => exact h
    | rate x y => exact h
    | bill x => exact h
    | fin n x => exact up fun e => rfl
    | step n x y => exact up fun e => rfl
    | paid n x y => exact up fun e => rfl
    | kept n x y => exact up fun e => rfl
    | close n x => exact up fun e => rfl
  intro e he
  obtain ⟨e0, h0, rfl⟩ := List.mem_map.mp he
  exact new e0 h0
theorem bil_then {m : RoM} {L : Lt} {fs : Str → Prop} {lo hi many : Int} (h : m.billed ≤ hi) (hg : GoodL fs lo hi many L) : (L.then m).billed ≤ hi := by
  show (L.new m).billed ≤ hi
  cases L with
  | «let» f x y ix => obtain ⟨s, d, r, rfl, rfl, rfl, _⟩ := hg; exact h
  | gauge x y => exact h
  | rate x y => exact h
  | bill x => obtain ⟨d, rfl, hd⟩ := hg; exact hd.2
  | fin n x => show (updLe m n _).billed ≤ hi; rw [upd_rest.2.2]; exact h
  | step n x y => show (updLe m n _).billed ≤ hi; rw [upd_rest.2.2]; exact h
  | paid n x y => show (updLe m n _).billed ≤ hi; rw [upd_rest.2.2]; exact h
  | kept n x y => show (updLe m n _).billed ≤ hi; rw [upd_rest.2.2]; exact h
  | close n x => show (updLe m n _).billed ≤ hi; rw [upd_rest.2.2]; exact h
theorem sub5 {α : Type} {a b c d e : α} {l : List α} : [a, b, c, d, e].Sublist (a :: b :: c :: d :: e :: l) := List.sublist_append_left [a, b, c, d, e] l
theorem sub7 {α : Type} {a b c d e f g : α} {l : List α} : [a, b, c, d, e, f, g].Sublist (a :: b :: c :: d :: e :: f :: g :: l) := List.sublist_append_left [a, b, c, d, e, f, g] l
theorem sub2 {α : Type} {a b : α} {l : List α} : [a, b].Sublist (a :: b :: l) := List.sublist_append_left [a, b] l
/-- two new cells that were made before the heap came to this -/
theorem LawAt.cells2 {CR CL P : Addr} {H0 H H1 : Hp} {rs : List (RoA × RoM)} {cs : List (Addr × HO)} (h : LawAt CR CL P H0 H rs cs) {l p : Addr} {u v : HO} (hl : H l = none) (hp : H p = none) (ne : l ≠ p) (k : Kept P H H1) (hu : CellO u) (hv : CellO v) (e1 : H1 l = some u) (e2 : H1 p = some v) :
    LawAt CR CL P H0 H1 rs (cs ++ [(l, u), (p, v)]) := by
  have h1 := h.cellAt hl k hu e1
  have h2 := h1.cellAdd e2 hv (h.old.free p hp) (fun c hc z => ?_) (fun r hr => (h.ro r hr).1.not_new hp)
  · rw [List.append_assoc] at h2
    exact h2
  · rcases List.mem_append.mp hc with q | q
    · have q2 := (h.ce c q).1
      rw [z, hp] at q2
      cases q2
    · rw [List.mem_singleton.mp q] at z
      exact ne z
/-- all that is asked of a roll can be laid -/
theorem lays_all : ∀ {Ds : List PyData}, (∀ D, D ∈ Ds → PyData.canLay0 D = true ∧ PyData.depth D ≤ 2) → PyData.canLayAll0 Ds = true ∧ PyData.depthAll Ds ≤ 2
  | [], _ => ⟨rfl, Nat.zero_le _⟩
  | D :: Ds, f => by
    obtain ⟨h1, h2⟩ := f D (List.mem_cons_self ..)
    obtain ⟨h3, h4⟩ := lays_all (Ds := Ds) fun vs hv => f vs (List.mem_cons_of_mem _ hv)
    refine ⟨?_, ?_⟩
    · show (PyData.canLay0 D && PyData.canLayAll0 Ds) = true
      rw [h1, h3]; rfl
    · show max (PyData.depth D) (PyData.depthAll Ds) ≤ 2
      omega
theorem tupL_flat {e : LeM} (h : flatB (.str e.flat) = true) : (tupL e).all flatD = true := by
  show (flatD (.str e.flat) && (true && (flatD (optV e.last) && (true && true)))) = true
  rw [flat_flat h]
  cases e.last <;> rfl
theorem dLease_lay {m : RoM} {d : Int} {e : LeM} (h : flatB (.str e.flat) = true) {D : PyData} (hD : D ∈ dLease m d e) : PyData.canLay0 D = true ∧ PyData.depth D ≤ 2 := by
  have h1 : PyData.canLay0 (.tuple [.int e.given, .int e.sent]) = true ∧ PyData.depth (.tuple [.int e.given, .int e.sent]) ≤ 2 := ⟨rfl, by show 0 + 1 ≤ 2; decide⟩
  have h2 : PyData.canLay0 (.tuple [datT (tupL e), .int (leOwed e m.gauges d), .int (leWorth e m.rates d)]) = true ∧ PyData.depth (.tuple [datT (tupL e), .int (leOwed e m.gauges d), .int (leWorth e m.rates d)]) ≤ 2 := by
    obtain ⟨q1, q2⟩ := datT_lay (tupL_flat h)
    refine ⟨?_, ?_⟩
    · show (PyData.canLay0 (datT (tupL e)) && (true && (true && true))) = true
      rw [q1]; rfl
    · show max (PyData.depth (datT (tupL e))) (max 0 (max 0 0)) + 1 ≤ 2
      rw [q2]; decide
  unfold dLease at hD
  split at hD
  · rcases List.mem_cons.mp hD with z | z
    · rw [z]; exact h1
    · rw [List.mem_singleton.mp z]; exact h2
  · rcases List.mem_cons.mp hD with z | z
    · rw [z]; exact h2
    · rw [List.mem_singleton.mp z]; exact h1
theorem dAll_lay {m : RoM} {d : Int} (f : FlatLs m.letters) (hm : FlM m) : PyData.canLay0 (dAll m d) = true ∧ PyData.depth (dAll m d) ≤ 64 := by
  have q := lays_all (Ds := PyData.int m.leases.length :: PyData.int m.billed :: datL m.letters :: dLeases m d m.leases.length) fun D hD => by
    rcases List.mem_cons.mp hD with z | hD
    · rw [z]; exact ⟨rfl, Nat.zero_le _⟩
    rcases List.mem_cons.mp hD with z | hD
    · rw [z]; exact ⟨rfl, Nat.zero_le _⟩
    rcases List.mem_cons.mp hD with z | hD
    · rw [z]
      refine ⟨datL_lay f, ?_⟩
      have := (datLs_lay f).2
      show PyData.depthAll (m.letters.map datT) + 1 ≤ 2
      omega
    · unfold dLeases at hD
      obtain ⟨e, he, hD⟩ := List.mem_flatMap.mp hD
      exact dLease_lay (hm e (List.mem_of_mem_take he)) hD
  refine ⟨q.1, ?_⟩
  show PyData.depthAll _ + 1 ≤ 64
  have := q.2
  omega
theorem dAll_shaped {m : RoM} {d : Int} (f : FlatLs m.letters) (hm : FlM m) : SeqAt.shaped (dAll m d) = true := by
  obtain ⟨h1, h2⟩ := dAll_lay (d := d) f hm
  unfold SeqAt.shaped
  rw [h1, decide_eq_true h2]
  rfl
/-- the state of k15's first loop -/
structure S15 (CR CL P : Addr) (H0 H : Hp) (x1 x2 rl t1 t2 bl sl : Addr) (zs : List Int) (fs : Str → Prop) (b : Int) (i : Nat) (a1 a2 : RoA) (m1 m2 : RoM) (ts1 ts2 : List Addr) (l1 l2 : List Lt) : Prop where
  e1 : a1.x = x1
  e2 : a2.x = x2
  W : LawAt CR CL P H0 H [(a1, m1), (a2, m2)] [(rl, .lst [.ref x1, .ref x2]), (t1, .lst (ts1.map V.ref)), (t2, .lst (ts2.map V.ref)), (bl, .lst [.ref t1, .ref t2]), (sl, .lst (zs.map V.int))]
  T1 : TupsAt H ts1 (l1.map Lt.vals)
  T2 : TupsAt H ts2 (l2.map Lt.vals)
  R1 : tellAll newRo l1 = (m1, none)
  R2 : tellAll newRo l2 = (m2, none)
  L1 : m1.letters = l1.map Lt.vals
  L2 : m2.letters = l2.map Lt.vals
  G1 : ∀ L, L ∈ l1 → GoodL fs b (b + 39) 20 L
  G2 : ∀ L, L ∈ l2 → GoodL fs b (b + 39) 20 L
  F1 : FlM m1
  F2 : FlM m2
  B1 : m1.billed ≤ b + 39
  B2 : m2.billed ≤ b + 39
  n1 : m1.letters.length ≤ i
  n2 : m2.letters.length ≤ i
section
variable {CR CL P : Addr} {H0 H H' : Hp} {x1 x2 rl t1 t2 bl sl : Addr} {zs : List Int} {fs : Str → Prop} {b : Int} {i : Nat} {a1 a2 : RoA} {m1 m2 : RoM} {ts1 ts2 : List Addr} {l1 l2 : List Lt}
theorem S15.kept (h : S15 CR CL P H0 H x1 x2 rl t1 t2 bl sl zs fs b i a1 a2 m1 m2 ts1 ts2 l1 l2) (k : Kept P H H') :
    S15 CR CL P H0 H' x1 x2 rl t1 t2 bl sl zs fs b i a1 a2 m1 m2 ts1 ts2 l1 l2 :=
  ⟨h.e1, h.e2, h.W.kept k, h.T1.tups (Tups.kept k), h.T2.tups (Tups.kept k), h.R1, h.R2, h.L1, h.L2, h.G1, h.G2, h.F1, h.F2, h.B1, h.B2, h.n1, h.n2⟩
theorem S15.mv (h : S15 CR CL P H0 H x1 x2 rl t1 t2 bl sl zs fs b i a1 a2 m1 m2 ts1 ts2 l1 l2) (W : LawAt CR CL P H0 H' [(a1, m1), (a2, m2)] [(rl, .lst [.ref x1, .ref x2]), (t1, .lst (ts1.map V.ref)), (t2, .lst (ts2.map V.ref)), (bl, .lst [.ref t1, .ref t2]), (sl, .lst (zs.map V.int))]) (tu : Tups H H') :
    S15 CR CL P H0 H' x1 x2 rl t1 t2 bl sl zs fs b i a1 a2 m1 m2 ts1 ts2 l1 l2 :=
  ⟨h.e1, h.e2, W, h.T1.tups tu, h.T2.tups tu, h.R1, h.R2, h.L1, h.L2, h.G1, h.G2, h.F1, h.F2, h.B1, h.B2, h.n1, h.n2⟩
theorem S15.more (h : S15 CR CL P H0 H x1 x2 rl t1 t2 bl sl zs fs b i a1 a2 m1 m2 ts1 ts2 l1 l2) : S15 CR CL P H0 H x1 x2 rl t1 t2 bl sl zs fs b (i + 1) a1 a2 m1 m2 ts1 ts2 l1 l2 :=
  ⟨h.e1, h.e2, h.W, h.T1, h.T2, h.R1, h.R2, h.L1, h.L2, h.G1, h.G2, h.F1, h.F2, h.B1, h.B2, Nat.le_succ_of_le h.n1, Nat.le_succ_of_le h.n2⟩
theorem S15.fl1 (h : S15 CR CL P H0 H x1 x2 rl t1 t2 bl sl zs fs b i a1 a2 m1 m2 ts1 ts2 l1 l2) (hf : ∀ s, fs s → flatB (.str s) = true) : FlatLs m1.letters := fun vs hv => by
  rw [h.L1] at hv
  obtain ⟨M, hm, rfl⟩ := List.mem_map.mp hv
  exact (h.G1 M hm).flat hf
theorem S15.fl2 (h : S15 CR CL P H0 H x1 x2 rl t1 t2 bl sl zs fs b i a1 a2 m1 m2 ts1 ts2 l1 l2) (hf : ∀ s, fs s → flatB (.str s) = true) : FlatLs m2.letters := fun vs hv => by
  rw [h.L2] at hv
  obtain ⟨M, hm, rfl⟩ := List.mem_map.mp hv
  exact (h.G2 M hm).flat hf
theorem S15.done1 {a' : RoA} {L : Lt} {t : Addr} (h : S15 CR CL P H0 H x1 x2 rl t1 t2 bl sl zs fs b i a1 a2 m1 m2 ts1 ts2 l1 l2) (hG : GoodL fs b (b + 39) 20 L) (ho : L.out m1 = none) (hf : ∀ s, fs s → flatB (.str s) = true) (ex : a'.x = a1.x)
    (W : LawAt CR CL P H0 H' [(a', L.then m1), (a2, m2)] [(rl, .lst [.ref x1, .ref x2]), (t1, .lst ((ts1 ++ [t]).map V.ref)), (t2, .lst (ts2.map V.ref)), (bl, .lst [.ref t1, .ref t2]), (sl, .lst (zs.map V.int))]) (T1 : TupsAt H' ts1 (l1.map Lt.vals)) (T2 : TupsAt H' ts2 (l2.map Lt.vals)) (ht : H' t = some (.tup L.vals)) :
    S15 CR CL P H0 H' x1 x2 rl t1 t2 bl sl zs fs b (i + 1) a' a2 (L.then m1) m2 (ts1 ++ [t]) ts2 (l1 ++ [L]) l2 := by
  refine ⟨ex.trans h.e1, h.e2, W, ?_, T2, tellAll_more h.R1 ho, h.R2, ?_, h.L2, fun M hM => ?_, h.G2, h.F1.then hG hf, h.F2, bil_then h.B1 hG, h.B2, ?_, Nat.le_succ_of_le h.n2⟩
  · rw [List.map_append]; exact TupsAt.append (.cons ht .nil) T1
  · rw [then_letters, h.L1, List.map_append]; rfl
  · rcases List.mem_append.mp hM with q | q
    · exact h.G1 M q
    · rw [List.mem_singleton.mp q]; exact hG
  · rw [then_letters, List.length_append]; exact Nat.succ_le_succ h.n1
theorem S15.done2 {a' : RoA} {L : Lt} {t : Addr} (h : S15 CR CL P H0 H x1 x2 rl t1 t2 bl sl zs fs b i a1 a2 m1 m2 ts1 ts2 l1 l2) (hG : GoodL fs b (b + 39) 20 L) (ho : L.out m2 = none) (hf : ∀ s, fs s → flatB (.str s) = true) (ex : a'.x = a2.x)
    (W : LawAt CR CL P H0 H' [(a1, m1), (a', L.then m2)] [(rl, .lst [.ref x1, .ref x2]), (t1, .lst (ts1.map V.ref)), (t2, .lst ((ts2 ++ [t]).map V.ref)), (bl, .lst [.ref t1, .ref t2]), (sl, .lst (zs.map V.int))]) (T1 : TupsAt H' ts1 (l1.map Lt.vals)) (T2 : TupsAt H' ts2 (l2.map Lt.vals)) (ht : H' t = some (.tup L.vals)) :
    S15 CR CL P H0 H' x1 x2 rl t1 t2 bl sl zs fs b (i + 1) a1 a' m1 (L.then m2) ts1 (ts2 ++ [t]) l1 (l2 ++ [L]) := by
  refine ⟨h.e1, ex.trans h.e2, W, T1, ?_, h.R1, tellAll_more h.R2 ho, h.L1, ?_, h.G1, fun M hM => ?_, h.F1, h.F2.then hG hf, h.B1, bil_then h.B2 hG, Nat.le_succ_of_le h.n1, ?_⟩
  · rw [List.map_append]; exact TupsAt.append (.cons ht .nil) T2
  · rw [then_letters, h.L2, List.map_append]; rfl
  · rcases List.mem_append.mp hM with q | q
    · exact h.G2 M q
    · rw [List.mem_singleton.mp q]; exact hG
  · rw [then_letters, List.length_append]; exact Nat.succ_le_succ h.n2
end
section
variable {P : Program} {w : World} {K : PySem.W.Frag} {mg : Str → Option Value} {base : Heap}
theorem ok_is_whole (T : Txt K mg base) : FnOk P w K mg base (L2.CX P w) 1 T.f_is_whole T.fd_is_whole ["thing"] (sp_is_whole) := by
  refine T.F_is_whole.okX sc_is_whole (fun vs H Q E h => ?_) (fun cdv A outer s H vs Q E hr h => ?_)
  · first | (obtain ⟨_, rfl, _⟩ := h; rfl) | (obtain ⟨_, _, rfl, _⟩ := h; rfl) | (obtain ⟨_, _, _, rfl, _⟩ := h; rfl) | (obtain ⟨_, _, _, _, rfl, _⟩ := h; rfl) | (obtain ⟨_, _, _, _, _, rfl, _⟩ := h; rfl) | (obtain ⟨_, _, _, _, _, _, rfl, _⟩ := h; rfl) | (obtain ⟨_, _, _, _, _, _, _, rfl, _⟩ := h; rfl) | (obtain ⟨_, _, _, _, _, _, _, _, rfl, _⟩ := h; rfl) | (obtain ⟨_, _, _, _, _, _, _, _, _, rfl, _⟩ := h; rfl) | (obtain ⟨_, _, _, _, _, _, _, _, _, _, rfl, _⟩ := h; rfl) | (obtain ⟨_, _, _, _, _, _, _, _, _, _, _, rfl, _⟩ := h; rfl) | (obtain ⟨_, _, _, _, _, _, _, _, _, _, _, _, rfl, _⟩ := h; rfl) | (obtain ⟨_, _, _, _, _, _, _, _, _, _, _, _, _, rfl, _⟩ := h; rfl) | (obtain ⟨_, _, _, _, _, _, _, _, _, _, _, _, _, _, rfl, _⟩ := h; rfl) | (obtain ⟨_, _, _, _, _, _, _, _, _, _, _, _, _, _, _, rfl, _⟩ := h; rfl)
  · refine ⟨_, (pss_one (ps_ret (pe_and (pe_callB (show CallR _ (.builtin "isinstance") (rIsi K) from call_isi) (by rfl) T.n_isinstance (by decide +kernel) (pa_cons (pv 0) (pa_cons (pe_bltn (v := .ty "int") (by rfl) T.n_int (by decide +kernel) rfl) pa_nil))) (pe_one (pe_not (pe_callB (show CallR _ (.builtin "isinstance") (rIsi K) from call_isi) (by rfl) T.n_isinstance (by decide +kernel) (pa_cons (pv 0) (pa_cons (pe_bltn (v := .ty "bool") (by rfl) T.n_bool (by decide +kernel) rfl) pa_nil)))))))), ?_⟩
    obtain ⟨x, rfl, hx, k⟩ := h
    obtain ⟨n, ht, h1, h2⟩ := thing_ty (K := K) hx
    walk_at "go"
    refine ⟨x, .ty "int", _, _, _, rfl, .ty _, ht, kit_ty h1, ?_⟩
    walk_at "go"
    refine g_iteB (fun c => ?_) (fun c => ?_)
    · walk_at "go"
      refine ⟨x, .ty "bool", _, _, _, rfl, .ty _, ht, kit_ty h2, ?_⟩
      refine ⟨_, rfl, ?_⟩
      cases e : isB x with
      | true => rw [isI_not e] at k; exact k
      | false => rw [e, Bool.or_false] at c; rw [c] at k; exact k
    · rw [(Bool.or_eq_false_iff.mp c).1] at k
      exact k
theorem ok_is_within (T : Txt K mg base) : FnOk P w K mg base (L2.CX P w) 2 T.f_is_within T.fd_is_within ["thing", "low", "high"] (sp_is_within) := by
  refine T.F_is_within.okX sc_is_within (fun vs H Q E h => ?_) (fun cdv A outer s H vs Q E hr h => ?_)
  · first | (obtain ⟨_, rfl, _⟩ := h; rfl) | (obtain ⟨_, _, rfl, _⟩ := h; rfl) | (obtain ⟨_, _, _, rfl, _⟩ := h; rfl) | (obtain ⟨_, _, _, _, rfl, _⟩ := h; rfl) | (obtain ⟨_, _, _, _, _, rfl, _⟩ := h; rfl) | (obtain ⟨_, _, _, _, _, _, rfl, _⟩ := h; rfl) | (obtain ⟨_, _, _, _, _, _, _, rfl, _⟩ := h; rfl) | (obtain ⟨_, _, _, _, _, _, _, _, rfl, _⟩ := h; rfl) | (obtain ⟨_, _, _, _, _, _, _, _, _, rfl, _⟩ := h; rfl) | (obtain ⟨_, _, _, _, _, _, _, _, _, _, rfl, _⟩ := h; rfl) | (obtain ⟨_, _, _, _, _, _, _, _, _, _, _, rfl, _⟩ := h; rfl) | (obtain ⟨_, _, _, _, _, _, _, _, _, _, _, _, rfl, _⟩ := h; rfl) | (obtain ⟨_, _, _, _, _, _, _, _, _, _, _, _, _, rfl, _⟩ := h; rfl) | (obtain ⟨_, _, _, _, _, _, _, _, _, _, _, _, _, _, rfl, _⟩ := h; rfl) | (obtain ⟨_, _, _, _, _, _, _, _, _, _, _, _, _, _, _, rfl, _⟩ := h; rfl)
  · refine ⟨_, (pss_one (ps_ret (pe_and (pe_callS (ok_is_whole T) hr (by rfl) T.g_is_whole T.F_is_whole.kp T.b_is_whole (fun σ => passAt (takes_of rfl rfl rfl rfl) σ) (by exact (pa_cons (pv 0) pa_nil))) (pe_one (pe_chain op_le op_le (pv 1) (pv 0) (pv 2)))))), ?_⟩
    obtain ⟨x, lo, hi, rfl, hx, k⟩ := h
    walk_at "go"
    refine ⟨_, rfl, hx, ?_⟩
    walk_at "go"
    cases x with
    | int i =>
      refine g_T ?_
      walk_at "go"
      refine g_ite (fun c => ?_) (fun c => ?_)
      · walk_at "go"
        have e : within (.int i) lo hi = decide (i ≤ hi) := by simp [within, c]
        rw [e] at k
        exact k
      · have e : within (.int i) lo hi = false := by simp [within, c]
        rw [e] at k
        exact k
    | _ => exact g_F k
theorem ok_check_day (T : Txt K mg base) : FnOk P w K mg base (L2.CX P w) 3 T.f_check_day T.fd_check_day ["day"] (sp_check_day T.c_BadDay) := by
  refine T.F_check_day.okX sc_check_day (fun vs H Q E h => ?_) (fun cdv A outer s H vs Q E hr h => ?_)
  · first | (obtain ⟨_, rfl, _⟩ := h; rfl) | (obtain ⟨_, _, rfl, _⟩ := h; rfl) | (obtain ⟨_, _, _, rfl, _⟩ := h; rfl) | (obtain ⟨_, _, _, _, rfl, _⟩ := h; rfl) | (obtain ⟨_, _, _, _, _, rfl, _⟩ := h; rfl) | (obtain ⟨_, _, _, _, _, _, rfl, _⟩ := h; rfl) | (obtain ⟨_, _, _, _, _, _, _, rfl, _⟩ := h; rfl) | (obtain ⟨_, _, _, _, _, _, _, _, rfl, _⟩ := h; rfl) | (obtain ⟨_, _, _, _, _, _, _, _, _, rfl, _⟩ := h; rfl) | (obtain ⟨_, _, _, _, _, _, _, _, _, _, rfl, _⟩ := h; rfl) | (obtain ⟨_, _, _, _, _, _, _, _, _, _, _, rfl, _⟩ := h; rfl) | (obtain ⟨_, _, _, _, _, _, _, _, _, _, _, _, rfl, _⟩ := h; rfl) | (obtain ⟨_, _, _, _, _, _, _, _, _, _, _, _, _, rfl, _⟩ := h; rfl) | (obtain ⟨_, _, _, _, _, _, _, _, _, _, _, _, _, _, rfl, _⟩ := h; rfl) | (obtain ⟨_, _, _, _, _, _, _, _, _, _, _, _, _, _, _, rfl, _⟩ := h; rfl)
  · refine ⟨_, (pss_one (ps_if (pt_not (pt_val (pe_callS (ok_is_within T) hr (by rfl) T.g_is_within T.F_is_within.kp T.b_is_within (fun σ => passAt (takes_of rfl rfl rfl rfl) σ) (by exact (pa_cons (pv 0) (pa_cons pe_int (pa_cons (pe_glob (v := .int 99999) (by rfl) T.g_LAST_DAY ⟨_, rfl⟩) pa_nil)))))))
  (pss_one (ps_raise rfl (takes_of rfl rfl rfl rfl) (pmk_own PySem.F.excBase_ValueError T.x_BadDay T.g_BadDay T.k_BadDay (raises_own T.s_BadDay T.t_BadDay) (by exact rfl))))
  pss_nil)), ?_⟩
    obtain ⟨x, rfl, hx, k1, k2⟩ := h
    walk_at "go"
    refine ⟨_, _, _, rfl, hx, ?_⟩
    walk_at "go"
    refine g_iteNB (fun c => ?_) (fun c => ?_)
    · exact k2 c
    · walk_at "go"
      exact k1 c
theorem ok_is_leap (T : Txt K mg base) : FnOk P w K mg base (L2.CX P w) 1 T.f_is_leap T.fd_is_leap ["year"] (sp_is_leap) := by
  refine T.F_is_leap.okX sc_is_leap (fun vs H Q E h => ?_) (fun cdv A outer s H vs Q E hr h => ?_)
  · first | (obtain ⟨_, rfl, _⟩ := h; rfl) | (obtain ⟨_, _, rfl, _⟩ := h; rfl) | (obtain ⟨_, _, _, rfl, _⟩ := h; rfl) | (obtain ⟨_, _, _, _, rfl, _⟩ := h; rfl) | (obtain ⟨_, _, _, _, _, rfl, _⟩ := h; rfl) | (obtain ⟨_, _, _, _, _, _, rfl, _⟩ := h; rfl) | (obtain ⟨_, _, _, _, _, _, _, rfl, _⟩ := h; rfl) | (obtain ⟨_, _, _, _, _, _, _, _, rfl, _⟩ := h; rfl) | (obtain ⟨_, _, _, _, _, _, _, _, _, rfl, _⟩ := h; rfl) | (obtain ⟨_, _, _, _, _, _, _, _, _, _, rfl, _⟩ := h; rfl) | (obtain ⟨_, _, _, _, _, _, _, _, _, _, _, rfl, _⟩ := h; rfl) | (obtain ⟨_, _, _, _, _, _, _, _, _, _, _, _, rfl, _⟩ := h; rfl) | (obtain ⟨_, _, _, _, _, _, _, _, _, _, _, _, _, rfl, _⟩ := h; rfl) | (obtain ⟨_, _, _, _, _, _, _, _, _, _, _, _, _, _, rfl, _⟩ := h; rfl) | (obtain ⟨_, _, _, _, _, _, _, _, _, _, _, _, _, _, _, rfl, _⟩ := h; rfl)
  · refine ⟨_, (pss_cons (ps_if (pt_cmpR (show OpR _ (compareOp .Eq) (rEqA K) from op_eqA hr.units) (pe_op op_mod (pv 0) pe_int) pe_int (nomark _))
  (pss_one (ps_ret (pe_cmpR (show OpR _ (compareOp .Eq) (rEqA K) from op_eqA hr.units) (pe_op op_mod (pv 0) pe_int) pe_int (nomark _))))
  pss_nil)
  (pss_one (ps_ret (pe_cmpR (show OpR _ (compareOp .Eq) (rEqA K) from op_eqA hr.units) (pe_op op_mod (pv 0) pe_int) pe_int (nomark _))))), ?_⟩
    obtain ⟨y, rfl, k⟩ := h
    walk_at "go"
    refine g_ite (fun c => ?_) (fun c => ?_)
    · walk_at "go"
      have e : leap y = decide (y % 400 = 0) := by simp [leap, c]
      rw [e] at k
      exact k
    · walk_at "go"
      have e : leap y = decide (y % 4 = 0) := by simp [leap, c]
      rw [e] at k
      exact k
theorem ok_length (T : Txt K mg base) : FnOk P w K mg base (L2.CX P w) 2 T.f_length T.fd_length ["year", "month"] (sp_length) := by
  refine T.F_length.okX sc_length (fun vs H Q E h => ?_) (fun cdv A outer s H vs Q E hr h => ?_)
  · first | (obtain ⟨_, rfl, _⟩ := h; rfl) | (obtain ⟨_, _, rfl, _⟩ := h; rfl) | (obtain ⟨_, _, _, rfl, _⟩ := h; rfl) | (obtain ⟨_, _, _, _, rfl, _⟩ := h; rfl) | (obtain ⟨_, _, _, _, _, rfl, _⟩ := h; rfl) | (obtain ⟨_, _, _, _, _, _, rfl, _⟩ := h; rfl) | (obtain ⟨_, _, _, _, _, _, _, rfl, _⟩ := h; rfl) | (obtain ⟨_, _, _, _, _, _, _, _, rfl, _⟩ := h; rfl) | (obtain ⟨_, _, _, _, _, _, _, _, _, rfl, _⟩ := h; rfl) | (obtain ⟨_, _, _, _, _, _, _, _, _, _, rfl, _⟩ := h; rfl) | (obtain ⟨_, _, _, _, _, _, _, _, _, _, _, rfl, _⟩ := h; rfl) | (obtain ⟨_, _, _, _, _, _, _, _, _, _, _, _, rfl, _⟩ := h; rfl) | (obtain ⟨_, _, _, _, _, _, _, _, _, _, _, _, _, rfl, _⟩ := h; rfl) | (obtain ⟨_, _, _, _, _, _, _, _, _, _, _, _, _, _, rfl, _⟩ := h; rfl) | (obtain ⟨_, _, _, _, _, _, _, _, _, _, _, _, _, _, _, rfl, _⟩ := h; rfl)
  · refine ⟨_, (pss_cons (ps_if (PW.pt (pw_and (pt_cmpR (show OpR _ (compareOp .Eq) (rEqA K) from op_eqA hr.units) (pv 1) pe_int (nomark _)) (pw_and1 (pt_val (pe_callS (ok_is_leap T) hr (by rfl) T.g_is_leap T.F_is_leap.kp T.b_is_leap (fun σ => passAt (takes_of rfl rfl rfl rfl) σ) (by exact (pa_cons (pv 0) pa_nil)))))))
  (pss_one (ps_ret pe_int))
  pss_nil)
  (pss_one (ps_ret (pe_ix (show IxR _ (rIx2 K) from ix_lt) (pe_glob (v := .ref T.a_LENGTHS) (by rfl) T.g_LENGTHS rfl) (pe_op op_sub (pv 1) pe_int) (fun _ _ => rfl))))), ?_⟩
    obtain ⟨y, m, rfl, h1, h2, k⟩ := h
    have fin : (m = 2 ∧ leap y = true → Q (.int 29) H) ∧ (¬ (m = 2 ∧ leap y = true) → Q (.int (lens.getD (m - 1).toNat 0)) H) :=
      ⟨fun c => by rw [mlen, if_pos c] at k; exact k, fun c => by rw [mlen, if_neg c] at k; exact k⟩
    walk_at "go"
    have at_ := at_lens h1 h2
    refine g_ite (fun c => ?_) (fun c => ?_)
    · walk_at "go"
      refine ⟨_, rfl, ?_⟩
      walk_at "go"
      refine g_iteB (fun c2 => ?_) (fun c2 => ?_)
      · walk_at "go"
        exact fin.1 ⟨c, c2⟩
      · walk_at "go"
        exact r_ixT (T.q_LENGTHS H) at_ (fin.2 fun z => by rw [c2] at z; exact Bool.false_ne_true z.2)
    · walk_at "go"
      exact r_ixT (T.q_LENGTHS H) at_ (fin.2 fun z => c z.1)
theorem ok_month_days (T : Txt K mg base) : FnOk P w K mg base (L2.CX P w) 3 T.f_month_days T.fd_month_days ["year", "month"] (sp_month_days T.c_BadDay) := by
  refine T.F_month_days.okX sc_month_days (fun vs H Q E h => ?_) (fun cdv A outer s H vs Q E hr h => ?_)
  · first | (obtain ⟨_, rfl, _⟩ := h; rfl) | (obtain ⟨_, _, rfl, _⟩ := h; rfl) | (obtain ⟨_, _, _, rfl, _⟩ := h; rfl) | (obtain ⟨_, _, _, _, rfl, _⟩ := h; rfl) | (obtain ⟨_, _, _, _, _, rfl, _⟩ := h; rfl) | (obtain ⟨_, _, _, _, _, _, rfl, _⟩ := h; rfl) | (obtain ⟨_, _, _, _, _, _, _, rfl, _⟩ := h; rfl) | (obtain ⟨_, _, _, _, _, _, _, _, rfl, _⟩ := h; rfl) | (obtain ⟨_, _, _, _, _, _, _, _, _, rfl, _⟩ := h; rfl) | (obtain ⟨_, _, _, _, _, _, _, _, _, _, rfl, _⟩ := h; rfl) | (obtain ⟨_, _, _, _, _, _, _, _, _, _, _, rfl, _⟩ := h; rfl) | (obtain ⟨_, _, _, _, _, _, _, _, _, _, _, _, rfl, _⟩ := h; rfl) | (obtain ⟨_, _, _, _, _, _, _, _, _, _, _, _, _, rfl, _⟩ := h; rfl) | (obtain ⟨_, _, _, _, _, _, _, _, _, _, _, _, _, _, rfl, _⟩ := h; rfl) | (obtain ⟨_, _, _, _, _, _, _, _, _, _, _, _, _, _, _, rfl, _⟩ := h; rfl)
  · refine ⟨_, (pss_cons (ps_if (pt_not (pt_val (pe_callS (ok_is_within T) hr (by rfl) T.g_is_within T.F_is_within.kp T.b_is_within (fun σ => passAt (takes_of rfl rfl rfl rfl) σ) (by exact (pa_cons (pv 0) (pa_cons (pe_glob (v := .int 2000) (by rfl) T.g_FIRST_YEAR ⟨_, rfl⟩) (pa_cons (pe_glob (v := .int 2273) (by rfl) T.g_LAST_YEAR ⟨_, rfl⟩) pa_nil)))))))
  (pss_one (ps_raise rfl (takes_of rfl rfl rfl rfl) (pmk_own PySem.F.excBase_ValueError T.x_BadDay T.g_BadDay T.k_BadDay (raises_own T.s_BadDay T.t_BadDay) (by exact rfl))))
  pss_nil)
  (pss_cons (ps_if (pt_not (pt_val (pe_callS (ok_is_within T) hr (by rfl) T.g_is_within T.F_is_within.kp T.b_is_within (fun σ => passAt (takes_of rfl rfl rfl rfl) σ) (by exact (pa_cons (pv 1) (pa_cons pe_int (pa_cons pe_int pa_nil)))))))
  (pss_one (ps_raise rfl (takes_of rfl rfl rfl rfl) (pmk_own PySem.F.excBase_ValueError T.x_BadDay T.g_BadDay T.k_BadDay (raises_own T.s_BadDay T.t_BadDay) (by exact rfl))))
  pss_nil)
  (pss_one (ps_ret (pe_callS (ok_length T) hr (by rfl) T.g_length T.F_length.kp T.b_length (fun σ => passAt (takes_of rfl rfl rfl rfl) σ) (by exact (pa_cons (pv 0) (pa_cons (pv 1) pa_nil)))))))), ?_⟩
    obtain ⟨x, y, rfl, hx, hy, k1, k2⟩ := h
    walk_at "go"
    refine ⟨_, _, _, rfl, hx, ?_⟩
    walk_at "go"
    refine g_iteNB (fun c => ?_) (fun c => ?_)
    · exact k2 (by simp [isdate, c])
    · walk_at "go"
      refine ⟨_, _, _, rfl, hy, ?_⟩
      walk_at "go"
      refine g_iteNB (fun c2 => ?_) (fun c2 => ?_)
      · exact k2 (by simp [isdate, c2])
      · cases x with
        | int i =>
          cases y with
          | int m =>
            have b := c2
            simp only [within, Bool.and_eq_true, decide_eq_true_eq] at b
            walk_at "go"
            refine ⟨_, _, rfl, b.1, b.2, ?_⟩
            exact k1 i m rfl rfl (by simp [isdate, c, c2])
          | _ => cases c2
        | _ => cases c
theorem ok_year_start (T : Txt K mg base) : FnOk P w K mg base (L2.CX P w) 1 T.f_year_start T.fd_year_start ["year"] (sp_year_start) := by
  refine T.F_year_start.okX sc_year_start (fun vs H Q E h => ?_) (fun cdv A outer s H vs Q E hr h => ?_)
  · first | (obtain ⟨_, rfl, _⟩ := h; rfl) | (obtain ⟨_, _, rfl, _⟩ := h; rfl) | (obtain ⟨_, _, _, rfl, _⟩ := h; rfl) | (obtain ⟨_, _, _, _, rfl, _⟩ := h; rfl) | (obtain ⟨_, _, _, _, _, rfl, _⟩ := h; rfl) | (obtain ⟨_, _, _, _, _, _, rfl, _⟩ := h; rfl) | (obtain ⟨_, _, _, _, _, _, _, rfl, _⟩ := h; rfl) | (obtain ⟨_, _, _, _, _, _, _, _, rfl, _⟩ := h; rfl) | (obtain ⟨_, _, _, _, _, _, _, _, _, rfl, _⟩ := h; rfl) | (obtain ⟨_, _, _, _, _, _, _, _, _, _, rfl, _⟩ := h; rfl) | (obtain ⟨_, _, _, _, _, _, _, _, _, _, _, rfl, _⟩ := h; rfl) | (obtain ⟨_, _, _, _, _, _, _, _, _, _, _, _, rfl, _⟩ := h; rfl) | (obtain ⟨_, _, _, _, _, _, _, _, _, _, _, _, _, rfl, _⟩ := h; rfl) | (obtain ⟨_, _, _, _, _, _, _, _, _, _, _, _, _, _, rfl, _⟩ := h; rfl) | (obtain ⟨_, _, _, _, _, _, _, _, _, _, _, _, _, _, _, rfl, _⟩ := h; rfl)
  · refine ⟨_, (pss_cons (ps_set (i := 1) sc_year_start.nd rfl (Or.inl rfl) (pe_op op_sub (pv 0) (pe_glob (v := .int 2000) (by rfl) T.g_FIRST_YEAR ⟨_, rfl⟩)))
  (pss_cons (ps_set (i := 2) sc_year_start.nd rfl (Or.inl rfl) (pe_op op_plus (pe_op op_sub (pe_op op_fdiv (pe_op op_plus (pv 1) pe_int) pe_int) (pe_op op_fdiv (pe_op op_plus (pv 1) pe_int) pe_int)) (pe_op op_fdiv (pe_op op_plus (pv 1) pe_int) pe_int)))
  (pss_one (ps_ret (pe_op op_plus (pe_op op_mul pe_int (pv 1)) (pv 2)))))), ?_⟩
    obtain ⟨y, rfl, k⟩ := h
    walk_at "go"
    exact k
theorem ok_month_of (T : Txt K mg base) : FnOk P w K mg base (L2.CX P w) 4 T.f_month_of T.fd_month_of ["day"] (sp_month_of T.c_BadDay) := by
  refine T.F_month_of.okX sc_month_of (fun vs H Q E h => ?_) (fun cdv A outer s H vs Q E hr h => ?_)
  · first | (obtain ⟨_, rfl, _⟩ := h; rfl) | (obtain ⟨_, _, rfl, _⟩ := h; rfl) | (obtain ⟨_, _, _, rfl, _⟩ := h; rfl) | (obtain ⟨_, _, _, _, rfl, _⟩ := h; rfl) | (obtain ⟨_, _, _, _, _, rfl, _⟩ := h; rfl) | (obtain ⟨_, _, _, _, _, _, rfl, _⟩ := h; rfl) | (obtain ⟨_, _, _, _, _, _, _, rfl, _⟩ := h; rfl) | (obtain ⟨_, _, _, _, _, _, _, _, rfl, _⟩ := h; rfl) | (obtain ⟨_, _, _, _, _, _, _, _, _, rfl, _⟩ := h; rfl) | (obtain ⟨_, _, _, _, _, _, _, _, _, _, rfl, _⟩ := h; rfl) | (obtain ⟨_, _, _, _, _, _, _, _, _, _, _, rfl, _⟩ := h; rfl) | (obtain ⟨_, _, _, _, _, _, _, _, _, _, _, _, rfl, _⟩ := h; rfl) | (obtain ⟨_, _, _, _, _, _, _, _, _, _, _, _, _, rfl, _⟩ := h; rfl) | (obtain ⟨_, _, _, _, _, _, _, _, _, _, _, _, _, _, rfl, _⟩ := h; rfl) | (obtain ⟨_, _, _, _, _, _, _, _, _, _, _, _, _, _, _, rfl, _⟩ := h; rfl)
  · refine ⟨_, (pss_cons (ps_expr (pe_callS (ok_check_day T) hr (by rfl) T.g_check_day T.F_check_day.kp T.b_check_day (fun σ => passAt (takes_of rfl rfl rfl rfl) σ) (by exact (pa_cons (pv 0) pa_nil))))
  (pss_cons (ps_set (i := 1) sc_month_of.nd rfl (Or.inl rfl) (pe_op op_plus (pe_glob (v := .int 2000) (by rfl) T.g_FIRST_YEAR ⟨_, rfl⟩) (pe_op op_fdiv (pv 0) (pe_glob (v := .int 366) (by rfl) T.g_LONGEST_YEAR ⟨_, rfl⟩))))
  (pss_cons (ps_while (passes_of rfl) (pt_cmpR op_le (pe_callS (ok_year_start T) (hr.mono (by decide)) (by rfl) T.g_year_start T.F_year_start.kp T.b_year_start (fun σ => passAt (takes_of rfl rfl rfl rfl) σ) (by exact (pa_cons (pe_op op_plus (pv 1) pe_int) pa_nil))) (pv 0) (nomark _))
  (pss_one (ps_aug (i := 1) sc_month_of.nd rfl (Or.inl rfl) pe_int ip_add)))
  (pss_cons (ps_set (i := 2) sc_month_of.nd rfl (Or.inl rfl) (pe_op op_plus (pe_op op_sub (pv 0) (pe_callS (ok_year_start T) (hr.mono (by decide)) (by rfl) T.g_year_start T.F_year_start.kp T.b_year_start (fun σ => passAt (takes_of rfl rfl rfl rfl) σ) (by exact (pa_cons (pv 1) pa_nil)))) pe_int))
  (pss_cons (ps_set (i := 3) sc_month_of.nd rfl (Or.inl rfl) pe_int)
  (pss_cons (ps_while (passes_of rfl) (pt_cmpR op_gt (pv 2) (pe_callS (ok_length T) (hr.mono (by decide)) (by rfl) T.g_length T.F_length.kp T.b_length (fun σ => passAt (takes_of rfl rfl rfl rfl) σ) (by exact (pa_cons (pv 1) (pa_cons (pv 3) pa_nil)))) (nomark _))
  (pss_cons (ps_aug (i := 2) sc_month_of.nd rfl (Or.inl rfl) (pe_callS (ok_length T) (hr.mono (by decide)) (by rfl) T.g_length T.F_length.kp T.b_length (fun σ => passAt (takes_of rfl rfl rfl rfl) σ) (by exact (pa_cons (pv 1) (pa_cons (pv 3) pa_nil)))) ip_sub)
  (pss_one (ps_aug (i := 3) sc_month_of.nd rfl (Or.inl rfl) pe_int ip_add))))
  (pss_one (ps_ret (pe_tup (pa_cons (pv 1) (pa_cons (pv 3) (pa_cons (pv 2) pa_nil)))))))))))), ?_⟩
    obtain ⟨x, rfl, hx, k1, k2⟩ := h
    walk_at "go"
    refine ⟨_, rfl, hx, fun c => ?_, fun c => k2 c⟩
    obtain ⟨i, rfl, h0, h1⟩ := within_int c
    walk_at "go"
    refine g_while (fun n σ' H' => ∃ y, σ' = [some (.int i), some (.int y), none, none] ∧ H = H' ∧ 2000 ≤ y ∧ ystart y ≤ i ∧ n = (3000 - y).toNat) _ ⟨_, rfl, rfl, by omega, ystart_guess h0, rfl⟩ ?_
    rintro n σ' H' ⟨y, rfl, rfl, hy, hs, rfl⟩
    walk_at "go"
    refine ⟨_, rfl, ?_⟩
    walk_at "go"
    refine g_ite (fun c2 => ?_) (fun c2 => ?_)
    · refine ⟨_, fun _ _ h => h, ?_⟩
      walk_at "go"
      have hlt : y + 1 ≤ 2273 := by
        by_cases q : y + 1 ≤ 2273
        · exact q
        · have e := ystart_le (show 2274 ≤ y + 1 by omega)
          have e2 : ystart 2274 = 100077 := by decide
          omega
      exact ⟨_, by omega, y + 1, rfl, rfl, by omega, c2, rfl⟩
    · walk_at "go"
      refine ⟨_, rfl, ?_⟩
      walk_at "go"
      have hn : i < ystart (y + 1) := by omega
      refine g_while (fun n σ' H' => ∃ k m, σ' = [some (.int i), some (.int y), some (.int k), some (.int m)] ∧ H = H' ∧ 1 ≤ m ∧ m ≤ 12 ∧ 1 ≤ k ∧ i = ystart y + mstart y m + k - 1 ∧ n = (13 - m).toNat) _
        ⟨_, _, rfl, rfl, by omega, by omega, by omega, by rw [mstart_one]; omega, rfl⟩ ?_
      rintro n σ' H' ⟨k, m, rfl, rfl, hm1, hm2, hk, he, rfl⟩
      walk_at "go"
      refine ⟨_, _, rfl, hm1, hm2, ?_⟩
      walk_at "go"
      have es := mstart_succ (y := y) hm1 hm2
      refine g_ite (fun c3 => ?_) (fun c3 => ?_)
      · refine ⟨_, fun _ _ h => h, ?_⟩
        have hlt : m < 12 := by
          by_cases q : m < 12
          · exact q
          · have e : m = 12 := by omega
            subst e
            have e1 := mstart_end y
            have e2 := ystart_succ y
            omega
        walk_at "go"
        refine ⟨_, _, rfl, hm1, hm2, ?_⟩
        walk_at "go"
        exact ⟨_, by omega, _, _, rfl, rfl, by omega, by omega, by omega, by rw [es]; omega, rfl⟩
      · walk_at "go"
        refine ⟨by walk_at "sz", fun p hp => ?_⟩
        exact k1 i y m k rfl h0 h1 ⟨hy, hm1, hm2, hk, by omega, he⟩ p hp
theorem ok_is_flat (T : Txt K mg base) : FnOk P w K mg base (L2.CX P w) 1 T.f_is_flat T.fd_is_flat ["thing"] (sp_is_flat T.P_is_flat) := by
  refine T.C_is_flat.okX sc_is_flat (fun vs H Q E h => ?_) (fun A outer s H vs Q E hr h => ?_)
  · first | (obtain ⟨_, rfl, _⟩ := h; rfl) | (obtain ⟨_, _, rfl, _⟩ := h; rfl) | (obtain ⟨_, _, _, rfl, _⟩ := h; rfl) | (obtain ⟨_, _, _, _, rfl, _⟩ := h; rfl) | (obtain ⟨_, _, _, _, _, rfl, _⟩ := h; rfl) | (obtain ⟨_, _, _, _, _, _, rfl, _⟩ := h; rfl) | (obtain ⟨_, _, _, _, _, _, _, rfl, _⟩ := h; rfl) | (obtain ⟨_, _, _, _, _, _, _, _, rfl, _⟩ := h; rfl) | (obtain ⟨_, _, _, _, _, _, _, _, _, rfl, _⟩ := h; rfl) | (obtain ⟨_, _, _, _, _, _, _, _, _, _, rfl, _⟩ := h; rfl) | (obtain ⟨_, _, _, _, _, _, _, _, _, _, _, rfl, _⟩ := h; rfl) | (obtain ⟨_, _, _, _, _, _, _, _, _, _, _, _, rfl, _⟩ := h; rfl) | (obtain ⟨_, _, _, _, _, _, _, _, _, _, _, _, _, rfl, _⟩ := h; rfl) | (obtain ⟨_, _, _, _, _, _, _, _, _, _, _, _, _, _, rfl, _⟩ := h; rfl) | (obtain ⟨_, _, _, _, _, _, _, _, _, _, _, _, _, _, _, rfl, _⟩ := h; rfl)
  · refine ⟨_, (pss_cons (ps_if (PW.pt (pw_or (pt_not (pt_val (pe_callB (show CallR _ (.builtin "isinstance") (rIsi K) from call_isi) (by rfl) T.n_isinstance (by decide +kernel) (pa_cons (pv 0) (pa_cons (pe_bltn (v := .ty "str") (by rfl) T.n_str (by decide +kernel) rfl) pa_nil))))) (pw_or1 (pt_not (pt_chain op_le op_le pe_int (pe_callB call_len_str (by rfl) T.n_len (by decide +kernel) (pa_cons (pv 0) pa_nil)) (pe_glob (v := .int 8) (by rfl) T.g_LONGEST_FLAT ⟨_, rfl⟩))))))
  (pss_one (ps_ret pe_bl))
  pss_nil)
  (pss_one (ps_ret (GxR.pe_allS hr (by rfl) T.n_all (by decide +kernel) T.tb_is_flat rfl ⟨rfl, rfl, by decide +kernel, rfl, rfl, gen_free (by decide +kernel)⟩ (pv 0) (elt_small rfl rfl) (fun _ => rfl))))), ?_⟩
    obtain ⟨x, rfl, ⟨hx, hz⟩, hT, k⟩ := h
    obtain ⟨n, ht, h1⟩ := thing_str (K := K) hx
    walk_at "gos"
    refine g_ifB (!flatL x) (fun Q' q => ?_) (fun c => ?_) (fun c => ?_)
    · walk_at "go"
      refine ⟨x, .ty "str", _, _, _, rfl, .ty _, ht, kit_ty h1, ?_⟩
      walk_at "go"
      cases x with
      | str s' =>
        refine g_F ?_
        walk_at "go"
        refine ⟨_, rfl, hz _ rfl, ?_⟩
        walk_at "go"
        unfold flatL at q
        dsimp only at q
        refine g_ite (fun c1 => ?_) (fun c1 => ?_)
        · walk_at "go"
          rw [decide_eq_true c1, Bool.true_and] at q
          exact q
        · walk_at "go"
          rw [decide_eq_false c1, Bool.false_and] at q
          exact q
      | _ => exact q
    · walk_at "go"
      have e : flatL x = false := by simpa using c
      have e2 : flatB x = false := by
        cases x <;> first | rfl | (unfold flatL at e; unfold flatB; dsimp only at e ⊢; rw [e]; rfl)
      have k' := k _ (Kept.refl _ _)
      rw [e2] at k'
      exact k'
    · have e : flatL x = true := by simpa using c
      cases x with
      | str s' =>
        walk_at "go"
        refine ⟨s', rfl, hT, fun H2 t => ?_⟩
        have k' := k _ (Kept.tabbed hT t)
        have e2 : flatB (.str s') = s'.cps.toList.all signP := by
          unfold flatL at e
          unfold flatB
          dsimp only at e ⊢
          rw [e, Bool.true_and]
        rw [e2] at k'
        exact k'
      | _ => cases e
theorem ok_check_flat (T : Txt K mg base) : FnOk P w K mg base (L2.CX P w) 2 T.f_check_flat T.fd_check_flat ["flat"] (sp_check_flat T.P_is_flat T.c_BadFlat) := by
  refine T.F_check_flat.okX sc_check_flat (fun vs H Q E h => ?_) (fun cdv A outer s H vs Q E hr h => ?_)
  · first | (obtain ⟨_, rfl, _⟩ := h; rfl) | (obtain ⟨_, _, rfl, _⟩ := h; rfl) | (obtain ⟨_, _, _, rfl, _⟩ := h; rfl) | (obtain ⟨_, _, _, _, rfl, _⟩ := h; rfl) | (obtain ⟨_, _, _, _, _, rfl, _⟩ := h; rfl) | (obtain ⟨_, _, _, _, _, _, rfl, _⟩ := h; rfl) | (obtain ⟨_, _, _, _, _, _, _, rfl, _⟩ := h; rfl) | (obtain ⟨_, _, _, _, _, _, _, _, rfl, _⟩ := h; rfl) | (obtain ⟨_, _, _, _, _, _, _, _, _, rfl, _⟩ := h; rfl) | (obtain ⟨_, _, _, _, _, _, _, _, _, _, rfl, _⟩ := h; rfl) | (obtain ⟨_, _, _, _, _, _, _, _, _, _, _, rfl, _⟩ := h; rfl) | (obtain ⟨_, _, _, _, _, _, _, _, _, _, _, _, rfl, _⟩ := h; rfl) | (obtain ⟨_, _, _, _, _, _, _, _, _, _, _, _, _, rfl, _⟩ := h; rfl) | (obtain ⟨_, _, _, _, _, _, _, _, _, _, _, _, _, _, rfl, _⟩ := h; rfl) | (obtain ⟨_, _, _, _, _, _, _, _, _, _, _, _, _, _, _, rfl, _⟩ := h; rfl)
  · refine ⟨_, (pss_one (ps_if (pt_not (pt_val (pe_callS (ok_is_flat T) hr (by rfl) T.g_is_flat T.F_is_flat.kp T.b_is_flat (fun σ => passAt (takes_of rfl rfl rfl rfl) σ) (by exact (pa_cons (pv 0) pa_nil)))))
  (pss_one (ps_raise rfl (takes_of rfl rfl rfl rfl) (pmk_own PySem.F.excBase_ValueError T.x_BadFlat T.g_BadFlat T.k_BadFlat (raises_own T.s_BadFlat T.t_BadFlat) (by exact rfl))))
  pss_nil)), ?_⟩
    obtain ⟨x, rfl, hx, hT, k1, k2⟩ := h
    walk_at "go"
    refine ⟨_, rfl, hx, hT, fun H' e => ?_⟩
    walk_at "go"
    refine g_iteNB (fun c => ?_) (fun c => ?_)
    · exact k2 c _ e
    · walk_at "go"
      exact k1 c _ e
theorem ok_check_amount (T : Txt K mg base) : FnOk P w K mg base (L2.CX P w) 3 T.f_check_amount T.fd_check_amount ["amount", "low", "high"] (sp_check_amount T.c_BadAmount) := by
  refine T.F_check_amount.okX sc_check_amount (fun vs H Q E h => ?_) (fun cdv A outer s H vs Q E hr h => ?_)
  · first | (obtain ⟨_, rfl, _⟩ := h; rfl) | (obtain ⟨_, _, rfl, _⟩ := h; rfl) | (obtain ⟨_, _, _, rfl, _⟩ := h; rfl) | (obtain ⟨_, _, _, _, rfl, _⟩ := h; rfl) | (obtain ⟨_, _, _, _, _, rfl, _⟩ := h; rfl) | (obtain ⟨_, _, _, _, _, _, rfl, _⟩ := h; rfl) | (obtain ⟨_, _, _, _, _, _, _, rfl, _⟩ := h; rfl) | (obtain ⟨_, _, _, _, _, _, _, _, rfl, _⟩ := h; rfl) | (obtain ⟨_, _, _, _, _, _, _, _, _, rfl, _⟩ := h; rfl) | (obtain ⟨_, _, _, _, _, _, _, _, _, _, rfl, _⟩ := h; rfl) | (obtain ⟨_, _, _, _, _, _, _, _, _, _, _, rfl, _⟩ := h; rfl) | (obtain ⟨_, _, _, _, _, _, _, _, _, _, _, _, rfl, _⟩ := h; rfl) | (obtain ⟨_, _, _, _, _, _, _, _, _, _, _, _, _, rfl, _⟩ := h; rfl) | (obtain ⟨_, _, _, _, _, _, _, _, _, _, _, _, _, _, rfl, _⟩ := h; rfl) | (obtain ⟨_, _, _, _, _, _, _, _, _, _, _, _, _, _, _, rfl, _⟩ := h; rfl)
  · refine ⟨_, (pss_one (ps_if (pt_not (pt_val (pe_callS (ok_is_within T) hr (by rfl) T.g_is_within T.F_is_within.kp T.b_is_within (fun σ => passAt (takes_of rfl rfl rfl rfl) σ) (by exact (pa_cons (pv 0) (pa_cons (pv 1) (pa_cons (pv 2) pa_nil)))))))
  (pss_one (ps_raise rfl (takes_of rfl rfl rfl rfl) (SkE.pmk_own1 PySem.F.excBase_ValueError T.x_BadAmount T.g_BadAmount T.k_BadAmount (raises_own T.s_BadAmount T.t_BadAmount) (by exact rfl) (pe_joined (.cons pe_str (.cons (pe_fmt (pv 1)) (.cons pe_str (.cons (pe_fmt (pv 2)) .nil))))))))
  pss_nil)), ?_⟩
    obtain ⟨x, lo, hi, rfl, hx, hlo, hhi, k1, k2⟩ := h
    walk_at "go"
    refine ⟨_, _, _, rfl, hx, ?_⟩
    walk_at "go"
    refine g_iteNB (fun c => ?_) (fun c => ?_)
    · rcases hlo with rfl | rfl <;> rcases hhi with rfl | rfl | rfl
      all_goals
        walk_at "go"
        refine ⟨_, rfl, by walk_at "sz", ?_⟩
        walk_at "go"
        refine .inr ⟨_, rfl, by decide, _, rfl, by walk_at "sz", ?_⟩
        walk_at "go"
        refine ⟨_, rfl, by walk_at "sz", ?_⟩
        walk_at "go"
        refine .inr ⟨_, rfl, by decide, _, rfl, by walk_at "sz", ?_⟩
        walk_at "go"
        exact k2 c
    · walk_at "go"
      exact k1 c
theorem ok_in_order (T : Txt K mg base) : FnOk P w K mg base (L2.CX P w) 1 T.f_in_order T.fd_in_order ["terms"] (sp_in_order K) := by
  refine T.F_in_order.okX sc_in_order (fun vs H Q E h => ?_) (fun cdv A outer s H vs Q E hr h => ?_)
  · first | (obtain ⟨_, rfl, _⟩ := h; rfl) | (obtain ⟨_, _, rfl, _⟩ := h; rfl) | (obtain ⟨_, _, _, rfl, _⟩ := h; rfl) | (obtain ⟨_, _, _, _, rfl, _⟩ := h; rfl) | (obtain ⟨_, _, _, _, _, rfl, _⟩ := h; rfl) | (obtain ⟨_, _, _, _, _, _, rfl, _⟩ := h; rfl) | (obtain ⟨_, _, _, _, _, _, _, rfl, _⟩ := h; rfl) | (obtain ⟨_, _, _, _, _, _, _, _, rfl, _⟩ := h; rfl) | (obtain ⟨_, _, _, _, _, _, _, _, _, rfl, _⟩ := h; rfl) | (obtain ⟨_, _, _, _, _, _, _, _, _, _, rfl, _⟩ := h; rfl) | (obtain ⟨_, _, _, _, _, _, _, _, _, _, _, rfl, _⟩ := h; rfl) | (obtain ⟨_, _, _, _, _, _, _, _, _, _, _, _, rfl, _⟩ := h; rfl) | (obtain ⟨_, _, _, _, _, _, _, _, _, _, _, _, _, rfl, _⟩ := h; rfl) | (obtain ⟨_, _, _, _, _, _, _, _, _, _, _, _, _, _, rfl, _⟩ := h; rfl) | (obtain ⟨_, _, _, _, _, _, _, _, _, _, _, _, _, _, _, rfl, _⟩ := h; rfl)
  · refine ⟨_, (pss_cons (ps_set (i := 1) sc_in_order.nd rfl (Or.inl rfl) pe_dnewK)
  (pss_cons (ps_for (passes_of rfl) rfl (show PI _ _ _ (iLT K _) from pi_lt (pv 0)) (pg_tup rfl (pgs_cons (pg_name (i := 2) sc_in_order.nd rfl (Or.inl rfl)) (pgs_cons (pg_name (i := 3) sc_in_order.nd rfl (Or.inl rfl)) pgs_nil)))
  (pss_one (ps_dput (hu_of hr) (pv 1) (pv 2) (pv 3) rfl)))
  (pss_one (ps_ret (pe_callB (cr_sortedItK rfl) (by rfl) T.n_sorted (by decide +kernel) (pa_cons (pe_bm0 PySem.F.plainAttrs_dict PySem.F.slot_dict_items PySem.F.type_dict_items mt_itemsK (pv 1)) pa_nil)))))), ?_⟩
    obtain ⟨l, as, ps, rfl, hR, hn, k⟩ := h
    have hlen := hR.2.len
    walk_at "go"
    intro d hd
    walk_at "go"
    have s0 : Same H (upd H d (.dK [])) := same_new hd
    refine g_forQ (a := l) (xs := as.map V.ref) (fun i σ' H' => ∃ v1 v2, σ' = [some (.ref l), some (.ref d), v1, v2] ∧ Same H H' ∧ (∀ b, b ≠ d → H b = none → H' b = none) ∧ H' d = some (.dK ((dlast (ps.take i)).map entI))) (fun Q' q => by walk_at "go"; exact q) hR.1 ⟨none, none, rfl, s0, fun b hb e => by rw [upd_ne hb]; exact e, upd_same⟩
      (fun i σ' H' ⟨_, _, _, e, _⟩ => e) ?_ ?_
    · rintro i x σ' H' hx ⟨v1, v2, rfl, sm, hf, hd'⟩
      have hi : i < as.length := by
        have q := (List.getElem?_eq_some_iff.mp hx).1
        rw [List.length_map] at q
        exact q
      obtain ⟨a, p, h1, h2, h3⟩ := (hR.same sm).get (i := i) (by omega)
      have ex : x = .ref a := by
        rw [List.getElem?_map, h1] at hx
        exact (Option.some.inj hx).symm
      subst ex
      refine g_gtup h3 rfl ?_
      walk_at "go"
      refine ⟨d, _, rfl, DPut.k (k := Sum.inl p.1) hd' ?_, ?_⟩
      · have := dlast_len ps i
        rw [List.length_map]
        exact Nat.lt_of_le_of_lt this (Nat.lt_of_lt_of_le (show i < 10001 by omega) (by decide))
      · walk_at "go"
        refine ⟨_, _, rfl, same_mut sm hd, fun b hb e => by rw [upd_ne hb]; exact hf b hb e, ?_⟩
        rw [upd_same, putK_int, dlast_take h2]
    · rintro σ' H' ⟨v1, v2, rfl, sm, hf, hd'⟩
      walk_at "go"
      refine ⟨.inr (.inr (.inl ⟨rfl, .inl ⟨_, hd'⟩⟩)), ?_⟩
      refine ⟨d, _, rfl, rfl, hd', fun p hp => ?_⟩
      walk_at "go"
      have npd : d ≠ p := fun e => by rw [e, hp] at hd'; cases hd'
      refine ⟨p, d, _, rfl, upd_same, (upd_ne npd).trans hd', fun H2 l' ts qs s2 hl0 hperm hsort hl' hP => ?_⟩
      have s3 := sm.trans ((same_new hp).trans s2)
      rw [List.length_map, hlen, dlast_all] at hperm
      have hnd : (qs.map (·.1)).Nodup := by
        have e := dlast_nodup ps ps.length
        rw [dlast_all] at e
        exact (hperm.map (·.1)).nodup_iff.mpr e
      refine k H2 l' ts qs s3 ((sm.trans (same_new hp)).free hl0) hl' (prs_of hP) ⟨?_, fun x => by rw [List.mem_reverse]; exact hperm.mem_iff⟩ (by rw [hperm.length_eq, ← dlast_all]; exact dlast_len ps _)
      rw [List.pairwise_reverse]
      have h4 : qs.Pairwise (fun x y => x.1 ≠ y.1) := List.pairwise_map.mp hnd
      exact (hsort.and h4).imp (fun {x y} h => by omega)
theorem ok_spans (T : Txt K mg base) : FnOk P w K mg base (L2.CX P w) 2 T.f_spans T.fd_spans ["terms", "first", "last"] (sp_spans K) := by
  refine T.F_spans.okX sc_spans (fun vs H Q E h => ?_) (fun cdv A outer s H vs Q E hr h => ?_)
  · first | (obtain ⟨_, rfl, _⟩ := h; rfl) | (obtain ⟨_, _, rfl, _⟩ := h; rfl) | (obtain ⟨_, _, _, rfl, _⟩ := h; rfl) | (obtain ⟨_, _, _, _, rfl, _⟩ := h; rfl) | (obtain ⟨_, _, _, _, _, rfl, _⟩ := h; rfl) | (obtain ⟨_, _, _, _, _, _, rfl, _⟩ := h; rfl) | (obtain ⟨_, _, _, _, _, _, _, rfl, _⟩ := h; rfl) | (obtain ⟨_, _, _, _, _, _, _, _, rfl, _⟩ := h; rfl) | (obtain ⟨_, _, _, _, _, _, _, _, _, rfl, _⟩ := h; rfl) | (obtain ⟨_, _, _, _, _, _, _, _, _, _, rfl, _⟩ := h; rfl) | (obtain ⟨_, _, _, _, _, _, _, _, _, _, _, rfl, _⟩ := h; rfl) | (obtain ⟨_, _, _, _, _, _, _, _, _, _, _, _, rfl, _⟩ := h; rfl) | (obtain ⟨_, _, _, _, _, _, _, _, _, _, _, _, _, rfl, _⟩ := h; rfl) | (obtain ⟨_, _, _, _, _, _, _, _, _, _, _, _, _, _, rfl, _⟩ := h; rfl) | (obtain ⟨_, _, _, _, _, _, _, _, _, _, _, _, _, _, _, rfl, _⟩ := h; rfl)
  · refine ⟨_, (pss_cons (ps_set (i := 3) sc_spans.nd rfl (Or.inl rfl) (pe_lst pa_nil))
  (pss_cons (ps_set (i := 4) sc_spans.nd rfl (Or.inl rfl) (pv 2))
  (pss_cons (ps_for (passes_of rfl) rfl (pi_reversed (by rfl) T.n_reversed (pa_cons (pe_callS (ok_in_order T) hr (by rfl) T.g_in_order T.F_in_order.kp T.b_in_order (fun σ => passAt (takes_of rfl rfl rfl rfl) σ) (by exact (pa_cons (pv 0) pa_nil))) pa_nil)) (pg_name (i := 5) sc_spans.nd rfl (Or.inl rfl))
  (pss_cons (ps_set (i := 6) sc_spans.nd rfl (Or.inl rfl) (pe_callB (call_max2 rfl) (by rfl) T.n_max (by decide +kernel) (pa_cons (pe_ix (show IxR _ (rIx2 K) from ix_lt) (pv 5) pe_int (fun _ _ => rfl)) (pa_cons (pv 1) pa_nil))))
  (pss_one (ps_if (pt_cmpR op_le (pv 6) (pv 4) (nomark _))
  (pss_cons (ps_expr (pe_bm PySem.F.plainAttrs_list PySem.F.slot_list_append PySem.F.type_list_append mt_append (pv 3) (pa_cons (pe_tup (pa_cons (pv 6) (pa_cons (pv 4) (pa_cons (pv 5) pa_nil)))) pa_nil)))
  (pss_one (ps_set (i := 4) sc_spans.nd rfl (Or.inl rfl) (pe_op op_sub (pv 6) pe_int))))
  pss_nil))))
  (pss_one (ps_ret (pe_revL (pv 3))))))), ?_⟩
    obtain ⟨l, as, ps, f, e, rfl, hR, hn, k⟩ := h
    walk_at "go"
    refine ⟨by walk_at "sz", fun l0 hl0 => ?_⟩
    walk_at "go"
    have s0 : Same H (upd H l0 (.lst [])) := same_new hl0
    refine g_forRv (g_iRev ?_)
    walk_at "go"
    refine ⟨l, as, ps, rfl, hR.same s0, hn, fun H2 l2 ts qs s2 hl20 hl2 hP hD hql => ?_⟩
    walk_at "go"
    refine ⟨l2, ts.map V.ref, rfl, SqL.of hl2, ?_⟩
    have hlen := hP.len
    have hds := hD.fall
    -- behind i pairs: their spans stand in found, the rest goes on with the end as it is
    refine rev_of (fun i σ' H' => ∃ v1 v2 cs ss e', σ' = [some (.ref l), some (.int f), some (.int e), some (.ref l0), some (.int e'), v1, v2] ∧ Same H H' ∧ H' l2 = some (.lst (ts.map V.ref)) ∧ Prs K H' ts qs ∧ H' l0 = some (.lst (cs.map V.ref)) ∧ Sps K H' cs ss ∧ ss.length ≤ i ∧ spanR qs.reverse f e = ss ++ spanR (qs.reverse.drop i) f e')
      ⟨_, _, [], [], e, rfl, s0.trans s2, hl2, hP, s2 _ _ upd_same, .nil, Nat.le_refl _, rfl⟩ (fun i σ' H' ⟨_, _, _, _, _, _, _, q, _⟩ => SqL.of q) ?_ ?_
    · rintro i x σ' H' hi hx ⟨v1, v2, cs, ss, e', rfl, sm, hq, hP', hl', hS, hn', he⟩
      have hi2 : i < ts.length := by rw [List.length_map] at hi; exact hi
      obtain ⟨p, hp⟩ : ∃ p, qs[qs.length - 1 - i]? = some p := ⟨_, List.getElem?_eq_getElem (by omega)⟩
      obtain ⟨a, h1, h2⟩ := hP'.get hp
      have ex : x = .ref a := by
        rw [List.length_map, List.getElem?_map, hlen, h1] at hx
        exact (Option.some.inj hx).symm
      subst ex
      have hrev : qs.reverse[i]? = some p := by
        rw [List.getElem?_reverse (by omega)]
        exact hp
      have hdrop : qs.reverse.drop i = p :: qs.reverse.drop (i + 1) := by
        obtain ⟨hh, e3⟩ := List.getElem?_eq_some_iff.mp hrev
        rw [← e3]
        exact List.drop_eq_getElem_cons hh
      rw [hdrop, spanR] at he
      walk_at "go"
      refine r_ixT h2 at0 ?_
      walk_at "go"
      refine ⟨_, _, rfl, ?_⟩
      walk_at "go"
      have em : (if f > p.1 then f else p.1) = mx p.1 f := rfl
      rw [em]
      refine g_ite (fun c => ?_) (fun c => ?_)
      · rw [if_pos c] at he
        walk_at "go"
        refine ⟨.inl ⟨rfl, _, SqL.of hl'⟩, ?_⟩
        walk_at "go"
        refine ⟨by walk_at "sz", fun t ht => ?_⟩
        walk_at "go"
        have hlc := hS.len
        refine ⟨l0, _, _, rfl, rfl, (same_new ht) _ _ hl', ?_, ?_⟩
        · rw [List.length_map]
          exact Nat.lt_of_lt_of_le (show cs.length < 10001 by omega) (by decide)
        · walk_at "go"
          have ntl : t ≠ l0 := fun e => by rw [e, hl'] at ht; cases ht
          have nl2 : l0 ≠ l2 := fun e => by rw [← e, upd_same] at hl20; cases hl20
          have hl3 := (same_new (o := .tup [.int (mx p.1 f), .int e', .ref a]) ht) _ _ hl'
          refine ⟨_, _, cs ++ [t], ss ++ [(mx p.1 f, e', p)], mx p.1 f - 1, rfl, same_mut (sm.trans (same_new ht)) hl0, (upd_ne nl2.symm).trans ((same_new ht) _ _ hq), (hP'.same (same_new ht)).mut hl3, ?_, ?_, ?_, ?_⟩
          · rw [upd_same, List.map_append]
            rfl
          · exact Sps.append (qs := [(mx p.1 f, e', p)]) (.cons (SqT.of ((upd_ne ntl).trans upd_same)) (sqT_mut hl3 (same_sqT (same_new ht) h2)) .nil) ((hS.same (same_new ht)).mut hl3)
          · rw [List.length_append]
            exact Nat.add_le_add_right hn' 1
          · rw [he, List.append_assoc]
            rfl
      · rw [if_neg c] at he
        walk_at "go"
        exact ⟨_, _, cs, ss, e', rfl, sm, hq, hP', hl', hS, by omega, he⟩
    · rintro σ' H' ⟨v1, v2, cs, ss, e', rfl, sm, hq, hP', hl', hS, hn', he⟩
      walk_at "go"
      refine ⟨l0, _, rfl, SqL.of hl', fun l' hn0 => ?_⟩
      rw [← List.map_reverse]
      have e4 : spanR qs.reverse f e = ss := by
        rw [he, List.drop_eq_nil_of_le (by rw [List.length_reverse, List.length_map]; omega)]
        exact List.append_nil _
      refine k _ l' cs.reverse qs.reverse (sm.trans (same_new hn0)) (sm.free hn0) upd_same hD ?_
      rw [e4]
      exact (hS.same (same_new hn0)).rev
theorem ok_balance (T : Txt K mg base) : FnOk P w K mg base (L2.CX P w) 1 T.f_balance T.fd_balance ["moves", "day"] (sp_balance K) := by
  refine T.F_balance.okX sc_balance (fun vs H Q E h => ?_) (fun cdv A outer s H vs Q E hr h => ?_)
  · first | (obtain ⟨_, rfl, _⟩ := h; rfl) | (obtain ⟨_, _, rfl, _⟩ := h; rfl) | (obtain ⟨_, _, _, rfl, _⟩ := h; rfl) | (obtain ⟨_, _, _, _, rfl, _⟩ := h; rfl) | (obtain ⟨_, _, _, _, _, rfl, _⟩ := h; rfl) | (obtain ⟨_, _, _, _, _, _, rfl, _⟩ := h; rfl) | (obtain ⟨_, _, _, _, _, _, _, rfl, _⟩ := h; rfl) | (obtain ⟨_, _, _, _, _, _, _, _, rfl, _⟩ := h; rfl) | (obtain ⟨_, _, _, _, _, _, _, _, _, rfl, _⟩ := h; rfl) | (obtain ⟨_, _, _, _, _, _, _, _, _, _, rfl, _⟩ := h; rfl) | (obtain ⟨_, _, _, _, _, _, _, _, _, _, _, rfl, _⟩ := h; rfl) | (obtain ⟨_, _, _, _, _, _, _, _, _, _, _, _, rfl, _⟩ := h; rfl) | (obtain ⟨_, _, _, _, _, _, _, _, _, _, _, _, _, rfl, _⟩ := h; rfl) | (obtain ⟨_, _, _, _, _, _, _, _, _, _, _, _, _, _, rfl, _⟩ := h; rfl) | (obtain ⟨_, _, _, _, _, _, _, _, _, _, _, _, _, _, _, rfl, _⟩ := h; rfl)
  · refine ⟨_, (pss_one (ps_ret (pe_callB (show CallR _ (.builtin "sum") (rSum K) from cr_sum rfl) (by rfl) T.n_sum (by decide +kernel) (pa_cons (pe_lc (own := [("at", 2), ("cents", 3)]) (g := gTup K 2 (gCons (gName 2) (gCons (gName 3) gNil))) (by rfl) sc_balance.nd (show PI _ _ _ (iLT K _) from pi_lt (pv 0)) (blkOk_by (own := [("at", 2), ("cents", 3)]) (N := ["moves", "day", "at", "cents"]) (sc := defScope s_balance) (by decide +kernel)) (fun _ _ _ _ _ => (pg_tup rfl (pgs_cons (pg_name (i := 2) sc_balance.nd rfl (Or.inl rfl)) (pgs_cons (pg_name (i := 3) sc_balance.nd rfl (Or.inl rfl)) pgs_nil)))) (fun _ _ _ _ _ => pts_one (pt_cmpR op_le (pv 2) (pv 1) (nomark _))) (fun _ _ _ _ _ => (pv 3))) pa_nil)))), ?_⟩
    obtain ⟨l, as, ms, d, rfl, hR, hn, k⟩ := h
    have hlen := hR.2.len
    walk_at "go"
    refine lc_Q (a := l) (xs := as.map V.ref) (balAcc ms d) (fun Q' q => by walk_at "go"; exact q) hR.1 rfl ?_ ?_
    · rintro D i x H' hD hx m
      have hi : i < as.length := by
        have q := (List.getElem?_eq_some_iff.mp hx).1
        rw [List.length_map] at q
        exact q
      obtain ⟨a, p, h1, h2, h3⟩ := (hR.same m.1).get (i := i) (by omega)
      have ex : x = .ref a := by
        rw [List.getElem?_map, h1] at hx
        exact (Option.some.inj hx).symm
      subst ex
      have ea : balAcc ms d (i + 1) = balAcc ms d i ++ (if p.1 ≤ d then [V.int p.2] else []) := by
        unfold balAcc
        rw [List.take_add_one, h2, List.filter_append, List.map_append, List.map_append]
        by_cases c : p.1 ≤ d
        · rw [if_pos c, Option.toList_some, List.filter_cons_of_pos (by simpa using c)]; rfl
        · rw [if_neg c, Option.toList_some, List.filter_cons_of_neg (by simpa using c)]; rfl
      have hz : (balAcc ms d i).length < sizeLine := by
        unfold balAcc
        rw [List.length_map, List.length_map]
        exact Nat.lt_of_le_of_lt (Nat.le_trans (List.length_filter_le _ _) (by rw [List.length_take]; exact Nat.min_le_right _ _)) (Nat.lt_of_lt_of_le (show ms.length < 10001 by omega) (by decide))
      refine g_gtup h3 rfl ?_
      walk_at "go"
      refine ⟨rfl, ?_⟩
      walk_at "go"
      refine g_ite (fun c => ?_) (fun c => ?_)
      · walk_at "go"
        rw [if_pos c] at ea
        exact madeF_next hD m (Same.refl _) hz ea
      · rw [if_neg c, List.append_nil] at ea
        exact madeF_skip m (Same.refl _) ea
    · rintro D H' hD sm hl
      walk_at "go"
      rw [List.length_map, hlen, balAcc, List.take_length] at hl
      exact ⟨D, _, rfl, SqL.of hl, k _ sm⟩
theorem ok_balances (T : Txt K mg base) : FnOk P w K mg base (L2.CX P w) 1 T.f_balances T.fd_balances ["moves"] (sp_balances K) := by
  refine T.F_balances.okX sc_balances (fun vs H Q E h => ?_) (fun cdv A outer s H vs Q E hr h => ?_)
  · first | (obtain ⟨_, rfl, _⟩ := h; rfl) | (obtain ⟨_, _, rfl, _⟩ := h; rfl) | (obtain ⟨_, _, _, rfl, _⟩ := h; rfl) | (obtain ⟨_, _, _, _, rfl, _⟩ := h; rfl) | (obtain ⟨_, _, _, _, _, rfl, _⟩ := h; rfl) | (obtain ⟨_, _, _, _, _, _, rfl, _⟩ := h; rfl) | (obtain ⟨_, _, _, _, _, _, _, rfl, _⟩ := h; rfl) | (obtain ⟨_, _, _, _, _, _, _, _, rfl, _⟩ := h; rfl) | (obtain ⟨_, _, _, _, _, _, _, _, _, rfl, _⟩ := h; rfl) | (obtain ⟨_, _, _, _, _, _, _, _, _, _, rfl, _⟩ := h; rfl) | (obtain ⟨_, _, _, _, _, _, _, _, _, _, _, rfl, _⟩ := h; rfl) | (obtain ⟨_, _, _, _, _, _, _, _, _, _, _, _, rfl, _⟩ := h; rfl) | (obtain ⟨_, _, _, _, _, _, _, _, _, _, _, _, _, rfl, _⟩ := h; rfl) | (obtain ⟨_, _, _, _, _, _, _, _, _, _, _, _, _, _, rfl, _⟩ := h; rfl) | (obtain ⟨_, _, _, _, _, _, _, _, _, _, _, _, _, _, _, rfl, _⟩ := h; rfl)
  · refine ⟨_, (pss_cons (ps_set (i := 1) sc_balances.nd rfl (Or.inl rfl) (pe_lst pa_nil))
  (pss_cons (ps_set (i := 2) sc_balances.nd rfl (Or.inl rfl) pe_int)
  (pss_cons (ps_for (passes_of rfl) rfl (show PI _ _ _ (iLT K _) from pi_lt (pe_callB (show CallR _ (.builtin "sorted") (rSortA K) from cr_sortA) (by rfl) T.n_sorted (by decide +kernel) (pa_cons (pv 0) pa_nil))) (pg_tup rfl (pgs_cons (pg_name (i := 3) sc_balances.nd rfl (Or.inl rfl)) (pgs_cons (pg_name (i := 4) sc_balances.nd rfl (Or.inl rfl)) pgs_nil)))
  (pss_cons (ps_aug (i := 2) sc_balances.nd rfl (Or.inl rfl) (pv 4) ip_add)
  (pss_one (ps_expr (pe_bm PySem.F.plainAttrs_list PySem.F.slot_list_append PySem.F.type_list_append mt_append (pv 1) (pa_cons (pe_tup (pa_cons (pv 3) (pa_cons (pv 2) pa_nil))) pa_nil))))))
  (pss_one (ps_ret (pv 1)))))), ?_⟩
    obtain ⟨l, as, ms, rfl, hS, hP, hn, k⟩ := h
    walk_at "go"
    refine ⟨by walk_at "sz", fun l0 hl0 => ?_⟩
    walk_at "go"
    have s0 : Same H (upd H l0 (.lst [])) := same_new hl0
    refine g_forN (g_iL ?_)
    walk_at "go"
    have hP0 := hP.same s0
    refine .inl ⟨l, as.map V.ref, kH (upd H l0 (.lst [])), rfl, s0.seq hS, hP0.each, fun ys p hs hb hp => ?_⟩
    have hperm := hb.perm
    obtain ⟨bs, eb, hB⟩ := PrT.of (H := upd H l0 (.lst [])) ys fun x hx => hP0.each x (hperm.mem_iff.mp hx)
    have hqp : (ys.map (kH (upd H l0 (.lst [])))).Perm ms := by
      have z := hperm.map (kH (upd H l0 (.lst [])))
      rw [hP0.keys] at z
      exact z
    have hqs : (ys.map (kH (upd H l0 (.lst [])))).Pairwise (fun x y => x.1 ≤ y.1) := by
      rw [List.pairwise_map]
      refine List.Pairwise.imp (fun {x y} h => ?_) hs
      have z := SrtO.lexB_no.mp h
      omega
    generalize hqe : ys.map (kH (upd H l0 (.lst []))) = qs at hB hqp hqs
    subst eb
    have hql := hqp.length_eq
    have hbl : bs.length = qs.length := by rw [← hqe, List.length_map, List.length_map]
    have npl : l0 ≠ p := ne_of_none (show (upd H l0 (.lst [])) l0 = some (.lst []) from upd_same) hp
    refine ⟨p, rfl, ⟨_, SqL.of upd_same⟩, ?_⟩
    refine list_of (xs := bs.map V.ref) (fun i σ' H' => ∃ v1 v2 ts, σ' = [some (.ref l), some (.ref l0), some (.int (((qs.take i).map (·.2)).sum)), v1, v2] ∧ Same H H' ∧ H' p = some (.lst (bs.map V.ref)) ∧ PrT H' bs qs ∧ H' l0 = some (.lst (ts.map V.ref)) ∧ Prs K H' ts (runs (qs.take i) 0))
      ⟨_, _, [], rfl, s0.trans (same_new hp), upd_same, hB.same (same_new hp), (upd_ne npl).trans upd_same, .nil⟩ (fun i σ' H' ⟨_, _, _, _, _, q, _⟩ => SqL.of q) ?_ ?_
    · rintro i x σ' H' hx ⟨v1, v2, ts, rfl, sm, hq, hB', hl', hT⟩
      have hi : i < bs.length := by
        have q := (List.getElem?_eq_some_iff.mp hx).1
        rw [List.length_map] at q
        exact q
      have hqi : qs[i]? = some qs[i] := List.getElem?_eq_getElem (by omega)
      obtain ⟨a, h1, h2⟩ := (hB'.prs (K := K)).get hqi
      have ex : x = .ref a := by
        rw [List.getElem?_map, h1] at hx
        exact (Option.some.inj hx).symm
      subst ex
      have et : qs.take (i + 1) = qs.take i ++ [qs[i]] := by rw [List.take_add_one, hqi]; rfl
      have es : (((qs.take (i + 1)).map (·.2)).sum) = ((qs.take i).map (·.2)).sum + (qs[i]).2 := by rw [et, List.map_append, List.sum_append]; simp
      have er : runs (qs.take (i + 1)) 0 = runs (qs.take i) 0 ++ [((qs[i]).1, ((qs.take i).map (·.2)).sum + (qs[i]).2)] := by rw [et, runs_snoc, Int.zero_add]
      have htl := hT.len
      rw [runs_len, List.length_take] at htl
      refine g_gtup h2 rfl ?_
      walk_at "go"
      refine ⟨.inl ⟨rfl, _, SqL.of hl'⟩, ?_⟩
      walk_at "go"
      refine ⟨by walk_at "sz", fun t ht => ?_⟩
      walk_at "go"
      have hl1 := (same_new (o := .tup [.int (qs[i]).1, .int (((qs.take i).map (·.2)).sum + (qs[i]).2)]) ht) _ _ hl'
      refine ⟨l0, _, _, rfl, rfl, hl1, ?_, ?_⟩
      · rw [List.length_map]
        exact Nat.lt_of_lt_of_le (show ts.length < 10001 by omega) (by decide)
      · walk_at "go"
        have ntl : t ≠ l0 := fun e => by rw [e, hl'] at ht; cases ht
        have ntp : p ≠ l0 := npl.symm
        refine ⟨some (.int (qs[i]).1), some (.int (qs[i]).2), ts ++ [t], ?_, same_mut (sm.trans (same_new ht)) hl0, (upd_ne ntp).trans ((same_new ht) _ _ hq), (hB'.same (same_new ht)).mut hl1, ?_, ?_⟩
        · rw [es]
          rfl
        · rw [upd_same, List.map_append]
          rfl
        · rw [er]
          exact Prs.append (Prs.one (SqT.of ((upd_ne ntl).trans upd_same))) ((hT.same (same_new ht)).mut hl1)
    · rintro σ' H' ⟨v1, v2, ts, rfl, sm, hq, hB', hl', hT⟩
      walk_at "go"
      rw [List.length_map, hbl, List.take_length] at hT
      exact k H' l0 ts qs sm hl0 hl' hT hqp hqs
theorem ok_grown (T : Txt K mg base) : FnOk P w K mg base (L2.CX P w) 3 T.f_grown T.fd_grown ["moves", "rates", "last"] (sp_grown K) := by
  refine T.F_grown.okX sc_grown (fun vs H Q E h => ?_) (fun cdv A outer s H vs Q E hr h => ?_)
  · first | (obtain ⟨_, rfl, _⟩ := h; rfl) | (obtain ⟨_, _, rfl, _⟩ := h; rfl) | (obtain ⟨_, _, _, rfl, _⟩ := h; rfl) | (obtain ⟨_, _, _, _, rfl, _⟩ := h; rfl) | (obtain ⟨_, _, _, _, _, rfl, _⟩ := h; rfl) | (obtain ⟨_, _, _, _, _, _, rfl, _⟩ := h; rfl) | (obtain ⟨_, _, _, _, _, _, _, rfl, _⟩ := h; rfl) | (obtain ⟨_, _, _, _, _, _, _, _, rfl, _⟩ := h; rfl) | (obtain ⟨_, _, _, _, _, _, _, _, _, rfl, _⟩ := h; rfl) | (obtain ⟨_, _, _, _, _, _, _, _, _, _, rfl, _⟩ := h; rfl) | (obtain ⟨_, _, _, _, _, _, _, _, _, _, _, rfl, _⟩ := h; rfl) | (obtain ⟨_, _, _, _, _, _, _, _, _, _, _, _, rfl, _⟩ := h; rfl) | (obtain ⟨_, _, _, _, _, _, _, _, _, _, _, _, _, rfl, _⟩ := h; rfl) | (obtain ⟨_, _, _, _, _, _, _, _, _, _, _, _, _, _, rfl, _⟩ := h; rfl) | (obtain ⟨_, _, _, _, _, _, _, _, _, _, _, _, _, _, _, rfl, _⟩ := h; rfl)
  · refine ⟨_, (pss_cons (ps_set (i := 3) sc_grown.nd rfl (Or.inl rfl) pe_int)
  (pss_cons (ps_for (passes_of rfl) rfl (show PI _ _ _ (iLT K _) from pi_lt (pe_callS (ok_spans T) hr (by rfl) T.g_spans T.F_spans.kp T.b_spans (fun σ => passAt (takes_of rfl rfl rfl rfl) σ) (by exact (pa_cons (pe_callS (ok_balances T) (hr.mono (by decide)) (by rfl) T.g_balances T.F_balances.kp T.b_balances (fun σ => passAt (takes_of rfl rfl rfl rfl) σ) (by exact (pa_cons (pv 0) pa_nil))) (pa_cons pe_int (pa_cons (pv 2) pa_nil)))))) (pg_tup rfl (pgs_cons (pg_name (i := 4) sc_grown.nd rfl (Or.inl rfl)) (pgs_cons (pg_name (i := 5) sc_grown.nd rfl (Or.inl rfl)) (pgs_cons (pg_name (i := 6) sc_grown.nd rfl (Or.inl rfl)) pgs_nil))))
  (pss_one (ps_for (passes_of rfl) rfl (show PI _ _ _ (iLT K _) from pi_lt (pe_callS (ok_spans T) hr (by rfl) T.g_spans T.F_spans.kp T.b_spans (fun σ => passAt (takes_of rfl rfl rfl rfl) σ) (by exact (pa_cons (pv 1) (pa_cons (pv 4) (pa_cons (pv 5) pa_nil)))))) (pg_tup rfl (pgs_cons (pg_name (i := 7) sc_grown.nd rfl (Or.inl rfl)) (pgs_cons (pg_name (i := 8) sc_grown.nd rfl (Or.inl rfl)) (pgs_cons (pg_name (i := 9) sc_grown.nd rfl (Or.inl rfl)) pgs_nil))))
  (pss_one (ps_aug (i := 3) sc_grown.nd rfl (Or.inl rfl) (pe_op op_mul (pe_op op_mul (pe_ix (show IxR _ (rIx2 K) from ix_lt) (pv 6) pe_int (fun _ _ => rfl)) (pe_ix (show IxR _ (rIx2 K) from ix_lt) (pv 9) pe_int (fun _ _ => rfl))) (pe_op op_plus (pe_op op_sub (pv 8) (pv 7)) pe_int)) ip_add)))))
  (pss_one (ps_ret (pe_op op_fdiv (pv 3) (pe_glob (v := .int 3650000) (by rfl) T.g_WHOLE ⟨_, rfl⟩)))))), ?_⟩
    obtain ⟨l1, as, ms, l2, bs, ra, e, rfl, h1, hP, n1, h2, hr, n2, he, k⟩ := h
    walk_at "go"
    refine g_forN (g_iL ?_)
    walk_at "go"
    refine ⟨l1, as, ms, rfl, h1, hP, n1, fun H0 l0 t0 qs s0 hl00 hl0 hR0 hperm hsort => ?_⟩
    walk_at "go"
    have hrl : (runs qs 0).length ≤ 10000 := by rw [runs_len, hperm.length_eq]; exact n1
    refine ⟨l0, t0, runs qs 0, 0, e, rfl, ⟨.inl (SqL.of hl0), hR0⟩, hrl, fun H1 l3 ts R s1 hl30 hl3 hD hS => ?_⟩
    walk_at "go"
    refine ⟨l3, rfl, ⟨_, SqL.of hl3⟩, ?_⟩
    have hlen := hS.len
    refine list_of (xs := ts.map V.ref) (fun i σ' H' => ∃ v1 v2 v3 v4 v5 v6, σ' = [some (.ref l1), some (.ref l2), some (.int e), some (.int (sumS (fun p d => p.2 * (heldV ra d).getD 0) ((spanR R 0 e).reverse.take i))), v1, v2, v3, v4, v5, v6] ∧ Same H1 H')
      ⟨_, _, _, _, _, _, rfl, Same.refl _⟩ (fun i σ' H' ⟨_, _, _, _, _, _, _, sm⟩ => SqL.of (sm _ _ hl3)) ?_ ?_
    · rintro i x σ' H' hx ⟨v1, v2, v3, v4, v5, v6, rfl, sm⟩
      have hi : i < ts.length := by
        have q := (List.getElem?_eq_some_iff.mp hx).1
        rw [List.length_map] at q
        exact q
      obtain ⟨sp, hsp⟩ : ∃ sp, (spanR R 0 e).reverse[i]? = some sp := ⟨_, List.getElem?_eq_getElem (by omega)⟩
      obtain ⟨a, p, q1, q2, q3⟩ := (hS.same sm).get hsp
      have ex : x = .ref a := by
        rw [List.getElem?_map, q1] at hx
        exact (Option.some.inj hx).symm
      subst ex
      obtain ⟨b1, b2, b3, b4, b5⟩ := spanR_in (span_at hsp)
      refine g_gtup q2 rfl ?_
      walk_at "go"
      refine g_forN (g_iL ?_)
      walk_at "go"
      refine ⟨l2, bs, ra, _, _, rfl, h2.same (s0.trans (s1.trans sm)), n2, fun H2 l4 ts2 R2 s2 hl40 hl4 hD2 hS2 => ?_⟩
      walk_at "go"
      refine ⟨l4, rfl, ⟨_, SqL.of hl4⟩, ?_⟩
      have hlen2 := hS2.len
      refine list_of (xs := ts2.map V.ref) (fun i2 σ' H' => ∃ v1 v2 v3, σ' = [some (.ref l1), some (.ref l2), some (.int e), some (.int (sumS (fun p d => p.2 * (heldV ra d).getD 0) ((spanR R 0 e).reverse.take i) + sumS (fun q d => sp.2.2.2 * q.2) ((spanR R2 sp.1 sp.2.1).reverse.take i2))), some (.int sp.1), some (.int sp.2.1), some (.ref p), v1, v2, v3] ∧ Same H2 H')
        ⟨_, _, _, by rw [List.take_zero, sumS_nil, Int.add_zero]; rfl, Same.refl _⟩ (fun i σ' H' ⟨_, _, _, _, sm⟩ => SqL.of (sm _ _ hl4)) ?_ ?_
      · rintro i2 x σ' H3 hx ⟨v1, v2, v3, rfl, sm3⟩
        have hi2 : i2 < ts2.length := by
          have q := (List.getElem?_eq_some_iff.mp hx).1
          rw [List.length_map] at q
          exact q
        obtain ⟨sq, hsq⟩ : ∃ sq, (spanR R2 sp.1 sp.2.1).reverse[i2]? = some sq := ⟨_, List.getElem?_eq_getElem (by omega)⟩
        obtain ⟨a2, p2, r1, r2, r3⟩ := (hS2.same sm3).get hsq
        have ex : x = .ref a2 := by
          rw [List.getElem?_map, r1] at hx
          exact (Option.some.inj hx).symm
        subst ex
        obtain ⟨c1, c2, c3, c4, c5⟩ := spanR_in (span_at hsq)
        have hga := hr.1 _ (mem_row ((hD2.mem _).mp c4))
        refine g_gtup r2 rfl ?_
        walk_at "go"
        refine r_ixT (same_sqT (s2.trans sm3) q3) at1 ?_
        walk_at "go"
        refine r_ixT r3 at1 ?_
        walk_at "go"
        refine ⟨some (.int sq.1), some (.int sq.2.1), some (.ref p2), ?_, sm3⟩
        rw [sumS_take hsq, ← Int.add_assoc, dsum_const (by omega)]
        rfl
      · rintro σ' H3 ⟨v1, v2, v3, rfl, sm3⟩
        have es : sumS (fun q d => sp.2.2.2 * q.2) ((spanR R2 sp.1 sp.2.1).reverse.take (ts2.map V.ref).length) = dsum ((fun (p : Int × Int) d => p.2 * (heldV ra d).getD 0) sp.2.2) sp.1 sp.2.1 := by
          rw [List.length_map, hlen2, List.take_length, sumS_rev, span_sumH _ hD2]
          refine dsum_congr fun d d1 d2 => ?_
          obtain ⟨_, x1, g1, _, _, z3, z4, _, _⟩ := hr.held (d := d) (by omega)
          rw [z4]
          show sp.2.2.2 * g1 = sp.2.2.2 * (heldV ra d).getD 0
          rw [z3]
          rfl
        rw [es, ← sumS_take hsp]
        exact ⟨_, _, _, _, _, _, rfl, (sm.trans s2).trans sm3⟩
    · rintro σ' H' ⟨v1, v2, v3, v4, v5, v6, rfl, sm⟩
      have es : sumS (fun (p : Int × Int) d => p.2 * (heldV ra d).getD 0) ((spanR R 0 e).reverse.take (ts.map V.ref).length) = grownS ms ra 0 e := by
        rw [List.length_map, hlen, List.take_length, sumS_rev, span_sumH _ hD]
        refine dsum_congr fun d d1 d2 => ?_
        have hb := runs_holds hsort d
        rw [bal_perm hperm] at hb
        rw [← hb]
        cases pairH (runs qs 0) d with
        | none => exact (Int.zero_mul _).symm
        | some p => rfl
      rw [es]
      walk_at "go"
      exact k _ (s0.trans (s1.trans sm))
theorem ok_pair_held (T : Txt K mg base) : FnOk P w K mg base (L2.CX P w) 1 T.f_pair_held T.fd_pair_held ["terms", "day"] (sp_pair_held K) := by
  refine T.F_pair_held.okX sc_pair_held (fun vs H Q E h => ?_) (fun cdv A outer s H vs Q E hr h => ?_)
  · first | (obtain ⟨_, rfl, _⟩ := h; rfl) | (obtain ⟨_, _, rfl, _⟩ := h; rfl) | (obtain ⟨_, _, _, rfl, _⟩ := h; rfl) | (obtain ⟨_, _, _, _, rfl, _⟩ := h; rfl) | (obtain ⟨_, _, _, _, _, rfl, _⟩ := h; rfl) | (obtain ⟨_, _, _, _, _, _, rfl, _⟩ := h; rfl) | (obtain ⟨_, _, _, _, _, _, _, rfl, _⟩ := h; rfl) | (obtain ⟨_, _, _, _, _, _, _, _, rfl, _⟩ := h; rfl) | (obtain ⟨_, _, _, _, _, _, _, _, _, rfl, _⟩ := h; rfl) | (obtain ⟨_, _, _, _, _, _, _, _, _, _, rfl, _⟩ := h; rfl) | (obtain ⟨_, _, _, _, _, _, _, _, _, _, _, rfl, _⟩ := h; rfl) | (obtain ⟨_, _, _, _, _, _, _, _, _, _, _, _, rfl, _⟩ := h; rfl) | (obtain ⟨_, _, _, _, _, _, _, _, _, _, _, _, _, rfl, _⟩ := h; rfl) | (obtain ⟨_, _, _, _, _, _, _, _, _, _, _, _, _, _, rfl, _⟩ := h; rfl) | (obtain ⟨_, _, _, _, _, _, _, _, _, _, _, _, _, _, _, rfl, _⟩ := h; rfl)
  · refine ⟨_, (pss_cons (ps_set (i := 2) sc_pair_held.nd rfl (Or.inl rfl) pe_non)
  (pss_cons (ps_for (passes_of rfl) rfl (show PI _ _ _ (iLT K _) from pi_lt (pv 0)) (pg_name (i := 3) sc_pair_held.nd rfl (Or.inl rfl))
  (pss_cons (ps_if (pt_cmpR op_gt (pe_ix (show IxR _ (rIx2 K) from ix_lt) (pv 3) pe_int (fun _ _ => rfl)) (pv 1) (nomark _))
  (pss_one ps_continue)
  pss_nil)
  (pss_one (ps_if (PW.pt (pw_or (pt_cmpR op_isA (pv 2) pe_non (nomark _)) (pw_or1 (pt_cmpR op_ge (pe_ix (show IxR _ (rIx2 K) from ix_lt) (pv 3) pe_int (fun _ _ => rfl)) (pe_ix (show IxR _ (rIx2 K) from ix_lt) (pv 2) pe_int (fun _ _ => rfl)) (nomark _)))))
  (pss_one (ps_set (i := 2) sc_pair_held.nd rfl (Or.inl rfl) (pv 3)))
  pss_nil))))
  (pss_one (ps_ret (pv 2))))), ?_⟩
    obtain ⟨l, day, as, ps, rfl, hR, k⟩ := h
    have hlen := hR.2.len
    walk_at "go"
    refine g_forQ (a := l) (xs := as.map V.ref) (fun i σ' H' => H = H' ∧ ∃ v, σ' = [some (.ref l), some (.int day), some (pairV as (bestN ps day i)), v]) (fun Q' q => by walk_at "go"; exact q) hR.1 ⟨rfl, none, rfl⟩
      (fun i σ' H' ⟨e, _⟩ => e ▸ Same.refl H) ?_ ?_
    · rintro i x σ' H' hx ⟨rfl, v, rfl⟩
      have hi : i < as.length := by
        have q := (List.getElem?_eq_some_iff.mp hx).1
        rw [List.length_map] at q
        exact q
      obtain ⟨a, p, h1, h2, h3⟩ := hR.get (i := i) (by omega)
      have ex : x = .ref a := by
        rw [List.getElem?_map, h1] at hx
        exact (Option.some.inj hx).symm
      subst ex
      have eb : bestN ps day (i + 1) = bestStep ps day (bestN ps day i) i := rfl
      have gp : ps.getD i (0, 0) = p := getD_of h2
      have ga : as.getD i 0 = a := getD_of h1
      walk_at "go"
      refine r_ixT h3 at0 ?_
      walk_at "go"
      refine g_ite (fun c => ?_) (fun c => ?_)
      · walk_at "go"
        refine ⟨rfl, some (.ref a), ?_⟩
        have e2 : bestN ps day (i + 1) = bestN ps day i := by
          rw [eb]
          unfold bestStep
          rw [gp]
          cases e : bestN ps day i with
          | none => exact if_neg (by omega)
          | some j => exact if_neg (by omega)
        rw [e2]
        rfl
      · walk_at "gos"
        cases e : bestN ps day i with
        | none =>
          have e2 : bestN ps day (i + 1) = some i := by
            rw [eb, e]
            unfold bestStep
            dsimp only
            rw [gp]
            exact if_pos (by omega)
          refine g_ifB true (fun Q' q => ?_) (fun _ => ?_) (fun z => by cases z)
          · walk_at "go"
            refine g_ite (fun _ => ?_) (fun z => absurd rfl z)
            exact q
          · walk_at "go"
            refine ⟨rfl, some (.ref a), ?_⟩
            rw [e2]
            show _ = [_, _, some (V.ref (as.getD i 0)), _]
            rw [ga]
            rfl
        | some j =>
          have hj := bestN_lt e
          obtain ⟨b, pb, j1, j2, j3⟩ := hR.get (i := j) (by omega)
          have gpb : ps.getD j (0, 0) = pb := getD_of j2
          have gab : as.getD j 0 = b := getD_of j1
          have ev : pairV as (some j) = .ref b := by
            show V.ref (as.getD j 0) = _
            rw [gab]
          rw [ev]
          refine g_ifB (decide (pb.1 ≤ p.1)) (fun Q' q => ?_) (fun c2 => ?_) (fun c2 => ?_)
          · walk_at "go"
            refine g_ite (fun z => by cases z) (fun _ => ?_)
            walk_at "go"
            refine r_ixT h3 at0 ?_
            walk_at "go"
            refine r_ixT j3 at0 ?_
            walk_at "go"
            exact q
          · walk_at "go"
            have c3 : pb.1 ≤ p.1 := of_decide_eq_true c2
            refine ⟨rfl, some (.ref a), ?_⟩
            have e2 : bestN ps day (i + 1) = some i := by
              rw [eb, e]
              unfold bestStep
              dsimp only
              rw [gp, gpb]
              exact if_pos ⟨by omega, c3⟩
            rw [e2]
            show _ = [_, _, some (V.ref (as.getD i 0)), _]
            rw [ga]
            rfl
          · walk_at "go"
            have c3 : ¬ pb.1 ≤ p.1 := of_decide_eq_false c2
            refine ⟨rfl, some (.ref a), ?_⟩
            have e2 : bestN ps day (i + 1) = some j := by
              rw [eb, e]
              unfold bestStep
              dsimp only
              rw [gp, gpb]
              exact if_neg fun z => c3 z.2
            rw [e2, ev]
            rfl
    · rintro σ' H' ⟨rfl, v, rfl⟩
      walk_at "go"
      rw [List.length_map, hlen]
      exact k
theorem ok_held (T : Txt K mg base) : FnOk P w K mg base (L2.CX P w) 2 T.f_held T.fd_held ["terms", "day"] (sp_held K) := by
  refine T.F_held.okX sc_held (fun vs H Q E h => ?_) (fun cdv A outer s H vs Q E hr h => ?_)
  · first | (obtain ⟨_, rfl, _⟩ := h; rfl) | (obtain ⟨_, _, rfl, _⟩ := h; rfl) | (obtain ⟨_, _, _, rfl, _⟩ := h; rfl) | (obtain ⟨_, _, _, _, rfl, _⟩ := h; rfl) | (obtain ⟨_, _, _, _, _, rfl, _⟩ := h; rfl) | (obtain ⟨_, _, _, _, _, _, rfl, _⟩ := h; rfl) | (obtain ⟨_, _, _, _, _, _, _, rfl, _⟩ := h; rfl) | (obtain ⟨_, _, _, _, _, _, _, _, rfl, _⟩ := h; rfl) | (obtain ⟨_, _, _, _, _, _, _, _, _, rfl, _⟩ := h; rfl) | (obtain ⟨_, _, _, _, _, _, _, _, _, _, rfl, _⟩ := h; rfl) | (obtain ⟨_, _, _, _, _, _, _, _, _, _, _, rfl, _⟩ := h; rfl) | (obtain ⟨_, _, _, _, _, _, _, _, _, _, _, _, rfl, _⟩ := h; rfl) | (obtain ⟨_, _, _, _, _, _, _, _, _, _, _, _, _, rfl, _⟩ := h; rfl) | (obtain ⟨_, _, _, _, _, _, _, _, _, _, _, _, _, _, rfl, _⟩ := h; rfl) | (obtain ⟨_, _, _, _, _, _, _, _, _, _, _, _, _, _, _, rfl, _⟩ := h; rfl)
  · refine ⟨_, (pss_cons (ps_set (i := 2) sc_held.nd rfl (Or.inl rfl) (pe_callS (ok_pair_held T) hr (by rfl) T.g_pair_held T.F_pair_held.kp T.b_pair_held (fun σ => passAt (takes_of rfl rfl rfl rfl) σ) (by exact (pa_cons (pv 0) (pa_cons (pv 1) pa_nil)))))
  (pss_cons (ps_if (pt_cmpR op_isA (pv 2) pe_non (nomark _))
  (pss_one (ps_ret pe_non))
  pss_nil)
  (pss_one (ps_ret (pe_ix (show IxR _ (rIx2 K) from ix_lt) (pv 2) pe_int (fun _ _ => rfl)))))), ?_⟩
    obtain ⟨l, day, as, ps, rfl, hR, k⟩ := h
    walk_at "go"
    refine ⟨l, day, as, ps, rfl, hR, ?_⟩
    unfold heldV at k
    cases e : best ps day with
    | none =>
      rw [e] at k
      walk_at "go"
      refine g_ite (fun _ => ?_) (fun z => absurd rfl z)
      walk_at "go"
      exact k
    | some j =>
      rw [e] at k
      obtain ⟨b, pb, j1, j2, j3⟩ := hR.get (best_lt e)
      have gpb : ps.getD j (0, 0) = pb := getD_of j2
      have gab : as.getD j 0 = b := getD_of j1
      have ev : pairV as (some j) = .ref b := by
        show V.ref (as.getD j 0) = _
        rw [gab]
      rw [ev]
      walk_at "go"
      refine g_ite (fun z => by cases z) (fun _ => ?_)
      walk_at "go"
      refine r_ixT j3 at1 ?_
      rw [← gpb]
      exact k
theorem ok_parts_through (T : Txt K mg base) : FnOk P w K mg base (L2.CX P w) 4 T.f_parts_through T.fd_parts_through ["rent", "year", "month", "number"] (sp_parts_through) := by
  refine T.F_parts_through.okX sc_parts_through (fun vs H Q E h => ?_) (fun cdv A outer s H vs Q E hr h => ?_)
  · first | (obtain ⟨_, rfl, _⟩ := h; rfl) | (obtain ⟨_, _, rfl, _⟩ := h; rfl) | (obtain ⟨_, _, _, rfl, _⟩ := h; rfl) | (obtain ⟨_, _, _, _, rfl, _⟩ := h; rfl) | (obtain ⟨_, _, _, _, _, rfl, _⟩ := h; rfl) | (obtain ⟨_, _, _, _, _, _, rfl, _⟩ := h; rfl) | (obtain ⟨_, _, _, _, _, _, _, rfl, _⟩ := h; rfl) | (obtain ⟨_, _, _, _, _, _, _, _, rfl, _⟩ := h; rfl) | (obtain ⟨_, _, _, _, _, _, _, _, _, rfl, _⟩ := h; rfl) | (obtain ⟨_, _, _, _, _, _, _, _, _, _, rfl, _⟩ := h; rfl) | (obtain ⟨_, _, _, _, _, _, _, _, _, _, _, rfl, _⟩ := h; rfl) | (obtain ⟨_, _, _, _, _, _, _, _, _, _, _, _, rfl, _⟩ := h; rfl) | (obtain ⟨_, _, _, _, _, _, _, _, _, _, _, _, _, rfl, _⟩ := h; rfl) | (obtain ⟨_, _, _, _, _, _, _, _, _, _, _, _, _, _, rfl, _⟩ := h; rfl) | (obtain ⟨_, _, _, _, _, _, _, _, _, _, _, _, _, _, _, rfl, _⟩ := h; rfl)
  · refine ⟨_, (pss_cons (ps_set (i := 4) sc_parts_through.nd rfl (Or.inl rfl) (pe_op op_plus (pe_op op_mul (pv 1) pe_int) (pv 2)))
  (pss_one (ps_ret (pe_op op_plus (pe_op op_mul (pv 0) (pv 4)) (pe_op op_fdiv (pe_op op_mul (pv 0) (pv 3)) (pe_callS (ok_month_days T) hr (by rfl) T.g_month_days T.F_month_days.kp T.b_month_days (fun σ => passAt (takes_of rfl rfl rfl rfl) σ) (by exact (pa_cons (pv 1) (pa_cons (pv 2) pa_nil))))))))), ?_⟩
    obtain ⟨r, y, m, kk, rfl, hy1, hy2, hm1, hm2, hk1, hk2, k⟩ := h
    have pf := mlen_pos (y := y) hm1 hm2
    walk_at "go"
    refine ⟨_, _, rfl, trivial, trivial, fun i m hi hm _ => ?_, fun c => absurd (show isdate (.int y) (.int m) = true by simp [isdate, within, hy1, hy2, hm1, hm2]) (by rw [c]; decide)⟩
    cases hi
    cases hm
    walk_at "go"
    exact k
theorem ok_parts (T : Txt K mg base) : FnOk P w K mg base (L2.CX P w) 5 T.f_parts T.fd_parts ["rent", "first", "last"] (sp_parts) := by
  refine T.F_parts.okX sc_parts (fun vs H Q E h => ?_) (fun cdv A outer s H vs Q E hr h => ?_)
  · first | (obtain ⟨_, rfl, _⟩ := h; rfl) | (obtain ⟨_, _, rfl, _⟩ := h; rfl) | (obtain ⟨_, _, _, rfl, _⟩ := h; rfl) | (obtain ⟨_, _, _, _, rfl, _⟩ := h; rfl) | (obtain ⟨_, _, _, _, _, rfl, _⟩ := h; rfl) | (obtain ⟨_, _, _, _, _, _, rfl, _⟩ := h; rfl) | (obtain ⟨_, _, _, _, _, _, _, rfl, _⟩ := h; rfl) | (obtain ⟨_, _, _, _, _, _, _, _, rfl, _⟩ := h; rfl) | (obtain ⟨_, _, _, _, _, _, _, _, _, rfl, _⟩ := h; rfl) | (obtain ⟨_, _, _, _, _, _, _, _, _, _, rfl, _⟩ := h; rfl) | (obtain ⟨_, _, _, _, _, _, _, _, _, _, _, rfl, _⟩ := h; rfl) | (obtain ⟨_, _, _, _, _, _, _, _, _, _, _, _, rfl, _⟩ := h; rfl) | (obtain ⟨_, _, _, _, _, _, _, _, _, _, _, _, _, rfl, _⟩ := h; rfl) | (obtain ⟨_, _, _, _, _, _, _, _, _, _, _, _, _, _, rfl, _⟩ := h; rfl) | (obtain ⟨_, _, _, _, _, _, _, _, _, _, _, _, _, _, _, rfl, _⟩ := h; rfl)
  · refine ⟨_, (pss_cons (ps_asg (pe_callS (ok_month_of T) hr (by rfl) T.g_month_of T.F_month_of.kp T.b_month_of (fun σ => passAt (takes_of rfl rfl rfl rfl) σ) (by exact (pa_cons (pv 1) pa_nil))) (pg_tup rfl (pgs_cons (pg_name (i := 3) sc_parts.nd rfl (Or.inl rfl)) (pgs_cons (pg_name (i := 4) sc_parts.nd rfl (Or.inl rfl)) (pgs_cons (pg_name (i := 5) sc_parts.nd rfl (Or.inl rfl)) pgs_nil)))))
  (pss_cons (ps_set (i := 6) sc_parts.nd rfl (Or.inl rfl) (pe_callS (ok_parts_through T) hr (by rfl) T.g_parts_through T.F_parts_through.kp T.b_parts_through (fun σ => passAt (takes_of rfl rfl rfl rfl) σ) (by exact (pa_cons (pv 0) (pa_cons (pv 3) (pa_cons (pv 4) (pa_cons (pe_op op_sub (pv 5) pe_int) pa_nil)))))))
  (pss_cons (ps_asg (pe_callS (ok_month_of T) hr (by rfl) T.g_month_of T.F_month_of.kp T.b_month_of (fun σ => passAt (takes_of rfl rfl rfl rfl) σ) (by exact (pa_cons (pv 2) pa_nil))) (pg_tup rfl (pgs_cons (pg_name (i := 3) sc_parts.nd rfl (Or.inl rfl)) (pgs_cons (pg_name (i := 4) sc_parts.nd rfl (Or.inl rfl)) (pgs_cons (pg_name (i := 5) sc_parts.nd rfl (Or.inl rfl)) pgs_nil)))))
  (pss_one (ps_ret (pe_op op_sub (pe_callS (ok_parts_through T) hr (by rfl) T.g_parts_through T.F_parts_through.kp T.b_parts_through (fun σ => passAt (takes_of rfl rfl rfl rfl) σ) (by exact (pa_cons (pv 0) (pa_cons (pv 3) (pa_cons (pv 4) (pa_cons (pv 5) pa_nil)))))) (pv 6))))))), ?_⟩
    obtain ⟨r, s', t, rfl, h0, h1, h2, k⟩ := h
    walk_at "go"
    refine ⟨_, rfl, trivial, fun i y m kk hi _ _ hI p hp => ?_, fun c => absurd c (by simp [within, h0, show s' ≤ 99999 by omega])⟩
    cases hi
    have k1 := hI.k1
    have k2 := hI.k2
    have pf := mlen_pos (y := y) hI.m1 hI.m2
    have hy := hI.yle (by omega)
    obtain ⟨e1, e2, e3⟩ := date_at h0 hI
    walk_at "go"
    refine g_gtup (SqT.of upd_same) rfl ?_
    walk_at "go"
    refine ⟨_, _, _, _, rfl, hI.y1, hy, hI.m1, hI.m2, by omega, by omega, ?_⟩
    walk_at "go"
    refine ⟨_, rfl, trivial, fun i y' m' kk' hi _ _ hJ p' hp' => ?_, fun c => absurd c (by simp [within, h2, show 0 ≤ t by omega])⟩
    cases hi
    have k1' := hJ.k1
    have k2' := hJ.k2
    have pf' := mlen_pos (y := y') hJ.m1 hJ.m2
    have hy' := hJ.yle h2
    obtain ⟨f1, f2, f3⟩ := date_at (show 0 ≤ t by omega) hJ
    walk_at "go"
    refine g_gtup (SqT.of upd_same) rfl ?_
    walk_at "go"
    refine ⟨_, _, _, _, rfl, hJ.y1, hy', hJ.m1, hJ.m2, by omega, by omega, ?_⟩
    walk_at "go"
    have ee := parts_sum (r := r) h0 (t - s').toNat
    rw [show s' + (((t - s').toNat : Nat) : Int) = t by omega, thr, ahd, dlen, dlen, e1, e2, e3, f1, f2, f3] at ee
    have k' := k _ ((same_new (o := .tup [.int y, .int m, .int kk]) hp).trans (same_new (o := .tup [.int y', .int m', .int kk']) hp'))
    rw [ee] at k'
    exact k'
theorem ok_owed (T : Txt K mg base) : FnOk P w K mg base (L2.CX P w) 6 T.f_owed T.fd_owed ["steps", "gauges", "first", "last"] (sp_owed K) := by
  refine T.F_owed.okX sc_owed (fun vs H Q E h => ?_) (fun cdv A outer s H vs Q E hr h => ?_)
  · first | (obtain ⟨_, rfl, _⟩ := h; rfl) | (obtain ⟨_, _, rfl, _⟩ := h; rfl) | (obtain ⟨_, _, _, rfl, _⟩ := h; rfl) | (obtain ⟨_, _, _, _, rfl, _⟩ := h; rfl) | (obtain ⟨_, _, _, _, _, rfl, _⟩ := h; rfl) | (obtain ⟨_, _, _, _, _, _, rfl, _⟩ := h; rfl) | (obtain ⟨_, _, _, _, _, _, _, rfl, _⟩ := h; rfl) | (obtain ⟨_, _, _, _, _, _, _, _, rfl, _⟩ := h; rfl) | (obtain ⟨_, _, _, _, _, _, _, _, _, rfl, _⟩ := h; rfl) | (obtain ⟨_, _, _, _, _, _, _, _, _, _, rfl, _⟩ := h; rfl) | (obtain ⟨_, _, _, _, _, _, _, _, _, _, _, rfl, _⟩ := h; rfl) | (obtain ⟨_, _, _, _, _, _, _, _, _, _, _, _, rfl, _⟩ := h; rfl) | (obtain ⟨_, _, _, _, _, _, _, _, _, _, _, _, _, rfl, _⟩ := h; rfl) | (obtain ⟨_, _, _, _, _, _, _, _, _, _, _, _, _, _, rfl, _⟩ := h; rfl) | (obtain ⟨_, _, _, _, _, _, _, _, _, _, _, _, _, _, _, rfl, _⟩ := h; rfl)
  · refine ⟨_, (pss_cons (ps_set (i := 4) sc_owed.nd rfl (Or.inl rfl) pe_int)
  (pss_cons (ps_for (passes_of rfl) rfl (show PI _ _ _ (iLT K _) from pi_lt (pe_callS (ok_spans T) (hr.mono (by decide)) (by rfl) T.g_spans T.F_spans.kp T.b_spans (fun σ => passAt (takes_of rfl rfl rfl rfl) σ) (by exact (pa_cons (pv 0) (pa_cons (pv 2) (pa_cons (pv 3) pa_nil)))))) (pg_tup rfl (pgs_cons (pg_name (i := 5) sc_owed.nd rfl (Or.inl rfl)) (pgs_cons (pg_name (i := 6) sc_owed.nd rfl (Or.inl rfl)) (pgs_cons (pg_name (i := 7) sc_owed.nd rfl (Or.inl rfl)) pgs_nil))))
  (pss_cons (ps_set (i := 8) sc_owed.nd rfl (Or.inl rfl) (pe_callS (ok_held T) (hr.mono (by decide)) (by rfl) T.g_held T.F_held.kp T.b_held (fun σ => passAt (takes_of rfl rfl rfl rfl) σ) (by exact (pa_cons (pv 1) (pa_cons (pe_ix (show IxR _ (rIx2 K) from ix_lt) (pv 7) pe_int (fun _ _ => rfl)) pa_nil)))))
  (pss_one (ps_for (passes_of rfl) rfl (show PI _ _ _ (iLT K _) from pi_lt (pe_callS (ok_spans T) (hr.mono (by decide)) (by rfl) T.g_spans T.F_spans.kp T.b_spans (fun σ => passAt (takes_of rfl rfl rfl rfl) σ) (by exact (pa_cons (pv 1) (pa_cons (pv 5) (pa_cons (pv 6) pa_nil)))))) (pg_tup rfl (pgs_cons (pg_name (i := 9) sc_owed.nd rfl (Or.inl rfl)) (pgs_cons (pg_name (i := 10) sc_owed.nd rfl (Or.inl rfl)) (pgs_cons (pg_name (i := 11) sc_owed.nd rfl (Or.inl rfl)) pgs_nil))))
  (pss_cons (ps_set (i := 12) sc_owed.nd rfl (Or.inl rfl) (pe_op op_fdiv (pe_op op_mul (pe_ix (show IxR _ (rIx2 K) from ix_lt) (pv 7) pe_int (fun _ _ => rfl)) (pe_ix (show IxR _ (rIx2 K) from ix_lt) (pv 11) pe_int (fun _ _ => rfl))) (pv 8)))
  (pss_one (ps_aug (i := 4) sc_owed.nd rfl (Or.inl rfl) (pe_callS (ok_parts T) hr (by rfl) T.g_parts T.F_parts.kp T.b_parts (fun σ => passAt (takes_of rfl rfl rfl rfl) σ) (by exact (pa_cons (pv 12) (pa_cons (pv 9) (pa_cons (pv 10) pa_nil))))) ip_add)))))))
  (pss_one (ps_ret (pv 4))))), ?_⟩
    obtain ⟨l1, as, st, l2, bs, ga, f, e, rfl, h1, h2, hs, hg, n1, n2, hf, he, k⟩ := h
    walk_at "go"
    refine g_forN (g_iL ?_)
    walk_at "go"
    refine ⟨l1, as, st, f, e, rfl, h1, n1, fun H1 l3 ts R s1 hl30 hl3 hD hS => ?_⟩
    walk_at "go"
    refine ⟨l3, rfl, ⟨_, SqL.of hl3⟩, ?_⟩
    have hlen := hS.len
    refine list_of (xs := ts.map V.ref) (fun i σ' H' => ∃ v1 v2 v3 v4 v5 v6 v7 v8, σ' = [some (.ref l1), some (.ref l2), some (.int f), some (.int e), some (.int (sumS (stepG ga) ((spanR R f e).reverse.take i))), v1, v2, v3, v4, v5, v6, v7, v8] ∧ Same H1 H')
      ⟨_, _, _, _, _, _, _, _, rfl, Same.refl _⟩ (fun i σ' H' ⟨_, _, _, _, _, _, _, _, _, sm⟩ => SqL.of (sm _ _ hl3)) ?_ ?_
    · rintro i x σ' H' hx ⟨v1, v2, v3, v4, v5, v6, v7, v8, rfl, sm⟩
      have hi : i < ts.length := by
        have q := (List.getElem?_eq_some_iff.mp hx).1
        rw [List.length_map] at q
        exact q
      obtain ⟨sp, hsp⟩ : ∃ sp, (spanR R f e).reverse[i]? = some sp := ⟨_, List.getElem?_eq_getElem (by omega)⟩
      obtain ⟨a, p, q1, q2, q3⟩ := (hS.same sm).get hsp
      have ex : x = .ref a := by
        rw [List.getElem?_map, q1] at hx
        exact (Option.some.inj hx).symm
      subst ex
      obtain ⟨b1, b2, b3, b4, b5⟩ := spanR_in (span_at hsp)
      have hst := hs _ (mem_row ((hD.mem _).mp b4))
      obtain ⟨j, x0, t, m1, m2, m3, m4, m5, m6⟩ := hg.held hst.1
      refine g_gtup q2 rfl ?_
      walk_at "go"
      refine r_ixT q3 at0 ?_
      walk_at "go"
      refine ⟨l2, _, bs, ga, rfl, h2.same (s1.trans sm), ?_⟩
      rw [m3]
      show tFor _ _ _ _ _ _
      refine g_forN (g_iL ?_)
      walk_at "go"
      refine ⟨l2, bs, ga, _, _, rfl, h2.same (s1.trans sm), n2, fun H2 l4 ts2 R2 s2 hl40 hl4 hD2 hS2 => ?_⟩
      walk_at "go"
      refine ⟨l4, rfl, ⟨_, SqL.of hl4⟩, ?_⟩
      have hlen2 := hS2.len
      refine list_of (xs := ts2.map V.ref) (fun i2 σ' H' => ∃ v1 v2 v3 v4, σ' = [some (.ref l1), some (.ref l2), some (.int f), some (.int e), some (.int (sumS (stepG ga) ((spanR R f e).reverse.take i) + sumS (fun q d => partd (sp.2.2.2 * q.2 / t) d) ((spanR R2 sp.1 sp.2.1).reverse.take i2))), some (.int sp.1), some (.int sp.2.1), some (.ref p), some (.int t), v1, v2, v3, v4] ∧ Same H2 H')
        ⟨_, _, _, _, by rw [List.take_zero, sumS_nil, Int.add_zero]; rfl, Same.refl _⟩ (fun i σ' H' ⟨_, _, _, _, _, sm⟩ => SqL.of (sm _ _ hl4)) ?_ ?_
      · rintro i2 x σ' H3 hx ⟨v1, v2, v3, v4, rfl, sm3⟩
        have hi2 : i2 < ts2.length := by
          have q := (List.getElem?_eq_some_iff.mp hx).1
          rw [List.length_map] at q
          exact q
        obtain ⟨sq, hsq⟩ : ∃ sq, (spanR R2 sp.1 sp.2.1).reverse[i2]? = some sq := ⟨_, List.getElem?_eq_getElem (by omega)⟩
        obtain ⟨a2, p2, r1, r2, r3⟩ := (hS2.same sm3).get hsq
        have ex : x = .ref a2 := by
          rw [List.getElem?_map, r1] at hx
          exact (Option.some.inj hx).symm
        subst ex
        obtain ⟨c1, c2, c3, c4, c5⟩ := spanR_in (span_at hsq)
        have hga := hg.1 _ (mem_row ((hD2.mem _).mp c4))
        refine g_gtup r2 rfl ?_
        walk_at "go"
        refine r_ixT (same_sqT (s2.trans sm3) q3) at1 ?_
        walk_at "go"
        refine r_ixT r3 at1 ?_
        walk_at "go"
        refine ⟨_, _, _, rfl, by omega, c2, by omega, fun H4 s4 => ?_⟩
        walk_at "go"
        refine ⟨some (.int sq.1), some (.int sq.2.1), some (.ref p2), some (.int (sp.2.2.2 * sq.2.2.2 / t)), ?_, sm3.trans s4⟩
        rw [sumS_take hsq, ← Int.add_assoc]
        rfl
      · rintro σ' H3 ⟨v1, v2, v3, v4, rfl, sm3⟩
        have es : sumS (fun q d => partd (sp.2.2.2 * q.2 / t) d) ((spanR R2 sp.1 sp.2.1).reverse.take (ts2.map V.ref).length) = dsum (stepG ga sp.2.2) sp.1 sp.2.1 := by
          rw [List.length_map, hlen2, List.take_length, sumS_rev, span_sumH _ hD2]
          refine dsum_congr fun d d1 d2 => ?_
          obtain ⟨_, x1, g1, _, _, z3, z4, _, _⟩ := hg.held (d := d) (by omega)
          rw [z4, stepG, z3, m3]
          rfl
        rw [es, ← sumS_take hsp]
        exact ⟨_, _, _, _, _, _, _, _, rfl, (sm.trans s2).trans sm3⟩
    · rintro σ' H' ⟨v1, v2, v3, v4, v5, v6, v7, v8, rfl, sm⟩
      walk_at "go"
      have k' := k _ (s1.trans sm)
      rw [List.length_map, hlen, List.take_length, sumS_rev, span_sumH _ hD, owedV_eq]
      exact k'
theorem ok_Lease_init (T : Txt K mg base) : FnOk P w K mg base (L2.CX P w) 1 T.f_Lease_init T.fd_Lease_init ["self", "flat", "first", "rent", "indexed"] (sp_Lease_init T.c_Lease) := by
  refine T.F_Lease_init.okX sc_Lease_init (fun vs H Q E h => ?_) (fun cdv A outer s H vs Q E hr h => ?_)
  · first | (obtain ⟨_, rfl, _⟩ := h; rfl) | (obtain ⟨_, _, rfl, _⟩ := h; rfl) | (obtain ⟨_, _, _, rfl, _⟩ := h; rfl) | (obtain ⟨_, _, _, _, rfl, _⟩ := h; rfl) | (obtain ⟨_, _, _, _, _, rfl, _⟩ := h; rfl) | (obtain ⟨_, _, _, _, _, _, rfl, _⟩ := h; rfl) | (obtain ⟨_, _, _, _, _, _, _, rfl, _⟩ := h; rfl) | (obtain ⟨_, _, _, _, _, _, _, _, rfl, _⟩ := h; rfl) | (obtain ⟨_, _, _, _, _, _, _, _, _, rfl, _⟩ := h; rfl) | (obtain ⟨_, _, _, _, _, _, _, _, _, _, rfl, _⟩ := h; rfl) | (obtain ⟨_, _, _, _, _, _, _, _, _, _, _, rfl, _⟩ := h; rfl) | (obtain ⟨_, _, _, _, _, _, _, _, _, _, _, _, rfl, _⟩ := h; rfl) | (obtain ⟨_, _, _, _, _, _, _, _, _, _, _, _, _, rfl, _⟩ := h; rfl) | (obtain ⟨_, _, _, _, _, _, _, _, _, _, _, _, _, _, rfl, _⟩ := h; rfl) | (obtain ⟨_, _, _, _, _, _, _, _, _, _, _, _, _, _, _, rfl, _⟩ := h; rfl)
  · refine ⟨_, (pss_cons (ps_fld (pv 0) (pv 1) rfl)
  (pss_cons (ps_fld (pv 0) (pv 2) rfl)
  (pss_cons (ps_fld (pv 0) pe_non rfl)
  (pss_cons (ps_fld (pv 0) (pv 4) rfl)
  (pss_cons (ps_fld (pv 0) (pe_lst (pa_cons (pe_tup (pa_cons (pv 2) (pa_cons (pv 3) pa_nil))) pa_nil)) rfl)
  (pss_cons (ps_fld (pv 0) (pe_lst pa_nil) rfl)
  (pss_cons (ps_fld (pv 0) pe_non rfl)
  (pss_cons (ps_fld (pv 0) pe_int rfl)
  (pss_one (ps_fld (pv 0) pe_int rfl)))))))))), ?_⟩
    obtain ⟨x, dx, flat, first, rent, ix, rfl, hx, k⟩ := h
    walk_at "go"
    refine g_fldX hx T.cl_Lease T.n_Lease_flat (by walk_at "sz") fun H1 hx k1 => ?_
    walk_at "go"
    refine g_fldX hx T.cl_Lease T.n_Lease_first (by walk_at "sz") fun H2 hx k2 => ?_
    have k2 := k1.trans k2
    walk_at "go"
    refine g_fldX hx T.cl_Lease T.n_Lease_last (by walk_at "sz") fun H3 hx k3 => ?_
    have k3 := k2.trans k3
    walk_at "go"
    refine g_fldX hx T.cl_Lease T.n_Lease_indexed (by walk_at "sz") fun H4 hx k4 => ?_
    have k4 := k3.trans k4
    walk_at "go"
    refine ⟨by walk_at "sz", fun p hp => ?_⟩
    walk_at "go"
    refine ⟨by walk_at "sz", fun l hl => ?_⟩
    walk_at "go"
    have s5 : Same H4 (upd (upd H4 p (.tup [.int first, .int rent])) l (.lst [.ref p])) := (same_new hp).trans (same_new hl)
    have npl : p ≠ l := ne_of_none (show (upd H4 p (.tup [.int first, .int rent])) p = some _ from upd_same) hl
    have nlx : l ≠ x := (ne_of_none ((same_new (o := .tup [.int first, .int rent]) hp) _ _ hx) hl).symm
    have npx : p ≠ x := (ne_of_none hx hp).symm
    have hl0 : H l = none := k4.free l ((same_new (o := .tup [.int first, .int rent]) hp).free hl)
    have hp5 : (upd (upd H4 p (.tup [.int first, .int rent])) l (.lst [.ref p])) p = some (.tup [.int first, .int rent]) := by rw [upd_ne npl]; exact upd_same
    have hl5 : (upd (upd H4 p (.tup [.int first, .int rent])) l (.lst [.ref p])) l = some (.lst [.ref p]) := upd_same
    have hx := s5 _ _ hx
    have k5 := k4.trans (K0.of (x := x) s5)
    generalize upd (upd H4 p (.tup [.int first, .int rent])) l (.lst [.ref p]) = H5 at hx k5 hp5 hl5 ⊢
    refine g_fldX hx T.cl_Lease T.n_Lease_steps (by walk_at "sz") fun H6 hx k6 => ?_
    have hp6 := k6.keep _ npx _ hp5
    have hl6 := k6.keep _ nlx _ hl5
    have k6 := k5.trans k6
    walk_at "go"
    refine ⟨by walk_at "sz", fun m hm => ?_⟩
    walk_at "go"
    have s7 : Same H6 (upd H6 m (.lst [])) := same_new hm
    have nmx : m ≠ x := (ne_of_none hx hm).symm
    have nlm : l ≠ m := ne_of_none hl6 hm
    have hm0 : H m = none := k6.free m hm
    have hm7 : (upd H6 m (.lst [])) m = some (.lst []) := upd_same
    have hx := s7 _ _ hx
    have hp7 := s7 _ _ hp6
    have hl7 := s7 _ _ hl6
    have k7 := k6.trans (K0.of (x := x) s7)
    generalize upd H6 m (.lst []) = H7 at hx k7 hp7 hl7 hm7 ⊢
    refine g_fldX hx T.cl_Lease T.n_Lease_moves (by walk_at "sz") fun H8 hx k8 => ?_
    have hp8 := k8.keep _ npx _ hp7
    have hl8 := k8.keep _ nlx _ hl7
    have hm8 := k8.keep _ nmx _ hm7
    have k8 := k7.trans k8
    walk_at "go"
    refine g_fldX hx T.cl_Lease T.n_Lease_closing (by walk_at "sz") fun H9 hx k9 => ?_
    have hp9 := k9.keep _ npx _ hp8
    have hl9 := k9.keep _ nlx _ hl8
    have hm9 := k9.keep _ nmx _ hm8
    have k9 := k8.trans k9
    walk_at "go"
    refine g_fldX hx T.cl_Lease T.n_Lease_cents_sent (by walk_at "sz") fun H10 hx k10 => ?_
    have hp10 := k10.keep _ npx _ hp9
    have hl10 := k10.keep _ nlx _ hl9
    have hm10 := k10.keep _ nmx _ hm9
    have k10 := k9.trans k10
    walk_at "go"
    refine ⟨x, _, _, _, rfl, hx, T.cl_Lease, T.n_Lease_cents_given, by walk_at "sz", ?_⟩
    have k11 := K0.at_ (u := .ins T.c_Lease dx (leFs ⟨x, dx, l, m, [p], []⟩ (newLe flat first rent ix))) hx
    have hp11 := k11.keep _ npx _ hp10
    have hl11 := k11.keep _ nlx _ hl10
    have hm11 := k11.keep _ nmx _ hm10
    have k11 := k10.trans k11
    exact k ⟨x, dx, l, m, [p], []⟩ _ rfl rfl hl0 hm0 nlm ⟨upd_same, hl11, PrT.one hp11, hm11, .nil⟩ (fun b n o e => k11.keep b n o e) k11.free
theorem ok_Lease_lasts_to (T : Txt K mg base) : FnOk P w K mg base (L2.CX P w) 1 T.f_Lease_lasts_to T.fd_Lease_lasts_to ["self", "day"] (sp_Lease_lasts_to T.c_Lease) := by
  refine T.F_Lease_lasts_to.okX sc_Lease_lasts_to (fun vs H Q E h => ?_) (fun cdv A outer s H vs Q E hr h => ?_)
  · first | (obtain ⟨_, rfl, _⟩ := h; rfl) | (obtain ⟨_, _, rfl, _⟩ := h; rfl) | (obtain ⟨_, _, _, rfl, _⟩ := h; rfl) | (obtain ⟨_, _, _, _, rfl, _⟩ := h; rfl) | (obtain ⟨_, _, _, _, _, rfl, _⟩ := h; rfl) | (obtain ⟨_, _, _, _, _, _, rfl, _⟩ := h; rfl) | (obtain ⟨_, _, _, _, _, _, _, rfl, _⟩ := h; rfl) | (obtain ⟨_, _, _, _, _, _, _, _, rfl, _⟩ := h; rfl) | (obtain ⟨_, _, _, _, _, _, _, _, _, rfl, _⟩ := h; rfl) | (obtain ⟨_, _, _, _, _, _, _, _, _, _, rfl, _⟩ := h; rfl) | (obtain ⟨_, _, _, _, _, _, _, _, _, _, _, rfl, _⟩ := h; rfl) | (obtain ⟨_, _, _, _, _, _, _, _, _, _, _, _, rfl, _⟩ := h; rfl) | (obtain ⟨_, _, _, _, _, _, _, _, _, _, _, _, _, rfl, _⟩ := h; rfl) | (obtain ⟨_, _, _, _, _, _, _, _, _, _, _, _, _, _, rfl, _⟩ := h; rfl) | (obtain ⟨_, _, _, _, _, _, _, _, _, _, _, _, _, _, _, rfl, _⟩ := h; rfl)
  · refine ⟨_, (pss_one (ps_ret (pe_or (pe_cmpR op_isA (pe_fld (pv 0) rfl) pe_non (nomark _)) (pe_one (pe_cmpR op_le (pv 1) (pe_fld (pv 0) rfl) (nomark _)))))), ?_⟩
    obtain ⟨a, m, d, rfl, hA, k⟩ := h
    walk_at "go"
    refine ⟨a.x, _, _, _, _, rfl, hA.ob, T.cl_Lease, T.n_Lease_last, rfl, ?_⟩
    walk_at "go"
    unfold lastsTo at k
    cases e : m.last with
    | none =>
      rw [e] at k
      refine g_ite (fun _ => ?_) (fun z => absurd rfl z)
      exact k
    | some l =>
      rw [e] at k
      refine g_ite (fun z => by cases z) (fun _ => ?_)
      walk_at "go"
      refine ⟨a.x, _, _, _, _, rfl, hA.ob, T.cl_Lease, T.n_Lease_last, rfl, ?_⟩
      rw [e]
      show rI0 _ (.int d) (.int l) H _
      walk_at "go"
      exact k
theorem ok_Lease_owed_through (T : Txt K mg base) : FnOk P w K mg base (L2.CX P w) 7 T.f_Lease_owed_through T.fd_Lease_owed_through ["self", "day", "gauges"] (sp_Lease_owed_through K T.c_Lease) := by
  refine T.F_Lease_owed_through.okX sc_Lease_owed_through (fun vs H Q E h => ?_) (fun cdv A outer s H vs Q E hr h => ?_)
  · first | (obtain ⟨_, rfl, _⟩ := h; rfl) | (obtain ⟨_, _, rfl, _⟩ := h; rfl) | (obtain ⟨_, _, _, rfl, _⟩ := h; rfl) | (obtain ⟨_, _, _, _, rfl, _⟩ := h; rfl) | (obtain ⟨_, _, _, _, _, rfl, _⟩ := h; rfl) | (obtain ⟨_, _, _, _, _, _, rfl, _⟩ := h; rfl) | (obtain ⟨_, _, _, _, _, _, _, rfl, _⟩ := h; rfl) | (obtain ⟨_, _, _, _, _, _, _, _, rfl, _⟩ := h; rfl) | (obtain ⟨_, _, _, _, _, _, _, _, _, rfl, _⟩ := h; rfl) | (obtain ⟨_, _, _, _, _, _, _, _, _, _, rfl, _⟩ := h; rfl) | (obtain ⟨_, _, _, _, _, _, _, _, _, _, _, rfl, _⟩ := h; rfl) | (obtain ⟨_, _, _, _, _, _, _, _, _, _, _, _, rfl, _⟩ := h; rfl) | (obtain ⟨_, _, _, _, _, _, _, _, _, _, _, _, _, rfl, _⟩ := h; rfl) | (obtain ⟨_, _, _, _, _, _, _, _, _, _, _, _, _, _, rfl, _⟩ := h; rfl) | (obtain ⟨_, _, _, _, _, _, _, _, _, _, _, _, _, _, _, rfl, _⟩ := h; rfl)
  · refine ⟨_, (pss_cons (ps_set (i := 3) sc_Lease_owed_through.nd rfl (Or.inl rfl) (pe_ifExp (pt_val (pe_methSS (pv 0) T.cl_Lease T.m_Lease_lasts_to (ok_Lease_lasts_to T) (hr.mono (by decide)) T.b_Lease_lasts_to (fun σ => passAt (takes_of rfl rfl rfl rfl) σ) (by exact (pa_cons (pv 1) pa_nil)))) (pv 1) (pe_fld (pv 0) rfl)))
  (pss_one (ps_ret (pe_callS (ok_owed T) hr (by rfl) T.g_owed T.F_owed.kp T.b_owed (fun σ => passAt (takes_of rfl rfl rfl rfl) σ) (by exact (pa_cons (pe_fld (pv 0) rfl) (pa_cons (pe_ifExp (pt_val (pe_fld (pv 0) rfl)) (pv 2) (pe_glob (v := .ref T.a_STEADY) (by rfl) T.g_STEADY rfl)) (pa_cons (pe_fld (pv 0) rfl) (pa_cons (pv 3) pa_nil))))))))), ?_⟩
    obtain ⟨a, m, d, g, ga, gs, rfl, hA, hm, hg, hgo, hgn, hd, k⟩ := h
    refine g_seq ?_
    refine g_set ?_
    refine g_cut (.int (lastDay m d)) (fun Q' q => ?_) ?_
    · walk_at "go"
      refine ⟨a.x, _, _, rfl, hA.ob, rfl, ?_⟩
      walk_at "go"
      refine ⟨a, m, d, rfl, hA, ?_⟩
      walk_at "go"
      unfold lastDay at q
      refine g_iteB (fun c => ?_) (fun c => ?_)
      · walk_at "go"
        unfold lastsTo at c
        cases e : m.last with
        | none => rw [e] at q; exact q
        | some l =>
          rw [e] at q c
          dsimp only at q c
          rw [if_pos (of_decide_eq_true c)] at q
          exact q
      · walk_at "go"
        refine ⟨a.x, _, _, _, _, rfl, hA.ob, T.cl_Lease, T.n_Lease_last, rfl, ?_⟩
        unfold lastsTo at c
        cases e : m.last with
        | none => rw [e] at c; cases c
        | some l =>
          rw [e] at q c
          dsimp only at q c
          rw [if_neg (of_decide_eq_false c)] at q
          exact q
    · have hl : lastDay m d ≤ 99999 := by
        unfold lastDay
        cases e : m.last with
        | none => exact hd
        | some l =>
          dsimp only
          have := hm.l1 l e
          split <;> omega
      walk_at "go"
      refine ⟨a.x, _, _, _, _, rfl, hA.ob, T.cl_Lease, T.n_Lease_steps, rfl, ?_⟩
      walk_at "go"
      refine ⟨a.x, _, _, _, _, rfl, hA.ob, T.cl_Lease, T.n_Lease_indexed, rfl, ?_⟩
      walk_at "go"
      unfold leOwed at k
      refine g_iteB (fun c => ?_) (fun c => ?_)
      · rw [if_pos c] at k
        walk_at "go"
        refine ⟨a.x, _, _, _, _, rfl, hA.ob, T.cl_Lease, T.n_Lease_first, rfl, ?_⟩
        walk_at "go"
        refine ⟨a.s, a.sa, m.steps, g, ga, gs, m.first, lastDay m d, rfl, ⟨.inl (SqL.of hA.st), hA.sp.prs⟩, hg, hm.so, hgo, Nat.le_trans hm.sn (by decide), Nat.le_trans hgn (by decide), hm.f0, hl, fun H1 s1 => ?_⟩
        exact k _ s1
      · rw [if_neg (by rw [c]; decide)] at k
        walk_at "go"
        refine ⟨a.x, _, _, _, _, rfl, hA.ob, T.cl_Lease, T.n_Lease_first, rfl, ?_⟩
        walk_at "go"
        refine ⟨a.s, a.sa, m.steps, T.a_STEADY, [T.i_STEADY], steady, m.first, lastDay m d, rfl, ⟨.inl (SqL.of hA.st), hA.sp.prs⟩, ⟨.inr (T.q_STEADY H), Prs.one (T.qi_STEADY H)⟩, hm.so, steady_ok, Nat.le_trans hm.sn (by decide), by walk_at "sz", hm.f0, hl, fun H1 s1 => ?_⟩
        exact k _ s1
theorem ok_Lease_pledge_through (T : Txt K mg base) : FnOk P w K mg base (L2.CX P w) 4 T.f_Lease_pledge_through T.fd_Lease_pledge_through ["self", "day", "rates"] (sp_Lease_pledge_through K T.c_Lease) := by
  refine T.F_Lease_pledge_through.okX sc_Lease_pledge_through (fun vs H Q E h => ?_) (fun cdv A outer s H vs Q E hr h => ?_)
  · first | (obtain ⟨_, rfl, _⟩ := h; rfl) | (obtain ⟨_, _, rfl, _⟩ := h; rfl) | (obtain ⟨_, _, _, rfl, _⟩ := h; rfl) | (obtain ⟨_, _, _, _, rfl, _⟩ := h; rfl) | (obtain ⟨_, _, _, _, _, rfl, _⟩ := h; rfl) | (obtain ⟨_, _, _, _, _, _, rfl, _⟩ := h; rfl) | (obtain ⟨_, _, _, _, _, _, _, rfl, _⟩ := h; rfl) | (obtain ⟨_, _, _, _, _, _, _, _, rfl, _⟩ := h; rfl) | (obtain ⟨_, _, _, _, _, _, _, _, _, rfl, _⟩ := h; rfl) | (obtain ⟨_, _, _, _, _, _, _, _, _, _, rfl, _⟩ := h; rfl) | (obtain ⟨_, _, _, _, _, _, _, _, _, _, _, rfl, _⟩ := h; rfl) | (obtain ⟨_, _, _, _, _, _, _, _, _, _, _, _, rfl, _⟩ := h; rfl) | (obtain ⟨_, _, _, _, _, _, _, _, _, _, _, _, _, rfl, _⟩ := h; rfl) | (obtain ⟨_, _, _, _, _, _, _, _, _, _, _, _, _, _, rfl, _⟩ := h; rfl) | (obtain ⟨_, _, _, _, _, _, _, _, _, _, _, _, _, _, _, rfl, _⟩ := h; rfl)
  · refine ⟨_, (pss_one (ps_ret (pe_op op_plus (pe_callS (ok_balance T) (hr.mono (by decide)) (by rfl) T.g_balance T.F_balance.kp T.b_balance (fun σ => passAt (takes_of rfl rfl rfl rfl) σ) (by exact (pa_cons (pe_fld (pv 0) rfl) (pa_cons (pv 1) pa_nil)))) (pe_callS (ok_grown T) hr (by rfl) T.g_grown T.F_grown.kp T.b_grown (fun σ => passAt (takes_of rfl rfl rfl rfl) σ) (by exact (pa_cons (pe_fld (pv 0) rfl) (pa_cons (pv 2) (pa_cons (pv 1) pa_nil)))))))), ?_⟩
    obtain ⟨a, m, d, g, ga, gs, rfl, hA, hm, hg, hgo, hgn, hd, k⟩ := h
    walk_at "go"
    refine ⟨a.x, _, _, _, _, rfl, hA.ob, T.cl_Lease, T.n_Lease_moves, rfl, ?_⟩
    walk_at "go"
    refine ⟨a.m, a.ma, m.moves, d, rfl, ⟨.inl (SqL.of hA.mv), hA.mp.prs⟩, Nat.le_trans hm.mn (by decide), fun H1 s1 => ?_⟩
    walk_at "go"
    refine ⟨a.x, _, _, _, _, rfl, (hA.same s1).ob, T.cl_Lease, T.n_Lease_moves, rfl, ?_⟩
    walk_at "go"
    refine ⟨a.m, a.ma, m.moves, g, ga, gs, d, rfl, SqL.of (hA.same s1).mv, (hA.same s1).mp, Nat.le_trans hm.mn (by decide), hg.same s1, hgo, Nat.le_trans hgn (by decide), hd, fun H2 s2 => ?_⟩
    walk_at "go"
    exact k _ (s1.trans s2)
theorem ok_Roll_init (T : Txt K mg base) : FnOk P w K mg base (L2.CX P w) 1 T.f_Roll_init T.fd_Roll_init ["self"] (sp_Roll_init T.c_Roll T.c_Lease) := by
  refine T.F_Roll_init.okX sc_Roll_init (fun vs H Q E h => ?_) (fun cdv A outer s H vs Q E hr h => ?_)
  · first | (obtain ⟨_, rfl, _⟩ := h; rfl) | (obtain ⟨_, _, rfl, _⟩ := h; rfl) | (obtain ⟨_, _, _, rfl, _⟩ := h; rfl) | (obtain ⟨_, _, _, _, rfl, _⟩ := h; rfl) | (obtain ⟨_, _, _, _, _, rfl, _⟩ := h; rfl) | (obtain ⟨_, _, _, _, _, _, rfl, _⟩ := h; rfl) | (obtain ⟨_, _, _, _, _, _, _, rfl, _⟩ := h; rfl) | (obtain ⟨_, _, _, _, _, _, _, _, rfl, _⟩ := h; rfl) | (obtain ⟨_, _, _, _, _, _, _, _, _, rfl, _⟩ := h; rfl) | (obtain ⟨_, _, _, _, _, _, _, _, _, _, rfl, _⟩ := h; rfl) | (obtain ⟨_, _, _, _, _, _, _, _, _, _, _, rfl, _⟩ := h; rfl) | (obtain ⟨_, _, _, _, _, _, _, _, _, _, _, _, rfl, _⟩ := h; rfl) | (obtain ⟨_, _, _, _, _, _, _, _, _, _, _, _, _, rfl, _⟩ := h; rfl) | (obtain ⟨_, _, _, _, _, _, _, _, _, _, _, _, _, _, rfl, _⟩ := h; rfl) | (obtain ⟨_, _, _, _, _, _, _, _, _, _, _, _, _, _, _, rfl, _⟩ := h; rfl)
  · refine ⟨_, (pss_cons (ps_fld (pv 0) (pe_lst pa_nil) rfl)
  (pss_cons (ps_fld (pv 0) (pe_lst (pa_cons (pe_tup (pa_cons pe_int (pa_cons pe_int pa_nil))) pa_nil)) rfl)
  (pss_cons (ps_fld (pv 0) (pe_lst (pa_cons (pe_tup (pa_cons pe_int (pa_cons pe_int pa_nil))) pa_nil)) rfl)
  (pss_cons (ps_fld (pv 0) (pe_un un_neg pe_int) rfl)
  (pss_one (ps_fld (pv 0) (pe_lst pa_nil) rfl)))))), ?_⟩
    obtain ⟨x, dx, rfl, hx, k⟩ := h
    walk_at "go"
    refine ⟨by walk_at "sz", fun l hl => ?_⟩
    walk_at "go"
    have s1 : Same H (upd H l (.lst [])) := same_new hl
    have nlx : l ≠ x := (ne_of_none hx hl).symm
    have hx := s1 _ _ hx
    have hl1 : (upd H l (.lst [])) l = some (.lst []) := upd_same
    have k1 := K0.of (x := x) s1
    generalize upd H l (.lst []) = H1 at hx hl1 k1 ⊢
    refine g_fldX hx T.cl_Roll T.n_Roll__leases (by walk_at "sz") fun H2 hx k2 => ?_
    have hl2 := k2.keep _ nlx _ hl1
    have k2 := k1.trans k2
    walk_at "go"
    refine ⟨by walk_at "sz", fun p hp => ?_⟩
    walk_at "go"
    refine ⟨by walk_at "sz", fun g hg => ?_⟩
    walk_at "go"
    have s3 : Same H2 (upd (upd H2 p (.tup [.int 0, .int 100])) g (.lst [.ref p])) := (same_new hp).trans (same_new hg)
    have npg : p ≠ g := ne_of_none (show (upd H2 p (.tup [.int 0, .int 100])) p = some _ from upd_same) hg
    have ngx : g ≠ x := (ne_of_none ((same_new (o := .tup [.int 0, .int 100]) hp) _ _ hx) hg).symm
    have npx : p ≠ x := (ne_of_none hx hp).symm
    have nlg : l ≠ g := ne_of_none ((same_new (o := .tup [.int 0, .int 100]) hp) _ _ hl2) hg
    have hg0 : H g = none := k2.free g ((same_new (o := .tup [.int 0, .int 100]) hp).free hg)
    have hp3 : (upd (upd H2 p (.tup [.int 0, .int 100])) g (.lst [.ref p])) p = some (.tup [.int 0, .int 100]) := by rw [upd_ne npg]; exact upd_same
    have hg3 : (upd (upd H2 p (.tup [.int 0, .int 100])) g (.lst [.ref p])) g = some (.lst [.ref p]) := upd_same
    have hx := s3 _ _ hx
    have hl3 := s3 _ _ hl2
    have k3 := k2.trans (K0.of (x := x) s3)
    generalize upd (upd H2 p (.tup [.int 0, .int 100])) g (.lst [.ref p]) = H3 at hx k3 hp3 hg3 hl3 ⊢
    refine g_fldX hx T.cl_Roll T.n_Roll__gauges (by walk_at "sz") fun H4 hx k4 => ?_
    have hl4 := k4.keep _ nlx _ hl3
    have hp4 := k4.keep _ npx _ hp3
    have hg4 := k4.keep _ ngx _ hg3
    have k4 := k3.trans k4
    walk_at "go"
    refine ⟨by walk_at "sz", fun q hq => ?_⟩
    walk_at "go"
    refine ⟨by walk_at "sz", fun r hr' => ?_⟩
    walk_at "go"
    have s5 : Same H4 (upd (upd H4 q (.tup [.int 0, .int 0])) r (.lst [.ref q])) := (same_new hq).trans (same_new hr')
    have nqr : q ≠ r := ne_of_none (show (upd H4 q (.tup [.int 0, .int 0])) q = some _ from upd_same) hr'
    have nrx : r ≠ x := (ne_of_none ((same_new (o := .tup [.int 0, .int 0]) hq) _ _ hx) hr').symm
    have nqx : q ≠ x := (ne_of_none hx hq).symm
    have nlr : l ≠ r := ne_of_none ((same_new (o := .tup [.int 0, .int 0]) hq) _ _ hl4) hr'
    have ngr : g ≠ r := ne_of_none ((same_new (o := .tup [.int 0, .int 0]) hq) _ _ hg4) hr'
    have hr0 : H r = none := k4.free r ((same_new (o := .tup [.int 0, .int 0]) hq).free hr')
    have hq5 : (upd (upd H4 q (.tup [.int 0, .int 0])) r (.lst [.ref q])) q = some (.tup [.int 0, .int 0]) := by rw [upd_ne nqr]; exact upd_same
    have hr5 : (upd (upd H4 q (.tup [.int 0, .int 0])) r (.lst [.ref q])) r = some (.lst [.ref q]) := upd_same
    have hx := s5 _ _ hx
    have hl5 := s5 _ _ hl4
    have hp5 := s5 _ _ hp4
    have hg5 := s5 _ _ hg4
    have k5 := k4.trans (K0.of (x := x) s5)
    generalize upd (upd H4 q (.tup [.int 0, .int 0])) r (.lst [.ref q]) = H5 at hx k5 hp5 hg5 hl5 hq5 hr5 ⊢
    refine g_fldX hx T.cl_Roll T.n_Roll__rates (by walk_at "sz") fun H6 hx k6 => ?_
    have hl6 := k6.keep _ nlx _ hl5
    have hp6 := k6.keep _ npx _ hp5
    have hg6 := k6.keep _ ngx _ hg5
    have hq6 := k6.keep _ nqx _ hq5
    have hr6 := k6.keep _ nrx _ hr5
    have k6 := k5.trans k6
    walk_at "go"
    refine g_fldX hx T.cl_Roll T.n_Roll__billed (by walk_at "sz") fun H7 hx k7 => ?_
    have hl7 := k7.keep _ nlx _ hl6
    have hp7 := k7.keep _ npx _ hp6
    have hg7 := k7.keep _ ngx _ hg6
    have hq7 := k7.keep _ nqx _ hq6
    have hr7 := k7.keep _ nrx _ hr6
    have k7 := k6.trans k7
    walk_at "go"
    refine ⟨by walk_at "sz", fun t ht => ?_⟩
    walk_at "go"
    have s8 : Same H7 (upd H7 t (.lst [])) := same_new ht
    have ntx : t ≠ x := (ne_of_none hx ht).symm
    have nlt : l ≠ t := ne_of_none hl7 ht
    have ngt : g ≠ t := ne_of_none hg7 ht
    have nrt : r ≠ t := ne_of_none hr7 ht
    have ht0 : H t = none := k7.free t ht
    have ht8 : (upd H7 t (.lst [])) t = some (.lst []) := upd_same
    have hx := s8 _ _ hx
    have hl8 := s8 _ _ hl7
    have hp8 := s8 _ _ hp7
    have hg8 := s8 _ _ hg7
    have hq8 := s8 _ _ hq7
    have hr8 := s8 _ _ hr7
    have k8 := k7.trans (K0.of (x := x) s8)
    generalize upd H7 t (.lst []) = H8 at hx k8 hp8 hg8 hl8 hq8 hr8 ht8 ⊢
    refine ⟨x, _, _, _, rfl, hx, T.cl_Roll, T.n_Roll__letters, by walk_at "sz", ?_⟩
    have k9 := K0.at_ (u := .ins T.c_Roll dx (roFs ⟨x, dx, l, g, r, t, [], [p], [q], []⟩ newRo)) hx
    refine k ⟨x, dx, l, g, r, t, [], [p], [q], []⟩ _ rfl rfl ⟨upd_same, k9.keep _ nlx _ hl8, .nil, k9.keep _ ngx _ hg8, PrT.one (k9.keep _ npx _ hp8), k9.keep _ nrx _ hr8, PrT.one (k9.keep _ nqx _ hq8), k9.keep _ ntx _ ht8, .nil, ?_, .nil⟩ (k8.trans k9) ?_
    · simp [nlg, nlr, nlt, ngr, ngt, nrt]
    · intro b hb nb
      simp only [owns, List.flatMap_nil, List.mem_cons, List.not_mem_nil, or_false] at hb
      rcases hb with rfl | rfl | rfl | rfl | rfl
      · exact absurd rfl nb
      · exact hl
      · exact hg0
      · exact hr0
      · exact ht0
theorem ok_Roll__check_free (T : Txt K mg base) : FnOk P w K mg base (L2.CX P w) 2 T.f_Roll__check_free T.fd_Roll__check_free ["self", "flat", "first"] (sp_Roll__check_free T.c_Roll T.c_Lease T.c_Taken) := by
  refine T.F_Roll__check_free.okX sc_Roll__check_free (fun vs H Q E h => ?_) (fun cdv A outer s H vs Q E hr h => ?_)
  · first | (obtain ⟨_, rfl, _⟩ := h; rfl) | (obtain ⟨_, _, rfl, _⟩ := h; rfl) | (obtain ⟨_, _, _, rfl, _⟩ := h; rfl) | (obtain ⟨_, _, _, _, rfl, _⟩ := h; rfl) | (obtain ⟨_, _, _, _, _, rfl, _⟩ := h; rfl) | (obtain ⟨_, _, _, _, _, _, rfl, _⟩ := h; rfl) | (obtain ⟨_, _, _, _, _, _, _, rfl, _⟩ := h; rfl) | (obtain ⟨_, _, _, _, _, _, _, _, rfl, _⟩ := h; rfl) | (obtain ⟨_, _, _, _, _, _, _, _, _, rfl, _⟩ := h; rfl) | (obtain ⟨_, _, _, _, _, _, _, _, _, _, rfl, _⟩ := h; rfl) | (obtain ⟨_, _, _, _, _, _, _, _, _, _, _, rfl, _⟩ := h; rfl) | (obtain ⟨_, _, _, _, _, _, _, _, _, _, _, _, rfl, _⟩ := h; rfl) | (obtain ⟨_, _, _, _, _, _, _, _, _, _, _, _, _, rfl, _⟩ := h; rfl) | (obtain ⟨_, _, _, _, _, _, _, _, _, _, _, _, _, _, rfl, _⟩ := h; rfl) | (obtain ⟨_, _, _, _, _, _, _, _, _, _, _, _, _, _, _, rfl, _⟩ := h; rfl)
  · refine ⟨_, (pss_one (ps_for (passes_of rfl) rfl (show PI _ _ _ (iLT K _) from pi_lt (pe_fld (pv 0) rfl)) (pg_name (i := 3) sc_Roll__check_free.nd rfl (Or.inl rfl))
  (pss_one (ps_if (PW.pt (pw_and (pt_cmpR (show OpR _ (compareOp .Eq) (rEqA K) from op_eqA hr.units) (pe_fld (pv 3) rfl) (pv 1) (nomark _)) (pw_and1 (pt_val (pe_methSS (pv 3) T.cl_Lease T.m_Lease_lasts_to (ok_Lease_lasts_to T) hr T.b_Lease_lasts_to (fun σ => passAt (takes_of rfl rfl rfl rfl) σ) (by exact (pa_cons (pv 2) pa_nil)))))))
  (pss_one (ps_raise rfl (takes_of rfl rfl rfl rfl) (pmk_own PySem.F.excBase_ValueError T.x_Taken T.g_Taken T.k_Taken (raises_own T.s_Taken T.t_Taken) (by exact rfl))))
  pss_nil)))), ?_⟩
    obtain ⟨a, m, flat, first, rfl, hA, hn, k1, k2⟩ := h
    have hlen := hA.ls.len
    walk_at "go"
    refine g_forQ (a := a.l) (xs := a.ls.map fun e => V.ref e.x) (fun i σ' H' => H = H' ∧ (∀ j e, j < i → m.leases[j]? = some e → (decide (e.flat = flat) && lastsTo e first) = false) ∧ ∃ v, σ' = [some (.ref a.x), some (.str flat), some (.int first), v])
      (fun Q' q => ?_) (.inl (SqL.of hA.lo)) ⟨rfl, fun j e h => absurd h (Nat.not_lt_zero j), none, rfl⟩ (fun i σ' H' ⟨e, _⟩ => e ▸ Same.refl H) ?_ ?_
    · walk_at "go"
      exact ⟨a.x, _, _, _, _, rfl, hA.ob, T.cl_Roll, T.n_Roll__leases, rfl, q⟩
    · rintro i x σ' H' hx ⟨rfl, hb, v, rfl⟩
      have hi : i < a.ls.length := by
        have q := (List.getElem?_eq_some_iff.mp hx).1
        rw [List.length_map] at q
        exact q
      have he : m.leases[i]? = some (m.leases[i]'(by omega)) := List.getElem?_eq_getElem (by omega)
      generalize m.leases[i]'(by omega) = e at he
      obtain ⟨le, h2, h3⟩ := hA.ls.get he
      have ex : x = .ref le.x := by
        rw [List.getElem?_map, h2] at hx
        exact (Option.some.inj hx).symm
      subst ex
      walk_at "gos"
      refine g_ifB (decide (e.flat = flat) && lastsTo e first) (fun Q' q => ?_) (fun c => ?_) (fun c => ?_)
      · walk_at "go"
        refine ⟨le.x, _, _, _, _, rfl, h3.ob, T.cl_Lease, T.n_Lease_flat, rfl, ?_⟩
        walk_at "go"
        refine r_eqS rfl ?_
        walk_at "go"
        have ed : decide (V.str e.flat = V.str flat) = decide (e.flat = flat) := by simp
        rw [ed]
        refine g_ite (fun c => ?_) (fun c => ?_)
        · rw [decide_eq_true c, Bool.true_and] at q
          walk_at "go"
          refine ⟨le.x, _, _, rfl, h3.ob, rfl, ?_⟩
          walk_at "go"
          refine ⟨le, e, first, rfl, h3, ?_⟩
          walk_at "go"
          exact q
        · rw [decide_eq_false c, Bool.false_and] at q
          exact q
      · walk_at "go"
        refine k2 (Bool.eq_false_iff.mpr fun z => ?_)
        have q := List.all_eq_true.mp z e (List.mem_of_getElem? he)
        rw [c] at q
        cases q
      · walk_at "go"
        refine ⟨rfl, fun j o hj ho => ?_, _, rfl⟩
        by_cases z : j = i
        · subst z
          rw [he] at ho
          cases ho
          exact c
        · exact hb j o (by omega) ho
    · rintro σ' H' ⟨rfl, hb, v, rfl⟩
      walk_at "go"
      refine k1 (List.all_eq_true.mpr fun o ho => ?_)
      obtain ⟨j, hj⟩ := List.mem_iff_getElem?.mp ho
      have hjl := (List.getElem?_eq_some_iff.mp hj).1
      rw [hb j o (by rw [List.length_map]; omega) hj]
      rfl
theorem ok_Roll__done (T : Txt K mg base) : FnOk P w K mg base (L2.CX P w) 8 T.f_Roll__done T.fd_Roll__done ["self", "letter"] (sp_Roll__done T.c_Roll T.c_Lease) := by
  refine T.F_Roll__done.okX sc_Roll__done (fun vs H Q E h => ?_) (fun cdv A outer s H vs Q E hr h => ?_)
  · first | (obtain ⟨_, rfl, _⟩ := h; rfl) | (obtain ⟨_, _, rfl, _⟩ := h; rfl) | (obtain ⟨_, _, _, rfl, _⟩ := h; rfl) | (obtain ⟨_, _, _, _, rfl, _⟩ := h; rfl) | (obtain ⟨_, _, _, _, _, rfl, _⟩ := h; rfl) | (obtain ⟨_, _, _, _, _, _, rfl, _⟩ := h; rfl) | (obtain ⟨_, _, _, _, _, _, _, rfl, _⟩ := h; rfl) | (obtain ⟨_, _, _, _, _, _, _, _, rfl, _⟩ := h; rfl) | (obtain ⟨_, _, _, _, _, _, _, _, _, rfl, _⟩ := h; rfl) | (obtain ⟨_, _, _, _, _, _, _, _, _, _, rfl, _⟩ := h; rfl) | (obtain ⟨_, _, _, _, _, _, _, _, _, _, _, rfl, _⟩ := h; rfl) | (obtain ⟨_, _, _, _, _, _, _, _, _, _, _, _, rfl, _⟩ := h; rfl) | (obtain ⟨_, _, _, _, _, _, _, _, _, _, _, _, _, rfl, _⟩ := h; rfl) | (obtain ⟨_, _, _, _, _, _, _, _, _, _, _, _, _, _, rfl, _⟩ := h; rfl) | (obtain ⟨_, _, _, _, _, _, _, _, _, _, _, _, _, _, _, rfl, _⟩ := h; rfl)
  · refine ⟨_, (pss_cons (ps_expr (pe_bm PySem.F.plainAttrs_list PySem.F.slot_list_append PySem.F.type_list_append mt_append (pe_fld (pv 0) rfl) (pa_cons (pv 1) pa_nil)))
  (pss_cons (ps_set (i := 2) sc_Roll__done.nd rfl (Or.inl rfl) (pe_lst pa_nil))
  (pss_cons (ps_for (passes_of rfl) rfl (pi_enum (by rfl) T.n_enumerate (pa_cons (pe_fld (pv 0) rfl) pa_nil)) (pg_tup rfl (pgs_cons (pg_name (i := 3) sc_Roll__done.nd rfl (Or.inl rfl)) (pgs_cons (pg_name (i := 4) sc_Roll__done.nd rfl (Or.inl rfl)) pgs_nil)))
  (pss_cons (ps_set (i := 5) sc_Roll__done.nd rfl (Or.inl rfl) (pe_op op_sub (pe_methSS (pv 4) T.cl_Lease T.m_Lease_owed_through (ok_Lease_owed_through T) hr T.b_Lease_owed_through (fun σ => passAt (takes_of rfl rfl rfl rfl) σ) (by exact (pa_cons (pe_fld (pv 0) rfl) (pa_cons (pe_fld (pv 0) rfl) pa_nil)))) (pe_fld (pv 4) rfl)))
  (Evl.pss_cut (ps_if (pt_cmpR (show OpR _ (compareOp .NotEq) (rNeA K) from op_neA hr.units) (pv 5) pe_int (nomark _))
  (pss_cons (ps_fldaug (pv 4) (pv 5) in_add)
  (pss_one (ps_expr (pe_bm PySem.F.plainAttrs_list PySem.F.slot_list_append PySem.F.type_list_append mt_append (pv 2) (pa_cons (pe_tup (pa_cons pe_str (pa_cons (pv 3) (pa_cons (pv 5) pa_nil)))) pa_nil)))))
  pss_nil)
  (pss_cons (ps_if (pt_cmpR op_isA (pe_fld (pv 4) rfl) pe_non (nomark _))
  (pss_one ps_continue)
  pss_nil)
  (pss_cons (ps_set (i := 5) sc_Roll__done.nd rfl (Or.inl rfl) (pe_op op_sub (pe_methSS (pv 4) T.cl_Lease T.m_Lease_pledge_through (ok_Lease_pledge_through T) (hr.mono (by decide)) T.b_Lease_pledge_through (fun σ => passAt (takes_of rfl rfl rfl rfl) σ) (by exact (pa_cons (pe_fld (pv 4) rfl) (pa_cons (pe_fld (pv 0) rfl) pa_nil)))) (pe_fld (pv 4) rfl)))
  (pss_one (ps_if (pt_cmpR (show OpR _ (compareOp .NotEq) (rNeA K) from op_neA hr.units) (pv 5) pe_int (nomark _))
  (pss_cons (ps_fldaug (pv 4) (pv 5) in_add)
  (pss_one (ps_expr (pe_bm PySem.F.plainAttrs_list PySem.F.slot_list_append PySem.F.type_list_append mt_append (pv 2) (pa_cons (pe_tup (pa_cons pe_str (pa_cons (pv 3) (pa_cons (pv 5) pa_nil)))) pa_nil)))))
  pss_nil)))))))
  (pss_one (ps_ret (pv 2)))))), ?_⟩
    obtain ⟨a, m, p, lv, rfl, hp, hA, hm, k⟩ := h
    walk_at "go"
    refine ⟨a.x, _, _, _, _, rfl, hA.ob, T.cl_Roll, T.n_Roll__letters, rfl, ?_⟩
    refine ⟨.inl ⟨rfl, _, SqL.of hA.to⟩, ?_⟩
    walk_at "go"
    have htl := hA.tp.len
    have htn := hm.tn
    refine ⟨a.t, _, _, rfl, rfl, hA.to, ?_, ?_⟩
    · rw [List.length_map]
      exact Nat.lt_of_lt_of_le (show a.ta.length < 10001 by omega) (by decide)
    have hA1 := hA.letter hp
    have f1 : FrO a H (upd H a.t (.lst (a.ta.map V.ref ++ [V.ref p]))) := FrO.k0 (by unfold owns; simp) (K0.at_ hA.to)
    generalize upd H a.t (.lst (a.ta.map V.ref ++ [V.ref p])) = H1 at hA1 f1 ⊢
    walk_at "go"
    refine ⟨by walk_at "sz", fun l hl => ?_⟩
    have hl0 : H l = none := f1.free l hl
    have hno : l ∉ owns a := hA1.not_new hl
    have hA2 := hA1.same (same_new (o := .lst []) hl)
    have f2 := f1.trans (FrO.of (a := a) (same_new (o := .lst []) hl))
    have hl2 : (upd H1 l (.lst [])) l = some (.lst []) := upd_same
    generalize upd H1 l (.lst []) = H2 at hA2 f2 hl2 ⊢
    walk_at "go"
    refine g_forEn (g_iEn ?_)
    walk_at "go"
    refine ⟨a.x, _, _, _, _, rfl, hA2.ob, T.cl_Roll, T.n_Roll__leases, rfl, ?_⟩
    walk_at "go"
    have hlen := hA2.ls.len
    refine ⟨a.l, _, rfl, SqL.of hA2.lo, ?_⟩
    refine enum_of (fun i σ' H' => ∃ v1 v2 v3 ts, σ' = [some (.ref a.x), some (.ref p), some (.ref l), v1, v2, v3] ∧ FrO a H H' ∧ RoAt T.c_Roll T.c_Lease H' { a with ta := a.ta ++ [p] } { m with leases := doneUp m.gauges m.rates m.billed m.leases i, letters := m.letters ++ [lv] } ∧
        H' l = some (.lst (ts.map V.ref)) ∧ TupsAt H' ts (ansUp m.gauges m.rates m.billed m.leases i))
      ⟨none, none, none, [], rfl, f2, hA2, hl2, .nil⟩ (fun i σ' H' ⟨_, _, _, _, _, _, hR, _⟩ => SqL.of hR.lo) ?_ ?_
    · rintro i x σ' H3 T' hx hT ⟨v1, v2, v3, ts, rfl, f3, hR, hl3, hTs⟩
      have hi : i < a.ls.length := by
        have q := (List.getElem?_eq_some_iff.mp hx).1
        rw [List.length_map] at q
        exact q
      have hi2 : i < m.leases.length := by rw [← hlen]; exact hi
      have he : m.leases[i]? = some (m.leases[i]'hi2) := List.getElem?_eq_getElem hi2
      have hE := hm.le _ (List.mem_of_getElem? he)
      generalize m.leases[i]'hi2 = e at he hE
      obtain ⟨le, h2, h3⟩ := hR.ls.get (doneUp_at he)
      have ex : x = .ref le.x := by
        have q : (a.ls.map fun e => V.ref e.x)[i]? = some x := hx
        rw [List.getElem?_map, show a.ls[i]? = some le from h2] at q
        exact (Option.some.inj q).symm
      subst ex
      have s4 : Same H3 (upd H3 T' (.tup [.int (i : Nat), .ref le.x])) := same_new hT
      have hR := hR.same s4
      have h3 := h3.same s4
      have hl3 := s4 _ _ hl3
      have hTs := hTs.same s4
      have f3 := f3.trans (FrO.of (a := a) s4)
      refine g_gtup (SqT.of upd_same) rfl ?_
      generalize upd H3 T' (.tup [.int (i : Nat), .ref le.x]) = H4 at hR h3 hl3 hTs f3 ⊢
      clear s4 hT
      walk_at "go"
      refine ⟨le.x, _, _, rfl, h3.ob, rfl, ?_⟩
      walk_at "go"
      refine ⟨a.x, _, _, _, _, rfl, hR.ob, T.cl_Roll, T.n_Roll__billed, rfl, ?_⟩
      walk_at "go"
      refine ⟨a.x, _, _, _, _, rfl, hR.ob, T.cl_Roll, T.n_Roll__gauges, rfl, ?_⟩
      walk_at "go"
      refine ⟨le, e, m.billed, a.g, a.ga, m.gauges, rfl, h3, hE, ⟨.inl (SqL.of hR.go), hR.gp.prs⟩, hm.ga, hm.gn, hm.b1, fun H5 s5 => ?_⟩
      have hR := hR.same s5
      have h3 := h3.same s5
      have hl3 := s5 _ _ hl3
      have hTs := hTs.same s5
      have f3 := f3.trans (FrO.of (a := a) s5)
      walk_at "go"
      refine ⟨le.x, _, _, _, _, rfl, h3.ob, T.cl_Lease, T.n_Lease_cents_sent, rfl, ?_⟩
      walk_at "go"
      have hin : le ∈ a.ls := List.mem_of_getElem? h2
      have hxo := (owns_le hin).1
      have hnx : l ≠ le.x := fun z => hno (z ▸ hxo)
      have hul := ansUp_len (gs := m.gauges) (rs := m.rates) (b := m.billed) (ms := m.leases) i
      have hml := hm.ln
      refine g_tcut (fun σ' H' => σ' = [some (.ref a.x), some (.ref p), some (.ref l), some (.int (i : Nat)), some (.ref le.x), some (.int (leOwed e m.gauges m.billed - e.sent))] ∧ ∃ ts, FrO a H H' ∧
          RoAt T.c_Roll T.c_Lease H' { a with ta := a.ta ++ [p] } { m with leases := (doneUp m.gauges m.rates m.billed m.leases i).set i { e with sent := leOwed e m.gauges m.billed }, letters := m.letters ++ [lv] } ∧
          LeAt T.c_Lease H' le { e with sent := leOwed e m.gauges m.billed } ∧ H' l = some (.lst (ts.map V.ref)) ∧ TupsAt H' ts (ansUp m.gauges m.rates m.billed m.leases i ++ ansRent m.gauges m.billed i e)) ?_ ?_
      · walk_at "go"
        refine g_iteN (fun c => ?_) (fun c => ?_)
        · walk_at "go"
          refine ⟨le.x, _, _, _, _, rfl, h3.ob, T.cl_Lease, T.n_Lease_cents_sent, rfl, ?_⟩
          walk_at "go"
          rw [show e.sent + (leOwed e m.gauges m.billed - e.sent) = leOwed e m.gauges m.billed by omega]
          refine ⟨_, _, h3.ob, by walk_at "sz", ?_⟩
          have h6 := h3.self (e' := { e with sent := leOwed e m.gauges m.billed }) rfl rfl
          have k6 := K0.at_ (u := .ins T.c_Lease le.dx (leFs le { e with sent := leOwed e m.gauges m.billed })) h3.ob
          have hR6 := hR.setLe h2 h3 k6 h6
          have hl6 := k6.keep _ hnx _ hl3
          have hT6 := hTs.k0 h3.ob (fun xs q => by cases q) k6
          have f6 := f3.trans (FrO.k0 hxo k6)
          refine (?_ : (fun H' => tDrop _ _ _ H') (upd H5 le.x (.ins T.c_Lease le.dx (leFs le { e with sent := leOwed e m.gauges m.billed }))))
          generalize upd H5 le.x (.ins T.c_Lease le.dx (leFs le { e with sent := leOwed e m.gauges m.billed })) = H6 at h6 hR6 hl6 hT6 f6 ⊢
          walk_at "go"
          refine ⟨.inl ⟨rfl, _, SqL.of hl6⟩, ?_⟩
          walk_at "go"
          refine ⟨by walk_at "sz", fun t ht => ?_⟩
          walk_at "go"
          have s7 : Same H6 (upd H6 t (.tup [.str "rent", .int (i : Nat), .int (leOwed e m.gauges m.billed - e.sent)])) := same_new ht
          have hl7 := s7 _ _ hl6
          have htl2 := hT6.len
          refine ⟨l, _, _, rfl, rfl, hl7, ?_, ?_⟩
          · rw [List.length_map]
            exact Nat.lt_of_lt_of_le (show ts.length < 1000 by omega) (by decide)
          · have k8 := K0.at_ (u := .lst (ts.map V.ref ++ [V.ref t])) hl7
            refine ⟨rfl, ts ++ [t], (f6.trans (FrO.of s7)).new hl0 k8, (hR6.same s7).k0 hl7 (fun xs q => by cases q) hno k8, (h6.same s7).k0 hl7 (fun xs q => by cases q) k8 hnx.symm (fun z => hno (z ▸ (owns_le hin).2.1)) (fun z => hno (z ▸ (owns_le hin).2.2)), ?_, ?_⟩
            · rw [upd_same, List.map_append]
              rfl
            · unfold ansRent
              rw [if_pos c]
              exact TupsAt.append (.cons (by rw [upd_ne (ne_of (show _ = some (HO.tup _) from upd_same) hl7 (fun q => by cases q))]; exact upd_same) .nil) ((hT6.same s7).k0 hl7 (fun xs q => by cases q) k8)
        · have ee : { e with sent := leOwed e m.gauges m.billed } = e := by
            have : leOwed e m.gauges m.billed = e.sent := by omega
            rw [this]
          walk_at "go"
          refine ⟨rfl, ts, f3, ?_, ?_, hl3, ?_⟩
          · rw [ee, list_set_same (doneUp_at he)]
            exact hR
          · rw [ee]
            exact h3
          · unfold ansRent
            rw [if_neg (fun z => z c), List.append_nil]
            exact hTs
      clear hR h3 hl3 hTs f3
      rintro σ' H6 ⟨rfl, ts, f6, hR, h3, hl6, hTs⟩
      walk_at "go"
      refine ⟨le.x, _, _, _, optV e.closing, rfl, h3.ob, T.cl_Lease, T.n_Lease_closing, rfl, ?_⟩
      walk_at "go"
      cases hc : e.closing with
      | none =>
        have hd : doneLe m.gauges m.rates m.billed e = { e with sent := leOwed e m.gauges m.billed } := by
          unfold doneLe
          rw [hc]
        have hap : ansPledge m.rates i e = [] := by
          unfold ansPledge
          rw [hc]
        rw [← hd, doneUp_succ he] at hR
        refine g_ite (fun _ => ?_) (fun z => absurd rfl z)
        walk_at "go"
        refine ⟨_, _, _, ts, rfl, f6, hR, hl6, ?_⟩
        rw [ansUp_succ he, hap, List.append_nil]
        exact hTs
      | some c0 =>
        have hd : doneLe m.gauges m.rates m.billed e = { e with sent := leOwed e m.gauges m.billed, given := leWorth e m.rates c0 } := by
          unfold doneLe
          rw [hc]
        have hE1 : LeOk { e with sent := leOwed e m.gauges m.billed } := ⟨hE.f0, hE.f1, hE.l1, hE.c1, hE.so, hE.sn, hE.mn⟩
        refine g_ite (fun z => by cases z) (fun _ => ?_)
        walk_at "go"
        refine ⟨le.x, _, _, rfl, h3.ob, rfl, ?_⟩
        walk_at "go"
        refine ⟨le.x, _, _, _, optV e.closing, rfl, h3.ob, T.cl_Lease, T.n_Lease_closing, rfl, ?_⟩
        rw [hc]
        walk_at "go"
        refine ⟨a.x, _, _, _, _, rfl, hR.ob, T.cl_Roll, T.n_Roll__rates, rfl, ?_⟩
        walk_at "go"
        refine ⟨le, _, c0, a.r, a.ra, m.rates, rfl, h3, hE1, ⟨.inl (SqL.of hR.ro), hR.rp.prs⟩, hm.ra, hm.rn, hE.c1 c0 hc, fun H7 s7 => ?_⟩
        have hR := hR.same s7
        have h3 := h3.same s7
        have hl7 := s7 _ _ hl6
        have hTs := hTs.same s7
        have f7 := f6.trans (FrO.of (a := a) s7)
        walk_at "go"
        refine ⟨le.x, _, _, _, .int e.given, rfl, h3.ob, T.cl_Lease, T.n_Lease_cents_given, rfl, ?_⟩
        walk_at "go"
        have ew : leWorth { e with sent := leOwed e m.gauges m.billed } m.rates c0 = leWorth e m.rates c0 := rfl
        rw [ew]
        have htl2 := hTs.len
        rw [List.length_append] at htl2
        have har := ansRent_len (gs := m.gauges) (b := m.billed) (i := i) (e := e)
        refine g_iteN (fun c => ?_) (fun c => ?_)
        · have hap : ansPledge m.rates i e = [[.str "pledge", .int i, .int (leWorth e m.rates c0 - e.given)]] := by
            unfold ansPledge
            rw [hc]
            exact if_pos c
          walk_at "go"
          refine ⟨le.x, _, _, _, .int e.given, rfl, h3.ob, T.cl_Lease, T.n_Lease_cents_given, rfl, ?_⟩
          walk_at "go"
          rw [show e.given + (leWorth e m.rates c0 - e.given) = leWorth e m.rates c0 by omega]
          refine ⟨_, _, h3.ob, by walk_at "sz", ?_⟩
          have h8 := h3.self (e' := { e with sent := leOwed e m.gauges m.billed, given := leWorth e m.rates c0 }) rfl rfl
          have k8 := K0.at_ (u := .ins T.c_Lease le.dx (leFs le { e with sent := leOwed e m.gauges m.billed, given := leWorth e m.rates c0 })) h3.ob
          have hR8 := hR.setLe h2 h3 k8 h8
          have hl8 := k8.keep _ hnx _ hl7
          have hT8 := hTs.k0 h3.ob (fun xs q => by cases q) k8
          have f8 := f7.trans (FrO.k0 hxo k8)
          rw [show ({ m with leases := (doneUp m.gauges m.rates m.billed m.leases i).set i { e with sent := leOwed e m.gauges m.billed }, letters := m.letters ++ [lv] } : RoM).leases.set i { e with sent := leOwed e m.gauges m.billed, given := leWorth e m.rates c0 } = doneUp m.gauges m.rates m.billed m.leases (i + 1) by rw [← doneUp_succ he, hd]; exact List.set_set ..] at hR8
          refine (?_ : (fun H' => tDrop _ _ _ H') (upd H7 le.x (.ins T.c_Lease le.dx (leFs le { e with sent := leOwed e m.gauges m.billed, given := leWorth e m.rates c0 }))))
          generalize upd H7 le.x (.ins T.c_Lease le.dx (leFs le { e with sent := leOwed e m.gauges m.billed, given := leWorth e m.rates c0 })) = H8 at h8 hR8 hl8 hT8 f8 ⊢
          walk_at "go"
          refine ⟨.inl ⟨rfl, _, SqL.of hl8⟩, ?_⟩
          walk_at "go"
          refine ⟨by walk_at "sz", fun t ht => ?_⟩
          walk_at "go"
          have s9 : Same H8 (upd H8 t (.tup [.str "pledge", .int (i : Nat), .int (leWorth e m.rates c0 - e.given)])) := same_new ht
          have hl9 := s9 _ _ hl8
          refine ⟨l, _, _, rfl, rfl, hl9, ?_, ?_⟩
          · rw [List.length_map]
            exact Nat.lt_of_lt_of_le (show ts.length < 1000 by omega) (by decide)
          · have k9 := K0.at_ (u := .lst (ts.map V.ref ++ [V.ref t])) hl9
            refine ⟨_, _, _, ts ++ [t], rfl, (f8.trans (FrO.of s9)).new hl0 k9, (hR8.same s9).k0 hl9 (fun xs q => by cases q) hno k9, ?_, ?_⟩
            · rw [upd_same, List.map_append]
              rfl
            · rw [ansUp_succ he, hap, ← List.append_assoc]
              exact TupsAt.append (.cons (by rw [upd_ne (ne_of (show _ = some (HO.tup _) from upd_same) hl9 (fun q => by cases q))]; exact upd_same) .nil) ((hT8.same s9).k0 hl9 (fun xs q => by cases q) k9)
        · have hap : ansPledge m.rates i e = [] := by
            unfold ansPledge
            rw [hc]
            exact if_neg (fun z => z c)
          have ee : doneLe m.gauges m.rates m.billed e = { e with sent := leOwed e m.gauges m.billed } := by
            have : leWorth e m.rates c0 = e.given := by omega
            rw [hd, this]
          rw [← ee, doneUp_succ he] at hR
          walk_at "go"
          refine ⟨_, _, _, ts, rfl, f7, hR, hl7, ?_⟩
          rw [ansUp_succ he, hap, List.append_nil]
          exact hTs
    · rintro σ' H3 ⟨v1, v2, v3, ts, rfl, f3, hR, hl3, hTs⟩
      have hlen2 : (a.ls.map fun e => V.ref e.x).length = m.leases.length := by rw [List.length_map]; exact hlen
      rw [hlen2, doneUp_all] at hR
      rw [hlen2] at hTs
      walk_at "go"
      exact k _ l ts f3 hl0 hR hl3 hTs
theorem ok_Roll_let (T : Txt K mg base) : FnOk P w K mg base (L2.CX P w) 9 T.f_Roll_let T.fd_Roll_let ["self", "flat", "first", "rent", "indexed"] (sp_Roll_let T.c_Roll T.c_Lease T.P_is_flat (clsT T)) := by
  refine T.F_Roll_let.okX sc_Roll_let (fun vs H Q E h => ?_) (fun cdv A outer s H vs Q E hr h => ?_)
  · first | (obtain ⟨_, rfl, _⟩ := h; rfl) | (obtain ⟨_, _, rfl, _⟩ := h; rfl) | (obtain ⟨_, _, _, rfl, _⟩ := h; rfl) | (obtain ⟨_, _, _, _, rfl, _⟩ := h; rfl) | (obtain ⟨_, _, _, _, _, rfl, _⟩ := h; rfl) | (obtain ⟨_, _, _, _, _, _, rfl, _⟩ := h; rfl) | (obtain ⟨_, _, _, _, _, _, _, rfl, _⟩ := h; rfl) | (obtain ⟨_, _, _, _, _, _, _, _, rfl, _⟩ := h; rfl) | (obtain ⟨_, _, _, _, _, _, _, _, _, rfl, _⟩ := h; rfl) | (obtain ⟨_, _, _, _, _, _, _, _, _, _, rfl, _⟩ := h; rfl) | (obtain ⟨_, _, _, _, _, _, _, _, _, _, _, rfl, _⟩ := h; rfl) | (obtain ⟨_, _, _, _, _, _, _, _, _, _, _, _, rfl, _⟩ := h; rfl) | (obtain ⟨_, _, _, _, _, _, _, _, _, _, _, _, _, rfl, _⟩ := h; rfl) | (obtain ⟨_, _, _, _, _, _, _, _, _, _, _, _, _, _, rfl, _⟩ := h; rfl) | (obtain ⟨_, _, _, _, _, _, _, _, _, _, _, _, _, _, _, rfl, _⟩ := h; rfl)
  · refine ⟨_, (pss_cons (ps_expr (pe_callS (ok_check_flat T) (hr.mono (by decide)) (by rfl) T.g_check_flat T.F_check_flat.kp T.b_check_flat (fun σ => passAt (takes_of rfl rfl rfl rfl) σ) (by exact (pa_cons (pv 1) pa_nil))))
  (pss_cons (ps_expr (pe_callS (ok_check_day T) (hr.mono (by decide)) (by rfl) T.g_check_day T.F_check_day.kp T.b_check_day (fun σ => passAt (takes_of rfl rfl rfl rfl) σ) (by exact (pa_cons (pv 2) pa_nil))))
  (pss_cons (ps_expr (pe_callS (ok_check_amount T) (hr.mono (by decide)) (by rfl) T.g_check_amount T.F_check_amount.kp T.b_check_amount (fun σ => passAt (takes_of rfl rfl rfl rfl) σ) (by exact (pa_cons (pv 3) (pa_cons pe_int (pa_cons (pe_glob (v := .int 1000000000) (by rfl) T.g_MOST_CENTS ⟨_, rfl⟩) pa_nil))))))
  (pss_cons (ps_expr (pe_methSS (pv 0) T.cl_Roll T.m_Roll__check_free (ok_Roll__check_free T) (hr.mono (by decide)) T.b_Roll__check_free (fun σ => passAt (takes_of rfl rfl rfl rfl) σ) (by exact (pa_cons (pv 1) (pa_cons (pv 2) pa_nil)))))
  (pss_cons (ps_if (pt_cmpR op_ge (pe_callB (show CallR _ (.builtin "len") (rLen K) from call_lenA) (by rfl) T.n_len (by decide +kernel) (pa_cons (pe_fld (pv 0) rfl) pa_nil)) (pe_glob (v := .int 20) (by rfl) T.g_MOST_LEASES ⟨_, rfl⟩) (nomark _))
  (pss_one (ps_raise rfl (takes_of rfl rfl rfl rfl) (pmk_own PySem.F.excBase_ValueError T.x_Full T.g_Full T.k_Full (raises_own T.s_Full T.t_Full) (by exact rfl))))
  pss_nil)
  (pss_cons (ps_expr (pe_bm PySem.F.plainAttrs_list PySem.F.slot_list_append PySem.F.type_list_append mt_append (pe_fld (pv 0) rfl) (pa_cons (pe_make T.mk_Lease (ok_Lease_init T) (hr.mono (by decide)) (by rfl) T.g_Lease T.b_Lease_init .nil (passes_call (takes_of rfl rfl rfl rfl) (fun _ _ _ _ h => False.elim h)) (by exact (pa_cons (pv 1) (pa_cons (pv 2) (pa_cons (pv 3) (pa_cons (pv 4) pa_nil)))))) pa_nil)))
  (pss_one (ps_ret (pe_methSS (pv 0) T.cl_Roll T.m_Roll__done (ok_Roll__done T) hr T.b_Roll__done (fun σ => passAt (takes_of rfl rfl rfl rfl) σ) (by exact (pa_cons (pe_tup (pa_cons pe_str (pa_cons (pv 1) (pa_cons (pv 2) (pa_cons (pv 3) (pa_cons (pv 4) pa_nil)))))) pa_nil))))))))))), ?_⟩
    obtain ⟨a, m, f, x, y, ix, rfl, hA, hg, hn, ⟨h1, h2, h3⟩, hT, k1, k2⟩ := h
    have hm := hg.ok (by omega)
    walk_at "go"
    refine ⟨f, rfl, h1, hT, fun c0 H1 q1 => ?_, fun c0 H1 q1 => k2 .badFlat (chk_f c0) _ q1⟩
    have hA := hA.kept q1
    walk_at "go"
    refine ⟨_, rfl, thing_kept q1 h2, fun c => ?_, fun c => k2 .badDay (by show chk _ _ _ = _; rw [chk_t c0]; exact chk_f c) _ q1⟩
    walk_at "go"
    refine ⟨_, _, _, rfl, thing_kept q1 h3, .inl rfl, .inl rfl, fun c2 => ?_, fun c2 => k2 .badAmount (by show chk _ _ _ = _; rw [chk_t c0, chk_t c]; exact chk_f c2) _ q1⟩
    obtain ⟨d, rfl, d0, d1⟩ := within_int c
    obtain ⟨r, rfl, r0, r1⟩ := within_int c2
    cases f with
    | str fl =>
      have eo : Lt.out m (.let (.str fl) (.int d) (.int r) ix) = chk (freeAt m fl d) .taken (chk (decide (m.leases.length < 20)) .full none) := by
        show chk _ _ _ = _
        rw [chk_t c0, chk_t c, chk_t c2]
        rfl
      walk_at "go"
      refine ⟨a.x, _, _, rfl, hA.ob, rfl, ?_⟩
      walk_at "go"
      refine ⟨a, m, fl, d, rfl, hA, hm.ln, fun c3 => ?_, fun c3 => k2 .taken (by rw [eo]; exact chk_f c3) _ q1⟩
      rw [chk_t c3] at eo
      walk_at "go"
      refine ⟨a.x, _, _, _, _, rfl, hA.ob, T.cl_Roll, T.n_Roll__leases, rfl, ?_⟩
      walk_at "go"
      refine ⟨a.l, _, rfl, .inl (SqL.of hA.lo), ?_⟩
      walk_at "go"
      have hlen := hA.ls.len
      rw [List.length_map, hlen]
      refine g_ite (fun c4 => ?_) (fun c4 => ?_)
      · walk_at "go"
        exact k2 .full (by rw [eo]; exact chk_f (decide_eq_false (by omega))) _ q1
      · rw [chk_t (decide_eq_true (by omega))] at eo
        have k1 := k1 eo
        have hok := (hg.new eo).ok (by rw [new_letters]; omega)
        have en : Lt.new m (.let (.str fl) (.int d) (.int r) ix) = { m with leases := m.leases ++ [newLe fl d r ix] } := rfl
        rw [en] at k1 hok
        walk_at "go"
        refine ⟨a.x, _, _, _, _, rfl, hA.ob, T.cl_Roll, T.n_Roll__leases, rfl, ?_⟩
        refine ⟨.inl ⟨rfl, _, SqL.of hA.lo⟩, ?_⟩
        walk_at "go"
        intro x dx hx hdx ndx
        have sx : Same H1 (upd (upd H1 dx (.own x)) x (.ins T.c_Lease dx [])) := (same_new hdx).trans (same_new (by rw [upd_ne ndx.symm]; exact hx))
        refine ⟨x, dx, fl, d, r, ix, rfl, upd_same, fun le H2 e1 e2 e3 e4 e5 hL kp fr => ?_⟩
        have z3 := sx.free e3
        have z4 := sx.free e4
        have s2 : Same H1 H2 := fun b o e => kp b (ne_of_none e hx) o (sx b o e)
        have hA2 := hA.same s2
        refine ⟨rfl, ?_⟩
        walk_at "go"
        refine ⟨a.l, _, _, rfl, rfl, hA2.lo, ?_, ?_⟩
        · rw [List.length_map]
          exact Nat.lt_of_lt_of_le (show a.ls.length < 10001 by omega) (by decide)
        rw [← e1]
        have hx' : le.x ∉ owns a := by rw [e1]; exact hA.not_new hx
        have hA3 := hA2.more hL hx' (hA.not_new z3) (hA.not_new z4) e5
        have st : Stp T.P_is_flat H a (upd H2 a.l (.lst ((a.ls.map fun e => V.ref e.x) ++ [V.ref le.x]))) { a with ls := a.ls ++ [le] } := by
          refine (Stp.kept q1).trans (.frO hA ((FrO.of s2).trans (FrO.k0 (a := a) (by unfold owns; simp) (K0.at_ hA2.lo))) (fun b hb => ?_) rfl)
          rcases owns_more hb with q | q | q | q
          · exact .inl q
          · exact .inr (by rw [q, e1]; exact hx)
          · exact .inr (by rw [q]; exact z3)
          · exact .inr (by rw [q]; exact z4)
        generalize upd H2 a.l (.lst ((a.ls.map fun e => V.ref e.x) ++ [V.ref le.x])) = H3 at hA3 st ⊢
        walk_at "go"
        refine ⟨a.x, _, _, rfl, hA3.ob, rfl, ?_⟩
        walk_at "go"
        refine ⟨by walk_at "sz", fun t ht => ?_⟩
        walk_at "go"
        exact (fun E => done_use (E := E) st hA3 hok ht k1) _
    | _ => cases c0
theorem ok_Roll__known (T : Txt K mg base) : FnOk P w K mg base (L2.CX P w) 3 T.f_Roll__known T.fd_Roll__known ["self", "number"] (sp_Roll__known T.c_Roll T.c_Lease T.c_NoLease) := by
  refine T.F_Roll__known.okX sc_Roll__known (fun vs H Q E h => ?_) (fun cdv A outer s H vs Q E hr h => ?_)
  · first | (obtain ⟨_, rfl, _⟩ := h; rfl) | (obtain ⟨_, _, rfl, _⟩ := h; rfl) | (obtain ⟨_, _, _, rfl, _⟩ := h; rfl) | (obtain ⟨_, _, _, _, rfl, _⟩ := h; rfl) | (obtain ⟨_, _, _, _, _, rfl, _⟩ := h; rfl) | (obtain ⟨_, _, _, _, _, _, rfl, _⟩ := h; rfl) | (obtain ⟨_, _, _, _, _, _, _, rfl, _⟩ := h; rfl) | (obtain ⟨_, _, _, _, _, _, _, _, rfl, _⟩ := h; rfl) | (obtain ⟨_, _, _, _, _, _, _, _, _, rfl, _⟩ := h; rfl) | (obtain ⟨_, _, _, _, _, _, _, _, _, _, rfl, _⟩ := h; rfl) | (obtain ⟨_, _, _, _, _, _, _, _, _, _, _, rfl, _⟩ := h; rfl) | (obtain ⟨_, _, _, _, _, _, _, _, _, _, _, _, rfl, _⟩ := h; rfl) | (obtain ⟨_, _, _, _, _, _, _, _, _, _, _, _, _, rfl, _⟩ := h; rfl) | (obtain ⟨_, _, _, _, _, _, _, _, _, _, _, _, _, _, rfl, _⟩ := h; rfl) | (obtain ⟨_, _, _, _, _, _, _, _, _, _, _, _, _, _, _, rfl, _⟩ := h; rfl)
  · refine ⟨_, (pss_cons (ps_if (pt_not (pt_val (pe_callS (ok_is_within T) hr (by rfl) T.g_is_within T.F_is_within.kp T.b_is_within (fun σ => passAt (takes_of rfl rfl rfl rfl) σ) (by exact (pa_cons (pv 1) (pa_cons pe_int (pa_cons (pe_op op_sub (pe_callB (show CallR _ (.builtin "len") (rLen K) from call_lenA) (by rfl) T.n_len (by decide +kernel) (pa_cons (pe_fld (pv 0) rfl) pa_nil)) pe_int) pa_nil)))))))
  (pss_one (ps_raise rfl (takes_of rfl rfl rfl rfl) (pmk_own PySem.F.excBase_ValueError T.x_NoLease T.g_NoLease T.k_NoLease (raises_own T.s_NoLease T.t_NoLease) (by exact rfl))))
  pss_nil)
  (pss_one (ps_ret (pe_ix (show IxR _ (rIx2 K) from ix_lt) (pe_fld (pv 0) rfl) (pv 1) (fun _ _ => rfl))))), ?_⟩
    obtain ⟨a, m, x, rfl, hA, hx, k1, k2⟩ := h
    have hlen := hA.ls.len
    walk_at "go"
    refine ⟨a.x, _, _, _, _, rfl, hA.ob, T.cl_Roll, T.n_Roll__leases, rfl, ?_⟩
    walk_at "go"
    refine ⟨a.l, _, rfl, .inl (SqL.of hA.lo), ?_⟩
    walk_at "go"
    rw [List.length_map, hlen]
    refine ⟨_, _, _, rfl, hx, ?_⟩
    walk_at "go"
    refine g_iteNB (fun c => ?_) (fun c => ?_)
    · exact k2 c
    · obtain ⟨i, rfl, h0, h1⟩ := within_int c
      obtain ⟨j, rfl⟩ : ∃ j : Nat, i = (j : Int) := ⟨i.toNat, by omega⟩
      have hj : j < m.leases.length := by omega
      have he : m.leases[j]? = some m.leases[j] := List.getElem?_eq_getElem hj
      obtain ⟨le, h2, h3⟩ := hA.ls.get he
      walk_at "go"
      refine ⟨a.x, _, _, _, _, rfl, hA.ob, T.cl_Roll, T.n_Roll__leases, rfl, ?_⟩
      walk_at "go"
      refine r_ixL (SqL.of hA.lo) (atI_nat (v := V.ref le.x) ?_) ?_
      · rw [List.getElem?_map, h2]
        rfl
      · exact k1 j _ le rfl he h2 h3
theorem ok_Roll__check_end (T : Txt K mg base) : FnOk P w K mg base (L2.CX P w) 1 T.f_Roll__check_end T.fd_Roll__check_end ["self", "ended", "last"] (sp_Roll__check_end T.c_Roll T.c_Lease T.c_Taken) := by
  refine T.F_Roll__check_end.okX sc_Roll__check_end (fun vs H Q E h => ?_) (fun cdv A outer s H vs Q E hr h => ?_)
  · first | (obtain ⟨_, rfl, _⟩ := h; rfl) | (obtain ⟨_, _, rfl, _⟩ := h; rfl) | (obtain ⟨_, _, _, rfl, _⟩ := h; rfl) | (obtain ⟨_, _, _, _, rfl, _⟩ := h; rfl) | (obtain ⟨_, _, _, _, _, rfl, _⟩ := h; rfl) | (obtain ⟨_, _, _, _, _, _, rfl, _⟩ := h; rfl) | (obtain ⟨_, _, _, _, _, _, _, rfl, _⟩ := h; rfl) | (obtain ⟨_, _, _, _, _, _, _, _, rfl, _⟩ := h; rfl) | (obtain ⟨_, _, _, _, _, _, _, _, _, rfl, _⟩ := h; rfl) | (obtain ⟨_, _, _, _, _, _, _, _, _, _, rfl, _⟩ := h; rfl) | (obtain ⟨_, _, _, _, _, _, _, _, _, _, _, rfl, _⟩ := h; rfl) | (obtain ⟨_, _, _, _, _, _, _, _, _, _, _, _, rfl, _⟩ := h; rfl) | (obtain ⟨_, _, _, _, _, _, _, _, _, _, _, _, _, rfl, _⟩ := h; rfl) | (obtain ⟨_, _, _, _, _, _, _, _, _, _, _, _, _, _, rfl, _⟩ := h; rfl) | (obtain ⟨_, _, _, _, _, _, _, _, _, _, _, _, _, _, _, rfl, _⟩ := h; rfl)
  · refine ⟨_, (pss_one (ps_for (passes_of rfl) rfl (show PI _ _ _ (iLT K _) from pi_lt (pe_fld (pv 0) rfl)) (pg_name (i := 3) sc_Roll__check_end.nd rfl (Or.inl rfl))
  (pss_one (ps_if (PW.pt (pw_and (pt_cmpR (show OpR _ (compareOp .Eq) (rEqA K) from op_eqA hr.units) (pe_fld (pv 3) rfl) (pe_fld (pv 1) rfl) (nomark _)) (pw_and1 (pt_chain op_lt op_le (pe_fld (pv 1) rfl) (pe_fld (pv 3) rfl) (pv 2)))))
  (pss_one (ps_raise rfl (takes_of rfl rfl rfl rfl) (pmk_own PySem.F.excBase_ValueError T.x_Taken T.g_Taken T.k_Taken (raises_own T.s_Taken T.t_Taken) (by exact rfl))))
  pss_nil)))), ?_⟩
    obtain ⟨a, m, le0, e0, last, rfl, hA, hE, hn, k1, k2⟩ := h
    have hlen := hA.ls.len
    walk_at "go"
    refine g_forQ (a := a.l) (xs := a.ls.map fun e => V.ref e.x) (fun i σ' H' => H = H' ∧ (∀ j e, j < i → m.leases[j]? = some e → (decide (e.flat = e0.flat) && (decide (e0.first < e.first) && decide (e.first ≤ last))) = false) ∧ ∃ v, σ' = [some (.ref a.x), some (.ref le0.x), some (.int last), v])
      (fun Q' q => ?_) (.inl (SqL.of hA.lo)) ⟨rfl, fun j e h => absurd h (Nat.not_lt_zero j), none, rfl⟩ (fun i σ' H' ⟨e, _⟩ => e ▸ Same.refl H) ?_ ?_
    · walk_at "go"
      exact ⟨a.x, _, _, _, _, rfl, hA.ob, T.cl_Roll, T.n_Roll__leases, rfl, q⟩
    · rintro i x σ' H' hx ⟨rfl, hb, v, rfl⟩
      have hi : i < a.ls.length := by
        have q := (List.getElem?_eq_some_iff.mp hx).1
        rw [List.length_map] at q
        exact q
      have he : m.leases[i]? = some (m.leases[i]'(by omega)) := List.getElem?_eq_getElem (by omega)
      generalize m.leases[i]'(by omega) = e at he
      obtain ⟨le, h2, h3⟩ := hA.ls.get he
      have ex : x = .ref le.x := by
        rw [List.getElem?_map, h2] at hx
        exact (Option.some.inj hx).symm
      subst ex
      walk_at "gos"
      refine g_ifB (decide (e.flat = e0.flat) && (decide (e0.first < e.first) && decide (e.first ≤ last))) (fun Q' q => ?_) (fun c => ?_) (fun c => ?_)
      · walk_at "go"
        refine ⟨le.x, _, _, _, _, rfl, h3.ob, T.cl_Lease, T.n_Lease_flat, rfl, ?_⟩
        walk_at "go"
        refine ⟨le0.x, _, _, _, _, rfl, hE.ob, T.cl_Lease, T.n_Lease_flat, rfl, ?_⟩
        refine r_eqS rfl ?_
        walk_at "go"
        have ed : decide (V.str e.flat = V.str e0.flat) = decide (e.flat = e0.flat) := by simp
        rw [ed]
        refine g_ite (fun c => ?_) (fun c => ?_)
        · rw [decide_eq_true c, Bool.true_and] at q
          walk_at "go"
          refine ⟨le0.x, _, _, _, _, rfl, hE.ob, T.cl_Lease, T.n_Lease_first, rfl, ?_⟩
          walk_at "go"
          refine ⟨le.x, _, _, _, _, rfl, h3.ob, T.cl_Lease, T.n_Lease_first, rfl, ?_⟩
          walk_at "go"
          refine g_ite (fun c2 => ?_) (fun c2 => ?_)
          · rw [decide_eq_true c2, Bool.true_and] at q
            walk_at "go"
            exact q
          · rw [decide_eq_false c2, Bool.false_and] at q
            walk_at "go"
            exact q
        · rw [decide_eq_false c, Bool.false_and] at q
          exact q
      · walk_at "go"
        refine k2 (Bool.eq_false_iff.mpr fun z => ?_)
        have q := List.all_eq_true.mp z e (List.mem_of_getElem? he)
        rw [c] at q
        cases q
      · walk_at "go"
        refine ⟨rfl, fun j o hj ho => ?_, _, rfl⟩
        by_cases z : j = i
        · subst z
          rw [he] at ho
          cases ho
          exact c
        · exact hb j o (by omega) ho
    · rintro σ' H' ⟨rfl, hb, v, rfl⟩
      walk_at "go"
      refine k1 (List.all_eq_true.mpr fun o ho => ?_)
      obtain ⟨j, hj⟩ := List.mem_iff_getElem?.mp ho
      have hjl := (List.getElem?_eq_some_iff.mp hj).1
      rw [hb j o (by rw [List.length_map]; omega) hj]
      rfl
theorem ok_Roll_end (T : Txt K mg base) : FnOk P w K mg base (L2.CX P w) 9 T.f_Roll_end T.fd_Roll_end ["self", "lease", "last"] (sp_Roll_end T.c_Roll T.c_Lease T.P_is_flat (clsT T)) := by
  refine T.F_Roll_end.okX sc_Roll_end (fun vs H Q E h => ?_) (fun cdv A outer s H vs Q E hr h => ?_)
  · first | (obtain ⟨_, rfl, _⟩ := h; rfl) | (obtain ⟨_, _, rfl, _⟩ := h; rfl) | (obtain ⟨_, _, _, rfl, _⟩ := h; rfl) | (obtain ⟨_, _, _, _, rfl, _⟩ := h; rfl) | (obtain ⟨_, _, _, _, _, rfl, _⟩ := h; rfl) | (obtain ⟨_, _, _, _, _, _, rfl, _⟩ := h; rfl) | (obtain ⟨_, _, _, _, _, _, _, rfl, _⟩ := h; rfl) | (obtain ⟨_, _, _, _, _, _, _, _, rfl, _⟩ := h; rfl) | (obtain ⟨_, _, _, _, _, _, _, _, _, rfl, _⟩ := h; rfl) | (obtain ⟨_, _, _, _, _, _, _, _, _, _, rfl, _⟩ := h; rfl) | (obtain ⟨_, _, _, _, _, _, _, _, _, _, _, rfl, _⟩ := h; rfl) | (obtain ⟨_, _, _, _, _, _, _, _, _, _, _, _, rfl, _⟩ := h; rfl) | (obtain ⟨_, _, _, _, _, _, _, _, _, _, _, _, _, rfl, _⟩ := h; rfl) | (obtain ⟨_, _, _, _, _, _, _, _, _, _, _, _, _, _, rfl, _⟩ := h; rfl) | (obtain ⟨_, _, _, _, _, _, _, _, _, _, _, _, _, _, _, rfl, _⟩ := h; rfl)
  · refine ⟨_, (pss_cons (ps_set (i := 3) sc_Roll_end.nd rfl (Or.inl rfl) (pe_methSS (pv 0) T.cl_Roll T.m_Roll__known (ok_Roll__known T) (hr.mono (by decide)) T.b_Roll__known (fun σ => passAt (takes_of rfl rfl rfl rfl) σ) (by exact (pa_cons (pv 1) pa_nil))))
  (pss_cons (ps_expr (pe_callS (ok_check_day T) (hr.mono (by decide)) (by rfl) T.g_check_day T.F_check_day.kp T.b_check_day (fun σ => passAt (takes_of rfl rfl rfl rfl) σ) (by exact (pa_cons (pv 2) pa_nil))))
  (pss_cons (ps_if (pt_cmpR op_lt (pv 2) (pe_fld (pv 3) rfl) (nomark _))
  (pss_one (ps_raise rfl (takes_of rfl rfl rfl rfl) (pmk_own PySem.F.excBase_ValueError T.x_BadDay T.g_BadDay T.k_BadDay (raises_own T.s_BadDay T.t_BadDay) (by exact rfl))))
  pss_nil)
  (pss_cons (ps_expr (pe_methSS (pv 0) T.cl_Roll T.m_Roll__check_end (ok_Roll__check_end T) (hr.mono (by decide)) T.b_Roll__check_end (fun σ => passAt (takes_of rfl rfl rfl rfl) σ) (by exact (pa_cons (pv 3) (pa_cons (pv 2) pa_nil)))))
  (pss_cons (ps_fld (pv 3) (pv 2) rfl)
  (pss_one (ps_ret (pe_methSS (pv 0) T.cl_Roll T.m_Roll__done (ok_Roll__done T) hr T.b_Roll__done (fun σ => passAt (takes_of rfl rfl rfl rfl) σ) (by exact (pa_cons (pe_tup (pa_cons pe_str (pa_cons (pv 1) (pa_cons (pv 2) pa_nil)))) pa_nil)))))))))), ?_⟩
    obtain ⟨a, m, n, x, rfl, hA, hg, hn, ⟨h1, h2⟩, hT, k1, k2⟩ := h
    have hm := hg.ok (by omega)
    walk_at "go"
    refine ⟨a.x, _, _, rfl, hA.ob, rfl, ?_⟩
    walk_at "go"
    refine ⟨a, m, n, rfl, hA, h1, fun i e le ei he hle hL => ?_, fun c => k2 .noLease (chk_f c) _ (Kept.refl _ _)⟩
    subst ei
    have c0 : isLe m (.int i) = true := by
      have := (List.getElem?_eq_some_iff.mp he).1
      simp [isLe, within]
      omega
    walk_at "go"
    refine ⟨_, rfl, h2, fun c => ?_, fun c => k2 .badDay (by show chk _ _ _ = _; rw [chk_t c0]; exact chk_f c) _ (Kept.refl _ _)⟩
    obtain ⟨d, rfl, d0, d1⟩ := within_int c
    have eo : Lt.out m (.fin (.int i) (.int d)) = chk (decide (e.first ≤ d)) .badDay (chk (endFree m e d) .taken none) := by
      show chk _ _ _ = _
      rw [chk_t c0, chk_t c, onLe_at he, onLe_at he]
      rfl
    walk_at "go"
    refine ⟨le.x, _, _, _, _, rfl, hL.ob, T.cl_Lease, T.n_Lease_first, rfl, ?_⟩
    walk_at "go"
    refine g_ite (fun c2 => ?_) (fun c2 => ?_)
    · walk_at "go"
      exact k2 .badDay (by rw [eo]; exact chk_f (decide_eq_false (by omega))) _ (Kept.refl _ _)
    · rw [chk_t (decide_eq_true (by omega))] at eo
      walk_at "go"
      refine ⟨a.x, _, _, rfl, hA.ob, rfl, ?_⟩
      walk_at "go"
      refine ⟨a, m, le, e, d, rfl, hA, hL, hm.ln, fun c3 => ?_, fun c3 => k2 .taken (by rw [eo]; exact chk_f c3) _ (Kept.refl _ _)⟩
      rw [chk_t c3] at eo
      have k1 := k1 eo
      have hok := (hg.new eo).ok (by rw [new_letters]; omega)
      have en : Lt.new m (.fin (.int i) (.int d)) = { m with leases := m.leases.set i { e with last := some d } } := updLe_at he
      rw [en] at k1 hok
      walk_at "go"
      refine ⟨le.x, _, _, _, rfl, hL.ob, T.cl_Lease, T.n_Lease_last, by walk_at "sz", ?_⟩
      obtain ⟨hA1, st⟩ := hA.setOb (P := T.P_is_flat) (e' := { e with last := some d }) hle hL rfl rfl
      refine (?_ : (fun H' => tRet _ _ _ H') (upd H le.x (.ins T.c_Lease le.dx (leFs le { e with last := some d }))))
      generalize upd H le.x (.ins T.c_Lease le.dx (leFs le { e with last := some d })) = H2 at hA1 st ⊢
      walk_at "go"
      refine ⟨a.x, _, _, rfl, hA1.ob, rfl, ?_⟩
      walk_at "go"
      refine ⟨by walk_at "sz", fun t ht => ?_⟩
      walk_at "go"
      exact (fun E => done_use (E := E) st hA1 hok ht k1) _
theorem ok_Roll_step (T : Txt K mg base) : FnOk P w K mg base (L2.CX P w) 9 T.f_Roll_step T.fd_Roll_step ["self", "lease", "first", "rent"] (sp_Roll_step T.c_Roll T.c_Lease T.P_is_flat (clsT T)) := by
  refine T.F_Roll_step.okX sc_Roll_step (fun vs H Q E h => ?_) (fun cdv A outer s H vs Q E hr h => ?_)
  · first | (obtain ⟨_, rfl, _⟩ := h; rfl) | (obtain ⟨_, _, rfl, _⟩ := h; rfl) | (obtain ⟨_, _, _, rfl, _⟩ := h; rfl) | (obtain ⟨_, _, _, _, rfl, _⟩ := h; rfl) | (obtain ⟨_, _, _, _, _, rfl, _⟩ := h; rfl) | (obtain ⟨_, _, _, _, _, _, rfl, _⟩ := h; rfl) | (obtain ⟨_, _, _, _, _, _, _, rfl, _⟩ := h; rfl) | (obtain ⟨_, _, _, _, _, _, _, _, rfl, _⟩ := h; rfl) | (obtain ⟨_, _, _, _, _, _, _, _, _, rfl, _⟩ := h; rfl) | (obtain ⟨_, _, _, _, _, _, _, _, _, _, rfl, _⟩ := h; rfl) | (obtain ⟨_, _, _, _, _, _, _, _, _, _, _, rfl, _⟩ := h; rfl) | (obtain ⟨_, _, _, _, _, _, _, _, _, _, _, _, rfl, _⟩ := h; rfl) | (obtain ⟨_, _, _, _, _, _, _, _, _, _, _, _, _, rfl, _⟩ := h; rfl) | (obtain ⟨_, _, _, _, _, _, _, _, _, _, _, _, _, _, rfl, _⟩ := h; rfl) | (obtain ⟨_, _, _, _, _, _, _, _, _, _, _, _, _, _, _, rfl, _⟩ := h; rfl)
  · refine ⟨_, (pss_cons (ps_set (i := 4) sc_Roll_step.nd rfl (Or.inl rfl) (pe_methSS (pv 0) T.cl_Roll T.m_Roll__known (ok_Roll__known T) (hr.mono (by decide)) T.b_Roll__known (fun σ => passAt (takes_of rfl rfl rfl rfl) σ) (by exact (pa_cons (pv 1) pa_nil))))
  (pss_cons (ps_expr (pe_callS (ok_check_day T) (hr.mono (by decide)) (by rfl) T.g_check_day T.F_check_day.kp T.b_check_day (fun σ => passAt (takes_of rfl rfl rfl rfl) σ) (by exact (pa_cons (pv 2) pa_nil))))
  (pss_cons (ps_expr (pe_callS (ok_check_amount T) (hr.mono (by decide)) (by rfl) T.g_check_amount T.F_check_amount.kp T.b_check_amount (fun σ => passAt (takes_of rfl rfl rfl rfl) σ) (by exact (pa_cons (pv 3) (pa_cons pe_int (pa_cons (pe_glob (v := .int 1000000000) (by rfl) T.g_MOST_CENTS ⟨_, rfl⟩) pa_nil))))))
  (pss_cons (ps_expr (pe_bm PySem.F.plainAttrs_list PySem.F.slot_list_append PySem.F.type_list_append mt_append (pe_fld (pv 4) rfl) (pa_cons (pe_tup (pa_cons (pv 2) (pa_cons (pv 3) pa_nil))) pa_nil)))
  (pss_one (ps_ret (pe_methSS (pv 0) T.cl_Roll T.m_Roll__done (ok_Roll__done T) hr T.b_Roll__done (fun σ => passAt (takes_of rfl rfl rfl rfl) σ) (by exact (pa_cons (pe_tup (pa_cons pe_str (pa_cons (pv 1) (pa_cons (pv 2) (pa_cons (pv 3) pa_nil))))) pa_nil))))))))), ?_⟩
    obtain ⟨a, m, n, x, y, rfl, hA, hg, hn, ⟨h1, h2, h3⟩, hT, k1, k2⟩ := h
    have hm := hg.ok (by omega)
    walk_at "go"
    refine ⟨a.x, _, _, rfl, hA.ob, rfl, ?_⟩
    walk_at "go"
    refine ⟨a, m, n, rfl, hA, h1, fun i e le ei he hle hL => ?_, fun c => k2 .noLease (chk_f c) _ (Kept.refl _ _)⟩
    subst ei
    have c0 : isLe m (.int i) = true := by
      have := (List.getElem?_eq_some_iff.mp he).1
      simp [isLe, within]
      omega
    walk_at "go"
    refine ⟨_, rfl, h2, fun c => ?_, fun c => k2 .badDay (by show chk _ _ _ = _; rw [chk_t c0]; exact chk_f c) _ (Kept.refl _ _)⟩
    walk_at "go"
    refine ⟨_, _, _, rfl, h3, .inl rfl, .inl rfl, fun c2 => ?_, fun c2 => k2 .badAmount (by show chk _ _ _ = _; rw [chk_t c0, chk_t c]; exact chk_f c2) _ (Kept.refl _ _)⟩
    have ho : Lt.out m (.step (.int i) x y) = none := by show chk _ _ _ = _; rw [chk_t c0, chk_t c]; exact chk_t c2
    have k1 := k1 ho
    have hok := (hg.new ho).ok (by rw [new_letters]; omega)
    have en : Lt.new m (.step (.int i) x y) = { m with leases := m.leases.set i { e with steps := e.steps ++ [(intV x, intV y)] } } := updLe_at he
    rw [en] at k1 hok
    obtain ⟨d, rfl, d0, d1⟩ := within_int c
    obtain ⟨r, rfl, r0, r1⟩ := within_int c2
    walk_at "go"
    refine ⟨le.x, _, _, _, _, rfl, hL.ob, T.cl_Lease, T.n_Lease_steps, rfl, ?_⟩
    refine ⟨.inl ⟨rfl, _, SqL.of hL.st⟩, ?_⟩
    walk_at "go"
    refine ⟨by walk_at "sz", fun p hp => ?_⟩
    walk_at "go"
    have s1 : Same H (upd H p (.tup [.int d, .int r])) := same_new hp
    have hA1 := hA.same s1
    have hL1 := hL.same s1
    have hlen := hL.sp.prs (K := K) |>.len
    have hmn := (hm.le e (List.mem_of_getElem? he)).sn
    refine ⟨le.s, _, _, rfl, rfl, hL1.st, ?_, ?_⟩
    · rw [List.length_map]
      exact Nat.lt_of_lt_of_le (show le.sa.length < 10001 by omega) (by decide)
    have hin : le ∈ a.ls := List.mem_of_getElem? hle
    have hL2 := hL1.stepUp (p := p) (d := d) (n := r) (flat_self hA.flat hin) upd_same
    have hA2 := hA1.setL hle hL1.st (.inl rfl) (K0.at_ (u := .lst (le.sa.map V.ref ++ [V.ref p])) hL1.st) hL2 rfl rfl rfl
    have st := (Stp.same (P := T.P_is_flat) (a := a) s1).trans (Stp.at_ (P := T.P_is_flat) (u := .lst (le.sa.map V.ref ++ [V.ref p])) (a' := { a with ls := a.ls.set i { le with sa := le.sa ++ [p] } }) hA1 (owns_le hin).2.1 hL1.st (owns_setL hle rfl rfl rfl) rfl)
    generalize upd (upd H p (.tup [.int d, .int r])) le.s (.lst (le.sa.map V.ref ++ [V.ref p])) = H2 at hA2 st ⊢
    walk_at "go"
    refine ⟨a.x, _, _, rfl, hA2.ob, rfl, ?_⟩
    walk_at "go"
    refine ⟨by walk_at "sz", fun t ht => ?_⟩
    walk_at "go"
    exact (fun E => done_use (E := E) st hA2 hok ht k1) _
theorem ok_Roll_gauge (T : Txt K mg base) : FnOk P w K mg base (L2.CX P w) 9 T.f_Roll_gauge T.fd_Roll_gauge ["self", "first", "number"] (sp_Roll_gauge T.c_Roll T.c_Lease T.P_is_flat (clsT T)) := by
  refine T.F_Roll_gauge.okX sc_Roll_gauge (fun vs H Q E h => ?_) (fun cdv A outer s H vs Q E hr h => ?_)
  · first | (obtain ⟨_, rfl, _⟩ := h; rfl) | (obtain ⟨_, _, rfl, _⟩ := h; rfl) | (obtain ⟨_, _, _, rfl, _⟩ := h; rfl) | (obtain ⟨_, _, _, _, rfl, _⟩ := h; rfl) | (obtain ⟨_, _, _, _, _, rfl, _⟩ := h; rfl) | (obtain ⟨_, _, _, _, _, _, rfl, _⟩ := h; rfl) | (obtain ⟨_, _, _, _, _, _, _, rfl, _⟩ := h; rfl) | (obtain ⟨_, _, _, _, _, _, _, _, rfl, _⟩ := h; rfl) | (obtain ⟨_, _, _, _, _, _, _, _, _, rfl, _⟩ := h; rfl) | (obtain ⟨_, _, _, _, _, _, _, _, _, _, rfl, _⟩ := h; rfl) | (obtain ⟨_, _, _, _, _, _, _, _, _, _, _, rfl, _⟩ := h; rfl) | (obtain ⟨_, _, _, _, _, _, _, _, _, _, _, _, rfl, _⟩ := h; rfl) | (obtain ⟨_, _, _, _, _, _, _, _, _, _, _, _, _, rfl, _⟩ := h; rfl) | (obtain ⟨_, _, _, _, _, _, _, _, _, _, _, _, _, _, rfl, _⟩ := h; rfl) | (obtain ⟨_, _, _, _, _, _, _, _, _, _, _, _, _, _, _, rfl, _⟩ := h; rfl)
  · refine ⟨_, (pss_cons (ps_expr (pe_callS (ok_check_day T) (hr.mono (by decide)) (by rfl) T.g_check_day T.F_check_day.kp T.b_check_day (fun σ => passAt (takes_of rfl rfl rfl rfl) σ) (by exact (pa_cons (pv 1) pa_nil))))
  (pss_cons (ps_expr (pe_callS (ok_check_amount T) (hr.mono (by decide)) (by rfl) T.g_check_amount T.F_check_amount.kp T.b_check_amount (fun σ => passAt (takes_of rfl rfl rfl rfl) σ) (by exact (pa_cons (pv 2) (pa_cons pe_int (pa_cons (pe_glob (v := .int 1000000) (by rfl) T.g_MOST_GAUGE ⟨_, rfl⟩) pa_nil))))))
  (pss_cons (ps_expr (pe_bm PySem.F.plainAttrs_list PySem.F.slot_list_append PySem.F.type_list_append mt_append (pe_fld (pv 0) rfl) (pa_cons (pe_tup (pa_cons (pv 1) (pa_cons (pv 2) pa_nil))) pa_nil)))
  (pss_one (ps_ret (pe_methSS (pv 0) T.cl_Roll T.m_Roll__done (ok_Roll__done T) hr T.b_Roll__done (fun σ => passAt (takes_of rfl rfl rfl rfl) σ) (by exact (pa_cons (pe_tup (pa_cons pe_str (pa_cons (pv 1) (pa_cons (pv 2) pa_nil)))) pa_nil)))))))), ?_⟩
    obtain ⟨a, m, x, y, rfl, hA, hg, hn, ⟨hx, hy⟩, hT, k1, k2⟩ := h
    have hm := hg.ok (by omega)
    walk_at "go"
    refine ⟨_, rfl, hx, fun c => ?_, fun c => k2 .badDay (chk_f c) _ (Kept.refl _ _)⟩
    walk_at "go"
    refine ⟨_, _, _, rfl, hy, .inr rfl, .inr (.inl rfl), fun c2 => ?_, fun c2 => k2 .badAmount (by show chk _ _ _ = _; rw [chk_t c]; exact chk_f c2) _ (Kept.refl _ _)⟩
    have ho : Lt.out m (.gauge x y) = none := by show chk _ _ _ = _; rw [chk_t c]; exact chk_t c2
    obtain ⟨d, rfl, d0, d1⟩ := within_int c
    obtain ⟨n, rfl, n0, n1⟩ := within_int c2
    have k1 := k1 ho
    walk_at "go"
    refine ⟨a.x, _, _, _, _, rfl, hA.ob, T.cl_Roll, T.n_Roll__gauges, rfl, ?_⟩
    refine ⟨.inl ⟨rfl, _, SqL.of hA.go⟩, ?_⟩
    walk_at "go"
    refine ⟨by walk_at "sz", fun p hp => ?_⟩
    walk_at "go"
    have s1 : Same H (upd H p (.tup [.int d, .int n])) := same_new hp
    have hA1 := hA.same s1
    have hlen := hA.gp.prs (K := K) |>.len
    have hgn := hm.gn
    refine ⟨a.g, _, _, rfl, rfl, hA1.go, ?_, ?_⟩
    · rw [List.length_map]
      exact Nat.lt_of_lt_of_le (show a.ga.length < 10001 by omega) (by decide)
    have hA2 := hA1.gauge (p := p) (d := d) (n := n) upd_same
    have st := (Stp.same (P := T.P_is_flat) (a := a) s1).trans (Stp.at_ (P := T.P_is_flat) (u := .lst (a.ga.map V.ref ++ [V.ref p])) (a' := { a with ga := a.ga ++ [p] }) hA1 (by unfold owns; simp) hA1.go rfl rfl)
    generalize upd (upd H p (.tup [.int d, .int n])) a.g (.lst (a.ga.map V.ref ++ [V.ref p])) = H2 at hA2 st ⊢
    walk_at "go"
    refine ⟨a.x, _, _, rfl, hA2.ob, rfl, ?_⟩
    walk_at "go"
    refine ⟨by walk_at "sz", fun t ht => ?_⟩
    walk_at "go"
    exact (fun E => done_use (E := E) st hA2 ((hg.new ho).ok (by show m.letters.length + 2 ≤ 1000; omega)) ht k1) _
theorem ok_Roll_rate (T : Txt K mg base) : FnOk P w K mg base (L2.CX P w) 9 T.f_Roll_rate T.fd_Roll_rate ["self", "first", "hundredths"] (sp_Roll_rate T.c_Roll T.c_Lease T.P_is_flat (clsT T)) := by
  refine T.F_Roll_rate.okX sc_Roll_rate (fun vs H Q E h => ?_) (fun cdv A outer s H vs Q E hr h => ?_)
  · first | (obtain ⟨_, rfl, _⟩ := h; rfl) | (obtain ⟨_, _, rfl, _⟩ := h; rfl) | (obtain ⟨_, _, _, rfl, _⟩ := h; rfl) | (obtain ⟨_, _, _, _, rfl, _⟩ := h; rfl) | (obtain ⟨_, _, _, _, _, rfl, _⟩ := h; rfl) | (obtain ⟨_, _, _, _, _, _, rfl, _⟩ := h; rfl) | (obtain ⟨_, _, _, _, _, _, _, rfl, _⟩ := h; rfl) | (obtain ⟨_, _, _, _, _, _, _, _, rfl, _⟩ := h; rfl) | (obtain ⟨_, _, _, _, _, _, _, _, _, rfl, _⟩ := h; rfl) | (obtain ⟨_, _, _, _, _, _, _, _, _, _, rfl, _⟩ := h; rfl) | (obtain ⟨_, _, _, _, _, _, _, _, _, _, _, rfl, _⟩ := h; rfl) | (obtain ⟨_, _, _, _, _, _, _, _, _, _, _, _, rfl, _⟩ := h; rfl) | (obtain ⟨_, _, _, _, _, _, _, _, _, _, _, _, _, rfl, _⟩ := h; rfl) | (obtain ⟨_, _, _, _, _, _, _, _, _, _, _, _, _, _, rfl, _⟩ := h; rfl) | (obtain ⟨_, _, _, _, _, _, _, _, _, _, _, _, _, _, _, rfl, _⟩ := h; rfl)
  · refine ⟨_, (pss_cons (ps_expr (pe_callS (ok_check_day T) (hr.mono (by decide)) (by rfl) T.g_check_day T.F_check_day.kp T.b_check_day (fun σ => passAt (takes_of rfl rfl rfl rfl) σ) (by exact (pa_cons (pv 1) pa_nil))))
  (pss_cons (ps_expr (pe_callS (ok_check_amount T) (hr.mono (by decide)) (by rfl) T.g_check_amount T.F_check_amount.kp T.b_check_amount (fun σ => passAt (takes_of rfl rfl rfl rfl) σ) (by exact (pa_cons (pv 2) (pa_cons pe_int (pa_cons (pe_glob (v := .int 10000) (by rfl) T.g_MOST_RATE ⟨_, rfl⟩) pa_nil))))))
  (pss_cons (ps_expr (pe_bm PySem.F.plainAttrs_list PySem.F.slot_list_append PySem.F.type_list_append mt_append (pe_fld (pv 0) rfl) (pa_cons (pe_tup (pa_cons (pv 1) (pa_cons (pv 2) pa_nil))) pa_nil)))
  (pss_one (ps_ret (pe_methSS (pv 0) T.cl_Roll T.m_Roll__done (ok_Roll__done T) hr T.b_Roll__done (fun σ => passAt (takes_of rfl rfl rfl rfl) σ) (by exact (pa_cons (pe_tup (pa_cons pe_str (pa_cons (pv 1) (pa_cons (pv 2) pa_nil)))) pa_nil)))))))), ?_⟩
    obtain ⟨a, m, x, y, rfl, hA, hg, hn, ⟨hx, hy⟩, hT, k1, k2⟩ := h
    have hm := hg.ok (by omega)
    walk_at "go"
    refine ⟨_, rfl, hx, fun c => ?_, fun c => k2 .badDay (chk_f c) _ (Kept.refl _ _)⟩
    walk_at "go"
    refine ⟨_, _, _, rfl, hy, .inl rfl, .inr (.inr rfl), fun c2 => ?_, fun c2 => k2 .badAmount (by show chk _ _ _ = _; rw [chk_t c]; exact chk_f c2) _ (Kept.refl _ _)⟩
    have ho : Lt.out m (.rate x y) = none := by show chk _ _ _ = _; rw [chk_t c]; exact chk_t c2
    obtain ⟨d, rfl, d0, d1⟩ := within_int c
    obtain ⟨n, rfl, n0, n1⟩ := within_int c2
    have k1 := k1 ho
    walk_at "go"
    refine ⟨a.x, _, _, _, _, rfl, hA.ob, T.cl_Roll, T.n_Roll__rates, rfl, ?_⟩
    refine ⟨.inl ⟨rfl, _, SqL.of hA.ro⟩, ?_⟩
    walk_at "go"
    refine ⟨by walk_at "sz", fun p hp => ?_⟩
    walk_at "go"
    have s1 : Same H (upd H p (.tup [.int d, .int n])) := same_new hp
    have hA1 := hA.same s1
    have hlen := hA.rp.prs (K := K) |>.len
    have hgn := hm.rn
    refine ⟨a.r, _, _, rfl, rfl, hA1.ro, ?_, ?_⟩
    · rw [List.length_map]
      exact Nat.lt_of_lt_of_le (show a.ra.length < 10001 by omega) (by decide)
    have hA2 := hA1.rate (p := p) (d := d) (n := n) upd_same
    have st := (Stp.same (P := T.P_is_flat) (a := a) s1).trans (Stp.at_ (P := T.P_is_flat) (u := .lst (a.ra.map V.ref ++ [V.ref p])) (a' := { a with ra := a.ra ++ [p] }) hA1 (by unfold owns; simp) hA1.ro rfl rfl)
    generalize upd (upd H p (.tup [.int d, .int n])) a.r (.lst (a.ra.map V.ref ++ [V.ref p])) = H2 at hA2 st ⊢
    walk_at "go"
    refine ⟨a.x, _, _, rfl, hA2.ob, rfl, ?_⟩
    walk_at "go"
    refine ⟨by walk_at "sz", fun t ht => ?_⟩
    walk_at "go"
    exact (fun E => done_use (E := E) st hA2 ((hg.new ho).ok (by show m.letters.length + 2 ≤ 1000; omega)) ht k1) _
theorem ok_Roll__move (T : Txt K mg base) : FnOk P w K mg base (L2.CX P w) 4 T.f_Roll__move T.fd_Roll__move ["self", "lease", "day", "cents", "sign"] (sp_Roll__move T.c_Roll T.c_Lease T.P_is_flat (clsT T)) := by
  refine T.F_Roll__move.okX sc_Roll__move (fun vs H Q E h => ?_) (fun cdv A outer s H vs Q E hr h => ?_)
  · first | (obtain ⟨_, rfl, _⟩ := h; rfl) | (obtain ⟨_, _, rfl, _⟩ := h; rfl) | (obtain ⟨_, _, _, rfl, _⟩ := h; rfl) | (obtain ⟨_, _, _, _, rfl, _⟩ := h; rfl) | (obtain ⟨_, _, _, _, _, rfl, _⟩ := h; rfl) | (obtain ⟨_, _, _, _, _, _, rfl, _⟩ := h; rfl) | (obtain ⟨_, _, _, _, _, _, _, rfl, _⟩ := h; rfl) | (obtain ⟨_, _, _, _, _, _, _, _, rfl, _⟩ := h; rfl) | (obtain ⟨_, _, _, _, _, _, _, _, _, rfl, _⟩ := h; rfl) | (obtain ⟨_, _, _, _, _, _, _, _, _, _, rfl, _⟩ := h; rfl) | (obtain ⟨_, _, _, _, _, _, _, _, _, _, _, rfl, _⟩ := h; rfl) | (obtain ⟨_, _, _, _, _, _, _, _, _, _, _, _, rfl, _⟩ := h; rfl) | (obtain ⟨_, _, _, _, _, _, _, _, _, _, _, _, _, rfl, _⟩ := h; rfl) | (obtain ⟨_, _, _, _, _, _, _, _, _, _, _, _, _, _, rfl, _⟩ := h; rfl) | (obtain ⟨_, _, _, _, _, _, _, _, _, _, _, _, _, _, _, rfl, _⟩ := h; rfl)
  · refine ⟨_, (pss_cons (ps_set (i := 5) sc_Roll__move.nd rfl (Or.inl rfl) (pe_methSS (pv 0) T.cl_Roll T.m_Roll__known (ok_Roll__known T) hr T.b_Roll__known (fun σ => passAt (takes_of rfl rfl rfl rfl) σ) (by exact (pa_cons (pv 1) pa_nil))))
  (pss_cons (ps_expr (pe_callS (ok_check_day T) hr (by rfl) T.g_check_day T.F_check_day.kp T.b_check_day (fun σ => passAt (takes_of rfl rfl rfl rfl) σ) (by exact (pa_cons (pv 2) pa_nil))))
  (pss_cons (ps_expr (pe_callS (ok_check_amount T) hr (by rfl) T.g_check_amount T.F_check_amount.kp T.b_check_amount (fun σ => passAt (takes_of rfl rfl rfl rfl) σ) (by exact (pa_cons (pv 3) (pa_cons pe_int (pa_cons (pe_glob (v := .int 1000000000) (by rfl) T.g_MOST_CENTS ⟨_, rfl⟩) pa_nil))))))
  (pss_one (ps_expr (pe_bm PySem.F.plainAttrs_list PySem.F.slot_list_append PySem.F.type_list_append mt_append (pe_fld (pv 5) rfl) (pa_cons (pe_tup (pa_cons (pv 2) (pa_cons (pe_op op_mul (pv 4) (pv 3)) pa_nil))) pa_nil))))))), ?_⟩
    obtain ⟨a, m, n, x, y, sg, rfl, hsg, hA, hg, hn, h1, h2, h3, k1, k2, k3, k4⟩ := h
    have hm := hg.ok (by omega)
    walk_at "go"
    refine ⟨a.x, _, _, rfl, hA.ob, rfl, ?_⟩
    walk_at "go"
    refine ⟨a, m, n, rfl, hA, h1, fun i e le ei he hle hL => ?_, fun c => k1 c⟩
    subst ei
    have c0 : isLe m (.int i) = true := by
      have := (List.getElem?_eq_some_iff.mp he).1
      simp [isLe, within]
      omega
    walk_at "go"
    refine ⟨_, rfl, h2, fun c => ?_, fun c => k2 c0 c⟩
    walk_at "go"
    refine ⟨_, _, _, rfl, h3, .inr rfl, .inl rfl, fun c2 => ?_, fun c2 => k3 c0 c c2⟩
    have k4 := k4 c0 c c2
    rw [updLe_at he] at k4
    obtain ⟨d, rfl, d0, d1⟩ := within_int c
    obtain ⟨r, rfl, r0, r1⟩ := within_int c2
    walk_at "go"
    refine ⟨le.x, _, _, _, _, rfl, hL.ob, T.cl_Lease, T.n_Lease_moves, rfl, ?_⟩
    refine ⟨.inl ⟨rfl, _, SqL.of hL.mv⟩, ?_⟩
    walk_at "go"
    refine ⟨by walk_at "sz", fun p hp => ?_⟩
    walk_at "go"
    have s1 : Same H (upd H p (.tup [.int d, .int (sg * r)])) := same_new hp
    have hA1 := hA.same s1
    have hL1 := hL.same s1
    have hlen := hL.mp.prs (K := K) |>.len
    have hmn := (hm.le e (List.mem_of_getElem? he)).mn
    refine ⟨le.m, _, _, rfl, rfl, hL1.mv, ?_, ?_⟩
    · rw [List.length_map]
      exact Nat.lt_of_lt_of_le (show le.ma.length < 10001 by omega) (by decide)
    have hin : le ∈ a.ls := List.mem_of_getElem? hle
    have hL2 := hL1.moveUp (p := p) (d := d) (n := sg * r) (flat_self hA.flat hin) upd_same
    have hA2 := hA1.setL hle hL1.mv (.inr rfl) (K0.at_ (u := .lst (le.ma.map V.ref ++ [V.ref p])) hL1.mv) hL2 rfl rfl rfl
    have st := (Stp.same (P := T.P_is_flat) (a := a) s1).trans (Stp.at_ (P := T.P_is_flat) (u := .lst (le.ma.map V.ref ++ [V.ref p])) (a' := { a with ls := a.ls.set i { le with ma := le.ma ++ [p] } }) hA1 (owns_le hin).2.2 hL1.mv (owns_setL hle rfl rfl rfl) rfl)
    exact k4 _ _ st hA2
theorem ok_Roll_paid (T : Txt K mg base) : FnOk P w K mg base (L2.CX P w) 9 T.f_Roll_paid T.fd_Roll_paid ["self", "lease", "day", "cents"] (sp_Roll_paid T.c_Roll T.c_Lease T.P_is_flat (clsT T)) := by
  refine T.F_Roll_paid.okX sc_Roll_paid (fun vs H Q E h => ?_) (fun cdv A outer s H vs Q E hr h => ?_)
  · first | (obtain ⟨_, rfl, _⟩ := h; rfl) | (obtain ⟨_, _, rfl, _⟩ := h; rfl) | (obtain ⟨_, _, _, rfl, _⟩ := h; rfl) | (obtain ⟨_, _, _, _, rfl, _⟩ := h; rfl) | (obtain ⟨_, _, _, _, _, rfl, _⟩ := h; rfl) | (obtain ⟨_, _, _, _, _, _, rfl, _⟩ := h; rfl) | (obtain ⟨_, _, _, _, _, _, _, rfl, _⟩ := h; rfl) | (obtain ⟨_, _, _, _, _, _, _, _, rfl, _⟩ := h; rfl) | (obtain ⟨_, _, _, _, _, _, _, _, _, rfl, _⟩ := h; rfl) | (obtain ⟨_, _, _, _, _, _, _, _, _, _, rfl, _⟩ := h; rfl) | (obtain ⟨_, _, _, _, _, _, _, _, _, _, _, rfl, _⟩ := h; rfl) | (obtain ⟨_, _, _, _, _, _, _, _, _, _, _, _, rfl, _⟩ := h; rfl) | (obtain ⟨_, _, _, _, _, _, _, _, _, _, _, _, _, rfl, _⟩ := h; rfl) | (obtain ⟨_, _, _, _, _, _, _, _, _, _, _, _, _, _, rfl, _⟩ := h; rfl) | (obtain ⟨_, _, _, _, _, _, _, _, _, _, _, _, _, _, _, rfl, _⟩ := h; rfl)
  · refine ⟨_, (pss_cons (ps_expr (pe_methSS (pv 0) T.cl_Roll T.m_Roll__move (ok_Roll__move T) (hr.mono (by decide)) T.b_Roll__move (fun σ => passAt (takes_of rfl rfl rfl rfl) σ) (by exact (pa_cons (pv 1) (pa_cons (pv 2) (pa_cons (pv 3) (pa_cons pe_int pa_nil)))))))
  (pss_one (ps_ret (pe_methSS (pv 0) T.cl_Roll T.m_Roll__done (ok_Roll__done T) hr T.b_Roll__done (fun σ => passAt (takes_of rfl rfl rfl rfl) σ) (by exact (pa_cons (pe_tup (pa_cons pe_str (pa_cons (pv 1) (pa_cons (pv 2) (pa_cons (pv 3) pa_nil))))) pa_nil)))))), ?_⟩
    obtain ⟨a, m, n, x, y, rfl, hA, hg, hn, ⟨h1, h2, h3⟩, hT, k1, k2⟩ := h
    walk_at "go"
    refine ⟨a.x, _, _, rfl, hA.ob, rfl, ?_⟩
    walk_at "go"
    refine ⟨a, m, n, x, y, 1, rfl, .inl rfl, hA, hg, hn, h1, h2, h3, fun c => k2 _ (chk_f c) _ (Kept.refl _ _), fun c c2 => k2 _ (by show chk _ _ _ = _; rw [chk_t c]; exact chk_f c2) _ (Kept.refl _ _), fun c c2 c3 => k2 _ (by show chk _ _ _ = _; rw [chk_t c, chk_t c2]; exact chk_f c3) _ (Kept.refl _ _), fun c c2 c3 H1 a1 st hA1 => ?_⟩
    have ho : Lt.out m (.paid n x y) = none := by show chk _ _ _ = _; rw [chk_t c, chk_t c2]; exact chk_t c3
    have k1 := k1 ho
    have ex : a1.x = a.x := st.x
    simp only [Int.one_mul] at hA1
    walk_at "go"
    refine ⟨a.x, _, _, rfl, by rw [← ex]; exact hA1.ob, rfl, ?_⟩
    walk_at "go"
    refine ⟨by walk_at "sz", fun t ht => ?_⟩
    walk_at "go"
    rw [← ex]
    exact done_use st hA1 ((hg.new ho).ok (by rw [new_letters]; omega)) ht k1
theorem ok_Roll_kept (T : Txt K mg base) : FnOk P w K mg base (L2.CX P w) 9 T.f_Roll_kept T.fd_Roll_kept ["self", "lease", "day", "cents"] (sp_Roll_kept T.c_Roll T.c_Lease T.P_is_flat (clsT T)) := by
  refine T.F_Roll_kept.okX sc_Roll_kept (fun vs H Q E h => ?_) (fun cdv A outer s H vs Q E hr h => ?_)
  · first | (obtain ⟨_, rfl, _⟩ := h; rfl) | (obtain ⟨_, _, rfl, _⟩ := h; rfl) | (obtain ⟨_, _, _, rfl, _⟩ := h; rfl) | (obtain ⟨_, _, _, _, rfl, _⟩ := h; rfl) | (obtain ⟨_, _, _, _, _, rfl, _⟩ := h; rfl) | (obtain ⟨_, _, _, _, _, _, rfl, _⟩ := h; rfl) | (obtain ⟨_, _, _, _, _, _, _, rfl, _⟩ := h; rfl) | (obtain ⟨_, _, _, _, _, _, _, _, rfl, _⟩ := h; rfl) | (obtain ⟨_, _, _, _, _, _, _, _, _, rfl, _⟩ := h; rfl) | (obtain ⟨_, _, _, _, _, _, _, _, _, _, rfl, _⟩ := h; rfl) | (obtain ⟨_, _, _, _, _, _, _, _, _, _, _, rfl, _⟩ := h; rfl) | (obtain ⟨_, _, _, _, _, _, _, _, _, _, _, _, rfl, _⟩ := h; rfl) | (obtain ⟨_, _, _, _, _, _, _, _, _, _, _, _, _, rfl, _⟩ := h; rfl) | (obtain ⟨_, _, _, _, _, _, _, _, _, _, _, _, _, _, rfl, _⟩ := h; rfl) | (obtain ⟨_, _, _, _, _, _, _, _, _, _, _, _, _, _, _, rfl, _⟩ := h; rfl)
  · refine ⟨_, (pss_cons (ps_expr (pe_methSS (pv 0) T.cl_Roll T.m_Roll__move (ok_Roll__move T) (hr.mono (by decide)) T.b_Roll__move (fun σ => passAt (takes_of rfl rfl rfl rfl) σ) (by exact (pa_cons (pv 1) (pa_cons (pv 2) (pa_cons (pv 3) (pa_cons (pe_un un_neg pe_int) pa_nil)))))))
  (pss_one (ps_ret (pe_methSS (pv 0) T.cl_Roll T.m_Roll__done (ok_Roll__done T) hr T.b_Roll__done (fun σ => passAt (takes_of rfl rfl rfl rfl) σ) (by exact (pa_cons (pe_tup (pa_cons pe_str (pa_cons (pv 1) (pa_cons (pv 2) (pa_cons (pv 3) pa_nil))))) pa_nil)))))), ?_⟩
    obtain ⟨a, m, n, x, y, rfl, hA, hg, hn, ⟨h1, h2, h3⟩, hT, k1, k2⟩ := h
    walk_at "go"
    refine ⟨a.x, _, _, rfl, hA.ob, rfl, ?_⟩
    walk_at "go"
    refine ⟨a, m, n, x, y, -1, rfl, .inr rfl, hA, hg, hn, h1, h2, h3, fun c => k2 _ (chk_f c) _ (Kept.refl _ _), fun c c2 => k2 _ (by show chk _ _ _ = _; rw [chk_t c]; exact chk_f c2) _ (Kept.refl _ _), fun c c2 c3 => k2 _ (by show chk _ _ _ = _; rw [chk_t c, chk_t c2]; exact chk_f c3) _ (Kept.refl _ _), fun c c2 c3 H1 a1 st hA1 => ?_⟩
    have ho : Lt.out m (.kept n x y) = none := by show chk _ _ _ = _; rw [chk_t c, chk_t c2]; exact chk_t c3
    have k1 := k1 ho
    have ex : a1.x = a.x := st.x
    simp only [Int.neg_mul, Int.one_mul] at hA1
    walk_at "go"
    refine ⟨a.x, _, _, rfl, by rw [← ex]; exact hA1.ob, rfl, ?_⟩
    walk_at "go"
    refine ⟨by walk_at "sz", fun t ht => ?_⟩
    walk_at "go"
    rw [← ex]
    exact done_use st hA1 ((hg.new ho).ok (by rw [new_letters]; omega)) ht k1
theorem ok_Roll_close (T : Txt K mg base) : FnOk P w K mg base (L2.CX P w) 9 T.f_Roll_close T.fd_Roll_close ["self", "lease", "day"] (sp_Roll_close T.c_Roll T.c_Lease T.P_is_flat (clsT T)) := by
  refine T.F_Roll_close.okX sc_Roll_close (fun vs H Q E h => ?_) (fun cdv A outer s H vs Q E hr h => ?_)
  · first | (obtain ⟨_, rfl, _⟩ := h; rfl) | (obtain ⟨_, _, rfl, _⟩ := h; rfl) | (obtain ⟨_, _, _, rfl, _⟩ := h; rfl) | (obtain ⟨_, _, _, _, rfl, _⟩ := h; rfl) | (obtain ⟨_, _, _, _, _, rfl, _⟩ := h; rfl) | (obtain ⟨_, _, _, _, _, _, rfl, _⟩ := h; rfl) | (obtain ⟨_, _, _, _, _, _, _, rfl, _⟩ := h; rfl) | (obtain ⟨_, _, _, _, _, _, _, _, rfl, _⟩ := h; rfl) | (obtain ⟨_, _, _, _, _, _, _, _, _, rfl, _⟩ := h; rfl) | (obtain ⟨_, _, _, _, _, _, _, _, _, _, rfl, _⟩ := h; rfl) | (obtain ⟨_, _, _, _, _, _, _, _, _, _, _, rfl, _⟩ := h; rfl) | (obtain ⟨_, _, _, _, _, _, _, _, _, _, _, _, rfl, _⟩ := h; rfl) | (obtain ⟨_, _, _, _, _, _, _, _, _, _, _, _, _, rfl, _⟩ := h; rfl) | (obtain ⟨_, _, _, _, _, _, _, _, _, _, _, _, _, _, rfl, _⟩ := h; rfl) | (obtain ⟨_, _, _, _, _, _, _, _, _, _, _, _, _, _, _, rfl, _⟩ := h; rfl)
  · refine ⟨_, (pss_cons (ps_set (i := 3) sc_Roll_close.nd rfl (Or.inl rfl) (pe_methSS (pv 0) T.cl_Roll T.m_Roll__known (ok_Roll__known T) (hr.mono (by decide)) T.b_Roll__known (fun σ => passAt (takes_of rfl rfl rfl rfl) σ) (by exact (pa_cons (pv 1) pa_nil))))
  (pss_cons (ps_expr (pe_callS (ok_check_day T) (hr.mono (by decide)) (by rfl) T.g_check_day T.F_check_day.kp T.b_check_day (fun σ => passAt (takes_of rfl rfl rfl rfl) σ) (by exact (pa_cons (pv 2) pa_nil))))
  (pss_cons (ps_if (pt_cmpR op_isnotA (pe_fld (pv 3) rfl) pe_non (nomark _))
  (pss_one (ps_raise rfl (takes_of rfl rfl rfl rfl) (pmk_own PySem.F.excBase_ValueError T.x_Done T.g_Done T.k_Done (raises_own T.s_Done T.t_Done) (by exact rfl))))
  pss_nil)
  (pss_cons (ps_fld (pv 3) (pv 2) rfl)
  (pss_one (ps_ret (pe_methSS (pv 0) T.cl_Roll T.m_Roll__done (ok_Roll__done T) hr T.b_Roll__done (fun σ => passAt (takes_of rfl rfl rfl rfl) σ) (by exact (pa_cons (pe_tup (pa_cons pe_str (pa_cons (pv 1) (pa_cons (pv 2) pa_nil)))) pa_nil))))))))), ?_⟩
    obtain ⟨a, m, n, x, rfl, hA, hg, hn, ⟨h1, h2⟩, hT, k1, k2⟩ := h
    have hm := hg.ok (by omega)
    walk_at "go"
    refine ⟨a.x, _, _, rfl, hA.ob, rfl, ?_⟩
    walk_at "go"
    refine ⟨a, m, n, rfl, hA, h1, fun i e le ei he hle hL => ?_, fun c => k2 .noLease (chk_f c) _ (Kept.refl _ _)⟩
    subst ei
    have c0 : isLe m (.int i) = true := by
      have := (List.getElem?_eq_some_iff.mp he).1
      simp [isLe, within]
      omega
    walk_at "go"
    refine ⟨_, rfl, h2, fun c => ?_, fun c => k2 .badDay (by show chk _ _ _ = _; rw [chk_t c0]; exact chk_f c) _ (Kept.refl _ _)⟩
    have eo : Lt.out m (.close (.int i) x) = chk (decide (e.closing = none)) .done none := by
      show chk _ _ _ = _
      rw [chk_t c0, chk_t c, onLe_at he]
    obtain ⟨d, rfl, d0, d1⟩ := within_int c
    walk_at "go"
    refine ⟨le.x, _, _, _, optV e.closing, rfl, hL.ob, T.cl_Lease, T.n_Lease_closing, rfl, ?_⟩
    walk_at "go"
    cases hc : e.closing with
    | some c1 =>
      rw [hc] at eo
      refine g_iteN (fun _ => ?_) (fun z => by cases z)
      walk_at "go"
      exact k2 .done eo _ (Kept.refl _ _)
    | none =>
      rw [hc] at eo
      have k1 := k1 eo
      have hok := (hg.new eo).ok (by rw [new_letters]; omega)
      have en : Lt.new m (.close (.int i) (.int d)) = { m with leases := m.leases.set i { e with closing := some d } } := updLe_at he
      rw [en] at k1 hok
      refine g_iteN (fun z => absurd rfl z) (fun _ => ?_)
      walk_at "go"
      refine ⟨le.x, _, _, _, rfl, hL.ob, T.cl_Lease, T.n_Lease_closing, by walk_at "sz", ?_⟩
      obtain ⟨hA1, st⟩ := hA.setOb (P := T.P_is_flat) (e' := { e with closing := some d }) hle hL rfl rfl
      refine (?_ : (fun H' => tRet _ _ _ H') (upd H le.x (.ins T.c_Lease le.dx (leFs le { e with closing := some d }))))
      generalize upd H le.x (.ins T.c_Lease le.dx (leFs le { e with closing := some d })) = H2 at hA1 st ⊢
      walk_at "go"
      refine ⟨a.x, _, _, rfl, hA1.ob, rfl, ?_⟩
      walk_at "go"
      refine ⟨by walk_at "sz", fun t ht => ?_⟩
      walk_at "go"
      exact (fun E => done_use (E := E) st hA1 hok ht k1) _
theorem ok_Roll_bill (T : Txt K mg base) : FnOk P w K mg base (L2.CX P w) 9 T.f_Roll_bill T.fd_Roll_bill ["self", "day"] (sp_Roll_bill T.c_Roll T.c_Lease T.P_is_flat (clsT T)) := by
  refine T.F_Roll_bill.okX sc_Roll_bill (fun vs H Q E h => ?_) (fun cdv A outer s H vs Q E hr h => ?_)
  · first | (obtain ⟨_, rfl, _⟩ := h; rfl) | (obtain ⟨_, _, rfl, _⟩ := h; rfl) | (obtain ⟨_, _, _, rfl, _⟩ := h; rfl) | (obtain ⟨_, _, _, _, rfl, _⟩ := h; rfl) | (obtain ⟨_, _, _, _, _, rfl, _⟩ := h; rfl) | (obtain ⟨_, _, _, _, _, _, rfl, _⟩ := h; rfl) | (obtain ⟨_, _, _, _, _, _, _, rfl, _⟩ := h; rfl) | (obtain ⟨_, _, _, _, _, _, _, _, rfl, _⟩ := h; rfl) | (obtain ⟨_, _, _, _, _, _, _, _, _, rfl, _⟩ := h; rfl) | (obtain ⟨_, _, _, _, _, _, _, _, _, _, rfl, _⟩ := h; rfl) | (obtain ⟨_, _, _, _, _, _, _, _, _, _, _, rfl, _⟩ := h; rfl) | (obtain ⟨_, _, _, _, _, _, _, _, _, _, _, _, rfl, _⟩ := h; rfl) | (obtain ⟨_, _, _, _, _, _, _, _, _, _, _, _, _, rfl, _⟩ := h; rfl) | (obtain ⟨_, _, _, _, _, _, _, _, _, _, _, _, _, _, rfl, _⟩ := h; rfl) | (obtain ⟨_, _, _, _, _, _, _, _, _, _, _, _, _, _, _, rfl, _⟩ := h; rfl)
  · refine ⟨_, (pss_cons (ps_expr (pe_callS (ok_check_day T) (hr.mono (by decide)) (by rfl) T.g_check_day T.F_check_day.kp T.b_check_day (fun σ => passAt (takes_of rfl rfl rfl rfl) σ) (by exact (pa_cons (pv 1) pa_nil))))
  (pss_cons (ps_if (pt_cmpR op_lt (pv 1) (pe_fld (pv 0) rfl) (nomark _))
  (pss_one (ps_raise rfl (takes_of rfl rfl rfl rfl) (pmk_own PySem.F.excBase_ValueError T.x_Done T.g_Done T.k_Done (raises_own T.s_Done T.t_Done) (by exact rfl))))
  pss_nil)
  (pss_cons (ps_fld (pv 0) (pv 1) rfl)
  (pss_one (ps_ret (pe_methSS (pv 0) T.cl_Roll T.m_Roll__done (ok_Roll__done T) hr T.b_Roll__done (fun σ => passAt (takes_of rfl rfl rfl rfl) σ) (by exact (pa_cons (pe_tup (pa_cons pe_str (pa_cons (pv 1) pa_nil))) pa_nil)))))))), ?_⟩
    obtain ⟨a, m, x, rfl, hA, hg, hn, hx, hT, k1, k2⟩ := h
    have hm := hg.ok (by omega)
    walk_at "go"
    refine ⟨_, rfl, hx, fun c => ?_, fun c => k2 .badDay (chk_f c) _ (Kept.refl _ _)⟩
    obtain ⟨d, rfl, d0, d1⟩ := within_int c
    walk_at "go"
    refine ⟨a.x, _, _, _, _, rfl, hA.ob, T.cl_Roll, T.n_Roll__billed, rfl, ?_⟩
    walk_at "go"
    refine g_ite (fun c2 => ?_) (fun c2 => ?_)
    · walk_at "go"
      exact k2 .done (by show chk _ _ _ = _; rw [chk_t c]; exact chk_f (decide_eq_false (by show ¬ m.billed ≤ d; omega))) _ (Kept.refl _ _)
    · have ho : Lt.out m (.bill (.int d)) = none := by show chk _ _ _ = _; rw [chk_t c]; exact chk_t (decide_eq_true (by show m.billed ≤ d; omega))
      have k1 := k1 ho
      walk_at "go"
      refine ⟨a.x, _, _, _, rfl, hA.ob, T.cl_Roll, T.n_Roll__billed, by walk_at "sz", ?_⟩
      have hA1 := hA.own (m' := { m with billed := d }) rfl
      have st := Stp.at_ (P := T.P_is_flat) (u := .ins T.c_Roll a.dx (roFs a { m with billed := d })) (a' := a) hA (by unfold owns; simp) hA.ob rfl rfl
      refine (?_ : (fun H' => tRet _ _ _ H') (upd H a.x (.ins T.c_Roll a.dx (roFs a { m with billed := d }))))
      generalize upd H a.x (.ins T.c_Roll a.dx (roFs a { m with billed := d })) = H1 at hA1 st ⊢
      walk_at "go"
      refine ⟨a.x, _, _, rfl, hA1.ob, rfl, ?_⟩
      walk_at "go"
      refine ⟨by walk_at "sz", fun t ht => ?_⟩
      walk_at "go"
      exact (fun E => done_use (E := E) st hA1 ((hg.new ho).ok (by show m.letters.length + 2 ≤ 1000; omega)) ht k1) _
theorem ok_Roll_many (T : Txt K mg base) : FnOk P w K mg base (L2.CX P w) 1 T.f_Roll_many T.fd_Roll_many ["self"] (sp_Roll_many T.c_Roll T.c_Lease) := by
  refine T.F_Roll_many.okX sc_Roll_many (fun vs H Q E h => ?_) (fun cdv A outer s H vs Q E hr h => ?_)
  · first | (obtain ⟨_, rfl, _⟩ := h; rfl) | (obtain ⟨_, _, rfl, _⟩ := h; rfl) | (obtain ⟨_, _, _, rfl, _⟩ := h; rfl) | (obtain ⟨_, _, _, _, rfl, _⟩ := h; rfl) | (obtain ⟨_, _, _, _, _, rfl, _⟩ := h; rfl) | (obtain ⟨_, _, _, _, _, _, rfl, _⟩ := h; rfl) | (obtain ⟨_, _, _, _, _, _, _, rfl, _⟩ := h; rfl) | (obtain ⟨_, _, _, _, _, _, _, _, rfl, _⟩ := h; rfl) | (obtain ⟨_, _, _, _, _, _, _, _, _, rfl, _⟩ := h; rfl) | (obtain ⟨_, _, _, _, _, _, _, _, _, _, rfl, _⟩ := h; rfl) | (obtain ⟨_, _, _, _, _, _, _, _, _, _, _, rfl, _⟩ := h; rfl) | (obtain ⟨_, _, _, _, _, _, _, _, _, _, _, _, rfl, _⟩ := h; rfl) | (obtain ⟨_, _, _, _, _, _, _, _, _, _, _, _, _, rfl, _⟩ := h; rfl) | (obtain ⟨_, _, _, _, _, _, _, _, _, _, _, _, _, _, rfl, _⟩ := h; rfl) | (obtain ⟨_, _, _, _, _, _, _, _, _, _, _, _, _, _, _, rfl, _⟩ := h; rfl)
  · refine ⟨_, (pss_one (ps_ret (pe_callB (show CallR _ (.builtin "len") (rLen K) from call_lenA) (by rfl) T.n_len (by decide +kernel) (pa_cons (pe_fld (pv 0) rfl) pa_nil)))), ?_⟩
    obtain ⟨a, m, rfl, hA, k⟩ := h
    walk_at "go"
    refine ⟨a.x, _, _, _, _, rfl, hA.ob, T.cl_Roll, T.n_Roll__leases, rfl, ?_⟩
    walk_at "go"
    refine ⟨a.l, _, rfl, .inl (SqL.of hA.lo), ?_⟩
    rw [List.length_map, hA.ls.len]
    exact k
theorem ok_Roll_billed (T : Txt K mg base) : FnOk P w K mg base (L2.CX P w) 1 T.f_Roll_billed T.fd_Roll_billed ["self"] (sp_Roll_billed T.c_Roll T.c_Lease) := by
  refine T.F_Roll_billed.okX sc_Roll_billed (fun vs H Q E h => ?_) (fun cdv A outer s H vs Q E hr h => ?_)
  · first | (obtain ⟨_, rfl, _⟩ := h; rfl) | (obtain ⟨_, _, rfl, _⟩ := h; rfl) | (obtain ⟨_, _, _, rfl, _⟩ := h; rfl) | (obtain ⟨_, _, _, _, rfl, _⟩ := h; rfl) | (obtain ⟨_, _, _, _, _, rfl, _⟩ := h; rfl) | (obtain ⟨_, _, _, _, _, _, rfl, _⟩ := h; rfl) | (obtain ⟨_, _, _, _, _, _, _, rfl, _⟩ := h; rfl) | (obtain ⟨_, _, _, _, _, _, _, _, rfl, _⟩ := h; rfl) | (obtain ⟨_, _, _, _, _, _, _, _, _, rfl, _⟩ := h; rfl) | (obtain ⟨_, _, _, _, _, _, _, _, _, _, rfl, _⟩ := h; rfl) | (obtain ⟨_, _, _, _, _, _, _, _, _, _, _, rfl, _⟩ := h; rfl) | (obtain ⟨_, _, _, _, _, _, _, _, _, _, _, _, rfl, _⟩ := h; rfl) | (obtain ⟨_, _, _, _, _, _, _, _, _, _, _, _, _, rfl, _⟩ := h; rfl) | (obtain ⟨_, _, _, _, _, _, _, _, _, _, _, _, _, _, rfl, _⟩ := h; rfl) | (obtain ⟨_, _, _, _, _, _, _, _, _, _, _, _, _, _, _, rfl, _⟩ := h; rfl)
  · refine ⟨_, (pss_one (ps_ret (pe_fld (pv 0) rfl))), ?_⟩
    obtain ⟨a, m, rfl, hA, k⟩ := h
    walk_at "go"
    exact ⟨a.x, _, _, _, _, rfl, hA.ob, T.cl_Roll, T.n_Roll__billed, rfl, k⟩
theorem ok_Roll_lease (T : Txt K mg base) : FnOk P w K mg base (L2.CX P w) 4 T.f_Roll_lease T.fd_Roll_lease ["self", "number"] (sp_Roll_lease T.c_Roll T.c_Lease (clsT T)) := by
  refine T.F_Roll_lease.okX sc_Roll_lease (fun vs H Q E h => ?_) (fun cdv A outer s H vs Q E hr h => ?_)
  · first | (obtain ⟨_, rfl, _⟩ := h; rfl) | (obtain ⟨_, _, rfl, _⟩ := h; rfl) | (obtain ⟨_, _, _, rfl, _⟩ := h; rfl) | (obtain ⟨_, _, _, _, rfl, _⟩ := h; rfl) | (obtain ⟨_, _, _, _, _, rfl, _⟩ := h; rfl) | (obtain ⟨_, _, _, _, _, _, rfl, _⟩ := h; rfl) | (obtain ⟨_, _, _, _, _, _, _, rfl, _⟩ := h; rfl) | (obtain ⟨_, _, _, _, _, _, _, _, rfl, _⟩ := h; rfl) | (obtain ⟨_, _, _, _, _, _, _, _, _, rfl, _⟩ := h; rfl) | (obtain ⟨_, _, _, _, _, _, _, _, _, _, rfl, _⟩ := h; rfl) | (obtain ⟨_, _, _, _, _, _, _, _, _, _, _, rfl, _⟩ := h; rfl) | (obtain ⟨_, _, _, _, _, _, _, _, _, _, _, _, rfl, _⟩ := h; rfl) | (obtain ⟨_, _, _, _, _, _, _, _, _, _, _, _, _, rfl, _⟩ := h; rfl) | (obtain ⟨_, _, _, _, _, _, _, _, _, _, _, _, _, _, rfl, _⟩ := h; rfl) | (obtain ⟨_, _, _, _, _, _, _, _, _, _, _, _, _, _, _, rfl, _⟩ := h; rfl)
  · refine ⟨_, (pss_cons (ps_set (i := 2) sc_Roll_lease.nd rfl (Or.inl rfl) (pe_methSS (pv 0) T.cl_Roll T.m_Roll__known (ok_Roll__known T) hr T.b_Roll__known (fun σ => passAt (takes_of rfl rfl rfl rfl) σ) (by exact (pa_cons (pv 1) pa_nil))))
  (pss_one (ps_ret (pe_tup (pa_cons (pe_fld (pv 2) rfl) (pa_cons (pe_fld (pv 2) rfl) (pa_cons (pe_fld (pv 2) rfl) (pa_cons (pe_fld (pv 2) rfl) pa_nil)))))))), ?_⟩
    obtain ⟨a, m, n, rfl, hA, h1, k1, k2⟩ := h
    walk_at "go"
    refine ⟨a.x, _, _, rfl, hA.ob, rfl, ?_⟩
    walk_at "go"
    refine ⟨a, m, n, rfl, hA, h1, fun i e le ei he hle hL => ?_, fun c => k1 c⟩
    walk_at "go"
    refine ⟨le.x, _, _, _, _, rfl, hL.ob, T.cl_Lease, T.n_Lease_flat, rfl, ?_⟩
    walk_at "go"
    refine ⟨le.x, _, _, _, _, rfl, hL.ob, T.cl_Lease, T.n_Lease_first, rfl, ?_⟩
    walk_at "go"
    refine ⟨le.x, _, _, _, optV e.last, rfl, hL.ob, T.cl_Lease, T.n_Lease_last, rfl, ?_⟩
    walk_at "go"
    refine ⟨le.x, _, _, _, _, rfl, hL.ob, T.cl_Lease, T.n_Lease_indexed, rfl, ?_⟩
    walk_at "go"
    exact ⟨by walk_at "sz", fun p hp => k2 i e ei he p hp⟩
theorem ok_Roll_owed (T : Txt K mg base) : FnOk P w K mg base (L2.CX P w) 8 T.f_Roll_owed T.fd_Roll_owed ["self", "lease", "day"] (sp_Roll_owed T.c_Roll T.c_Lease (clsT T)) := by
  refine T.F_Roll_owed.okX sc_Roll_owed (fun vs H Q E h => ?_) (fun cdv A outer s H vs Q E hr h => ?_)
  · first | (obtain ⟨_, rfl, _⟩ := h; rfl) | (obtain ⟨_, _, rfl, _⟩ := h; rfl) | (obtain ⟨_, _, _, rfl, _⟩ := h; rfl) | (obtain ⟨_, _, _, _, rfl, _⟩ := h; rfl) | (obtain ⟨_, _, _, _, _, rfl, _⟩ := h; rfl) | (obtain ⟨_, _, _, _, _, _, rfl, _⟩ := h; rfl) | (obtain ⟨_, _, _, _, _, _, _, rfl, _⟩ := h; rfl) | (obtain ⟨_, _, _, _, _, _, _, _, rfl, _⟩ := h; rfl) | (obtain ⟨_, _, _, _, _, _, _, _, _, rfl, _⟩ := h; rfl) | (obtain ⟨_, _, _, _, _, _, _, _, _, _, rfl, _⟩ := h; rfl) | (obtain ⟨_, _, _, _, _, _, _, _, _, _, _, rfl, _⟩ := h; rfl) | (obtain ⟨_, _, _, _, _, _, _, _, _, _, _, _, rfl, _⟩ := h; rfl) | (obtain ⟨_, _, _, _, _, _, _, _, _, _, _, _, _, rfl, _⟩ := h; rfl) | (obtain ⟨_, _, _, _, _, _, _, _, _, _, _, _, _, _, rfl, _⟩ := h; rfl) | (obtain ⟨_, _, _, _, _, _, _, _, _, _, _, _, _, _, _, rfl, _⟩ := h; rfl)
  · refine ⟨_, (pss_cons (ps_set (i := 3) sc_Roll_owed.nd rfl (Or.inl rfl) (pe_methSS (pv 0) T.cl_Roll T.m_Roll__known (ok_Roll__known T) (hr.mono (by decide)) T.b_Roll__known (fun σ => passAt (takes_of rfl rfl rfl rfl) σ) (by exact (pa_cons (pv 1) pa_nil))))
  (pss_cons (ps_expr (pe_callS (ok_check_day T) (hr.mono (by decide)) (by rfl) T.g_check_day T.F_check_day.kp T.b_check_day (fun σ => passAt (takes_of rfl rfl rfl rfl) σ) (by exact (pa_cons (pv 2) pa_nil))))
  (pss_one (ps_ret (pe_methSS (pv 3) T.cl_Lease T.m_Lease_owed_through (ok_Lease_owed_through T) hr T.b_Lease_owed_through (fun σ => passAt (takes_of rfl rfl rfl rfl) σ) (by exact (pa_cons (pv 2) (pa_cons (pe_fld (pv 0) rfl) pa_nil)))))))), ?_⟩
    obtain ⟨a, m, n, x, rfl, hA, hm, h1, h2, k1, k2, k3⟩ := h
    walk_at "go"
    refine ⟨a.x, _, _, rfl, hA.ob, rfl, ?_⟩
    walk_at "go"
    refine ⟨a, m, n, rfl, hA, h1, fun i e le ei he hle hL => ?_, fun c => k1 c⟩
    subst ei
    have c0 : isLe m (.int i) = true := by
      have := (List.getElem?_eq_some_iff.mp he).1
      simp [isLe, within]
      omega
    walk_at "go"
    refine ⟨_, rfl, h2, fun c => ?_, fun c => k2 c0 c⟩
    obtain ⟨d, rfl, d0, d1⟩ := within_int c
    walk_at "go"
    refine ⟨le.x, _, _, rfl, hL.ob, rfl, ?_⟩
    walk_at "go"
    refine ⟨a.x, _, _, _, _, rfl, hA.ob, T.cl_Roll, T.n_Roll__gauges, rfl, ?_⟩
    walk_at "go"
    exact ⟨le, e, d, a.g, a.ga, m.gauges, rfl, hL, hm.le e (List.mem_of_getElem? he), ⟨.inl (SqL.of hA.go), hA.gp.prs⟩, hm.ga, hm.gn, d1, fun H5 s5 => k3 i e d rfl he rfl d0 d1 _ s5⟩
theorem ok_Roll_pledge (T : Txt K mg base) : FnOk P w K mg base (L2.CX P w) 5 T.f_Roll_pledge T.fd_Roll_pledge ["self", "lease", "day"] (sp_Roll_pledge T.c_Roll T.c_Lease (clsT T)) := by
  refine T.F_Roll_pledge.okX sc_Roll_pledge (fun vs H Q E h => ?_) (fun cdv A outer s H vs Q E hr h => ?_)
  · first | (obtain ⟨_, rfl, _⟩ := h; rfl) | (obtain ⟨_, _, rfl, _⟩ := h; rfl) | (obtain ⟨_, _, _, rfl, _⟩ := h; rfl) | (obtain ⟨_, _, _, _, rfl, _⟩ := h; rfl) | (obtain ⟨_, _, _, _, _, rfl, _⟩ := h; rfl) | (obtain ⟨_, _, _, _, _, _, rfl, _⟩ := h; rfl) | (obtain ⟨_, _, _, _, _, _, _, rfl, _⟩ := h; rfl) | (obtain ⟨_, _, _, _, _, _, _, _, rfl, _⟩ := h; rfl) | (obtain ⟨_, _, _, _, _, _, _, _, _, rfl, _⟩ := h; rfl) | (obtain ⟨_, _, _, _, _, _, _, _, _, _, rfl, _⟩ := h; rfl) | (obtain ⟨_, _, _, _, _, _, _, _, _, _, _, rfl, _⟩ := h; rfl) | (obtain ⟨_, _, _, _, _, _, _, _, _, _, _, _, rfl, _⟩ := h; rfl) | (obtain ⟨_, _, _, _, _, _, _, _, _, _, _, _, _, rfl, _⟩ := h; rfl) | (obtain ⟨_, _, _, _, _, _, _, _, _, _, _, _, _, _, rfl, _⟩ := h; rfl) | (obtain ⟨_, _, _, _, _, _, _, _, _, _, _, _, _, _, _, rfl, _⟩ := h; rfl)
  · refine ⟨_, (pss_cons (ps_set (i := 3) sc_Roll_pledge.nd rfl (Or.inl rfl) (pe_methSS (pv 0) T.cl_Roll T.m_Roll__known (ok_Roll__known T) (hr.mono (by decide)) T.b_Roll__known (fun σ => passAt (takes_of rfl rfl rfl rfl) σ) (by exact (pa_cons (pv 1) pa_nil))))
  (pss_cons (ps_expr (pe_callS (ok_check_day T) (hr.mono (by decide)) (by rfl) T.g_check_day T.F_check_day.kp T.b_check_day (fun σ => passAt (takes_of rfl rfl rfl rfl) σ) (by exact (pa_cons (pv 2) pa_nil))))
  (pss_one (ps_ret (pe_methSS (pv 3) T.cl_Lease T.m_Lease_pledge_through (ok_Lease_pledge_through T) hr T.b_Lease_pledge_through (fun σ => passAt (takes_of rfl rfl rfl rfl) σ) (by exact (pa_cons (pv 2) (pa_cons (pe_fld (pv 0) rfl) pa_nil)))))))), ?_⟩
    obtain ⟨a, m, n, x, rfl, hA, hm, h1, h2, k1, k2, k3⟩ := h
    walk_at "go"
    refine ⟨a.x, _, _, rfl, hA.ob, rfl, ?_⟩
    walk_at "go"
    refine ⟨a, m, n, rfl, hA, h1, fun i e le ei he hle hL => ?_, fun c => k1 c⟩
    subst ei
    have c0 : isLe m (.int i) = true := by
      have := (List.getElem?_eq_some_iff.mp he).1
      simp [isLe, within]
      omega
    walk_at "go"
    refine ⟨_, rfl, h2, fun c => ?_, fun c => k2 c0 c⟩
    obtain ⟨d, rfl, d0, d1⟩ := within_int c
    walk_at "go"
    refine ⟨le.x, _, _, rfl, hL.ob, rfl, ?_⟩
    walk_at "go"
    refine ⟨a.x, _, _, _, _, rfl, hA.ob, T.cl_Roll, T.n_Roll__rates, rfl, ?_⟩
    walk_at "go"
    exact ⟨le, e, d, a.r, a.ra, m.rates, rfl, hL, hm.le e (List.mem_of_getElem? he), ⟨.inl (SqL.of hA.ro), hA.rp.prs⟩, hm.ra, hm.rn, d1, fun H5 s5 => k3 i e d rfl he rfl d0 d1 _ s5⟩
theorem ok_Roll_sent (T : Txt K mg base) : FnOk P w K mg base (L2.CX P w) 4 T.f_Roll_sent T.fd_Roll_sent ["self", "lease"] (sp_Roll_sent T.c_Roll T.c_Lease T.c_NoLease) := by
  refine T.F_Roll_sent.okX sc_Roll_sent (fun vs H Q E h => ?_) (fun cdv A outer s H vs Q E hr h => ?_)
  · first | (obtain ⟨_, rfl, _⟩ := h; rfl) | (obtain ⟨_, _, rfl, _⟩ := h; rfl) | (obtain ⟨_, _, _, rfl, _⟩ := h; rfl) | (obtain ⟨_, _, _, _, rfl, _⟩ := h; rfl) | (obtain ⟨_, _, _, _, _, rfl, _⟩ := h; rfl) | (obtain ⟨_, _, _, _, _, _, rfl, _⟩ := h; rfl) | (obtain ⟨_, _, _, _, _, _, _, rfl, _⟩ := h; rfl) | (obtain ⟨_, _, _, _, _, _, _, _, rfl, _⟩ := h; rfl) | (obtain ⟨_, _, _, _, _, _, _, _, _, rfl, _⟩ := h; rfl) | (obtain ⟨_, _, _, _, _, _, _, _, _, _, rfl, _⟩ := h; rfl) | (obtain ⟨_, _, _, _, _, _, _, _, _, _, _, rfl, _⟩ := h; rfl) | (obtain ⟨_, _, _, _, _, _, _, _, _, _, _, _, rfl, _⟩ := h; rfl) | (obtain ⟨_, _, _, _, _, _, _, _, _, _, _, _, _, rfl, _⟩ := h; rfl) | (obtain ⟨_, _, _, _, _, _, _, _, _, _, _, _, _, _, rfl, _⟩ := h; rfl) | (obtain ⟨_, _, _, _, _, _, _, _, _, _, _, _, _, _, _, rfl, _⟩ := h; rfl)
  · refine ⟨_, (pss_one (ps_ret (pe_fld (pe_methSS (pv 0) T.cl_Roll T.m_Roll__known (ok_Roll__known T) hr T.b_Roll__known (fun σ => passAt (takes_of rfl rfl rfl rfl) σ) (by exact (pa_cons (pv 1) pa_nil))) rfl))), ?_⟩
    obtain ⟨a, m, x, rfl, hA, hx, k1, k2⟩ := h
    walk_at "go"
    refine ⟨a.x, _, _, rfl, hA.ob, rfl, ?_⟩
    walk_at "go"
    refine ⟨a, m, x, rfl, hA, hx, fun i e le ex he hle hL => ?_, fun c => k2 c⟩
    exact ⟨le.x, _, _, _, _, rfl, hL.ob, T.cl_Lease, T.n_Lease_cents_sent, rfl, k1 i e ex he⟩
theorem ok_Roll_given (T : Txt K mg base) : FnOk P w K mg base (L2.CX P w) 4 T.f_Roll_given T.fd_Roll_given ["self", "lease"] (sp_Roll_given T.c_Roll T.c_Lease T.c_NoLease) := by
  refine T.F_Roll_given.okX sc_Roll_given (fun vs H Q E h => ?_) (fun cdv A outer s H vs Q E hr h => ?_)
  · first | (obtain ⟨_, rfl, _⟩ := h; rfl) | (obtain ⟨_, _, rfl, _⟩ := h; rfl) | (obtain ⟨_, _, _, rfl, _⟩ := h; rfl) | (obtain ⟨_, _, _, _, rfl, _⟩ := h; rfl) | (obtain ⟨_, _, _, _, _, rfl, _⟩ := h; rfl) | (obtain ⟨_, _, _, _, _, _, rfl, _⟩ := h; rfl) | (obtain ⟨_, _, _, _, _, _, _, rfl, _⟩ := h; rfl) | (obtain ⟨_, _, _, _, _, _, _, _, rfl, _⟩ := h; rfl) | (obtain ⟨_, _, _, _, _, _, _, _, _, rfl, _⟩ := h; rfl) | (obtain ⟨_, _, _, _, _, _, _, _, _, _, rfl, _⟩ := h; rfl) | (obtain ⟨_, _, _, _, _, _, _, _, _, _, _, rfl, _⟩ := h; rfl) | (obtain ⟨_, _, _, _, _, _, _, _, _, _, _, _, rfl, _⟩ := h; rfl) | (obtain ⟨_, _, _, _, _, _, _, _, _, _, _, _, _, rfl, _⟩ := h; rfl) | (obtain ⟨_, _, _, _, _, _, _, _, _, _, _, _, _, _, rfl, _⟩ := h; rfl) | (obtain ⟨_, _, _, _, _, _, _, _, _, _, _, _, _, _, _, rfl, _⟩ := h; rfl)
  · refine ⟨_, (pss_one (ps_ret (pe_fld (pe_methSS (pv 0) T.cl_Roll T.m_Roll__known (ok_Roll__known T) hr T.b_Roll__known (fun σ => passAt (takes_of rfl rfl rfl rfl) σ) (by exact (pa_cons (pv 1) pa_nil))) rfl))), ?_⟩
    obtain ⟨a, m, x, rfl, hA, hx, k1, k2⟩ := h
    walk_at "go"
    refine ⟨a.x, _, _, rfl, hA.ob, rfl, ?_⟩
    walk_at "go"
    refine ⟨a, m, x, rfl, hA, hx, fun i e le ex he hle hL => ?_, fun c => k2 c⟩
    exact ⟨le.x, _, _, _, _, rfl, hL.ob, T.cl_Lease, T.n_Lease_cents_given, rfl, k1 i e ex he⟩
theorem ok_Roll_letters (T : Txt K mg base) : FnOk P w K mg base (L2.CX P w) 1 T.f_Roll_letters T.fd_Roll_letters ["self"] (sp_Roll_letters T.c_Roll T.c_Lease) := by
  refine T.F_Roll_letters.okX sc_Roll_letters (fun vs H Q E h => ?_) (fun cdv A outer s H vs Q E hr h => ?_)
  · first | (obtain ⟨_, rfl, _⟩ := h; rfl) | (obtain ⟨_, _, rfl, _⟩ := h; rfl) | (obtain ⟨_, _, _, rfl, _⟩ := h; rfl) | (obtain ⟨_, _, _, _, rfl, _⟩ := h; rfl) | (obtain ⟨_, _, _, _, _, rfl, _⟩ := h; rfl) | (obtain ⟨_, _, _, _, _, _, rfl, _⟩ := h; rfl) | (obtain ⟨_, _, _, _, _, _, _, rfl, _⟩ := h; rfl) | (obtain ⟨_, _, _, _, _, _, _, _, rfl, _⟩ := h; rfl) | (obtain ⟨_, _, _, _, _, _, _, _, _, rfl, _⟩ := h; rfl) | (obtain ⟨_, _, _, _, _, _, _, _, _, _, rfl, _⟩ := h; rfl) | (obtain ⟨_, _, _, _, _, _, _, _, _, _, _, rfl, _⟩ := h; rfl) | (obtain ⟨_, _, _, _, _, _, _, _, _, _, _, _, rfl, _⟩ := h; rfl) | (obtain ⟨_, _, _, _, _, _, _, _, _, _, _, _, _, rfl, _⟩ := h; rfl) | (obtain ⟨_, _, _, _, _, _, _, _, _, _, _, _, _, _, rfl, _⟩ := h; rfl) | (obtain ⟨_, _, _, _, _, _, _, _, _, _, _, _, _, _, _, rfl, _⟩ := h; rfl)
  · refine ⟨_, (pss_one (ps_ret (pe_callTy (show CallR _ (.type "list") (rListOf K) from call_listA) (by rfl) T.n_list (by decide +kernel) (pa_cons (pe_fld (pv 0) rfl) pa_nil)))), ?_⟩
    obtain ⟨a, m, rfl, hA, k⟩ := h
    walk_at "go"
    refine ⟨a.x, _, _, _, _, rfl, hA.ob, T.cl_Roll, T.n_Roll__letters, rfl, ?_⟩
    walk_at "go"
    exact ⟨a.t, _, rfl, .inl (SqL.of hA.to), fun l hl => k l hl⟩
theorem ok_tell (T : Txt K mg base) : FnOk P w K mg base (L2.CX P w) 10 T.f_tell T.fd_tell ["roll", "letter"] (sp_tell T.c_Roll T.c_Lease T.P_is_flat (clsT T)) := by
  refine T.F_tell.okX sc_tell (fun vs H Q E h => ?_) (fun cdv A outer s H vs Q E hr h => ?_)
  · first | (obtain ⟨_, rfl, _⟩ := h; rfl) | (obtain ⟨_, _, rfl, _⟩ := h; rfl) | (obtain ⟨_, _, _, rfl, _⟩ := h; rfl) | (obtain ⟨_, _, _, _, rfl, _⟩ := h; rfl) | (obtain ⟨_, _, _, _, _, rfl, _⟩ := h; rfl) | (obtain ⟨_, _, _, _, _, _, rfl, _⟩ := h; rfl) | (obtain ⟨_, _, _, _, _, _, _, rfl, _⟩ := h; rfl) | (obtain ⟨_, _, _, _, _, _, _, _, rfl, _⟩ := h; rfl) | (obtain ⟨_, _, _, _, _, _, _, _, _, rfl, _⟩ := h; rfl) | (obtain ⟨_, _, _, _, _, _, _, _, _, _, rfl, _⟩ := h; rfl) | (obtain ⟨_, _, _, _, _, _, _, _, _, _, _, rfl, _⟩ := h; rfl) | (obtain ⟨_, _, _, _, _, _, _, _, _, _, _, _, rfl, _⟩ := h; rfl) | (obtain ⟨_, _, _, _, _, _, _, _, _, _, _, _, _, rfl, _⟩ := h; rfl) | (obtain ⟨_, _, _, _, _, _, _, _, _, _, _, _, _, _, rfl, _⟩ := h; rfl) | (obtain ⟨_, _, _, _, _, _, _, _, _, _, _, _, _, _, _, rfl, _⟩ := h; rfl)
  · refine ⟨_, (pss_one (ps_match rfl sc_tell.nd (pv 1)
  (.arm (.cons (i := 2) rfl (Or.inl rfl) (Or.inl rfl) (.cons (i := 3) rfl (Or.inl rfl) (Or.inl rfl) (.cons (i := 4) rfl (Or.inl rfl) (Or.inl rfl) (.cons (i := 5) rfl (Or.inl rfl) (Or.inl rfl) .nil)))) (pss_one (ps_expr (pe_methSS (pv 0) T.cl_Roll T.m_Roll_let (ok_Roll_let T) hr T.b_Roll_let (fun σ => passAt (takes_of rfl rfl rfl rfl) σ) (by exact (pa_cons (pv 2) (pa_cons (pv 3) (pa_cons (pv 4) (pa_cons (pv 5) pa_nil))))))))
  (.arm (.cons (i := 6) rfl (Or.inl rfl) (Or.inl rfl) (.cons (i := 7) rfl (Or.inl rfl) (Or.inl rfl) .nil)) (pss_one (ps_expr (pe_methSS (pv 0) T.cl_Roll T.m_Roll_end (ok_Roll_end T) hr T.b_Roll_end (fun σ => passAt (takes_of rfl rfl rfl rfl) σ) (by exact (pa_cons (pv 6) (pa_cons (pv 7) pa_nil))))))
  (.arm (.cons (i := 6) rfl (Or.inl rfl) (Or.inl rfl) (.cons (i := 3) rfl (Or.inl rfl) (Or.inl rfl) (.cons (i := 4) rfl (Or.inl rfl) (Or.inl rfl) .nil))) (pss_one (ps_expr (pe_methSS (pv 0) T.cl_Roll T.m_Roll_step (ok_Roll_step T) hr T.b_Roll_step (fun σ => passAt (takes_of rfl rfl rfl rfl) σ) (by exact (pa_cons (pv 6) (pa_cons (pv 3) (pa_cons (pv 4) pa_nil)))))))
  (.arm (.cons (i := 3) rfl (Or.inl rfl) (Or.inl rfl) (.cons (i := 8) rfl (Or.inl rfl) (Or.inl rfl) .nil)) (pss_one (ps_expr (pe_methSS (pv 0) T.cl_Roll T.m_Roll_gauge (ok_Roll_gauge T) hr T.b_Roll_gauge (fun σ => passAt (takes_of rfl rfl rfl rfl) σ) (by exact (pa_cons (pv 3) (pa_cons (pv 8) pa_nil))))))
  (.arm (.cons (i := 3) rfl (Or.inl rfl) (Or.inl rfl) (.cons (i := 9) rfl (Or.inl rfl) (Or.inl rfl) .nil)) (pss_one (ps_expr (pe_methSS (pv 0) T.cl_Roll T.m_Roll_rate (ok_Roll_rate T) hr T.b_Roll_rate (fun σ => passAt (takes_of rfl rfl rfl rfl) σ) (by exact (pa_cons (pv 3) (pa_cons (pv 9) pa_nil))))))
  (.arm (.cons (i := 6) rfl (Or.inl rfl) (Or.inl rfl) (.cons (i := 10) rfl (Or.inl rfl) (Or.inl rfl) (.cons (i := 11) rfl (Or.inl rfl) (Or.inl rfl) .nil))) (pss_one (ps_expr (pe_methSS (pv 0) T.cl_Roll T.m_Roll_paid (ok_Roll_paid T) hr T.b_Roll_paid (fun σ => passAt (takes_of rfl rfl rfl rfl) σ) (by exact (pa_cons (pv 6) (pa_cons (pv 10) (pa_cons (pv 11) pa_nil)))))))
  (.arm (.cons (i := 6) rfl (Or.inl rfl) (Or.inl rfl) (.cons (i := 10) rfl (Or.inl rfl) (Or.inl rfl) (.cons (i := 11) rfl (Or.inl rfl) (Or.inl rfl) .nil))) (pss_one (ps_expr (pe_methSS (pv 0) T.cl_Roll T.m_Roll_kept (ok_Roll_kept T) hr T.b_Roll_kept (fun σ => passAt (takes_of rfl rfl rfl rfl) σ) (by exact (pa_cons (pv 6) (pa_cons (pv 10) (pa_cons (pv 11) pa_nil)))))))
  (.arm (.cons (i := 6) rfl (Or.inl rfl) (Or.inl rfl) (.cons (i := 10) rfl (Or.inl rfl) (Or.inl rfl) .nil)) (pss_one (ps_expr (pe_methSS (pv 0) T.cl_Roll T.m_Roll_close (ok_Roll_close T) hr T.b_Roll_close (fun σ => passAt (takes_of rfl rfl rfl rfl) σ) (by exact (pa_cons (pv 6) (pa_cons (pv 10) pa_nil))))))
  (.arm (.cons (i := 10) rfl (Or.inl rfl) (Or.inl rfl) .nil) (pss_one (ps_expr (pe_methSS (pv 0) T.cl_Roll T.m_Roll_bill (ok_Roll_bill T) hr T.b_Roll_bill (fun σ => passAt (takes_of rfl rfl rfl rfl) σ) (by exact (pa_cons (pv 10) pa_nil)))))
  (.last (pss_one (ps_raise rfl (takes_of rfl rfl rfl rfl) (pmk_own PySem.F.excBase_ValueError T.x_RentError T.g_RentError T.k_RentError (raises_own T.s_RentError T.t_RentError) (by exact rfl)))))))))))))))), ?_⟩
    obtain ⟨a, m, L, p, rfl, hp, hA, hg, hlet, hx, hT, k1, k2⟩ := h
    have hS := SqT.of (K := K) hp
    walk_at "go"
    cases L with
    | «let» f x y ix =>
      refine arms_hit hS (by show 4 ≤ 1000; decide) rfl ?_
      dsimp only [setAll]
      walk_at "go"
      refine ⟨a.x, _, _, rfl, hA.ob, rfl, ?_⟩
      walk_at "go"
      exact ⟨a, m, f, x, y, ix, rfl, hA, hg, hlet, hx, hT, k1, k2⟩
    | fin n x =>
      refine arms_miss hS (by show 2 ≤ 1000; decide) (by decide) ?_
      refine arms_hit hS (by show 2 ≤ 1000; decide) rfl ?_
      dsimp only [setAll]
      walk_at "go"
      refine ⟨a.x, _, _, rfl, hA.ob, rfl, ?_⟩
      walk_at "go"
      exact ⟨a, m, n, x, rfl, hA, hg, hlet, hx, hT, k1, k2⟩
    | step n x y =>
      refine arms_miss hS (by show 3 ≤ 1000; decide) (by decide) ?_
      refine arms_miss hS (by show 3 ≤ 1000; decide) (by decide) ?_
      refine arms_hit hS (by show 3 ≤ 1000; decide) rfl ?_
      dsimp only [setAll]
      walk_at "go"
      refine ⟨a.x, _, _, rfl, hA.ob, rfl, ?_⟩
      walk_at "go"
      exact ⟨a, m, n, x, y, rfl, hA, hg, hlet, hx, hT, k1, k2⟩
    | gauge x y =>
      refine arms_miss hS (by show 2 ≤ 1000; decide) (by decide) ?_
      refine arms_miss hS (by show 2 ≤ 1000; decide) (by decide) ?_
      refine arms_miss hS (by show 2 ≤ 1000; decide) (by decide) ?_
      refine arms_hit hS (by show 2 ≤ 1000; decide) rfl ?_
      dsimp only [setAll]
      walk_at "go"
      refine ⟨a.x, _, _, rfl, hA.ob, rfl, ?_⟩
      walk_at "go"
      exact ⟨a, m, x, y, rfl, hA, hg, hlet, hx, hT, k1, k2⟩
    | rate x y =>
      refine arms_miss hS (by show 2 ≤ 1000; decide) (by decide) ?_
      refine arms_miss hS (by show 2 ≤ 1000; decide) (by decide) ?_
      refine arms_miss hS (by show 2 ≤ 1000; decide) (by decide) ?_
      refine arms_miss hS (by show 2 ≤ 1000; decide) (by decide) ?_
      refine arms_hit hS (by show 2 ≤ 1000; decide) rfl ?_
      dsimp only [setAll]
      walk_at "go"
      refine ⟨a.x, _, _, rfl, hA.ob, rfl, ?_⟩
      walk_at "go"
      exact ⟨a, m, x, y, rfl, hA, hg, hlet, hx, hT, k1, k2⟩
    | paid n x y =>
      refine arms_miss hS (by show 3 ≤ 1000; decide) (by decide) ?_
      refine arms_miss hS (by show 3 ≤ 1000; decide) (by decide) ?_
      refine arms_miss hS (by show 3 ≤ 1000; decide) (by decide) ?_
      refine arms_miss hS (by show 3 ≤ 1000; decide) (by decide) ?_
      refine arms_miss hS (by show 3 ≤ 1000; decide) (by decide) ?_
      refine arms_hit hS (by show 3 ≤ 1000; decide) rfl ?_
      dsimp only [setAll]
      walk_at "go"
      refine ⟨a.x, _, _, rfl, hA.ob, rfl, ?_⟩
      walk_at "go"
      exact ⟨a, m, n, x, y, rfl, hA, hg, hlet, hx, hT, k1, k2⟩
    | kept n x y =>
      refine arms_miss hS (by show 3 ≤ 1000; decide) (by decide) ?_
      refine arms_miss hS (by show 3 ≤ 1000; decide) (by decide) ?_
      refine arms_miss hS (by show 3 ≤ 1000; decide) (by decide) ?_
      refine arms_miss hS (by show 3 ≤ 1000; decide) (by decide) ?_
      refine arms_miss hS (by show 3 ≤ 1000; decide) (by decide) ?_
      refine arms_miss hS (by show 3 ≤ 1000; decide) (by decide) ?_
      refine arms_hit hS (by show 3 ≤ 1000; decide) rfl ?_
      dsimp only [setAll]
      walk_at "go"
      refine ⟨a.x, _, _, rfl, hA.ob, rfl, ?_⟩
      walk_at "go"
      exact ⟨a, m, n, x, y, rfl, hA, hg, hlet, hx, hT, k1, k2⟩
    | close n x =>
      refine arms_miss hS (by show 2 ≤ 1000; decide) (by decide) ?_
      refine arms_miss hS (by show 2 ≤ 1000; decide) (by decide) ?_
      refine arms_miss hS (by show 2 ≤ 1000; decide) (by decide) ?_
      refine arms_miss hS (by show 2 ≤ 1000; decide) (by decide) ?_
      refine arms_miss hS (by show 2 ≤ 1000; decide) (by decide) ?_
      refine arms_miss hS (by show 2 ≤ 1000; decide) (by decide) ?_
      refine arms_miss hS (by show 2 ≤ 1000; decide) (by decide) ?_
      refine arms_hit hS (by show 2 ≤ 1000; decide) rfl ?_
      dsimp only [setAll]
      walk_at "go"
      refine ⟨a.x, _, _, rfl, hA.ob, rfl, ?_⟩
      walk_at "go"
      exact ⟨a, m, n, x, rfl, hA, hg, hlet, hx, hT, k1, k2⟩
    | bill x =>
      refine arms_miss hS (by show 1 ≤ 1000; decide) (by decide) ?_
      refine arms_miss hS (by show 1 ≤ 1000; decide) (by decide) ?_
      refine arms_miss hS (by show 1 ≤ 1000; decide) (by decide) ?_
      refine arms_miss hS (by show 1 ≤ 1000; decide) (by decide) ?_
      refine arms_miss hS (by show 1 ≤ 1000; decide) (by decide) ?_
      refine arms_miss hS (by show 1 ≤ 1000; decide) (by decide) ?_
      refine arms_miss hS (by show 1 ≤ 1000; decide) (by decide) ?_
      refine arms_miss hS (by show 1 ≤ 1000; decide) (by decide) ?_
      refine arms_hit hS (by show 1 ≤ 1000; decide) rfl ?_
      dsimp only [setAll]
      walk_at "go"
      refine ⟨a.x, _, _, rfl, hA.ob, rfl, ?_⟩
      walk_at "go"
      exact ⟨a, m, x, rfl, hA, hg, hlet, hx, hT, k1, k2⟩
theorem ok_roll_of (T : Txt K mg base) : FnOk P w K mg base (L2.CX P w) 11 T.f_roll_of T.fd_roll_of ["letters"] (sp_roll_of T.c_Roll T.c_Lease T.P_is_flat (clsT T) K) := by
  refine T.F_roll_of.okX sc_roll_of (fun vs H Q E h => ?_) (fun cdv A outer s H vs Q E hr h => ?_)
  · first | (obtain ⟨_, rfl, _⟩ := h; rfl) | (obtain ⟨_, _, rfl, _⟩ := h; rfl) | (obtain ⟨_, _, _, rfl, _⟩ := h; rfl) | (obtain ⟨_, _, _, _, rfl, _⟩ := h; rfl) | (obtain ⟨_, _, _, _, _, rfl, _⟩ := h; rfl) | (obtain ⟨_, _, _, _, _, _, rfl, _⟩ := h; rfl) | (obtain ⟨_, _, _, _, _, _, _, rfl, _⟩ := h; rfl) | (obtain ⟨_, _, _, _, _, _, _, _, rfl, _⟩ := h; rfl) | (obtain ⟨_, _, _, _, _, _, _, _, _, rfl, _⟩ := h; rfl) | (obtain ⟨_, _, _, _, _, _, _, _, _, _, rfl, _⟩ := h; rfl) | (obtain ⟨_, _, _, _, _, _, _, _, _, _, _, rfl, _⟩ := h; rfl) | (obtain ⟨_, _, _, _, _, _, _, _, _, _, _, _, rfl, _⟩ := h; rfl) | (obtain ⟨_, _, _, _, _, _, _, _, _, _, _, _, _, rfl, _⟩ := h; rfl) | (obtain ⟨_, _, _, _, _, _, _, _, _, _, _, _, _, _, rfl, _⟩ := h; rfl) | (obtain ⟨_, _, _, _, _, _, _, _, _, _, _, _, _, _, _, rfl, _⟩ := h; rfl)
  · refine ⟨_, (pss_cons (ps_set (i := 1) sc_roll_of.nd rfl (Or.inl rfl) (pe_make0 T.mk_Roll (ok_Roll_init T) (hr.mono (by decide)) (by rfl) T.g_Roll T.b_Roll_init .nil (passes_call (takes_of rfl rfl rfl rfl) (fun _ _ _ _ h => False.elim h))))
  (pss_cons (ps_for (passes_of rfl) rfl (show PI _ _ _ (iLT K _) from pi_lt (pv 0)) (pg_name (i := 2) sc_roll_of.nd rfl (Or.inl rfl))
  (pss_one (ps_expr (pe_callS (ok_tell T) hr (by rfl) T.g_tell T.F_tell.kp T.b_tell (fun σ => passAt (takes_of rfl rfl rfl rfl) σ) (by exact (pa_cons (pv 1) (pa_cons (pv 2) pa_nil)))))))
  (pss_one (ps_ret (pv 1))))), ?_⟩
    obtain ⟨H0, rs, cs, l, ts, tls, fs, lo, hi, many, rfl, W, ⟨kl, hkl⟩, hT, hG, hf8, hlen, k1, k2⟩ := h
    have htl := hT.len
    rw [List.length_map] at htl
    walk_at "go"
    intro x dx hx hdx ndx
    refine ⟨x, dx, rfl, upd_same, fun a H1 e1 e2 hR k0 fr => ⟨rfl, ?_⟩⟩
    obtain ⟨W1, sm1⟩ := W.rollMake hx hdx ndx e1 hR k0 fr
    clear hdx ndx k0 fr hR hx
    walk_at "go"
    refine g_forN (g_iL ?_)
    walk_at "go"
    refine ⟨l, rfl, ⟨_, SqL.of (W1.cell hkl)⟩, ?_⟩
    refine list_of (xs := ts.map V.ref) (fun i σ' H' => ∃ v a m, σ' = [some (.ref l), some (.ref x), v] ∧ LawAt T.c_Roll T.c_Lease T.P_is_flat H0 H' (rs ++ [(a, m)]) cs ∧ a.x = x ∧ Tups H H' ∧ tellAll newRo tls = tellAll m (tls.drop i) ∧ m.letters.length ≤ i)
      ⟨_, a, newRo, rfl, W1, e1, Tups.same sm1, rfl, Nat.le_refl _⟩ (fun i σ' H' ⟨_, _, _, _, W, _⟩ => SqL.of (W.cell hkl)) ?_ ?_
    · rintro i xv σ' H' hxv ⟨v, a, m, rfl, W, ex, tu, hr, hl⟩
      have hi : i < ts.length := by
        have q := (List.getElem?_eq_some_iff.mp hxv).1
        rw [List.length_map] at q
        exact q
      obtain ⟨L, hL⟩ : ∃ L, tls[i]? = some L := ⟨_, List.getElem?_eq_getElem (by omega)⟩
      obtain ⟨t, h3, h4⟩ := hT.get (i := i) (vs := L.vals) (by rw [List.getElem?_map, hL]; rfl)
      rw [List.getElem?_map, h3] at hxv
      cases hxv
      have hd : tls.drop i = L :: tls.drop (i + 1) := by
        obtain ⟨hh, e3⟩ := List.getElem?_eq_some_iff.mp hL
        rw [← e3]
        exact List.drop_eq_getElem_cons hh
      rw [hd] at hr
      have hri : (rs ++ [(a, m)])[rs.length]? = some (a, m) := by rw [List.getElem?_append_right (Nat.le_refl _), Nat.sub_self]; rfl
      walk_at "go"
      rw [← ex]
      refine ⟨a, m, L, t, rfl, tu _ _ h4, W.roll hri, W.rog hri, by omega, (hG L (List.mem_of_getElem? hL)).things hf8, W.tab, fun ho => ?_, fun e he H2 q2 => ?_⟩
      · refine W.told hri ho fun H3 l3 tt a' W3 tu3 ex3 _ _ _ _ _ => ?_
        rw [List.set_append_right _ _ (Nat.le_refl _), Nat.sub_self] at W3
        rw [tell_none ho] at hr
        walk_at "go"
        refine ⟨_, a', L.then m, rfl, W3, ex3, tu.trans tu3, hr, ?_⟩
        rw [then_letters, List.length_append]
        show _ + 1 ≤ _
        omega
      · rw [tell_some he] at hr
        have W4 := W.kept q2
        exact k2 e (by rw [hr]) H2 (W4.subR (List.sublist_append_left _ _)) (tu.trans (Tups.kept q2))
    · rintro σ' H' ⟨v, a, m, rfl, W, ex, tu, hr, hl⟩
      rw [List.length_map, htl, List.drop_length] at hr
      walk_at "go"
      rw [← ex]
      exact k1 (by rw [hr]; rfl) H' a (by rw [hr]; exact W) tu
theorem ok_l_cell_at (T : Txt K mg base) : FnOk P w K mg base (L2.CX P w) 1 T.f_l_cell_at T.fd_l_cell_at ["_law_script", "_law_k"] (sp_l_cell_at K) := by
  refine T.F_l_cell_at.okX sc_l_cell_at (fun vs H Q E h => ?_) (fun cdv A outer s H vs Q E hr h => ?_)
  · first | (obtain ⟨_, rfl, _⟩ := h; rfl) | (obtain ⟨_, _, rfl, _⟩ := h; rfl) | (obtain ⟨_, _, _, rfl, _⟩ := h; rfl) | (obtain ⟨_, _, _, _, rfl, _⟩ := h; rfl) | (obtain ⟨_, _, _, _, _, rfl, _⟩ := h; rfl) | (obtain ⟨_, _, _, _, _, _, rfl, _⟩ := h; rfl) | (obtain ⟨_, _, _, _, _, _, _, rfl, _⟩ := h; rfl) | (obtain ⟨_, _, _, _, _, _, _, _, rfl, _⟩ := h; rfl) | (obtain ⟨_, _, _, _, _, _, _, _, _, rfl, _⟩ := h; rfl) | (obtain ⟨_, _, _, _, _, _, _, _, _, _, rfl, _⟩ := h; rfl) | (obtain ⟨_, _, _, _, _, _, _, _, _, _, _, rfl, _⟩ := h; rfl) | (obtain ⟨_, _, _, _, _, _, _, _, _, _, _, _, rfl, _⟩ := h; rfl) | (obtain ⟨_, _, _, _, _, _, _, _, _, _, _, _, _, rfl, _⟩ := h; rfl) | (obtain ⟨_, _, _, _, _, _, _, _, _, _, _, _, _, _, rfl, _⟩ := h; rfl) | (obtain ⟨_, _, _, _, _, _, _, _, _, _, _, _, _, _, _, rfl, _⟩ := h; rfl)
  · refine ⟨_, (pss_cons (ps_if (pt_cmpR op_lt (pv 1) (pe_callB (show CallR _ (.builtin "len") (rLen K) from call_lenA) (by rfl) T.n_len (by decide +kernel) (pa_cons (pv 0) pa_nil)) (nomark _))
  (pss_one (ps_ret (pe_ix (show IxR _ (rIx2 K) from ix_lt) (pv 0) (pv 1) (fun _ _ => rfl))))
  pss_nil)
  (pss_one (ps_ret pe_int))), ?_⟩
    obtain ⟨a, ns, k, rfl, hS, hk, q⟩ := h
    obtain ⟨j, rfl⟩ : ∃ j : Nat, k = (j : Int) := ⟨k.toNat, by omega⟩
    walk_at "go"
    refine ⟨a, _, rfl, .inl hS, ?_⟩
    walk_at "go"
    rw [List.length_map]
    refine g_ite (fun c => ?_) (fun c => ?_)
    · walk_at "go"
      have hj : j < ns.length := by omega
      have e : cell ns (j : Int) = ns[j] := by simp [cell, hj]
      rw [e] at q
      exact r_ixL hS (atI_nat (by rw [List.getElem?_map, List.getElem?_eq_getElem hj]; rfl)) q
    · walk_at "go"
      have e : cell ns (j : Int) = 0 := by
        have hj : ns.length ≤ j := by omega
        simp [cell, List.getD, List.getElem?_eq_none hj]
      rw [e] at q
      exact q
theorem ok_l_mix (T : Txt K mg base) : FnOk P w K mg base (L2.CX P w) 1 T.f_l_mix T.fd_l_mix ["_law_number_here", "_law_k"] (sp_l_mix) := by
  refine T.F_l_mix.okX sc_l_mix (fun vs H Q E h => ?_) (fun cdv A outer s H vs Q E hr h => ?_)
  · first | (obtain ⟨_, rfl, _⟩ := h; rfl) | (obtain ⟨_, _, rfl, _⟩ := h; rfl) | (obtain ⟨_, _, _, rfl, _⟩ := h; rfl) | (obtain ⟨_, _, _, _, rfl, _⟩ := h; rfl) | (obtain ⟨_, _, _, _, _, rfl, _⟩ := h; rfl) | (obtain ⟨_, _, _, _, _, _, rfl, _⟩ := h; rfl) | (obtain ⟨_, _, _, _, _, _, _, rfl, _⟩ := h; rfl) | (obtain ⟨_, _, _, _, _, _, _, _, rfl, _⟩ := h; rfl) | (obtain ⟨_, _, _, _, _, _, _, _, _, rfl, _⟩ := h; rfl) | (obtain ⟨_, _, _, _, _, _, _, _, _, _, rfl, _⟩ := h; rfl) | (obtain ⟨_, _, _, _, _, _, _, _, _, _, _, rfl, _⟩ := h; rfl) | (obtain ⟨_, _, _, _, _, _, _, _, _, _, _, _, rfl, _⟩ := h; rfl) | (obtain ⟨_, _, _, _, _, _, _, _, _, _, _, _, _, rfl, _⟩ := h; rfl) | (obtain ⟨_, _, _, _, _, _, _, _, _, _, _, _, _, _, rfl, _⟩ := h; rfl) | (obtain ⟨_, _, _, _, _, _, _, _, _, _, _, _, _, _, _, rfl, _⟩ := h; rfl)
  · refine ⟨_, (pss_cons (ps_set (i := 2) sc_l_mix.nd rfl (Or.inl rfl) (pe_op op_mod (pe_op op_plus (pe_op op_plus (pe_op op_mul (pv 0) pe_int) (pe_op op_mul (pv 1) pe_int)) pe_int) pe_int))
  (pss_one (ps_ret (pe_op op_mod (pe_op op_plus (pe_op op_plus (pe_op op_mul (pv 2) (pv 2)) (pe_op op_mul pe_int (pv 2))) (pv 1)) pe_int)))), ?_⟩
    obtain ⟨n, m, rfl, k⟩ := h
    walk_at "go"
    exact k _ (by omega) (by omega)
theorem ok_l_base (T : Txt K mg base) : FnOk P w K mg base (L2.CX P w) 1 T.f_l_base T.fd_l_base ["_law_cell"] (sp_l_base) := by
  refine T.F_l_base.okX sc_l_base (fun vs H Q E h => ?_) (fun cdv A outer s H vs Q E hr h => ?_)
  · first | (obtain ⟨_, rfl, _⟩ := h; rfl) | (obtain ⟨_, _, rfl, _⟩ := h; rfl) | (obtain ⟨_, _, _, rfl, _⟩ := h; rfl) | (obtain ⟨_, _, _, _, rfl, _⟩ := h; rfl) | (obtain ⟨_, _, _, _, _, rfl, _⟩ := h; rfl) | (obtain ⟨_, _, _, _, _, _, rfl, _⟩ := h; rfl) | (obtain ⟨_, _, _, _, _, _, _, rfl, _⟩ := h; rfl) | (obtain ⟨_, _, _, _, _, _, _, _, rfl, _⟩ := h; rfl) | (obtain ⟨_, _, _, _, _, _, _, _, _, rfl, _⟩ := h; rfl) | (obtain ⟨_, _, _, _, _, _, _, _, _, _, rfl, _⟩ := h; rfl) | (obtain ⟨_, _, _, _, _, _, _, _, _, _, _, rfl, _⟩ := h; rfl) | (obtain ⟨_, _, _, _, _, _, _, _, _, _, _, _, rfl, _⟩ := h; rfl) | (obtain ⟨_, _, _, _, _, _, _, _, _, _, _, _, _, rfl, _⟩ := h; rfl) | (obtain ⟨_, _, _, _, _, _, _, _, _, _, _, _, _, _, rfl, _⟩ := h; rfl) | (obtain ⟨_, _, _, _, _, _, _, _, _, _, _, _, _, _, _, rfl, _⟩ := h; rfl)
  · refine ⟨_, (pss_cons (ps_set (i := 1) sc_l_base.nd rfl (Or.inl rfl) (pe_lst (pa_cons pe_int (pa_cons pe_int (pa_cons pe_int (pa_cons pe_int (pa_cons pe_int (pa_cons pe_int (pa_cons pe_int (pa_cons pe_int (pa_cons pe_int pa_nil)))))))))))
  (pss_cons (ps_if (pt_cmpR (show OpR _ (compareOp .Eq) (rEqA K) from op_eqA hr.units) (pe_op op_mod (pv 0) pe_int) pe_int (nomark _))
  (pss_one (ps_ret (pe_ix (show IxR _ (rIx2 K) from ix_lt) (pv 1) (pe_op op_mod (pe_op op_fdiv (pv 0) pe_int) pe_int) (fun _ _ => rfl))))
  pss_nil)
  (pss_one (ps_ret (pe_op op_mod (pe_op op_fdiv (pv 0) pe_int) pe_int))))), ?_⟩
    obtain ⟨c, rfl, k⟩ := h
    walk_at "go"
    refine ⟨by walk_at "sz", fun p hp => ?_⟩
    walk_at "go"
    refine g_ite (fun c1 => ?_) (fun c1 => ?_)
    · walk_at "go"
      refine r_ixL (SqL.of upd_same) (at_modI (ns := [0, 20, 50, 360, 1140, 36500, 36560, 73040, 99600]) _ rfl (by decide)) ?_
      have b := getD_all (R := fun d => 0 ≤ d ∧ d ≤ 99600) (l := [0, 20, 50, 360, 1140, 36500, 36560, 73040, 99600]) (c / 3 % 9).toNat (by decide) (by decide)
      exact k _ b.1 b.2 _ (by walk_at "sm")
    · walk_at "go"
      exact k _ (by omega) (by omega) _ (by walk_at "sm")
theorem ok_l_money (T : Txt K mg base) : FnOk P w K mg base (L2.CX P w) 1 T.f_l_money T.fd_l_money ["_law_cell"] (sp_l_money) := by
  refine T.F_l_money.okX sc_l_money (fun vs H Q E h => ?_) (fun cdv A outer s H vs Q E hr h => ?_)
  · first | (obtain ⟨_, rfl, _⟩ := h; rfl) | (obtain ⟨_, _, rfl, _⟩ := h; rfl) | (obtain ⟨_, _, _, rfl, _⟩ := h; rfl) | (obtain ⟨_, _, _, _, rfl, _⟩ := h; rfl) | (obtain ⟨_, _, _, _, _, rfl, _⟩ := h; rfl) | (obtain ⟨_, _, _, _, _, _, rfl, _⟩ := h; rfl) | (obtain ⟨_, _, _, _, _, _, _, rfl, _⟩ := h; rfl) | (obtain ⟨_, _, _, _, _, _, _, _, rfl, _⟩ := h; rfl) | (obtain ⟨_, _, _, _, _, _, _, _, _, rfl, _⟩ := h; rfl) | (obtain ⟨_, _, _, _, _, _, _, _, _, _, rfl, _⟩ := h; rfl) | (obtain ⟨_, _, _, _, _, _, _, _, _, _, _, rfl, _⟩ := h; rfl) | (obtain ⟨_, _, _, _, _, _, _, _, _, _, _, _, rfl, _⟩ := h; rfl) | (obtain ⟨_, _, _, _, _, _, _, _, _, _, _, _, _, rfl, _⟩ := h; rfl) | (obtain ⟨_, _, _, _, _, _, _, _, _, _, _, _, _, _, rfl, _⟩ := h; rfl) | (obtain ⟨_, _, _, _, _, _, _, _, _, _, _, _, _, _, _, rfl, _⟩ := h; rfl)
  · refine ⟨_, (pss_cons (ps_if (pt_cmpR (show OpR _ (compareOp .Eq) (rEqA K) from op_eqA hr.units) (pe_op op_mod (pv 0) pe_int) pe_int (nomark _))
  (pss_one (ps_ret (pe_ix (show IxR _ (rIx2 K) from ix_lt) (pe_lst (pa_cons pe_int (pa_cons pe_int (pa_cons (pe_op op_pow pe_int pe_int) (pa_cons (pe_op op_sub (pe_op op_pow pe_int pe_int) pe_int) (pa_cons pe_int (pa_cons pe_int pa_nil))))))) (pe_op op_mod (pe_op op_fdiv (pv 0) pe_int) pe_int) (fun _ _ => rfl))))
  pss_nil)
  (pss_cons (ps_if (pt_cmpR (show OpR _ (compareOp .Eq) (rEqA K) from op_eqA hr.units) (pe_op op_mod (pv 0) pe_int) pe_int (nomark _))
  (pss_one (ps_ret (pe_op op_mod (pe_op op_mul (pe_op op_fdiv (pv 0) pe_int) pe_int) (pe_op op_plus (pe_op op_pow pe_int pe_int) pe_int))))
  pss_nil)
  (pss_one (ps_ret (pe_op op_mod (pe_op op_fdiv (pv 0) pe_int) pe_int))))), ?_⟩
    obtain ⟨c, rfl, k⟩ := h
    walk_at "go"
    refine g_ite (fun c1 => ?_) (fun c1 => ?_)
    · walk_at "go"
      refine ⟨by walk_at "sz", fun p hp => ?_⟩
      walk_at "go"
      refine r_ixL (SqL.of upd_same) (at_modI (ns := [0, 1, 10 ^ (9 : Int).toNat, 10 ^ (9 : Int).toNat - 1, 29, 31]) _ rfl (by decide)) ?_
      have b := getD_all (R := fun d => 0 ≤ d ∧ d ≤ 1000000000) (l := [0, 1, 10 ^ (9 : Int).toNat, 10 ^ (9 : Int).toNat - 1, 29, 31]) (c / 4 % 6).toNat (by decide) (by decide)
      exact k _ b.1 b.2 _ (by walk_at "sm")
    · walk_at "go"
      refine g_ite (fun c2 => ?_) (fun c2 => ?_)
      · walk_at "go"
        exact k _ (by rw [show (10 : Int) ^ (9 : Int).toNat + 1 = 1000000001 by decide]; omega) (by rw [show (10 : Int) ^ (9 : Int).toNat + 1 = 1000000001 by decide]; omega) _ (by walk_at "sm")
      · walk_at "go"
        exact k _ (by omega) (by omega) _ (by walk_at "sm")
theorem ok_l_number (T : Txt K mg base) : FnOk P w K mg base (L2.CX P w) 1 T.f_l_number T.fd_l_number ["_law_cell"] (sp_l_number) := by
  refine T.F_l_number.okX sc_l_number (fun vs H Q E h => ?_) (fun cdv A outer s H vs Q E hr h => ?_)
  · first | (obtain ⟨_, rfl, _⟩ := h; rfl) | (obtain ⟨_, _, rfl, _⟩ := h; rfl) | (obtain ⟨_, _, _, rfl, _⟩ := h; rfl) | (obtain ⟨_, _, _, _, rfl, _⟩ := h; rfl) | (obtain ⟨_, _, _, _, _, rfl, _⟩ := h; rfl) | (obtain ⟨_, _, _, _, _, _, rfl, _⟩ := h; rfl) | (obtain ⟨_, _, _, _, _, _, _, rfl, _⟩ := h; rfl) | (obtain ⟨_, _, _, _, _, _, _, _, rfl, _⟩ := h; rfl) | (obtain ⟨_, _, _, _, _, _, _, _, _, rfl, _⟩ := h; rfl) | (obtain ⟨_, _, _, _, _, _, _, _, _, _, rfl, _⟩ := h; rfl) | (obtain ⟨_, _, _, _, _, _, _, _, _, _, _, rfl, _⟩ := h; rfl) | (obtain ⟨_, _, _, _, _, _, _, _, _, _, _, _, rfl, _⟩ := h; rfl) | (obtain ⟨_, _, _, _, _, _, _, _, _, _, _, _, _, rfl, _⟩ := h; rfl) | (obtain ⟨_, _, _, _, _, _, _, _, _, _, _, _, _, _, rfl, _⟩ := h; rfl) | (obtain ⟨_, _, _, _, _, _, _, _, _, _, _, _, _, _, _, rfl, _⟩ := h; rfl)
  · refine ⟨_, (pss_cons (ps_if (pt_cmpR (show OpR _ (compareOp .Eq) (rEqA K) from op_eqA hr.units) (pe_op op_mod (pv 0) pe_int) pe_int (nomark _))
  (pss_one (ps_ret (pe_ix (show IxR _ (rIx2 K) from ix_lt) (pe_lst (pa_cons pe_int (pa_cons (pe_op op_pow pe_int pe_int) (pa_cons pe_int (pa_cons pe_int pa_nil))))) (pe_op op_mod (pe_op op_fdiv (pv 0) pe_int) pe_int) (fun _ _ => rfl))))
  pss_nil)
  (pss_cons (ps_if (pt_cmpR (show OpR _ (compareOp .Eq) (rEqA K) from op_eqA hr.units) (pe_op op_mod (pv 0) pe_int) pe_int (nomark _))
  (pss_one (ps_ret (pe_op op_plus pe_int (pe_op op_mod (pe_op op_mul (pe_op op_fdiv (pv 0) pe_int) pe_int) (pe_op op_pow pe_int pe_int)))))
  pss_nil)
  (pss_one (ps_ret (pe_op op_plus pe_int (pe_op op_mod (pe_op op_fdiv (pv 0) pe_int) pe_int)))))), ?_⟩
    obtain ⟨c, rfl, k⟩ := h
    walk_at "go"
    refine g_ite (fun c1 => ?_) (fun c1 => ?_)
    · walk_at "go"
      refine ⟨by walk_at "sz", fun p hp => ?_⟩
      walk_at "go"
      refine r_ixL (SqL.of upd_same) (at_modI (ns := [1, 10 ^ (6 : Int).toNat, 100, 101]) _ rfl (by decide)) ?_
      have h0 : 0 ≤ c / 4 % 4 ∧ c / 4 % 4 < 4 := by omega
      have b : 1 ≤ ([1, 10 ^ (6 : Int).toNat, 100, 101] : List Int).getD (c / 4 % 4).toNat 0 ∧ ([1, 10 ^ (6 : Int).toNat, 100, 101] : List Int).getD (c / 4 % 4).toNat 0 ≤ 1000000 := by
        generalize c / 4 % 4 = z at h0
        obtain rfl | rfl | rfl | rfl : z = 0 ∨ z = 1 ∨ z = 2 ∨ z = 3 := by omega
        all_goals decide
      exact k _ b.1 b.2 _ (by walk_at "sm")
    · walk_at "go"
      refine g_ite (fun c2 => ?_) (fun c2 => ?_)
      · walk_at "go"
        exact k _ (by rw [show (10 : Int) ^ (6 : Int).toNat = 1000000 by decide]; omega) (by rw [show (10 : Int) ^ (6 : Int).toNat = 1000000 by decide]; omega) _ (by walk_at "sm")
      · walk_at "go"
        exact k _ (by omega) (by omega) _ (by walk_at "sm")
theorem ok_l_flats (T : Txt K mg base) : FnOk P w K mg base (L2.CX P w) 2 T.f_l_flats T.fd_l_flats ["_law_cell"] (sp_l_flats) := by
  refine T.F_l_flats.okX sc_l_flats (fun vs H Q E h => ?_) (fun cdv A outer s H vs Q E hr h => ?_)
  · first | (obtain ⟨_, rfl, _⟩ := h; rfl) | (obtain ⟨_, _, rfl, _⟩ := h; rfl) | (obtain ⟨_, _, _, rfl, _⟩ := h; rfl) | (obtain ⟨_, _, _, _, rfl, _⟩ := h; rfl) | (obtain ⟨_, _, _, _, _, rfl, _⟩ := h; rfl) | (obtain ⟨_, _, _, _, _, _, rfl, _⟩ := h; rfl) | (obtain ⟨_, _, _, _, _, _, _, rfl, _⟩ := h; rfl) | (obtain ⟨_, _, _, _, _, _, _, _, rfl, _⟩ := h; rfl) | (obtain ⟨_, _, _, _, _, _, _, _, _, rfl, _⟩ := h; rfl) | (obtain ⟨_, _, _, _, _, _, _, _, _, _, rfl, _⟩ := h; rfl) | (obtain ⟨_, _, _, _, _, _, _, _, _, _, _, rfl, _⟩ := h; rfl) | (obtain ⟨_, _, _, _, _, _, _, _, _, _, _, _, rfl, _⟩ := h; rfl) | (obtain ⟨_, _, _, _, _, _, _, _, _, _, _, _, _, rfl, _⟩ := h; rfl) | (obtain ⟨_, _, _, _, _, _, _, _, _, _, _, _, _, _, rfl, _⟩ := h; rfl) | (obtain ⟨_, _, _, _, _, _, _, _, _, _, _, _, _, _, _, rfl, _⟩ := h; rfl)
  · refine ⟨_, (pss_cons (ps_set (i := 1) sc_l_flats.nd rfl (Or.inr rfl) pe_str)
  (pss_cons (ps_set (i := 2) sc_l_flats.nd rfl (Or.inr rfl) pe_str)
  (pss_cons (ps_for (passes_of rfl) rfl (pi_range1 (by rfl) T.n_range (pa_cons (pe_op (show OpR _ (binaryOp .Add) rPlusS from op_plusS) pe_int (pe_op op_mod (pv 0) pe_int)) pa_nil)) (pg_name (i := 3) sc_l_flats.nd rfl (Or.inl rfl))
  (pss_one (ps_set (i := 2) sc_l_flats.nd rfl (Or.inr rfl) (pe_op (show OpR _ (binaryOp .Add) rPlusS from op_plusS) (pv 2) (pe_ix (show IxR _ (rIx3 K) from ix_3) (pv 1) (pe_op op_mod (pe_op op_fdiv (pe_callS (ok_l_mix T) hr (by rfl) T.g_l_mix T.F_l_mix.kp T.b_l_mix (fun σ => passAt (takes_of rfl rfl rfl rfl) σ) (by exact (pa_cons (pv 0) (pa_cons (pv 3) pa_nil)))) pe_int) pe_int) (fun _ _ => rfl))))))
  (pss_cons (ps_set (i := 4) sc_l_flats.nd rfl (Or.inr rfl) (pe_op op_mod (pe_op op_fdiv (pe_callS (ok_l_mix T) hr (by rfl) T.g_l_mix T.F_l_mix.kp T.b_l_mix (fun σ => passAt (takes_of rfl rfl rfl rfl) σ) (by exact (pa_cons (pv 0) (pa_cons pe_int pa_nil)))) pe_int) pe_int))
  (pss_cons (ps_set (i := 5) sc_l_flats.nd rfl (Or.inr rfl) (pe_op op_mod (pe_op op_fdiv (pv 0) pe_int) (pe_op (show OpR _ (binaryOp .Add) rPlusS from op_plusS) (pe_callB (show CallR _ (.builtin "len") (rLenS K) from call_lenS) (by rfl) T.n_len (by decide +kernel) (pa_cons (pv 2) pa_nil)) pe_int)))
  (pss_cons (ps_if (pt_cmpR (show OpR _ (compareOp .Eq) (rEqA K) from op_eqA hr.units) (pe_op op_mod (pe_op op_fdiv (pv 0) pe_int) pe_int) pe_int (nomark _))
  (pss_one (ps_ret (pe_lc (own := [("_law_k", 3)]) (g := gName 3) (by rfl) sc_l_flats.nd (pi_range1 (by rfl) T.n_range (pa_cons pe_int pa_nil)) (blkOk_by (own := [("_law_k", 3)]) (N := ["_law_cell", "_law_signs", "_law_root", "_law_k", "_law_sign", "_law_at"]) (sc := defScope s_l_flats) (by decide +kernel)) (fun _ _ _ _ _ => pg_name (i := 3) sc_l_flats.nd rfl (Or.inl rfl)) (fun _ _ _ _ _ => pts_nil) (fun _ _ _ _ _ => (pe_op (show OpR _ (binaryOp .Add) rPlusS from op_plusS) (pe_op (show OpR _ (binaryOp .Add) rPlusS from op_plusS) (pe_slice (show SlR _ (rSlA K) from sl_anyA) (pv 2) po_none (po_some (pv 5))) (pe_ix (show IxR _ (rIx3 K) from ix_3) (pv 1) (pe_op op_mod (pe_op (show OpR _ (binaryOp .Add) rPlusS from op_plusS) (pv 4) (pv 3)) pe_int) (fun _ _ => rfl))) (pe_slice (show SlR _ (rSlA K) from sl_anyA) (pv 2) (po_some (pv 5)) po_none))))))
  pss_nil)
  (pss_one (ps_ret (pe_lst (pa_cons (pv 2) (pa_cons (pe_op (show OpR _ (binaryOp .Add) rPlusS from op_plusS) (pe_op (show OpR _ (binaryOp .Add) rPlusS from op_plusS) (pe_slice (show SlR _ (rSlA K) from sl_anyA) (pv 2) po_none (po_some (pv 5))) (pe_ix (show IxR _ (rIx3 K) from ix_3) (pv 1) (pv 4) (fun _ _ => rfl))) (pe_slice (show SlR _ (rSlA K) from sl_anyA) (pv 2) (po_some (pv 5)) po_none)) (pa_cons (pe_op (show OpR _ (binaryOp .Add) rPlusS from op_plusS) (pe_op (show OpR _ (binaryOp .Add) rPlusS from op_plusS) (pe_ix (show IxR _ (rIx3 K) from ix_3) (pv 1) (pv 4) (fun _ _ => rfl)) (pv 2)) (pe_ix (show IxR _ (rIx3 K) from ix_3) (pv 1) (pv 4) (fun _ _ => rfl))) pa_nil)))))))))))), ?_⟩
    obtain ⟨c, rfl, k⟩ := h
    walk_at "go"
    refine g_forR1 (hi := 1 + c % 6) (fun i σ' H' => H = H' ∧ ∃ v r, σ' = [some (.int c), some (.str abc), some (.str r), v, none, none] ∧ Small r i) (fun Q' q => by walk_at "go"; exact q) (by omega)
      ⟨rfl, none, _, rfl, Small.empty⟩ ?_ ?_
    · rintro i σ' H' hi ⟨rfl, v, r, rfl, hr⟩
      walk_at "go"
      refine ⟨_, _, rfl, fun y hy0 hy1 => ?_⟩
      walk_at "go"
      obtain ⟨ch, h1, h2⟩ := abc_at (y / 7)
      refine r_ix3T abc_len h1 ?_
      have hr2 := hr.app (Small.one h2)
      refine r_plusT (by rw [hr.len]; show i + 1 ≤ _; exact Nat.le_trans (show i + 1 ≤ 100 by omega) (by decide)) ?_
      walk_at "go"
      exact ⟨rfl, _, _, rfl, hr2⟩
    · rintro σ' H' ⟨rfl, v, r, rfl, hr⟩
      have hn : 1 ≤ (1 + c % 6).toNat ∧ (1 + c % 6).toNat ≤ 6 := by omega
      generalize (1 + c % 6).toNat = n at hr hn
      have hsz := hr.size (by omega)
      walk_at "go"
      refine ⟨_, _, rfl, fun y hy0 hy1 => ?_⟩
      walk_at "go"
      refine .inr ⟨r, rfl, hsz, ?_⟩
      walk_at "go"
      rw [hr.len]
      obtain ⟨kt, hkt⟩ : ∃ kt : Nat, c / 6 % ((n : Int) + 1) = (kt : Int) := ⟨(c / 6 % ((n : Int) + 1)).toNat, by have := Int.emod_nonneg (c / 6) (show (n : Int) + 1 ≠ 0 by omega); omega⟩
      rw [hkt]
      have hpa := cutS_parts r kt
      rw [hr.len] at hpa
      have hc1 := hr.cut none (some (kt : Int))
      have hc2 := hr.cut (some (kt : Int)) none
      have mid : ∀ {ch : Nat}, signP ch = true → FlatS (cutS r none (some (kt : Int)) ++ ⟨#[ch]⟩ ++ cutS r (some (kt : Int)) none) := fun {ch} hch =>
        ((hc1.app (Small.one hch)).app hc2).flat (by omega) (by omega)
      have hs1 : (cutS r none (some (kt : Int))).length ≤ 8 := by omega
      have hs2 : (cutS r (some (kt : Int)) none).length ≤ 8 := by omega
      have s9 : ∀ {x : Nat}, x ≤ 30 → x ≤ sizeLine := fun h => Nat.le_trans h (by decide)
      refine g_ite (fun c1 => ?_) (fun c1 => ?_)
      · walk_at "go"
        refine lc_r1E (hi := 3) (fun v => ∃ f, v = .str f ∧ FlatS f) (fun Q' q => by walk_at "go"; exact q) (by omega) (fun _ => rfl) (fun i H' hi sm Q' q => ?_) (fun D H7 xs hD s7 hDl hxl hx => ?_)
        · walk_at "go"
          refine .inr ⟨r, rfl, hsz, ?_⟩
          walk_at "go"
          obtain ⟨ch, h1, h2⟩ := abc_at (y / 5 % 26 + (0 + (i : Int)))
          refine r_ix3T abc_len h1 ?_
          refine r_plusT (s9 (by show _ + 1 ≤ 30; omega)) ?_
          walk_at "go"
          refine .inr ⟨r, rfl, hsz, ?_⟩
          refine r_plusT (s9 (by rw [(hc1.app (Small.one h2)).len]; omega)) ?_
          exact q _ _ ⟨_, rfl, mid h2⟩ (Same.refl _)
        · obtain ⟨x0, x1, x2, rfl⟩ : ∃ x0 x1 x2 : V, xs = [x0, x1, x2] := by
            match xs, hxl with
            | [x0, x1, x2], _ => exact ⟨x0, x1, x2, rfl⟩
          obtain ⟨f0, rfl, g0⟩ := hx x0 (by simp)
          obtain ⟨f1, rfl, g1⟩ := hx x1 (by simp)
          obtain ⟨f2, rfl, g2⟩ := hx x2 (by simp)
          exact k D _ _ _ _ s7 hD hDl g0 g1 g2
      · walk_at "go"
        refine .inr ⟨r, rfl, hsz, ?_⟩
        walk_at "go"
        obtain ⟨ch, h1, h2⟩ := abc_at (y / 5)
        refine r_ix3T abc_len h1 ?_
        refine r_plusT (s9 (by show _ + 1 ≤ 30; omega)) ?_
        walk_at "go"
        refine .inr ⟨r, rfl, hsz, ?_⟩
        refine r_plusT (s9 (by rw [(hc1.app (Small.one h2)).len]; omega)) ?_
        walk_at "go"
        refine r_ix3T abc_len h1 ?_
        walk_at "go"
        refine r_plusT (s9 (by rw [hr.len]; show 1 + _ ≤ 30; omega)) ?_
        walk_at "go"
        refine r_ix3T abc_len h1 ?_
        refine r_plusT (s9 (by rw [((Small.one h2).app hr).len]; show _ + 1 ≤ 30; omega)) ?_
        walk_at "go"
        refine ⟨by walk_at "sz", fun l hl => ?_⟩
        exact k l _ _ _ _ (same_new hl) hl upd_same (hr.flat hn.1 (by omega)) (mid h2) ((((Small.one h2).app hr).app (Small.one h2)).flat (by omega) (by omega))
theorem ok_l_letter (T : Txt K mg base) : FnOk P w K mg base (L2.CX P w) 2 T.f_l_letter T.fd_l_letter ["_law_cell", "_law_base_here", "_law_wide", "_law_flats_here", "_law_many"] (sp_l_letter K) := by
  refine T.F_l_letter.okX sc_l_letter (fun vs H Q E h => ?_) (fun cdv A outer s H vs Q E hr h => ?_)
  · first | (obtain ⟨_, rfl, _⟩ := h; rfl) | (obtain ⟨_, _, rfl, _⟩ := h; rfl) | (obtain ⟨_, _, _, rfl, _⟩ := h; rfl) | (obtain ⟨_, _, _, _, rfl, _⟩ := h; rfl) | (obtain ⟨_, _, _, _, _, rfl, _⟩ := h; rfl) | (obtain ⟨_, _, _, _, _, _, rfl, _⟩ := h; rfl) | (obtain ⟨_, _, _, _, _, _, _, rfl, _⟩ := h; rfl) | (obtain ⟨_, _, _, _, _, _, _, _, rfl, _⟩ := h; rfl) | (obtain ⟨_, _, _, _, _, _, _, _, _, rfl, _⟩ := h; rfl) | (obtain ⟨_, _, _, _, _, _, _, _, _, _, rfl, _⟩ := h; rfl) | (obtain ⟨_, _, _, _, _, _, _, _, _, _, _, rfl, _⟩ := h; rfl) | (obtain ⟨_, _, _, _, _, _, _, _, _, _, _, _, rfl, _⟩ := h; rfl) | (obtain ⟨_, _, _, _, _, _, _, _, _, _, _, _, _, rfl, _⟩ := h; rfl) | (obtain ⟨_, _, _, _, _, _, _, _, _, _, _, _, _, _, rfl, _⟩ := h; rfl) | (obtain ⟨_, _, _, _, _, _, _, _, _, _, _, _, _, _, _, rfl, _⟩ := h; rfl)
  · refine ⟨_, (pss_cons (ps_set (i := 5) sc_l_letter.nd rfl (Or.inl rfl) (pe_callS (ok_l_mix T) hr (by rfl) T.g_l_mix T.F_l_mix.kp T.b_l_mix (fun σ => passAt (takes_of rfl rfl rfl rfl) σ) (by exact (pa_cons (pv 0) (pa_cons pe_int pa_nil)))))
  (pss_cons (ps_set (i := 6) sc_l_letter.nd rfl (Or.inl rfl) (pe_op op_plus (pv 1) (pe_op op_mod (pv 5) (pv 2))))
  (Evl.pss_cut (ps_if (pt_cmpR (show OpR _ (compareOp .Eq) (rEqA K) from op_eqA hr.units) (pe_op op_mod (pe_op op_fdiv (pv 5) pe_int) pe_int) pe_int (nomark _))
  (pss_one (ps_set (i := 6) sc_l_letter.nd rfl (Or.inl rfl) (pe_op op_plus (pv 1) (pe_op op_mod (pv 5) pe_int))))
  pss_nil)
  (pss_cons (ps_set (i := 7) sc_l_letter.nd rfl (Or.inl rfl) (pe_op op_mod (pe_callS (ok_l_mix T) hr (by rfl) T.g_l_mix T.F_l_mix.kp T.b_l_mix (fun σ => passAt (takes_of rfl rfl rfl rfl) σ) (by exact (pa_cons (pv 0) (pa_cons pe_int pa_nil)))) (pe_callB (call_max2 rfl) (by rfl) T.n_max (by decide +kernel) (pa_cons pe_int (pa_cons (pv 4) pa_nil)))))
  (pss_cons (ps_set (i := 8) sc_l_letter.nd rfl (Or.inl rfl) (pe_op op_mod (pv 0) pe_int))
  (pss_cons (ps_if (pt_cmpR op_lt (pv 8) pe_int (nomark _))
  (pss_one (ps_ret (pe_tup (pa_cons pe_str (pa_cons (pe_ix (show IxR _ (rIx2 K) from ix_lt) (pv 3) (pe_op op_mod (pe_op op_fdiv (pv 5) pe_int) pe_int) (fun _ _ => rfl)) (pa_cons (pv 6) (pa_cons (pe_callS (ok_l_money T) hr (by rfl) T.g_l_money T.F_l_money.kp T.b_l_money (fun σ => passAt (takes_of rfl rfl rfl rfl) σ) (by exact (pa_cons (pe_callS (ok_l_mix T) hr (by rfl) T.g_l_mix T.F_l_mix.kp T.b_l_mix (fun σ => passAt (takes_of rfl rfl rfl rfl) σ) (by exact (pa_cons (pv 0) (pa_cons pe_int pa_nil)))) pa_nil))) (pa_cons (pe_cmpR op_gt (pe_op op_mod (pe_callS (ok_l_mix T) hr (by rfl) T.g_l_mix T.F_l_mix.kp T.b_l_mix (fun σ => passAt (takes_of rfl rfl rfl rfl) σ) (by exact (pa_cons (pv 0) (pa_cons pe_int pa_nil)))) pe_int) pe_int (nomark _)) pa_nil))))))))
  pss_nil)
  (pss_cons (ps_if (pt_cmpR (show OpR _ (compareOp .Eq) (rEqA K) from op_eqA hr.units) (pv 8) pe_int (nomark _))
  (pss_one (ps_ret (pe_tup (pa_cons pe_str (pa_cons (pv 7) (pa_cons (pv 6) pa_nil))))))
  pss_nil)
  (pss_cons (ps_if (pt_cmpR op_lt (pv 8) pe_int (nomark _))
  (pss_one (ps_ret (pe_tup (pa_cons pe_str (pa_cons (pv 7) (pa_cons (pv 6) (pa_cons (pe_callS (ok_l_money T) hr (by rfl) T.g_l_money T.F_l_money.kp T.b_l_money (fun σ => passAt (takes_of rfl rfl rfl rfl) σ) (by exact (pa_cons (pe_callS (ok_l_mix T) hr (by rfl) T.g_l_mix T.F_l_mix.kp T.b_l_mix (fun σ => passAt (takes_of rfl rfl rfl rfl) σ) (by exact (pa_cons (pv 0) (pa_cons pe_int pa_nil)))) pa_nil))) pa_nil)))))))
  pss_nil)
  (pss_cons (ps_if (pt_cmpR (show OpR _ (compareOp .Eq) (rEqA K) from op_eqA hr.units) (pv 8) pe_int (nomark _))
  (pss_one (ps_ret (pe_tup (pa_cons pe_str (pa_cons (pv 6) (pa_cons (pe_callS (ok_l_number T) hr (by rfl) T.g_l_number T.F_l_number.kp T.b_l_number (fun σ => passAt (takes_of rfl rfl rfl rfl) σ) (by exact (pa_cons (pe_callS (ok_l_mix T) hr (by rfl) T.g_l_mix T.F_l_mix.kp T.b_l_mix (fun σ => passAt (takes_of rfl rfl rfl rfl) σ) (by exact (pa_cons (pv 0) (pa_cons pe_int pa_nil)))) pa_nil))) pa_nil))))))
  pss_nil)
  (pss_cons (ps_if (pt_cmpR (show OpR _ (compareOp .Eq) (rEqA K) from op_eqA hr.units) (pv 8) pe_int (nomark _))
  (pss_one (ps_ret (pe_tup (pa_cons pe_str (pa_cons (pv 6) (pa_cons (pe_ix (show IxR _ (rIx2 K) from ix_lt) (pe_lst (pa_cons pe_int (pa_cons pe_int (pa_cons (pe_op op_pow pe_int pe_int) (pa_cons (pe_op op_mod (pe_callS (ok_l_mix T) hr (by rfl) T.g_l_mix T.F_l_mix.kp T.b_l_mix (fun σ => passAt (takes_of rfl rfl rfl rfl) σ) (by exact (pa_cons (pv 0) (pa_cons pe_int pa_nil)))) (pe_op op_plus (pe_op op_pow pe_int pe_int) pe_int)) pa_nil))))) (pe_op op_mod (pe_callS (ok_l_mix T) hr (by rfl) T.g_l_mix T.F_l_mix.kp T.b_l_mix (fun σ => passAt (takes_of rfl rfl rfl rfl) σ) (by exact (pa_cons (pv 0) (pa_cons pe_int pa_nil)))) pe_int) (fun _ _ => rfl)) pa_nil))))))
  pss_nil)
  (pss_cons (ps_if (pt_cmpR (show OpR _ (compareOp .Eq) (rEqA K) from op_eqA hr.units) (pv 8) pe_int (nomark _))
  (pss_one (ps_ret (pe_tup (pa_cons pe_str (pa_cons (pv 7) (pa_cons (pv 6) (pa_cons (pe_op op_plus pe_int (pe_op op_mod (pe_callS (ok_l_money T) hr (by rfl) T.g_l_money T.F_l_money.kp T.b_l_money (fun σ => passAt (takes_of rfl rfl rfl rfl) σ) (by exact (pa_cons (pe_callS (ok_l_mix T) hr (by rfl) T.g_l_mix T.F_l_mix.kp T.b_l_mix (fun σ => passAt (takes_of rfl rfl rfl rfl) σ) (by exact (pa_cons (pv 0) (pa_cons pe_int pa_nil)))) pa_nil))) (pe_op op_pow pe_int pe_int))) pa_nil)))))))
  pss_nil)
  (pss_cons (ps_if (pt_cmpR (show OpR _ (compareOp .Eq) (rEqA K) from op_eqA hr.units) (pv 8) pe_int (nomark _))
  (pss_one (ps_ret (pe_tup (pa_cons pe_str (pa_cons (pv 7) (pa_cons (pv 6) (pa_cons (pe_op op_plus pe_int (pe_op op_mod (pe_callS (ok_l_money T) hr (by rfl) T.g_l_money T.F_l_money.kp T.b_l_money (fun σ => passAt (takes_of rfl rfl rfl rfl) σ) (by exact (pa_cons (pe_callS (ok_l_mix T) hr (by rfl) T.g_l_mix T.F_l_mix.kp T.b_l_mix (fun σ => passAt (takes_of rfl rfl rfl rfl) σ) (by exact (pa_cons (pv 0) (pa_cons pe_int pa_nil)))) pa_nil))) (pe_op op_pow pe_int pe_int))) pa_nil)))))))
  pss_nil)
  (pss_cons (ps_if (pt_cmpR (show OpR _ (compareOp .Eq) (rEqA K) from op_eqA hr.units) (pv 8) pe_int (nomark _))
  (pss_one (ps_ret (pe_tup (pa_cons pe_str (pa_cons (pv 7) (pa_cons (pv 6) pa_nil))))))
  pss_nil)
  (pss_one (ps_ret (pe_tup (pa_cons pe_str (pa_cons (pv 6) pa_nil)))))))))))))))))), ?_⟩
    obtain ⟨c, b, w', fl, many, f0, f1, f2, rfl, hfl, hw, k⟩ := h
    walk_at "go"
    refine ⟨_, _, rfl, fun y hy0 hy1 => ?_⟩
    walk_at "go"
    refine g_tcut (fun σ' H' => H = H' ∧ ∃ d, σ' = [some (.int c), some (.int b), some (.int w'), some (.ref fl), some (.int many), some (.int y), some (.int d), none, none] ∧ b ≤ d ∧ d ≤ b + w' - 1) ?_ ?_
    · walk_at "go"
      have h1 := Int.emod_nonneg y (show w' ≠ 0 by omega)
      have h2 := Int.emod_lt_of_pos y (show 0 < w' by omega)
      refine g_ite (fun c1 => ?_) (fun c1 => ?_)
      · walk_at "go"
        exact ⟨rfl, _, rfl, by omega, by omega⟩
      · exact ⟨rfl, _, rfl, by omega, by omega⟩
    rintro σ' H' ⟨rfl, d, rfl, hd⟩
    walk_at "go"
    refine ⟨_, _, rfl, fun y2 hy20 hy21 => ?_⟩
    walk_at "go"
    refine ⟨_, _, rfl, ?_⟩
    have hmx : 0 < (if many > 1 then many else 1) := by split <;> omega
    generalize (if many > 1 then many else 1) = mx at hmx k ⊢
    walk_at "go"
    obtain ⟨n, hn, en⟩ : ∃ n : Nat, (n : Int) < mx ∧ y2 % mx = (n : Int) := ⟨(y2 % mx).toNat, by
      have h1 := Int.emod_nonneg y2 (show mx ≠ 0 by omega)
      have h2 := Int.emod_lt_of_pos y2 hmx
      omega, by
      have h1 := Int.emod_nonneg y2 (show mx ≠ 0 by omega)
      omega⟩
    rw [en]
    clear hmx en
    have e9 : (10 : Int) ^ (9 : Int).toNat = 1000000000 := by decide
    refine g_ite (fun c1 => ?_) (fun c1 => ?_)
    · -- let
      walk_at "go"
      obtain ⟨f, hf, ef⟩ : ∃ f, (f = f0 ∨ f = f1 ∨ f = f2) ∧ atI [V.str f0, V.str f1, V.str f2] (y / 1009 % 3) = some (.str f) := by
        obtain q | q | q : y / 1009 % 3 = 0 ∨ y / 1009 % 3 = 1 ∨ y / 1009 % 3 = 2 := by omega
        · rw [q]; exact ⟨f0, .inl rfl, atI_nat (j := 0) rfl⟩
        · rw [q]; exact ⟨f1, .inr (.inl rfl), atI_nat (j := 1) rfl⟩
        · rw [q]; exact ⟨f2, .inr (.inr rfl), atI_nat (j := 2) rfl⟩
      refine r_ixL hfl ef ?_
      walk_at "go"
      refine ⟨_, _, rfl, fun y3 _ _ => ?_⟩
      walk_at "go"
      refine ⟨_, rfl, fun r hr0 hr1 H1 s1 => ?_⟩
      walk_at "go"
      refine ⟨_, _, rfl, fun y4 _ _ => ?_⟩
      walk_at "go"
      refine ⟨by walk_at "sz", fun t ht => ?_⟩
      exact k (.let (.str f) (.int d) (.int r) (decide (y4 % 3 > 0))) t _ (s1.trans (same_new ht)) (s1.free ht) upd_same ⟨f, d, r, rfl, rfl, rfl, hf, hd, hr0, hr1⟩
    walk_at "go"
    refine g_ite (fun c2 => ?_) (fun c2 => ?_)
    · walk_at "go"
      refine ⟨by walk_at "sz", fun t ht => ?_⟩
      exact k (.fin (.int n) (.int d)) t _ (same_new ht) ht upd_same ⟨n, d, rfl, rfl, hn, hd⟩
    walk_at "go"
    refine g_ite (fun c3 => ?_) (fun c3 => ?_)
    · walk_at "go"
      refine ⟨_, _, rfl, fun y3 _ _ => ?_⟩
      walk_at "go"
      refine ⟨_, rfl, fun r hr0 hr1 H1 s1 => ?_⟩
      walk_at "go"
      refine ⟨by walk_at "sz", fun t ht => ?_⟩
      exact k (.step (.int n) (.int d) (.int r)) t _ (s1.trans (same_new ht)) (s1.free ht) upd_same ⟨n, d, r, rfl, rfl, rfl, hn, hd, hr0, hr1⟩
    walk_at "go"
    refine g_ite (fun c4 => ?_) (fun c4 => ?_)
    · walk_at "go"
      refine ⟨_, _, rfl, fun y3 _ _ => ?_⟩
      walk_at "go"
      refine ⟨_, rfl, fun r hr0 hr1 H1 s1 => ?_⟩
      walk_at "go"
      refine ⟨by walk_at "sz", fun t ht => ?_⟩
      exact k (.gauge (.int d) (.int r)) t _ (s1.trans (same_new ht)) (s1.free ht) upd_same ⟨d, r, rfl, rfl, hd, hr0, hr1⟩
    walk_at "go"
    refine g_ite (fun c5 => ?_) (fun c5 => ?_)
    · walk_at "go"
      refine ⟨_, _, rfl, fun y3 hy30 hy31 => ?_⟩
      walk_at "go"
      refine ⟨by walk_at "sz", fun u hu => ?_⟩
      walk_at "go"
      refine ⟨_, _, rfl, fun y4 hy40 hy41 => ?_⟩
      walk_at "go"
      refine r_ixL (SqL.of upd_same) (at_modI (ns := [0, 1, 10 ^ (4 : Int).toNat, y3 % (10 ^ (4 : Int).toNat + 1)]) _ rfl (by decide)) ?_
      have hg4 := getD_all (R := fun d => 0 ≤ d ∧ d ≤ 10000) (l := [0, 1, 10 ^ (4 : Int).toNat, y3 % (10 ^ (4 : Int).toNat + 1)]) (y4 % 4).toNat (by
        intro z hz
        rw [show (10 : Int) ^ (4 : Int).toNat = 10000 by decide] at hz
        simp only [List.mem_cons, List.not_mem_nil, or_false] at hz
        rcases hz with rfl | rfl | rfl | rfl <;> omega) (by decide)
      generalize ([0, 1, 10 ^ (4 : Int).toNat, y3 % (10 ^ (4 : Int).toNat + 1)] : List Int).getD (y4 % 4).toNat 0 = rt at hg4 ⊢
      walk_at "go"
      refine ⟨by walk_at "sz", fun t ht => ?_⟩
      exact k (.rate (.int d) (.int rt)) t _ ((same_new hu).trans (same_new ht)) ((same_new hu).free ht) upd_same ⟨d, rt, rfl, rfl, hd, hg4.1, hg4.2⟩
    walk_at "go"
    refine g_ite (fun c6 => ?_) (fun c6 => ?_)
    · walk_at "go"
      refine ⟨_, _, rfl, fun y3 _ _ => ?_⟩
      walk_at "go"
      refine ⟨_, rfl, fun r hr0 hr1 H1 s1 => ?_⟩
      walk_at "go"
      refine ⟨by walk_at "sz", fun t ht => ?_⟩
      exact k (.paid (.int n) (.int d) (.int (1 + r % 10 ^ (9 : Int).toNat))) t _ (s1.trans (same_new ht)) (s1.free ht) upd_same ⟨n, d, _, rfl, rfl, rfl, hn, hd, by rw [e9]; omega, by rw [e9]; omega⟩
    walk_at "go"
    refine g_ite (fun c7 => ?_) (fun c7 => ?_)
    · walk_at "go"
      refine ⟨_, _, rfl, fun y3 _ _ => ?_⟩
      walk_at "go"
      refine ⟨_, rfl, fun r hr0 hr1 H1 s1 => ?_⟩
      walk_at "go"
      refine ⟨by walk_at "sz", fun t ht => ?_⟩
      exact k (.kept (.int n) (.int d) (.int (1 + r % 10 ^ (9 : Int).toNat))) t _ (s1.trans (same_new ht)) (s1.free ht) upd_same ⟨n, d, _, rfl, rfl, rfl, hn, hd, by rw [e9]; omega, by rw [e9]; omega⟩
    walk_at "go"
    refine g_ite (fun c8 => ?_) (fun c8 => ?_)
    · walk_at "go"
      refine ⟨by walk_at "sz", fun t ht => ?_⟩
      exact k (.close (.int n) (.int d)) t _ (same_new ht) ht upd_same ⟨n, d, rfl, rfl, hn, hd⟩
    walk_at "go"
    refine ⟨by walk_at "sz", fun t ht => ?_⟩
    exact k (.bill (.int d)) t _ (same_new ht) ht upd_same ⟨d, rfl, hd⟩
theorem ok_l_do (T : Txt K mg base) : FnOk P w K mg base (L2.CX P w) 10 T.f_l_do T.fd_l_do ["_law_roll", "_law_letter_here"] (sp_l_do T.c_Roll T.c_Lease T.P_is_flat (clsT T)) := by
  refine T.F_l_do.okX sc_l_do (fun vs H Q E h => ?_) (fun cdv A outer s H vs Q E hr h => ?_)
  · first | (obtain ⟨_, rfl, _⟩ := h; rfl) | (obtain ⟨_, _, rfl, _⟩ := h; rfl) | (obtain ⟨_, _, _, rfl, _⟩ := h; rfl) | (obtain ⟨_, _, _, _, rfl, _⟩ := h; rfl) | (obtain ⟨_, _, _, _, _, rfl, _⟩ := h; rfl) | (obtain ⟨_, _, _, _, _, _, rfl, _⟩ := h; rfl) | (obtain ⟨_, _, _, _, _, _, _, rfl, _⟩ := h; rfl) | (obtain ⟨_, _, _, _, _, _, _, _, rfl, _⟩ := h; rfl) | (obtain ⟨_, _, _, _, _, _, _, _, _, rfl, _⟩ := h; rfl) | (obtain ⟨_, _, _, _, _, _, _, _, _, _, rfl, _⟩ := h; rfl) | (obtain ⟨_, _, _, _, _, _, _, _, _, _, _, rfl, _⟩ := h; rfl) | (obtain ⟨_, _, _, _, _, _, _, _, _, _, _, _, rfl, _⟩ := h; rfl) | (obtain ⟨_, _, _, _, _, _, _, _, _, _, _, _, _, rfl, _⟩ := h; rfl) | (obtain ⟨_, _, _, _, _, _, _, _, _, _, _, _, _, _, rfl, _⟩ := h; rfl) | (obtain ⟨_, _, _, _, _, _, _, _, _, _, _, _, _, _, _, rfl, _⟩ := h; rfl)
  · refine ⟨_, (pss_cons (ps_if (pt_cmpR (show OpR _ (compareOp .Eq) (rEqA K) from op_eqA hr.units) (pe_ix (show IxR _ (rIx2 K) from ix_lt) (pv 1) pe_int (fun _ _ => rfl)) pe_str (nomark _))
  (pss_one (ps_ret (pe_methSS (pv 0) T.cl_Roll T.m_Roll_let (ok_Roll_let T) hr T.b_Roll_let (fun σ => passAt (takes_of rfl rfl rfl rfl) σ) (by exact (pa_cons (pe_ix (show IxR _ (rIx2 K) from ix_lt) (pv 1) pe_int (fun _ _ => rfl)) (pa_cons (pe_ix (show IxR _ (rIx2 K) from ix_lt) (pv 1) pe_int (fun _ _ => rfl)) (pa_cons (pe_ix (show IxR _ (rIx2 K) from ix_lt) (pv 1) pe_int (fun _ _ => rfl)) (pa_cons (pe_ix (show IxR _ (rIx2 K) from ix_lt) (pv 1) pe_int (fun _ _ => rfl)) pa_nil))))))))
  pss_nil)
  (pss_cons (ps_if (pt_cmpR (show OpR _ (compareOp .Eq) (rEqA K) from op_eqA hr.units) (pe_ix (show IxR _ (rIx2 K) from ix_lt) (pv 1) pe_int (fun _ _ => rfl)) pe_str (nomark _))
  (pss_one (ps_ret (pe_methSS (pv 0) T.cl_Roll T.m_Roll_end (ok_Roll_end T) hr T.b_Roll_end (fun σ => passAt (takes_of rfl rfl rfl rfl) σ) (by exact (pa_cons (pe_ix (show IxR _ (rIx2 K) from ix_lt) (pv 1) pe_int (fun _ _ => rfl)) (pa_cons (pe_ix (show IxR _ (rIx2 K) from ix_lt) (pv 1) pe_int (fun _ _ => rfl)) pa_nil))))))
  pss_nil)
  (pss_cons (ps_if (pt_cmpR (show OpR _ (compareOp .Eq) (rEqA K) from op_eqA hr.units) (pe_ix (show IxR _ (rIx2 K) from ix_lt) (pv 1) pe_int (fun _ _ => rfl)) pe_str (nomark _))
  (pss_one (ps_ret (pe_methSS (pv 0) T.cl_Roll T.m_Roll_step (ok_Roll_step T) hr T.b_Roll_step (fun σ => passAt (takes_of rfl rfl rfl rfl) σ) (by exact (pa_cons (pe_ix (show IxR _ (rIx2 K) from ix_lt) (pv 1) pe_int (fun _ _ => rfl)) (pa_cons (pe_ix (show IxR _ (rIx2 K) from ix_lt) (pv 1) pe_int (fun _ _ => rfl)) (pa_cons (pe_ix (show IxR _ (rIx2 K) from ix_lt) (pv 1) pe_int (fun _ _ => rfl)) pa_nil)))))))
  pss_nil)
  (pss_cons (ps_if (pt_cmpR (show OpR _ (compareOp .Eq) (rEqA K) from op_eqA hr.units) (pe_ix (show IxR _ (rIx2 K) from ix_lt) (pv 1) pe_int (fun _ _ => rfl)) pe_str (nomark _))
  (pss_one (ps_ret (pe_methSS (pv 0) T.cl_Roll T.m_Roll_gauge (ok_Roll_gauge T) hr T.b_Roll_gauge (fun σ => passAt (takes_of rfl rfl rfl rfl) σ) (by exact (pa_cons (pe_ix (show IxR _ (rIx2 K) from ix_lt) (pv 1) pe_int (fun _ _ => rfl)) (pa_cons (pe_ix (show IxR _ (rIx2 K) from ix_lt) (pv 1) pe_int (fun _ _ => rfl)) pa_nil))))))
  pss_nil)
  (pss_cons (ps_if (pt_cmpR (show OpR _ (compareOp .Eq) (rEqA K) from op_eqA hr.units) (pe_ix (show IxR _ (rIx2 K) from ix_lt) (pv 1) pe_int (fun _ _ => rfl)) pe_str (nomark _))
  (pss_one (ps_ret (pe_methSS (pv 0) T.cl_Roll T.m_Roll_rate (ok_Roll_rate T) hr T.b_Roll_rate (fun σ => passAt (takes_of rfl rfl rfl rfl) σ) (by exact (pa_cons (pe_ix (show IxR _ (rIx2 K) from ix_lt) (pv 1) pe_int (fun _ _ => rfl)) (pa_cons (pe_ix (show IxR _ (rIx2 K) from ix_lt) (pv 1) pe_int (fun _ _ => rfl)) pa_nil))))))
  pss_nil)
  (pss_cons (ps_if (pt_cmpR (show OpR _ (compareOp .Eq) (rEqA K) from op_eqA hr.units) (pe_ix (show IxR _ (rIx2 K) from ix_lt) (pv 1) pe_int (fun _ _ => rfl)) pe_str (nomark _))
  (pss_one (ps_ret (pe_methSS (pv 0) T.cl_Roll T.m_Roll_paid (ok_Roll_paid T) hr T.b_Roll_paid (fun σ => passAt (takes_of rfl rfl rfl rfl) σ) (by exact (pa_cons (pe_ix (show IxR _ (rIx2 K) from ix_lt) (pv 1) pe_int (fun _ _ => rfl)) (pa_cons (pe_ix (show IxR _ (rIx2 K) from ix_lt) (pv 1) pe_int (fun _ _ => rfl)) (pa_cons (pe_ix (show IxR _ (rIx2 K) from ix_lt) (pv 1) pe_int (fun _ _ => rfl)) pa_nil)))))))
  pss_nil)
  (pss_cons (ps_if (pt_cmpR (show OpR _ (compareOp .Eq) (rEqA K) from op_eqA hr.units) (pe_ix (show IxR _ (rIx2 K) from ix_lt) (pv 1) pe_int (fun _ _ => rfl)) pe_str (nomark _))
  (pss_one (ps_ret (pe_methSS (pv 0) T.cl_Roll T.m_Roll_kept (ok_Roll_kept T) hr T.b_Roll_kept (fun σ => passAt (takes_of rfl rfl rfl rfl) σ) (by exact (pa_cons (pe_ix (show IxR _ (rIx2 K) from ix_lt) (pv 1) pe_int (fun _ _ => rfl)) (pa_cons (pe_ix (show IxR _ (rIx2 K) from ix_lt) (pv 1) pe_int (fun _ _ => rfl)) (pa_cons (pe_ix (show IxR _ (rIx2 K) from ix_lt) (pv 1) pe_int (fun _ _ => rfl)) pa_nil)))))))
  pss_nil)
  (pss_cons (ps_if (pt_cmpR (show OpR _ (compareOp .Eq) (rEqA K) from op_eqA hr.units) (pe_ix (show IxR _ (rIx2 K) from ix_lt) (pv 1) pe_int (fun _ _ => rfl)) pe_str (nomark _))
  (pss_one (ps_ret (pe_methSS (pv 0) T.cl_Roll T.m_Roll_close (ok_Roll_close T) hr T.b_Roll_close (fun σ => passAt (takes_of rfl rfl rfl rfl) σ) (by exact (pa_cons (pe_ix (show IxR _ (rIx2 K) from ix_lt) (pv 1) pe_int (fun _ _ => rfl)) (pa_cons (pe_ix (show IxR _ (rIx2 K) from ix_lt) (pv 1) pe_int (fun _ _ => rfl)) pa_nil))))))
  pss_nil)
  (pss_one (ps_ret (pe_methSS (pv 0) T.cl_Roll T.m_Roll_bill (ok_Roll_bill T) hr T.b_Roll_bill (fun σ => passAt (takes_of rfl rfl rfl rfl) σ) (by exact (pa_cons (pe_ix (show IxR _ (rIx2 K) from ix_lt) (pv 1) pe_int (fun _ _ => rfl)) pa_nil))))))))))))), ?_⟩
    obtain ⟨a, m, L, p, rfl, hp, hK⟩ := h
    have hA := hK.1
    have hS : SqT K H p (Lt.vals L) := SqT.of hp
    have at3 : ∀ (x y z u : V) (r : List V), atI (x :: y :: z :: u :: r) 3 = some u := fun _ _ _ _ _ => atI_nat (j := 3) rfl
    have at4 : ∀ (x y z u v : V) (r : List V), atI (x :: y :: z :: u :: v :: r) 4 = some v := fun _ _ _ _ _ _ => atI_nat (j := 4) rfl
    cases L with
    | «let» f x y ix =>
      walk_at "go"
      refine r_ixT hS at0 ?_
      refine r_eqS rfl ?_
      rw [decide_eq_true (by rfl)]
      walk_at "go"
      refine ⟨a.x, _, _, rfl, hA.ob, rfl, ?_⟩
      walk_at "go"
      refine r_ixT hS at1 ?_
      walk_at "go"
      refine r_ixT hS at2 ?_
      walk_at "go"
      refine r_ixT hS (at3 _ _ _ _ _) ?_
      walk_at "go"
      refine r_ixT hS (at4 _ _ _ _ _ _) ?_
      exact ⟨a, m, f, x, y, ix, rfl, hK⟩
    | fin n x =>
      iterate 1
        walk_at "go"
        refine r_ixT hS at0 ?_
        refine r_eqS rfl ?_
        rw [decide_eq_false (by decide)]
      walk_at "go"
      refine r_ixT hS at0 ?_
      refine r_eqS rfl ?_
      rw [decide_eq_true (by rfl)]
      walk_at "go"
      refine ⟨a.x, _, _, rfl, hA.ob, rfl, ?_⟩
      walk_at "go"
      refine r_ixT hS at1 ?_
      walk_at "go"
      refine r_ixT hS at2 ?_
      exact ⟨a, m, n, x, rfl, hK⟩
    | step n x y =>
      iterate 2
        walk_at "go"
        refine r_ixT hS at0 ?_
        refine r_eqS rfl ?_
        rw [decide_eq_false (by decide)]
      walk_at "go"
      refine r_ixT hS at0 ?_
      refine r_eqS rfl ?_
      rw [decide_eq_true (by rfl)]
      walk_at "go"
      refine ⟨a.x, _, _, rfl, hA.ob, rfl, ?_⟩
      walk_at "go"
      refine r_ixT hS at1 ?_
      walk_at "go"
      refine r_ixT hS at2 ?_
      walk_at "go"
      refine r_ixT hS (at3 _ _ _ _ _) ?_
      exact ⟨a, m, n, x, y, rfl, hK⟩
    | gauge x y =>
      iterate 3
        walk_at "go"
        refine r_ixT hS at0 ?_
        refine r_eqS rfl ?_
        rw [decide_eq_false (by decide)]
      walk_at "go"
      refine r_ixT hS at0 ?_
      refine r_eqS rfl ?_
      rw [decide_eq_true (by rfl)]
      walk_at "go"
      refine ⟨a.x, _, _, rfl, hA.ob, rfl, ?_⟩
      walk_at "go"
      refine r_ixT hS at1 ?_
      walk_at "go"
      refine r_ixT hS at2 ?_
      exact ⟨a, m, x, y, rfl, hK⟩
    | rate x y =>
      iterate 4
        walk_at "go"
        refine r_ixT hS at0 ?_
        refine r_eqS rfl ?_
        rw [decide_eq_false (by decide)]
      walk_at "go"
      refine r_ixT hS at0 ?_
      refine r_eqS rfl ?_
      rw [decide_eq_true (by rfl)]
      walk_at "go"
      refine ⟨a.x, _, _, rfl, hA.ob, rfl, ?_⟩
      walk_at "go"
      refine r_ixT hS at1 ?_
      walk_at "go"
      refine r_ixT hS at2 ?_
      exact ⟨a, m, x, y, rfl, hK⟩
    | paid n x y =>
      iterate 5
        walk_at "go"
        refine r_ixT hS at0 ?_
        refine r_eqS rfl ?_
        rw [decide_eq_false (by decide)]
      walk_at "go"
      refine r_ixT hS at0 ?_
      refine r_eqS rfl ?_
      rw [decide_eq_true (by rfl)]
      walk_at "go"
      refine ⟨a.x, _, _, rfl, hA.ob, rfl, ?_⟩
      walk_at "go"
      refine r_ixT hS at1 ?_
      walk_at "go"
      refine r_ixT hS at2 ?_
      walk_at "go"
      refine r_ixT hS (at3 _ _ _ _ _) ?_
      exact ⟨a, m, n, x, y, rfl, hK⟩
    | kept n x y =>
      iterate 6
        walk_at "go"
        refine r_ixT hS at0 ?_
        refine r_eqS rfl ?_
        rw [decide_eq_false (by decide)]
      walk_at "go"
      refine r_ixT hS at0 ?_
      refine r_eqS rfl ?_
      rw [decide_eq_true (by rfl)]
      walk_at "go"
      refine ⟨a.x, _, _, rfl, hA.ob, rfl, ?_⟩
      walk_at "go"
      refine r_ixT hS at1 ?_
      walk_at "go"
      refine r_ixT hS at2 ?_
      walk_at "go"
      refine r_ixT hS (at3 _ _ _ _ _) ?_
      exact ⟨a, m, n, x, y, rfl, hK⟩
    | close n x =>
      iterate 7
        walk_at "go"
        refine r_ixT hS at0 ?_
        refine r_eqS rfl ?_
        rw [decide_eq_false (by decide)]
      walk_at "go"
      refine r_ixT hS at0 ?_
      refine r_eqS rfl ?_
      rw [decide_eq_true (by rfl)]
      walk_at "go"
      refine ⟨a.x, _, _, rfl, hA.ob, rfl, ?_⟩
      walk_at "go"
      refine r_ixT hS at1 ?_
      walk_at "go"
      refine r_ixT hS at2 ?_
      exact ⟨a, m, n, x, rfl, hK⟩
    | bill x =>
      iterate 8
        walk_at "go"
        refine r_ixT hS at0 ?_
        refine r_eqS rfl ?_
        rw [decide_eq_false (by decide)]
      walk_at "go"
      refine ⟨a.x, _, _, rfl, hA.ob, rfl, ?_⟩
      walk_at "go"
      refine r_ixT hS at1 ?_
      exact ⟨a, m, x, rfl, hK⟩
theorem ok_l_told (T : Txt K mg base) : FnOk P w K mg base (L2.CX P w) 11 T.f_l_told T.fd_l_told ["_law_roll", "_law_letter_here"] (sp_l_told T.c_Roll T.c_Lease T.P_is_flat) := by
  refine T.F_l_told.okX sc_l_told (fun vs H Q E h => ?_) (fun cdv A outer s H vs Q E hr h => ?_)
  · first | (obtain ⟨_, rfl, _⟩ := h; rfl) | (obtain ⟨_, _, rfl, _⟩ := h; rfl) | (obtain ⟨_, _, _, rfl, _⟩ := h; rfl) | (obtain ⟨_, _, _, _, rfl, _⟩ := h; rfl) | (obtain ⟨_, _, _, _, _, rfl, _⟩ := h; rfl) | (obtain ⟨_, _, _, _, _, _, rfl, _⟩ := h; rfl) | (obtain ⟨_, _, _, _, _, _, _, rfl, _⟩ := h; rfl) | (obtain ⟨_, _, _, _, _, _, _, _, rfl, _⟩ := h; rfl) | (obtain ⟨_, _, _, _, _, _, _, _, _, rfl, _⟩ := h; rfl) | (obtain ⟨_, _, _, _, _, _, _, _, _, _, rfl, _⟩ := h; rfl) | (obtain ⟨_, _, _, _, _, _, _, _, _, _, _, rfl, _⟩ := h; rfl) | (obtain ⟨_, _, _, _, _, _, _, _, _, _, _, _, rfl, _⟩ := h; rfl) | (obtain ⟨_, _, _, _, _, _, _, _, _, _, _, _, _, rfl, _⟩ := h; rfl) | (obtain ⟨_, _, _, _, _, _, _, _, _, _, _, _, _, _, rfl, _⟩ := h; rfl) | (obtain ⟨_, _, _, _, _, _, _, _, _, _, _, _, _, _, _, rfl, _⟩ := h; rfl)
  · refine ⟨_, (pss_one (ps_try_many rfl rfl (takes_of rfl rfl rfl rfl)
  (fun W pn xe tk pas => (pss_one (ps_ret (pe_callS (ok_l_do T) hr (by rfl) T.g_l_do T.F_l_do.kp T.b_l_do (fun σ => passAt tk σ) (by exact (pa_cons (pv 0) (pa_cons (pv 1) pa_nil)))))))
  (.cons ⟨rfl, by decide, Or.inl T.g_NoLease⟩ (fun a oe cls d pn hz hf => (pss_one (ps_ret (pe_tup (pa_cons pe_str pa_nil)))))
  (.cons ⟨rfl, by decide, Or.inl T.g_BadDay⟩ (fun a oe cls d pn hz hf => (pss_one (ps_ret (pe_tup (pa_cons pe_str pa_nil)))))
  (.cons ⟨rfl, by decide, Or.inl T.g_Taken⟩ (fun a oe cls d pn hz hf => (pss_one (ps_ret (pe_tup (pa_cons pe_str pa_nil)))))
  (.cons ⟨rfl, by decide, Or.inl T.g_Done⟩ (fun a oe cls d pn hz hf => (pss_one (ps_ret (pe_tup (pa_cons pe_str pa_nil)))))
  (.cons ⟨rfl, by decide, Or.inl T.g_Full⟩ (fun a oe cls d pn hz hf => (pss_one (ps_ret (pe_tup (pa_cons pe_str pa_nil)))))
  .nil))))))), ?_⟩
    obtain ⟨a, m, L, p, rfl, hp, hA, hg, hn, hx, hT, k1, k2⟩ := h
    walk_at "go"
    refine ⟨a, m, L, p, rfl, hp, hA, hg, hn, hx, hT, fun ho => k1 ho, fun e he H1 q1 => ?_⟩
    obtain ⟨n1, n2, k2⟩ := k2 e he
    cases e with
    | badFlat => exact absurd rfl n1
    | badAmount => exact absurd rfl n2
    | noLease =>
      refine ⟨true, T.m_NoLease_NoLease, fun _ b hb => ?_, fun q => Bool.noConfusion q⟩
      walk_at "go"
      exact ⟨by walk_at "sz", fun t ht => k2 _ t (q1.trans (Kept.of (same_new ht))) (q1.free t ht) upd_same⟩
    | badDay =>
      refine ⟨false, T.m_BadDay_NoLease, fun q => Bool.noConfusion q, fun _ => ?_⟩
      refine ⟨true, T.m_BadDay_BadDay, fun _ b hb => ?_, fun q => Bool.noConfusion q⟩
      walk_at "go"
      exact ⟨by walk_at "sz", fun t ht => k2 _ t (q1.trans (Kept.of (same_new ht))) (q1.free t ht) upd_same⟩
    | taken =>
      refine ⟨false, T.m_Taken_NoLease, fun q => Bool.noConfusion q, fun _ => ?_⟩
      refine ⟨false, T.m_Taken_BadDay, fun q => Bool.noConfusion q, fun _ => ?_⟩
      refine ⟨true, T.m_Taken_Taken, fun _ b hb => ?_, fun q => Bool.noConfusion q⟩
      walk_at "go"
      exact ⟨by walk_at "sz", fun t ht => k2 _ t (q1.trans (Kept.of (same_new ht))) (q1.free t ht) upd_same⟩
    | done =>
      refine ⟨false, T.m_Done_NoLease, fun q => Bool.noConfusion q, fun _ => ?_⟩
      refine ⟨false, T.m_Done_BadDay, fun q => Bool.noConfusion q, fun _ => ?_⟩
      refine ⟨false, T.m_Done_Taken, fun q => Bool.noConfusion q, fun _ => ?_⟩
      refine ⟨true, T.m_Done_Done, fun _ b hb => ?_, fun q => Bool.noConfusion q⟩
      walk_at "go"
      exact ⟨by walk_at "sz", fun t ht => k2 _ t (q1.trans (Kept.of (same_new ht))) (q1.free t ht) upd_same⟩
    | full =>
      refine ⟨false, T.m_Full_NoLease, fun q => Bool.noConfusion q, fun _ => ?_⟩
      refine ⟨false, T.m_Full_BadDay, fun q => Bool.noConfusion q, fun _ => ?_⟩
      refine ⟨false, T.m_Full_Taken, fun q => Bool.noConfusion q, fun _ => ?_⟩
      refine ⟨false, T.m_Full_Done, fun q => Bool.noConfusion q, fun _ => ?_⟩
      refine ⟨true, T.m_Full_Full, fun _ b hb => ?_, fun q => Bool.noConfusion q⟩
      walk_at "go"
      exact ⟨by walk_at "sz", fun t ht => k2 _ t (q1.trans (Kept.of (same_new ht))) (q1.free t ht) upd_same⟩
theorem ok_l_room (T : Txt K mg base) : FnOk P w K mg base (L2.CX P w) 1 T.f_l_room T.fd_l_room ["_law_script", "_law_small", "_law_great"] (sp_l_room K) := by
  refine T.F_l_room.okX sc_l_room (fun vs H Q E h => ?_) (fun cdv A outer s H vs Q E hr h => ?_)
  · first | (obtain ⟨_, rfl, _⟩ := h; rfl) | (obtain ⟨_, _, rfl, _⟩ := h; rfl) | (obtain ⟨_, _, _, rfl, _⟩ := h; rfl) | (obtain ⟨_, _, _, _, rfl, _⟩ := h; rfl) | (obtain ⟨_, _, _, _, _, rfl, _⟩ := h; rfl) | (obtain ⟨_, _, _, _, _, _, rfl, _⟩ := h; rfl) | (obtain ⟨_, _, _, _, _, _, _, rfl, _⟩ := h; rfl) | (obtain ⟨_, _, _, _, _, _, _, _, rfl, _⟩ := h; rfl) | (obtain ⟨_, _, _, _, _, _, _, _, _, rfl, _⟩ := h; rfl) | (obtain ⟨_, _, _, _, _, _, _, _, _, _, rfl, _⟩ := h; rfl) | (obtain ⟨_, _, _, _, _, _, _, _, _, _, _, rfl, _⟩ := h; rfl) | (obtain ⟨_, _, _, _, _, _, _, _, _, _, _, _, rfl, _⟩ := h; rfl) | (obtain ⟨_, _, _, _, _, _, _, _, _, _, _, _, _, rfl, _⟩ := h; rfl) | (obtain ⟨_, _, _, _, _, _, _, _, _, _, _, _, _, _, rfl, _⟩ := h; rfl) | (obtain ⟨_, _, _, _, _, _, _, _, _, _, _, _, _, _, _, rfl, _⟩ := h; rfl)
  · refine ⟨_, (pss_cons (ps_if (pt_cmpR op_gt (pe_callB (show CallR _ (.builtin "len") (rLen K) from call_lenA) (by rfl) T.n_len (by decide +kernel) (pa_cons (pv 0) pa_nil)) pe_int (nomark _))
  (pss_one (ps_ret (pv 2)))
  pss_nil)
  (pss_one (ps_ret (pv 1)))), ?_⟩
    obtain ⟨a, ns, x, y, rfl, hS, hn, k⟩ := h
    walk_at "go"
    refine ⟨a, _, rfl, .inl hS, ?_⟩
    walk_at "go"
    rw [List.length_map]
    refine g_ite (fun c => ?_) (fun c => ?_)
    · exact absurd c (by omega)
    · walk_at "go"
      exact k
theorem ok_l_all (T : Txt K mg base) : FnOk P w K mg base (L2.CX P w) 9 T.f_l_all T.fd_l_all ["_law_roll", "_law_day"] (sp_l_all K T.c_Roll T.c_Lease T.P_is_flat) := by
  refine T.F_l_all.okX sc_l_all (fun vs H Q E h => ?_) (fun cdv A outer s H vs Q E hr h => ?_)
  · first | (obtain ⟨_, rfl, _⟩ := h; rfl) | (obtain ⟨_, _, rfl, _⟩ := h; rfl) | (obtain ⟨_, _, _, rfl, _⟩ := h; rfl) | (obtain ⟨_, _, _, _, rfl, _⟩ := h; rfl) | (obtain ⟨_, _, _, _, _, rfl, _⟩ := h; rfl) | (obtain ⟨_, _, _, _, _, _, rfl, _⟩ := h; rfl) | (obtain ⟨_, _, _, _, _, _, _, rfl, _⟩ := h; rfl) | (obtain ⟨_, _, _, _, _, _, _, _, rfl, _⟩ := h; rfl) | (obtain ⟨_, _, _, _, _, _, _, _, _, rfl, _⟩ := h; rfl) | (obtain ⟨_, _, _, _, _, _, _, _, _, _, rfl, _⟩ := h; rfl) | (obtain ⟨_, _, _, _, _, _, _, _, _, _, _, rfl, _⟩ := h; rfl) | (obtain ⟨_, _, _, _, _, _, _, _, _, _, _, _, rfl, _⟩ := h; rfl) | (obtain ⟨_, _, _, _, _, _, _, _, _, _, _, _, _, rfl, _⟩ := h; rfl) | (obtain ⟨_, _, _, _, _, _, _, _, _, _, _, _, _, _, rfl, _⟩ := h; rfl) | (obtain ⟨_, _, _, _, _, _, _, _, _, _, _, _, _, _, _, rfl, _⟩ := h; rfl)
  · refine ⟨_, (pss_cons (ps_set (i := 2) sc_l_all.nd rfl (Or.inl rfl) (pe_lst (pa_cons (pe_methSS0 (pv 0) T.cl_Roll T.m_Roll_many (ok_Roll_many T) (hr.mono (by decide)) T.b_Roll_many (fun σ => passAt (takes_of rfl rfl rfl rfl) σ)) (pa_cons (pe_methSS0 (pv 0) T.cl_Roll T.m_Roll_billed (ok_Roll_billed T) (hr.mono (by decide)) T.b_Roll_billed (fun σ => passAt (takes_of rfl rfl rfl rfl) σ)) (pa_cons (pe_methSS0 (pv 0) T.cl_Roll T.m_Roll_letters (ok_Roll_letters T) (hr.mono (by decide)) T.b_Roll_letters (fun σ => passAt (takes_of rfl rfl rfl rfl) σ)) pa_nil)))))
  (pss_cons (ps_for (passes_of rfl) rfl (pi_range1 (by rfl) T.n_range (pa_cons (pe_methSS0 (pv 0) T.cl_Roll T.m_Roll_many (ok_Roll_many T) (hr.mono (by decide)) T.b_Roll_many (fun σ => passAt (takes_of rfl rfl rfl rfl) σ)) pa_nil)) (pg_name (i := 3) sc_l_all.nd rfl (Or.inl rfl))
  (Evl.pss_cut (ps_if (pt_cmpR (show OpR _ (compareOp .Eq) (rEqA K) from op_eqA hr.units) (pe_op op_mod (pv 1) pe_int) pe_int (nomark _))
  (pss_one (ps_expr (pe_bm PySem.F.plainAttrs_list PySem.F.slot_list_append PySem.F.type_list_append mt_append (pv 2) (pa_cons (pe_tup (pa_cons (pe_methSS (pv 0) T.cl_Roll T.m_Roll_given (ok_Roll_given T) (hr.mono (by decide)) T.b_Roll_given (fun σ => passAt (takes_of rfl rfl rfl rfl) σ) (by exact (pa_cons (pv 3) pa_nil))) (pa_cons (pe_methSS (pv 0) T.cl_Roll T.m_Roll_sent (ok_Roll_sent T) (hr.mono (by decide)) T.b_Roll_sent (fun σ => passAt (takes_of rfl rfl rfl rfl) σ) (by exact (pa_cons (pv 3) pa_nil))) pa_nil))) pa_nil))))
  pss_nil)
  (pss_cons (ps_expr (pe_bm PySem.F.plainAttrs_list PySem.F.slot_list_append PySem.F.type_list_append mt_append (pv 2) (pa_cons (pe_tup (pa_cons (pe_methSS (pv 0) T.cl_Roll T.m_Roll_lease (ok_Roll_lease T) (hr.mono (by decide)) T.b_Roll_lease (fun σ => passAt (takes_of rfl rfl rfl rfl) σ) (by exact (pa_cons (pv 3) pa_nil))) (pa_cons (pe_methSS (pv 0) T.cl_Roll T.m_Roll_owed (ok_Roll_owed T) hr T.b_Roll_owed (fun σ => passAt (takes_of rfl rfl rfl rfl) σ) (by exact (pa_cons (pv 3) (pa_cons (pv 1) pa_nil)))) (pa_cons (pe_methSS (pv 0) T.cl_Roll T.m_Roll_pledge (ok_Roll_pledge T) (hr.mono (by decide)) T.b_Roll_pledge (fun σ => passAt (takes_of rfl rfl rfl rfl) σ) (by exact (pa_cons (pv 3) (pa_cons (pv 1) pa_nil)))) pa_nil)))) pa_nil)))
  (pss_one (ps_if (pt_cmpR (show OpR _ (compareOp .Eq) (rEqA K) from op_eqA hr.units) (pe_op op_mod (pv 1) pe_int) pe_int (nomark _))
  (pss_one (ps_expr (pe_bm PySem.F.plainAttrs_list PySem.F.slot_list_append PySem.F.type_list_append mt_append (pv 2) (pa_cons (pe_tup (pa_cons (pe_methSS (pv 0) T.cl_Roll T.m_Roll_given (ok_Roll_given T) (hr.mono (by decide)) T.b_Roll_given (fun σ => passAt (takes_of rfl rfl rfl rfl) σ) (by exact (pa_cons (pv 3) pa_nil))) (pa_cons (pe_methSS (pv 0) T.cl_Roll T.m_Roll_sent (ok_Roll_sent T) (hr.mono (by decide)) T.b_Roll_sent (fun σ => passAt (takes_of rfl rfl rfl rfl) σ) (by exact (pa_cons (pv 3) pa_nil))) pa_nil))) pa_nil))))
  pss_nil)))))
  (pss_one (ps_ret (pv 2))))), ?_⟩
    obtain ⟨a, m, d, rfl, hA, hg, hlet, hd0, hd1, hfl, k⟩ := h
    have hok := hg.ok (by omega)
    walk_at "go"
    refine ⟨a.x, _, _, rfl, hA.ob, rfl, ?_⟩
    walk_at "go"
    refine ⟨a, m, rfl, hA, ?_⟩
    walk_at "go"
    refine ⟨a.x, _, _, rfl, hA.ob, rfl, ?_⟩
    walk_at "go"
    refine ⟨a, m, rfl, hA, ?_⟩
    walk_at "go"
    refine ⟨a.x, _, _, rfl, hA.ob, rfl, ?_⟩
    walk_at "go"
    refine ⟨a, m, rfl, hA, fun p hp => ?_⟩
    have sm : Same H (upd H p (.lst (a.ta.map V.ref))) := same_new hp
    have hp1 : (upd H p (.lst (a.ta.map V.ref))) p = some (.lst (a.ta.map V.ref)) := upd_same
    generalize upd H p (.lst (a.ta.map V.ref)) = H1 at sm hp1 ⊢
    walk_at "go"
    refine ⟨by walk_at "sz", fun l hl => ?_⟩
    have hl0 : H l = none := sm.free hl
    have hlp : l ≠ p := fun z => by rw [z, hp1] at hl; cases hl
    have hl1 : (upd H1 l (.lst (allV p [] m))) l = some (.lst (allV p [] m)) := upd_same
    have hp1 : (upd H1 l (.lst (allV p [] m))) p = some (.lst (a.ta.map V.ref)) := by rw [upd_ne hlp.symm]; exact hp1
    have sm : Same H (upd H1 l (.lst (allV p [] m))) := sm.trans (same_new hl)
    show tSeq _ _ _ _ (upd H1 l (.lst (allV p [] m)))
    generalize upd H1 l (.lst (allV p [] m)) = H2 at sm hl1 hp1 ⊢
    clear hl
    have hsz : ∀ {H' : Hp} {ts : List Addr} {Ds : List PyData}, TDs H' ts Ds → Ds.length ≤ 100 → (allV p ts m).length < sizeLine := fun {H' ts Ds} h hn => by
      have := h.len
      refine Nat.lt_of_lt_of_le (show _ < 1000 from ?_) (by decide)
      show (ts.map V.ref).length + 1 + 1 + 1 < 1000
      rw [List.length_map]
      omega
    walk_at "go"
    refine g_forR1 (hi := (m.leases.length : Int)) (fun i σ' H' => ∃ v ts, σ' = [some (.ref a.x), some (.int d), some (.ref l), v] ∧ Same H H' ∧ H' l = some (.lst (allV p ts m)) ∧ H' p = some (.lst (a.ta.map V.ref)) ∧ TDs H' ts (dLeases m d i))
      (fun Q' q => by walk_at "go"; refine ⟨a.x, _, _, rfl, (hA.same sm).ob, rfl, ?_⟩; walk_at "go"; exact ⟨a, m, rfl, hA.same sm, q⟩) (by have := hok.ln; omega) ⟨_, [], rfl, sm, hl1, hp1, .nil⟩ ?_ ?_
    · rintro i σ' H' hi ⟨v, ts, rfl, sm, hl', hp', hTD⟩
      have hi' : i < m.leases.length := by omega
      obtain ⟨e, he⟩ : ∃ e, m.leases[i]? = some e := ⟨_, List.getElem?_eq_getElem hi'⟩
      have hem := List.mem_of_getElem? he
      have hnl : ∀ {X : Prop}, isLe m (V.int (i : Int)) = false → X := fun z => by
        have : isLe m (V.int (i : Int)) = true := by simp [isLe, within]; omega
        rw [this] at z; cases z
      have hnl2 : ∀ {X : Prop}, within (V.int (i : Int)) 0 ((m.leases.length : Int) - 1) = false → X := hnl
      have hnw : ∀ {X : Prop}, within (V.int d) 0 99999 = false → X := fun z => by simp [within] at z; omega
      have ask : ∀ {i' : Nat} {e' : LeM}, (V.int (i : Int)) = .int (i' : Int) → m.leases[i']? = some e' → e' = e := fun {i' e'} ei he' => by
        rw [show i' = i by have := V.int.inj ei; omega, he] at he'
        exact (Option.some.inj he').symm
      have hln := hok.ln
      have hdl := dLeases_len (m := m) (d := d) i
      have hff : (tupL e).all flatD = true := by
        show (flatD (.str e.flat) && (true && (flatD (optV e.last) && (true && true)))) = true
        rw [flat_flat (hfl e hem)]
        cases e.last <;> rfl
      rw [Int.zero_add]
      walk_at "go"
      refine g_tcut (fun σ' H' => ∃ ts, σ' = [some (.ref a.x), some (.int d), some (.ref l), some (.int (i : Int))] ∧ Same H H' ∧ H' l = some (.lst (allV p ts m)) ∧ H' p = some (.lst (a.ta.map V.ref)) ∧ TDs H' ts (dLeases m d i ++ if d % 2 = 1 then [.tuple [.int e.given, .int e.sent]] else [])) ?_ ?_
      · walk_at "go"
        refine g_ite (fun c => ?_) (fun c => ?_)
        · walk_at "go"
          refine ⟨.inl ⟨rfl, _, SqL.of hl'⟩, ?_⟩
          walk_at "go"
          refine ⟨a.x, _, _, rfl, (hA.same sm).ob, rfl, ?_⟩
          walk_at "go"
          refine ⟨a, m, .int i, rfl, hA.same sm, trivial, fun i' e' ei he' => ?_, fun z => hnl2 z⟩
          rw [ask ei he']
          walk_at "go"
          refine ⟨a.x, _, _, rfl, (hA.same sm).ob, rfl, ?_⟩
          walk_at "go"
          refine ⟨a, m, .int i, rfl, hA.same sm, trivial, fun i' e' ei he' => ?_, fun z => hnl2 z⟩
          rw [ask ei he']
          walk_at "go"
          refine ⟨by walk_at "sz", fun t ht => ?_⟩
          walk_at "go"
          refine ⟨l, _, _, rfl, rfl, same_new ht _ _ hl', by show (allV p ts m).length < _; exact hsz hTD (by first | omega | (unfold dLease; split <;> simp)), ?_⟩
          obtain ⟨smA, hlA, hpA, tuA, htA⟩ := app_all (vs := [.int e.given, .int e.sent]) sm hl0 hlp hl' hp' ht
          refine ⟨ts ++ [t], rfl, smA, hlA, hpA, ?_⟩
          rw [if_pos c]
          exact TDs.snoc (.inl ⟨_, _, htA, rfl⟩) (hTD.tups tuA)
        · walk_at "go"
          refine ⟨ts, rfl, sm, hl', hp', ?_⟩
          rw [if_neg c, List.append_nil]
          exact hTD
      clear sm hl' hp' hTD
      rintro σ' H3 ⟨ts, rfl, sm, hl', hp', hTD⟩
      walk_at "go"
      refine ⟨.inl ⟨rfl, _, SqL.of hl'⟩, ?_⟩
      walk_at "go"
      refine ⟨a.x, _, _, rfl, (hA.same sm).ob, rfl, ?_⟩
      walk_at "go"
      refine ⟨a, m, .int i, rfl, hA.same sm, trivial, fun z => hnl z, fun i' e' ei he' u hu => ?_⟩
      rw [ask ei he']
      have sm := sm.trans (same_new (o := .tup (tupL e)) hu)
      have hl' := (same_new (o := .tup (tupL e)) hu) _ _ hl'
      have hp' := (same_new (o := .tup (tupL e)) hu) _ _ hp'
      have hTD := hTD.tups (Tups.same (same_new (o := .tup (tupL e)) hu))
      have huu : (upd H3 u (.tup (tupL e))) u = some (.tup (tupL e)) := upd_same
      generalize upd H3 u (.tup (tupL e)) = H4 at sm hl' hp' hTD huu ⊢
      clear hu
      walk_at "go"
      refine ⟨a.x, _, _, rfl, (hA.same sm).ob, rfl, ?_⟩
      walk_at "go"
      refine ⟨a, m, .int i, .int d, rfl, hA.same sm, hok, trivial, trivial, fun z => hnl z, fun _ z => hnw z, fun i' e' d' ei he' ed _ _ H5 s5 => ?_⟩
      cases ed
      rw [ask ei he']
      have sm := sm.trans s5
      have hl' := s5 _ _ hl'
      have hp' := s5 _ _ hp'
      have hTD := hTD.tups (Tups.same s5)
      have huu := s5 _ _ huu
      clear s5
      walk_at "go"
      refine ⟨a.x, _, _, rfl, (hA.same sm).ob, rfl, ?_⟩
      walk_at "go"
      refine ⟨a, m, .int i, .int d, rfl, hA.same sm, hok, trivial, trivial, fun z => hnl z, fun _ z => hnw z, fun i' e' d' ei he' ed _ _ H6 s6 => ?_⟩
      cases ed
      rw [ask ei he']
      have sm := sm.trans s6
      have hl' := s6 _ _ hl'
      have hp' := s6 _ _ hp'
      have hTD := hTD.tups (Tups.same s6)
      have huu := s6 _ _ huu
      clear s6
      walk_at "go"
      refine ⟨by walk_at "sz", fun t ht => ?_⟩
      walk_at "go"
      have hx1 : (dLeases m d i ++ if d % 2 = 1 then [PyData.tuple [.int e.given, .int e.sent]] else []).length ≤ 41 := by
        rw [List.length_append]
        split
        · show _ + 1 ≤ _; omega
        · show _ + 0 ≤ _; omega
      refine ⟨l, _, _, rfl, rfl, same_new ht _ _ hl', by show (allV p ts m).length < _; exact hsz hTD (by omega), ?_⟩
      obtain ⟨smA, hlA, hpA, tuA, htA⟩ := app_all (vs := [.ref u, .int (leOwed e m.gauges d), .int (leWorth e m.rates d)]) sm hl0 hlp hl' hp' ht
      have hTA := TDs.snoc (.inr ⟨u, e, _, _, htA, tuA _ _ huu, hff, rfl⟩) (hTD.tups tuA)
      have hx2 := hTA.len
      generalize upd (upd H6 t (.tup [.ref u, .int (leOwed e m.gauges d), .int (leWorth e m.rates d)])) l (.lst (allV p ts m ++ [V.ref t])) = H7 at smA hlA hpA hTA ⊢
      clear sm hl' hp' hTD tuA htA huu ht
      have sm := smA
      have hl' := hlA
      have hp' := hpA
      generalize ts ++ [t] = ts at hTA hl' hlA
      have hTD := hTA
      clear smA hlA hpA hTA hx2
      walk_at "go"
      refine g_ite (fun c => ?_) (fun c => ?_)
      · have c1 : ¬ d % 2 = 1 := by omega
        rw [if_neg c1, List.append_nil] at hTD
        walk_at "go"
        refine ⟨.inl ⟨rfl, _, SqL.of hl'⟩, ?_⟩
        walk_at "go"
        refine ⟨a.x, _, _, rfl, (hA.same sm).ob, rfl, ?_⟩
        walk_at "go"
        refine ⟨a, m, .int i, rfl, hA.same sm, trivial, fun i' e' ei he' => ?_, fun z => hnl2 z⟩
        rw [ask ei he']
        walk_at "go"
        refine ⟨a.x, _, _, rfl, (hA.same sm).ob, rfl, ?_⟩
        walk_at "go"
        refine ⟨a, m, .int i, rfl, hA.same sm, trivial, fun i' e' ei he' => ?_, fun z => hnl2 z⟩
        rw [ask ei he']
        walk_at "go"
        refine ⟨by walk_at "sz", fun t ht => ?_⟩
        walk_at "go"
        refine ⟨l, _, _, rfl, rfl, same_new ht _ _ hl', by show (allV p ts m).length < _; exact hsz hTD (by rw [List.length_append]; show _ + 1 ≤ _; omega), ?_⟩
        obtain ⟨smA, hlA, hpA, tuA, htA⟩ := app_all (vs := [.int e.given, .int e.sent]) sm hl0 hlp hl' hp' ht
        refine ⟨_, ts ++ [t], rfl, smA, hlA, hpA, ?_⟩
        rw [dLeases_succ he]
        unfold dLease
        rw [if_neg c1]
        have q := TDs.snoc (.inl ⟨e.given, e.sent, htA, rfl⟩) (hTD.tups tuA)
        rw [List.append_assoc] at q
        exact q
      · have c1 : d % 2 = 1 := by omega
        rw [if_pos c1] at hTD
        walk_at "go"
        refine ⟨_, ts, rfl, sm, hl', hp', ?_⟩
        rw [dLeases_succ he]
        unfold dLease
        rw [if_pos c1]
        rw [List.append_assoc] at hTD
        exact hTD
    · rintro σ' H' ⟨v, ts, rfl, sm, hl', hp', hTD⟩
      rw [Int.toNat_natCast] at hTD
      walk_at "go"
      exact k H' l p a.ta ts sm hl0 hp hlp hl' hp' ⟨(hA.same sm).tp, hTD⟩
theorem ok_l_again (T : Txt K mg base) : FnOk P w K mg base (L2.CX P w) 12 T.f_l_again T.fd_l_again ["_law_letters"] (sp_l_again T.c_Roll T.c_Lease T.P_is_flat K) := by
  refine T.F_l_again.okX sc_l_again (fun vs H Q E h => ?_) (fun cdv A outer s H vs Q E hr h => ?_)
  · first | (obtain ⟨_, rfl, _⟩ := h; rfl) | (obtain ⟨_, _, rfl, _⟩ := h; rfl) | (obtain ⟨_, _, _, rfl, _⟩ := h; rfl) | (obtain ⟨_, _, _, _, rfl, _⟩ := h; rfl) | (obtain ⟨_, _, _, _, _, rfl, _⟩ := h; rfl) | (obtain ⟨_, _, _, _, _, _, rfl, _⟩ := h; rfl) | (obtain ⟨_, _, _, _, _, _, _, rfl, _⟩ := h; rfl) | (obtain ⟨_, _, _, _, _, _, _, _, rfl, _⟩ := h; rfl) | (obtain ⟨_, _, _, _, _, _, _, _, _, rfl, _⟩ := h; rfl) | (obtain ⟨_, _, _, _, _, _, _, _, _, _, rfl, _⟩ := h; rfl) | (obtain ⟨_, _, _, _, _, _, _, _, _, _, _, rfl, _⟩ := h; rfl) | (obtain ⟨_, _, _, _, _, _, _, _, _, _, _, _, rfl, _⟩ := h; rfl) | (obtain ⟨_, _, _, _, _, _, _, _, _, _, _, _, _, rfl, _⟩ := h; rfl) | (obtain ⟨_, _, _, _, _, _, _, _, _, _, _, _, _, _, rfl, _⟩ := h; rfl) | (obtain ⟨_, _, _, _, _, _, _, _, _, _, _, _, _, _, _, rfl, _⟩ := h; rfl)
  · refine ⟨_, (pss_cons (ps_try_many rfl rfl (takes_of rfl rfl rfl rfl)
  (fun W pn xe tk pas => (pss_one (ps_expr (pe_callS (ok_roll_of T) hr (by rfl) T.g_roll_of T.F_roll_of.kp T.b_roll_of (fun σ => passAt tk σ) (by exact (pa_cons (pv 0) pa_nil))))))
  (.cons ⟨rfl, by decide, Or.inl T.g_NoLease⟩ (fun a oe cls d pn hz hf => (pss_one (ps_ret (pe_tup (pa_cons pe_str pa_nil)))))
  (.cons ⟨rfl, by decide, Or.inl T.g_BadDay⟩ (fun a oe cls d pn hz hf => (pss_one (ps_ret (pe_tup (pa_cons pe_str pa_nil)))))
  (.cons ⟨rfl, by decide, Or.inl T.g_Taken⟩ (fun a oe cls d pn hz hf => (pss_one (ps_ret (pe_tup (pa_cons pe_str pa_nil)))))
  (.cons ⟨rfl, by decide, Or.inl T.g_Done⟩ (fun a oe cls d pn hz hf => (pss_one (ps_ret (pe_tup (pa_cons pe_str pa_nil)))))
  (.cons ⟨rfl, by decide, Or.inl T.g_Full⟩ (fun a oe cls d pn hz hf => (pss_one (ps_ret (pe_tup (pa_cons pe_str pa_nil)))))
  .nil))))))
  (pss_one (ps_ret pe_non))), ?_⟩
    obtain ⟨H0, rs, cs, l, ts, tls, fs, lo, hi, many, rfl, W, hk, hT, hG, hf8, hlen, k1, k2⟩ := h
    walk_at "go"
    refine ⟨H0, rs, cs, l, ts, tls, fs, lo, hi, many, rfl, W, hk, hT, hG, hf8, hlen, fun hn H1 a W1 tu1 => ?_, fun e he H1 W1 tu1 => ?_⟩
    · walk_at "go"
      exact k1 hn H1 (W1.subR (List.sublist_append_left _ _)) tu1
    · obtain ⟨n1, n2, k2⟩ := k2 e he
      have fin : ∀ t, H1 t = none → Q (.ref t) (upd H1 t (.tup [.str (nameE e)])) := fun t ht => k2 _ t (W1.same (same_new ht)) (tu1.trans (Tups.same (same_new ht))) upd_same
      cases e with
      | badFlat => exact absurd rfl n1
      | badAmount => exact absurd rfl n2
      | noLease =>
        refine ⟨true, T.m_NoLease_NoLease, fun _ b hb => ?_, fun q => Bool.noConfusion q⟩
        walk_at "go"
        exact ⟨by walk_at "sz", fun t ht => fin t ht⟩
      | badDay =>
        refine ⟨false, T.m_BadDay_NoLease, fun q => Bool.noConfusion q, fun _ => ?_⟩
        refine ⟨true, T.m_BadDay_BadDay, fun _ b hb => ?_, fun q => Bool.noConfusion q⟩
        walk_at "go"
        exact ⟨by walk_at "sz", fun t ht => fin t ht⟩
      | taken =>
        refine ⟨false, T.m_Taken_NoLease, fun q => Bool.noConfusion q, fun _ => ?_⟩
        refine ⟨false, T.m_Taken_BadDay, fun q => Bool.noConfusion q, fun _ => ?_⟩
        refine ⟨true, T.m_Taken_Taken, fun _ b hb => ?_, fun q => Bool.noConfusion q⟩
        walk_at "go"
        exact ⟨by walk_at "sz", fun t ht => fin t ht⟩
      | done =>
        refine ⟨false, T.m_Done_NoLease, fun q => Bool.noConfusion q, fun _ => ?_⟩
        refine ⟨false, T.m_Done_BadDay, fun q => Bool.noConfusion q, fun _ => ?_⟩
        refine ⟨false, T.m_Done_Taken, fun q => Bool.noConfusion q, fun _ => ?_⟩
        refine ⟨true, T.m_Done_Done, fun _ b hb => ?_, fun q => Bool.noConfusion q⟩
        walk_at "go"
        exact ⟨by walk_at "sz", fun t ht => fin t ht⟩
      | full =>
        refine ⟨false, T.m_Full_NoLease, fun q => Bool.noConfusion q, fun _ => ?_⟩
        refine ⟨false, T.m_Full_BadDay, fun q => Bool.noConfusion q, fun _ => ?_⟩
        refine ⟨false, T.m_Full_Taken, fun q => Bool.noConfusion q, fun _ => ?_⟩
        refine ⟨false, T.m_Full_Done, fun q => Bool.noConfusion q, fun _ => ?_⟩
        refine ⟨true, T.m_Full_Full, fun _ b hb => ?_, fun q => Bool.noConfusion q⟩
        walk_at "go"
        exact ⟨by walk_at "sz", fun t ht => fin t ht⟩
theorem ok_law (T : Txt K mg base) : FnOk P w K mg base (L2.CX P w) 13 T.f_law T.fd_law ["_law_script"] (sp_law K T.P_is_flat) := by
  refine T.F_law.okX sc_law (fun vs H Q E h => ?_) (fun cdv A outer s H vs Q E hr h => ?_)
  · first | (obtain ⟨_, rfl, _⟩ := h; rfl) | (obtain ⟨_, _, rfl, _⟩ := h; rfl) | (obtain ⟨_, _, _, rfl, _⟩ := h; rfl) | (obtain ⟨_, _, _, _, rfl, _⟩ := h; rfl) | (obtain ⟨_, _, _, _, _, rfl, _⟩ := h; rfl) | (obtain ⟨_, _, _, _, _, _, rfl, _⟩ := h; rfl) | (obtain ⟨_, _, _, _, _, _, _, rfl, _⟩ := h; rfl) | (obtain ⟨_, _, _, _, _, _, _, _, rfl, _⟩ := h; rfl) | (obtain ⟨_, _, _, _, _, _, _, _, _, rfl, _⟩ := h; rfl) | (obtain ⟨_, _, _, _, _, _, _, _, _, _, rfl, _⟩ := h; rfl) | (obtain ⟨_, _, _, _, _, _, _, _, _, _, _, rfl, _⟩ := h; rfl) | (obtain ⟨_, _, _, _, _, _, _, _, _, _, _, _, rfl, _⟩ := h; rfl) | (obtain ⟨_, _, _, _, _, _, _, _, _, _, _, _, _, rfl, _⟩ := h; rfl) | (obtain ⟨_, _, _, _, _, _, _, _, _, _, _, _, _, _, rfl, _⟩ := h; rfl) | (obtain ⟨_, _, _, _, _, _, _, _, _, _, _, _, _, _, _, rfl, _⟩ := h; rfl)
  · refine ⟨_, (pss_cons (ps_set (i := 1) sc_law.nd rfl (Or.inl rfl) (pe_callS (ok_l_base T) (hr.mono (by decide)) (by rfl) T.g_l_base T.F_l_base.kp T.b_l_base (fun σ => passAt (takes_of rfl rfl rfl rfl) σ) (by exact (pa_cons (pe_callS (ok_l_cell_at T) (hr.mono (by decide)) (by rfl) T.g_l_cell_at T.F_l_cell_at.kp T.b_l_cell_at (fun σ => passAt (takes_of rfl rfl rfl rfl) σ) (by exact (pa_cons (pv 0) (pa_cons pe_int pa_nil)))) pa_nil))))
  (pss_cons (ps_set (i := 2) sc_law.nd rfl (Or.inl rfl) (pe_callS (ok_l_flats T) (hr.mono (by decide)) (by rfl) T.g_l_flats T.F_l_flats.kp T.b_l_flats (fun σ => passAt (takes_of rfl rfl rfl rfl) σ) (by exact (pa_cons (pe_callS (ok_l_cell_at T) (hr.mono (by decide)) (by rfl) T.g_l_cell_at T.F_l_cell_at.kp T.b_l_cell_at (fun σ => passAt (takes_of rfl rfl rfl rfl) σ) (by exact (pa_cons (pv 0) (pa_cons pe_int pa_nil)))) pa_nil))))
  (pss_cons (ps_set (i := 3) sc_law.nd rfl (Or.inl rfl) (pe_op op_plus (pv 1) (pe_op op_mod (pe_op op_fdiv (pe_callS (ok_l_cell_at T) (hr.mono (by decide)) (by rfl) T.g_l_cell_at T.F_l_cell_at.kp T.b_l_cell_at (fun σ => passAt (takes_of rfl rfl rfl rfl) σ) (by exact (pa_cons (pv 0) (pa_cons pe_int pa_nil)))) pe_int) pe_int)))
  (pss_cons (ps_set (i := 4) sc_law.nd rfl (Or.inl rfl) (pe_lst (pa_cons (pe_make0 T.mk_Roll (ok_Roll_init T) (hr.mono (by decide)) (by rfl) T.g_Roll T.b_Roll_init .nil (passes_call (takes_of rfl rfl rfl rfl) (fun _ _ _ _ h => False.elim h))) (pa_cons (pe_make0 T.mk_Roll (ok_Roll_init T) (hr.mono (by decide)) (by rfl) T.g_Roll T.b_Roll_init .nil (passes_call (takes_of rfl rfl rfl rfl) (fun _ _ _ _ h => False.elim h))) pa_nil))))
  (pss_cons (ps_set (i := 5) sc_law.nd rfl (Or.inl rfl) (pe_lst (pa_cons (pe_lst pa_nil) (pa_cons (pe_lst pa_nil) pa_nil))))
  (pss_cons (ps_for (passes_of rfl) rfl (show PI _ _ _ (iLT K _) from pi_lt (pe_slice (show SlR _ (rSlL K) from sl_list) (pv 0) (po_some pe_int) (po_some (pe_op op_plus pe_int (pe_callS (ok_l_room T) (hr.mono (by decide)) (by rfl) T.g_l_room T.F_l_room.kp T.b_l_room (fun σ => passAt (takes_of rfl rfl rfl rfl) σ) (by exact (pa_cons (pv 0) (pa_cons pe_int (pa_cons pe_int pa_nil))))))))) (pg_name (i := 6) sc_law.nd rfl (Or.inl rfl))
  (pss_cons (ps_set (i := 7) sc_law.nd rfl (Or.inl rfl) (pe_op op_mod (pe_op op_fdiv (pv 6) pe_int) pe_int))
  (pss_cons (ps_set (i := 8) sc_law.nd rfl (Or.inl rfl) (pe_callS (ok_l_letter T) (hr.mono (by decide)) (by rfl) T.g_l_letter T.F_l_letter.kp T.b_l_letter (fun σ => passAt (takes_of rfl rfl rfl rfl) σ) (by exact (pa_cons (pe_op op_plus (pe_op op_mul (pe_op op_fdiv (pv 6) pe_int) pe_int) (pe_op op_mod (pv 6) pe_int)) (pa_cons (pv 1) (pa_cons pe_int (pa_cons (pv 2) (pa_cons (pe_methSS0 (pe_ix (show IxR _ (rIx2 K) from ix_lt) (pv 4) (pv 7) (fun _ _ => rfl)) T.cl_Roll T.m_Roll_many (ok_Roll_many T) (hr.mono (by decide)) T.b_Roll_many (fun σ => passAt (takes_of rfl rfl rfl rfl) σ)) pa_nil))))))))
  (pss_cons (ps_set (i := 9) sc_law.nd rfl (Or.inl rfl) (pe_callS (ok_l_all T) (hr.mono (by decide)) (by rfl) T.g_l_all T.F_l_all.kp T.b_l_all (fun σ => passAt (takes_of rfl rfl rfl rfl) σ) (by exact (pa_cons (pe_ix (show IxR _ (rIx2 K) from ix_lt) (pv 4) (pe_op op_sub pe_int (pv 7)) (fun _ _ => rfl)) (pa_cons (pv 3) pa_nil)))))
  (pss_cons (ps_set (i := 10) sc_law.nd rfl (Or.inl rfl) (pe_callS (ok_l_told T) (hr.mono (by decide)) (by rfl) T.g_l_told T.F_l_told.kp T.b_l_told (fun σ => passAt (takes_of rfl rfl rfl rfl) σ) (by exact (pa_cons (pe_ix (show IxR _ (rIx2 K) from ix_lt) (pv 4) (pv 7) (fun _ _ => rfl)) (pa_cons (pv 8) pa_nil)))))
  (Evl.pss_cut (ps_if (pt_val (pe_callB (show CallR _ (.builtin "isinstance") (rIsi K) from call_isi) (by rfl) T.n_isinstance (by decide +kernel) (pa_cons (pv 10) (pa_cons (pe_bltn (v := .ty "tuple") (by rfl) T.n_tuple (by decide +kernel) rfl) pa_nil))))
  (pss_one (ps_if (pt_cmpR (show OpR _ (compareOp .NotEq) (rNeA K) from op_neA hr.units) (pe_callS (ok_l_again T) hr (by rfl) T.g_l_again T.F_l_again.kp T.b_l_again (fun σ => passAt (takes_of rfl rfl rfl rfl) σ) (by exact (pa_cons (pe_op op_plus (pe_ix (show IxR _ (rIx2 K) from ix_lt) (pv 5) (pv 7) (fun _ _ => rfl)) (pe_lst (pa_cons (pv 8) pa_nil))) pa_nil))) (pv 10) (nomark _))
  (pss_one (ps_ret pe_bl))
  pss_nil))
  (pss_one (ps_expr (pe_bm PySem.F.plainAttrs_list PySem.F.slot_list_append PySem.F.type_list_append mt_append (pe_ix (show IxR _ (rIx2 K) from ix_lt) (pv 5) (pv 7) (fun _ _ => rfl)) (pa_cons (pv 8) pa_nil)))))
  (pss_one (ps_if (PW.pt (pw_or (pt_cmpR (show OpR _ (compareOp .NotEq) (rNeA K) from op_neA hr.units) (pe_callS (ok_l_all T) (hr.mono (by decide)) (by rfl) T.g_l_all T.F_l_all.kp T.b_l_all (fun σ => passAt (takes_of rfl rfl rfl rfl) σ) (by exact (pa_cons (pe_ix (show IxR _ (rIx2 K) from ix_lt) (pv 4) (pe_op op_sub pe_int (pv 7)) (fun _ _ => rfl)) (pa_cons (pv 3) pa_nil)))) (pv 9) (nomark _)) (pw_or1 (pt_cmpR (show OpR _ (compareOp .NotEq) (rNeA K) from op_neA hr.units) (pe_methSS0 (pe_ix (show IxR _ (rIx2 K) from ix_lt) (pv 4) (pv 7) (fun _ _ => rfl)) T.cl_Roll T.m_Roll_letters (ok_Roll_letters T) (hr.mono (by decide)) T.b_Roll_letters (fun σ => passAt (takes_of rfl rfl rfl rfl) σ)) (pe_ix (show IxR _ (rIx2 K) from ix_lt) (pv 5) (pv 7) (fun _ _ => rfl)) (nomark _)))))
  (pss_one (ps_ret pe_bl))
  pss_nil))))))))
  (pss_cons (ps_for (passes_of rfl) rfl (pi_range1 (by rfl) T.n_range (pa_cons pe_int pa_nil)) (pg_name (i := 7) sc_law.nd rfl (Or.inl rfl))
  (pss_cons (ps_set (i := 11) sc_law.nd rfl (Or.inl rfl) (pe_methSS0 (pe_ix (show IxR _ (rIx2 K) from ix_lt) (pv 4) (pv 7) (fun _ _ => rfl)) T.cl_Roll T.m_Roll_letters (ok_Roll_letters T) (hr.mono (by decide)) T.b_Roll_letters (fun σ => passAt (takes_of rfl rfl rfl rfl) σ)))
  (pss_cons (ps_set (i := 12) sc_law.nd rfl (Or.inl rfl) (pe_callS (ok_roll_of T) (hr.mono (by decide)) (by rfl) T.g_roll_of T.F_roll_of.kp T.b_roll_of (fun σ => passAt (takes_of rfl rfl rfl rfl) σ) (by exact (pa_cons (pv 11) pa_nil))))
  (pss_cons (ps_if (PW.pt (pw_or (pt_cmpR (show OpR _ (compareOp .NotEq) (rNeA K) from op_neA hr.units) (pv 11) (pe_ix (show IxR _ (rIx2 K) from ix_lt) (pv 5) (pv 7) (fun _ _ => rfl)) (nomark _)) (pw_or1 (pt_cmpR (show OpR _ (compareOp .NotEq) (rNeA K) from op_neA hr.units) (pe_callS (ok_l_all T) (hr.mono (by decide)) (by rfl) T.g_l_all T.F_l_all.kp T.b_l_all (fun σ => passAt (takes_of rfl rfl rfl rfl) σ) (by exact (pa_cons (pv 12) (pa_cons (pv 3) pa_nil)))) (pe_callS (ok_l_all T) (hr.mono (by decide)) (by rfl) T.g_l_all T.F_l_all.kp T.b_l_all (fun σ => passAt (takes_of rfl rfl rfl rfl) σ) (by exact (pa_cons (pe_ix (show IxR _ (rIx2 K) from ix_lt) (pv 4) (pv 7) (fun _ _ => rfl)) (pa_cons (pv 3) pa_nil)))) (nomark _)))))
  (pss_one (ps_ret pe_bl))
  pss_nil)
  (pss_cons (ps_expr (pe_bm0 PySem.F.plainAttrs_list PySem.F.slot_list_clear PySem.F.type_list_clear mt_clear (pv 11)))
  (pss_cons (ps_set (i := 13) sc_law.nd rfl (Or.inl rfl) (pe_methSS0 (pv 12) T.cl_Roll T.m_Roll_letters (ok_Roll_letters T) (hr.mono (by decide)) T.b_Roll_letters (fun σ => passAt (takes_of rfl rfl rfl rfl) σ)))
  (pss_cons (ps_expr (pe_methSS (pv 12) T.cl_Roll T.m_Roll_bill (ok_Roll_bill T) (hr.mono (by decide)) T.b_Roll_bill (fun σ => passAt (takes_of rfl rfl rfl rfl) σ) (by exact (pa_cons (pe_op op_plus (pv 1) pe_int) pa_nil))))
  (pss_one (ps_if (PW.pt (pw_or (pt_cmpR (show OpR _ (compareOp .NotEq) (rNeA K) from op_neA hr.units) (pv 13) (pe_ix (show IxR _ (rIx2 K) from ix_lt) (pv 5) (pv 7) (fun _ _ => rfl)) (nomark _)) (pw_or (pt_cmpR (show OpR _ (compareOp .NotEq) (rNeA K) from op_neA hr.units) (pe_methSS0 (pv 12) T.cl_Roll T.m_Roll_letters (ok_Roll_letters T) (hr.mono (by decide)) T.b_Roll_letters (fun σ => passAt (takes_of rfl rfl rfl rfl) σ)) (pe_op op_plus (pv 13) (pe_lst (pa_cons (pe_tup (pa_cons pe_str (pa_cons (pe_op op_plus (pv 1) pe_int) pa_nil))) pa_nil))) (nomark _)) (pw_or1 (pt_cmpR (show OpR _ (compareOp .NotEq) (rNeA K) from op_neA hr.units) (pe_methSS0 (pe_ix (show IxR _ (rIx2 K) from ix_lt) (pv 4) (pv 7) (fun _ _ => rfl)) T.cl_Roll T.m_Roll_letters (ok_Roll_letters T) (hr.mono (by decide)) T.b_Roll_letters (fun σ => passAt (takes_of rfl rfl rfl rfl) σ)) (pv 13) (nomark _))))))
  (pss_one (ps_ret pe_bl))
  pss_nil)))))))))
  (pss_one (ps_ret pe_bl))))))))), ?_⟩
    obtain ⟨sa, ns, rfl, hS, hlen, hP, k⟩ := h
    have hT : GxR.TabG H T.P_is_flat := ⟨_, hP, by simp [TriplesOk]⟩
    walk_at "go"
    refine ⟨sa, ns, _, rfl, hS, by decide, ?_⟩
    walk_at "go"
    refine ⟨_, rfl, fun b hb0 hb1 H1 s1 => ?_⟩
    walk_at "go"
    have hS := s1.seq hS
    have hT := (Kept.of (P := T.P_is_flat) s1).tab hT
    clear s1
    refine ⟨sa, ns, _, rfl, hS, by decide, ?_⟩
    walk_at "go"
    refine ⟨_, rfl, fun fl f0 f1 f2 H0 s3 _ hfl hf0 hf1 hf2 => ?_⟩
    have hS := s3.seq hS
    have hT := (Kept.of (P := T.P_is_flat) s3).tab hT
    have W0 := LawAt.start (CR := T.c_Roll) (CL := T.c_Lease) hT
    clear s3
    have hfs : ∀ s, (s = f0 ∨ s = f1 ∨ s = f2) → flatB (.str s) = true := fun s hs => by rcases hs with rfl | rfl | rfl <;> first | exact hf0.1 | exact hf1.1 | exact hf2.1
    have hfl8 : ∀ s, (s = f0 ∨ s = f1 ∨ s = f2) → s.length ≤ 8 := fun s hs => by rcases hs with rfl | rfl | rfl <;> first | exact hf0.2 | exact hf1.2 | exact hf2.2
    walk_at "go"
    refine ⟨sa, ns, _, rfl, hS, by decide, ?_⟩
    walk_at "go"
    have hday : b ≤ b + cell ns 1 / 11 % 40 ∧ b + cell ns 1 / 11 % 40 ≤ b + 39 := by omega
    generalize b + cell ns 1 / 11 % 40 = day at hday ⊢
    intro x1 dx1 hx hdx ndx
    refine ⟨x1, dx1, rfl, upd_same, fun a1 H2 e1 e2 hR k0 fr => ⟨rfl, ?_⟩⟩
    obtain ⟨W1, sm1⟩ := W0.rollMake hx hdx ndx e1 hR k0 fr
    clear hdx ndx k0 fr hR sm1 hx W0
    walk_at "go"
    intro x2 dx2 hx hdx ndx
    refine ⟨x2, dx2, rfl, upd_same, fun a2 H3 e3 e4 hR k0 fr => ⟨rfl, ?_⟩⟩
    obtain ⟨W2, sm2⟩ := W1.rollMake hx hdx ndx e3 hR k0 fr
    have W2 : LawAt T.c_Roll T.c_Lease T.P_is_flat H0 H3 [(a1, newRo), (a2, newRo)] [] := W2
    clear hdx ndx k0 fr hR sm2 hx W1
    walk_at "go"
    refine ⟨by walk_at "sz", fun rl hrl => ?_⟩
    have W3 := W2.cellNew (u := .lst [.ref x1, .ref x2]) hrl cell_lst
    generalize upd H3 rl (.lst [.ref x1, .ref x2]) = H4 at W3 ⊢
    clear W2 hrl
    walk_at "go"
    refine ⟨by walk_at "sz", fun t1 ht1 => ?_⟩
    have W4 := W3.cellNew (u := .lst []) ht1 cell_lst
    generalize upd H4 t1 (.lst []) = H5 at W4 ⊢
    walk_at "go"
    refine ⟨by walk_at "sz", fun t2 ht2 => ?_⟩
    have W5 := W4.cellNew (u := .lst []) ht2 cell_lst
    generalize upd H5 t2 (.lst []) = H6 at W5 ⊢
    walk_at "go"
    refine ⟨by walk_at "sz", fun bl hbl => ?_⟩
    have W6 := W5.cellNew (u := .lst [.ref t1, .ref t2]) hbl cell_lst
    generalize upd H6 bl (.lst [.ref t1, .ref t2]) = H7 at W6 ⊢
    walk_at "go"
    refine g_forN (g_iL ?_)
    walk_at "go"
    refine ⟨sa, ns, _, _, rfl, sqL_kept hS W6.old, hlen, ?_⟩
    walk_at "go"
    refine ⟨sa, ns.map V.int, rfl, sqL_kept hS W6.old, fun sl hsl => ?_⟩
    obtain ⟨zs, ez, hzl⟩ := cut_ints ns (some 2) (some (2 + 16))
    rw [ez]
    have W7 := W6.cellNew (u := .lst (zs.map V.int)) hsl cell_lst
    generalize upd H7 sl (.lst (zs.map V.int)) = H8 at W7 ⊢
    have S0 : S15 T.c_Roll T.c_Lease T.P_is_flat H0 H8 x1 x2 rl t1 t2 bl sl zs (fun s => s = f0 ∨ s = f1 ∨ s = f2) b 0 a1 a2 newRo newRo [] [] [] [] :=
      ⟨e1, e3, W7, .nil, .nil, rfl, rfl, rfl, rfl, fun L hL => (by cases hL), fun L hL => (by cases hL), fun e he => (by cases he), fun e he => (by cases he), (by show -1 ≤ _; omega), (by show -1 ≤ _; omega), Nat.le_refl _, Nat.le_refl _⟩
    clear W3 W4 W5 W6 W7 ht1 ht2 hbl hsl
    refine ⟨sl, rfl, ⟨_, SqL.of (S0.W.cell (i := 4) rfl)⟩, ?_⟩
    refine list_of (xs := zs.map V.int) (fun i σ' H' => ∃ v1 v2 v3 v4 v5 a1 a2 m1 m2 ts1 ts2 l1 l2, σ' = [some (.ref sa), some (.int b), some (.ref fl), some (.int day), some (.ref rl), some (.ref bl), v1, v2, v3, v4, v5, none, none, none] ∧ S15 T.c_Roll T.c_Lease T.P_is_flat H0 H' x1 x2 rl t1 t2 bl sl zs (fun s => s = f0 ∨ s = f1 ∨ s = f2) b i a1 a2 m1 m2 ts1 ts2 l1 l2)
      ⟨_, _, _, _, _, a1, a2, newRo, newRo, [], [], [], [], rfl, S0⟩ (fun i σ' H' ⟨_, _, _, _, _, _, _, _, _, _, _, _, _, _, S⟩ => SqL.of (S.W.cell (i := 4) rfl)) ?_ ?_
    · rintro i xv σ' H' hxv ⟨v1, v2, v3, v4, v5, a1, a2, m1, m2, ts1, ts2, l1, l2, rfl, S⟩
      have hi : i < zs.length := by
        have q := (List.getElem?_eq_some_iff.mp hxv).1
        rw [List.length_map] at q
        exact q
      obtain ⟨c, rfl⟩ : ∃ c : Int, xv = .int c := by
        rw [List.getElem?_map] at hxv
        obtain ⟨c, _, e⟩ := Option.map_eq_some_iff.mp hxv
        exact ⟨c, e.symm⟩
      walk_at "go"
      rcases (show c / 12 % 2 = 0 ∨ c / 12 % 2 = 1 by omega) with ej | ej
      · skip
        rw [ej]
        refine r_ixL (SqL.of (S.W.cell (i := 0) rfl)) at0 ?_
        walk_at "go"
        refine ⟨a1.x, _, _, by rw [S.e1], (S.W.roll (i := 0) rfl).ob, rfl, ?_⟩
        walk_at "go"
        refine ⟨a1, m1, by rw [S.e1], S.W.roll (i := 0) rfl, ?_⟩
        refine ⟨_, b, 40, fl, _, f0, f1, f2, rfl, sqL_kept (SqL.of hfl) S.W.old, by decide, fun L t H1 s1 ht00 ht hg0 => ?_⟩
        have S := S.kept (Kept.of s1)
        clear s1 ht00
        have hln := (S.W.rog (i := 0) rfl).ln
        have hG : GoodL (fun s => s = f0 ∨ s = f1 ∨ s = f2) b (b + 39) 20 L := by
          have q := hg0.mono (more := 20) (by split <;> omega)
          rw [show b + 40 - 1 = b + 39 by omega] at q
          exact q
        clear hg0
        walk_at "go"
        rw [show (1 : Int) - 0 = 1 from rfl]
        refine r_ixL (SqL.of (S.W.cell (i := 0) rfl)) at1 ?_
        walk_at "go"
        refine ⟨a2, m2, day, by rw [S.e2], S.W.roll (i := 1) rfl, S.W.rog (i := 1) rfl, by have := S.n2; omega, by omega, by omega, S.F2, fun H2 la pa psa tsa s2 hla0 hpa0 hne hla hpa hAll => ?_⟩
        have W2 := S.W.cells2 hla0 hpa0 hne (Kept.of s2) cell_lst cell_lst hla hpa
        have S := S.kept (Kept.of s2)
        have ht := s2 _ _ ht
        clear s2
        walk_at "go"
        refine r_ixL (SqL.of (S.W.cell (i := 0) rfl)) at0 ?_
        walk_at "go"
        have hmn := S.n1
        refine ⟨a1, m1, L, t, by rw [S.e1], ht, S.W.roll (i := 0) rfl, S.W.rog (i := 0) rfl, by omega, hG.things hfl8, S.W.tab, fun ho => ?_, fun e he => ?_⟩
        · refine W2.told (i := 0) rfl ho fun H3 l tt a' W3 tu ex' hl hcl hro hl3' hT3 => ?_
          have W3 : LawAt T.c_Roll T.c_Lease T.P_is_flat H0 H3 [(a', L.then m1), (a2, m2)] [(rl, .lst [.ref x1, .ref x2]), (t1, .lst (ts1.map V.ref)), (t2, .lst (ts2.map V.ref)), (bl, .lst [.ref t1, .ref t2]), (sl, .lst (zs.map V.int)), (la, .lst (allV pa tsa m2)), (pa, .lst (psa.map V.ref))] := W3
          have ht := tu _ _ ht
          have hAll := hAll.tups tu
          have T1 := S.T1.tups tu
          have T2 := S.T2.tups tu
          walk_at "go"
          refine g_tcut (fun σ' H' => ∃ v5 a1 a2 m1 m2 ts1 ts2 l1 l2, σ' = [some (.ref sa), some (.int b), some (.ref fl), some (.int day), some (.ref rl), some (.ref bl), some (.int c), some (.int 0), some (.ref t), some (.ref la), v5, none, none, none] ∧ S15 T.c_Roll T.c_Lease T.P_is_flat H0 H' x1 x2 rl t1 t2 bl sl zs (fun s => s = f0 ∨ s = f1 ∨ s = f2) b (i + 1) a1 a2 m1 m2 ts1 ts2 l1 l2 ∧ H' la = some (.lst (allV pa tsa m2)) ∧ H' pa = some (.lst (psa.map V.ref)) ∧ AllAt H' la pa psa tsa m2 day) ?_ ?_
          · walk_at "go"
            refine ⟨.ref l, .ty "tuple", _, _, false, rfl, .ty _, .base (.lst hl3'), kit_ty (by decide +kernel), ?_⟩
            walk_at "go"
            refine r_ixL (SqL.of (W3.cell (i := 3) rfl)) at0 ?_
            walk_at "go"
            refine ⟨.inl ⟨rfl, _, SqL.of (W3.cell (i := 1) rfl)⟩, ?_⟩
            walk_at "go"
            have hlt := T1.len
            rw [List.length_map] at hlt
            have hln2 := congrArg List.length S.L1
            rw [List.length_map] at hln2
            refine ⟨t1, _, _, rfl, rfl, W3.cell (i := 1) rfl, by rw [List.length_map]; exact Nat.lt_of_lt_of_le (show _ < 100000 by omega) (by decide), ?_⟩
            obtain ⟨W4, tu4⟩ := W3.appV (p := t) (i := 1) rfl
            have hla4 := W4.cell (i := 5) rfl
            have hpa4 := W4.cell (i := 6) rfl
            refine ⟨_, a', a2, L.then m1, m2, ts1 ++ [t], ts2, l1 ++ [L], l2, rfl, ?_, hla4, hpa4, hAll.tups tu4⟩
            exact S.done1 hG ho hfs ex' (W4.sub sub5) (T1.tups tu4) (T2.tups tu4) (tu4 _ _ ht)
          · clear W2 W3 S hla hpa hAll T1 T2 tu hl hcl hro hl3' hT3 hln hmn hla0 hpa0 ht ho
            rintro σ' H4 ⟨v5, a1, a2, m1, m2, ts1, ts2, l1, l2, rfl, S, hla, hpa, hAll⟩
            walk_at "gos"
            refine g_ifBH false (Same H4) (fun Q' q => ?_) (fun z => by cases z) (fun _ H9 s9 => ?_)
            · walk_at "go"
              rw [show (1 : Int) - 0 = 1 from rfl]
              refine r_ixL (SqL.of (S.W.cell (i := 0) rfl)) at1 ?_
              walk_at "go"
              refine ⟨a2, m2, day, by rw [S.e2], S.W.roll (i := 1) rfl, S.W.rog (i := 1) rfl, by have := S.n2; omega, by omega, by omega, S.F2, fun H5 lb pb psb tsb s5 hlb0 hpb0 hneb hlb hpb hAllb => ?_⟩
              have S := S.kept (Kept.of s5)
              walk_at "go"
              refine r_neDD (hAllb.dp hlb hpb (S.fl2 hfs)) ((hAll.tups (Tups.same s5)).dp (s5 _ _ hla) (s5 _ _ hpa) (S.fl2 hfs)) (dAll_shaped (S.fl2 hfs) S.F2) (dAll_lay (S.fl2 hfs) S.F2).1 ?_
              walk_at "go"
              refine r_ixL (SqL.of (S.W.cell (i := 0) rfl)) at0 ?_
              walk_at "go"
              refine ⟨a1.x, _, _, by rw [S.e1], (S.W.roll (i := 0) rfl).ob, rfl, ?_⟩
              walk_at "go"
              refine ⟨a1, m1, by rw [S.e1], S.W.roll (i := 0) rfl, fun p hp => ?_⟩
              have s6 := same_new (o := .lst (a1.ta.map V.ref)) hp
              have S := S.kept (Kept.of s6)
              walk_at "go"
              refine r_ixL (SqL.of (S.W.cell (i := 3) rfl)) at0 ?_
              refine TupsAt.ne (S.W.roll (i := 0) rfl).tp upd_same (by rw [S.L1]; exact S.T1) (S.W.cell (i := 1) rfl) (S.fl1 hfs) ?_
              walk_at "go"
              exact q _ (s5.trans s6)
            · walk_at "go"
              exact ⟨_, _, _, _, _, a1, a2, m1, m2, ts1, ts2, l1, l2, rfl, S.kept (Kept.of s9)⟩
        · have hmi := hG.mild hfs hb0 (by omega) he
          refine ⟨hmi.1, hmi.2, fun H3 tt k3 htt0 htt => ?_⟩
          have W3 := W2.kept k3
          have S := S.kept k3
          have ht := k3.keep _ _ nt_tup ht
          have hAll := hAll.tups (Tups.kept k3)
          walk_at "go"
          refine g_tcut (fun σ' H' => ∃ v5 a1 a2 m1 m2 ts1 ts2 l1 l2, σ' = [some (.ref sa), some (.int b), some (.ref fl), some (.int day), some (.ref rl), some (.ref bl), some (.int c), some (.int 0), some (.ref t), some (.ref la), v5, none, none, none] ∧ S15 T.c_Roll T.c_Lease T.P_is_flat H0 H' x1 x2 rl t1 t2 bl sl zs (fun s => s = f0 ∨ s = f1 ∨ s = f2) b (i + 1) a1 a2 m1 m2 ts1 ts2 l1 l2 ∧ H' la = some (.lst (allV pa tsa m2)) ∧ H' pa = some (.lst (psa.map V.ref)) ∧ AllAt H' la pa psa tsa m2 day) ?_ ?_
          · walk_at "go"
            refine ⟨.ref tt, .ty "tuple", _, _, true, rfl, .ty _, .base (.tup htt), kit_ty (by decide +kernel), ?_⟩
            walk_at "gos"
            refine g_ifBH false (fun H' => LawAt T.c_Roll T.c_Lease T.P_is_flat H0 H' [(a1, m1), (a2, m2)] [(rl, .lst [.ref x1, .ref x2]), (t1, .lst (ts1.map V.ref)), (t2, .lst (ts2.map V.ref)), (bl, .lst [.ref t1, .ref t2]), (sl, .lst (zs.map V.int)), (la, .lst (allV pa tsa m2)), (pa, .lst (psa.map V.ref))] ∧ Tups H3 H') (fun Q' q => ?_) (fun z => by cases z) (fun _ H4 ⟨W4, tu4⟩ => ?_)
            · walk_at "go"
              refine r_ixL (SqL.of (W3.cell (i := 3) rfl)) at0 ?_
              walk_at "go"
              refine ⟨by walk_at "sz", fun p hp => ?_⟩
              have s4 := same_new (o := .lst [V.ref t]) hp
              have hlt := S.T1.len
              rw [List.length_map] at hlt
              have hln2 := congrArg List.length S.L1
              rw [List.length_map] at hln2
              refine r_cat (s4 _ _ (W3.cell (i := 1) rfl)) upd_same (by rw [List.length_map]; exact Nat.le_trans (show _ + 1 ≤ 100000 by omega) (by decide)) fun q2 hq2 => ?_
              have e4 : ts1.map V.ref ++ [V.ref t] = (ts1 ++ [t]).map V.ref := by rw [List.map_append]; rfl
              rw [e4]
              have W4 := (W3.same s4).cellNew (u := .lst ((ts1 ++ [t]).map V.ref)) hq2 cell_lst
              have tu4 := (Tups.same s4).trans (Tups.same (same_new (o := .lst ((ts1 ++ [t]).map V.ref)) hq2))
              walk_at "go"
              refine ⟨H0, _, _, q2, ts1 ++ [t], l1 ++ [L], _, b, b + 39, 20, rfl, W4, ⟨7, rfl⟩, ?_, fun M hM => ?_, hfl8, ?_, fun hn => ?_, fun e' he' => ?_⟩
              · have q5 := TupsAt.append (.cons (tu4 _ _ ht) .nil) (S.T1.tups tu4)
                rw [List.map_append (f := Lt.vals)]
                exact q5
              · rcases List.mem_append.mp hM with z | z
                · exact S.G1 M z
                · rw [List.mem_singleton.mp z]; exact hG
              · rw [List.length_append]
                show _ + 1 ≤ _
                omega
              · rw [tellAll_app S.R1 he] at hn; cases hn
              · rw [tellAll_app S.R1 he] at he'
                cases he'
                refine ⟨hmi.1, hmi.2, fun H5 t5 W5 tu5 ht5 => ?_⟩
                walk_at "go"
                refine r_neDD (datT_dp (SqT.of ht5) (nameE_flat e)) (datT_dp (SqT.of (tu5 _ _ (tu4 _ _ htt))) (nameE_flat e)) (datT_shaped (nameE_flat e)) (datT_lay (nameE_flat e)).1 ?_
                walk_at "go"
                exact q H5 ⟨W5.sub sub7, tu4.trans tu5⟩
            · walk_at "go"
              refine ⟨_, a1, a2, m1, m2, ts1, ts2, l1, l2, rfl, (S.mv (W4.sub sub5) tu4).more, W4.cell (i := 5) rfl, W4.cell (i := 6) rfl, hAll.tups tu4⟩
          · clear W2 W3 S hla hpa hAll hln hmn hla0 hpa0 ht htt htt0 hmi he
            rintro σ' H4 ⟨v5, a1, a2, m1, m2, ts1, ts2, l1, l2, rfl, S, hla, hpa, hAll⟩
            walk_at "gos"
            refine g_ifBH false (Same H4) (fun Q' q => ?_) (fun z => by cases z) (fun _ H9 s9 => ?_)
            · walk_at "go"
              rw [show (1 : Int) - 0 = 1 from rfl]
              refine r_ixL (SqL.of (S.W.cell (i := 0) rfl)) at1 ?_
              walk_at "go"
              refine ⟨a2, m2, day, by rw [S.e2], S.W.roll (i := 1) rfl, S.W.rog (i := 1) rfl, by have := S.n2; omega, by omega, by omega, S.F2, fun H5 lb pb psb tsb s5 hlb0 hpb0 hneb hlb hpb hAllb => ?_⟩
              have S := S.kept (Kept.of s5)
              walk_at "go"
              refine r_neDD (hAllb.dp hlb hpb (S.fl2 hfs)) ((hAll.tups (Tups.same s5)).dp (s5 _ _ hla) (s5 _ _ hpa) (S.fl2 hfs)) (dAll_shaped (S.fl2 hfs) S.F2) (dAll_lay (S.fl2 hfs) S.F2).1 ?_
              walk_at "go"
              refine r_ixL (SqL.of (S.W.cell (i := 0) rfl)) at0 ?_
              walk_at "go"
              refine ⟨a1.x, _, _, by rw [S.e1], (S.W.roll (i := 0) rfl).ob, rfl, ?_⟩
              walk_at "go"
              refine ⟨a1, m1, by rw [S.e1], S.W.roll (i := 0) rfl, fun p hp => ?_⟩
              have s6 := same_new (o := .lst (a1.ta.map V.ref)) hp
              have S := S.kept (Kept.of s6)
              walk_at "go"
              refine r_ixL (SqL.of (S.W.cell (i := 3) rfl)) at0 ?_
              refine TupsAt.ne (S.W.roll (i := 0) rfl).tp upd_same (by rw [S.L1]; exact S.T1) (S.W.cell (i := 1) rfl) (S.fl1 hfs) ?_
              walk_at "go"
              exact q _ (s5.trans s6)
            · walk_at "go"
              exact ⟨_, _, _, _, _, a1, a2, m1, m2, ts1, ts2, l1, l2, rfl, S.kept (Kept.of s9)⟩
      · skip
        rw [ej]
        refine r_ixL (SqL.of (S.W.cell (i := 0) rfl)) at1 ?_
        walk_at "go"
        refine ⟨a2.x, _, _, by rw [S.e2], (S.W.roll (i := 1) rfl).ob, rfl, ?_⟩
        walk_at "go"
        refine ⟨a2, m2, by rw [S.e2], S.W.roll (i := 1) rfl, ?_⟩
        refine ⟨_, b, 40, fl, _, f0, f1, f2, rfl, sqL_kept (SqL.of hfl) S.W.old, by decide, fun L t H1 s1 ht00 ht hg0 => ?_⟩
        have S := S.kept (Kept.of s1)
        clear s1 ht00
        have hln := (S.W.rog (i := 1) rfl).ln
        have hG : GoodL (fun s => s = f0 ∨ s = f1 ∨ s = f2) b (b + 39) 20 L := by
          have q := hg0.mono (more := 20) (by split <;> omega)
          rw [show b + 40 - 1 = b + 39 by omega] at q
          exact q
        clear hg0
        walk_at "go"
        rw [show (1 : Int) - 1 = 0 from rfl]
        refine r_ixL (SqL.of (S.W.cell (i := 0) rfl)) at0 ?_
        walk_at "go"
        refine ⟨a1, m1, day, by rw [S.e1], S.W.roll (i := 0) rfl, S.W.rog (i := 0) rfl, by have := S.n1; omega, by omega, by omega, S.F1, fun H2 la pa psa tsa s2 hla0 hpa0 hne hla hpa hAll => ?_⟩
        have W2 := S.W.cells2 hla0 hpa0 hne (Kept.of s2) cell_lst cell_lst hla hpa
        have S := S.kept (Kept.of s2)
        have ht := s2 _ _ ht
        clear s2
        walk_at "go"
        refine r_ixL (SqL.of (S.W.cell (i := 0) rfl)) at1 ?_
        walk_at "go"
        have hmn := S.n2
        refine ⟨a2, m2, L, t, by rw [S.e2], ht, S.W.roll (i := 1) rfl, S.W.rog (i := 1) rfl, by omega, hG.things hfl8, S.W.tab, fun ho => ?_, fun e he => ?_⟩
        · refine W2.told (i := 1) rfl ho fun H3 l tt a' W3 tu ex' hl hcl hro hl3' hT3 => ?_
          have W3 : LawAt T.c_Roll T.c_Lease T.P_is_flat H0 H3 [(a1, m1), (a', L.then m2)] [(rl, .lst [.ref x1, .ref x2]), (t1, .lst (ts1.map V.ref)), (t2, .lst (ts2.map V.ref)), (bl, .lst [.ref t1, .ref t2]), (sl, .lst (zs.map V.int)), (la, .lst (allV pa tsa m1)), (pa, .lst (psa.map V.ref))] := W3
          have ht := tu _ _ ht
          have hAll := hAll.tups tu
          have T1 := S.T1.tups tu
          have T2 := S.T2.tups tu
          walk_at "go"
          refine g_tcut (fun σ' H' => ∃ v5 a1 a2 m1 m2 ts1 ts2 l1 l2, σ' = [some (.ref sa), some (.int b), some (.ref fl), some (.int day), some (.ref rl), some (.ref bl), some (.int c), some (.int 1), some (.ref t), some (.ref la), v5, none, none, none] ∧ S15 T.c_Roll T.c_Lease T.P_is_flat H0 H' x1 x2 rl t1 t2 bl sl zs (fun s => s = f0 ∨ s = f1 ∨ s = f2) b (i + 1) a1 a2 m1 m2 ts1 ts2 l1 l2 ∧ H' la = some (.lst (allV pa tsa m1)) ∧ H' pa = some (.lst (psa.map V.ref)) ∧ AllAt H' la pa psa tsa m1 day) ?_ ?_
          · walk_at "go"
            refine ⟨.ref l, .ty "tuple", _, _, false, rfl, .ty _, .base (.lst hl3'), kit_ty (by decide +kernel), ?_⟩
            walk_at "go"
            refine r_ixL (SqL.of (W3.cell (i := 3) rfl)) at1 ?_
            walk_at "go"
            refine ⟨.inl ⟨rfl, _, SqL.of (W3.cell (i := 2) rfl)⟩, ?_⟩
            walk_at "go"
            have hlt := T2.len
            rw [List.length_map] at hlt
            have hln2 := congrArg List.length S.L2
            rw [List.length_map] at hln2
            refine ⟨t2, _, _, rfl, rfl, W3.cell (i := 2) rfl, by rw [List.length_map]; exact Nat.lt_of_lt_of_le (show _ < 100000 by omega) (by decide), ?_⟩
            obtain ⟨W4, tu4⟩ := W3.appV (p := t) (i := 2) rfl
            have hla4 := W4.cell (i := 5) rfl
            have hpa4 := W4.cell (i := 6) rfl
            refine ⟨_, a1, a', m1, L.then m2, ts1, ts2 ++ [t], l1, l2 ++ [L], rfl, ?_, hla4, hpa4, hAll.tups tu4⟩
            exact S.done2 hG ho hfs ex' (W4.sub sub5) (T1.tups tu4) (T2.tups tu4) (tu4 _ _ ht)
          · clear W2 W3 S hla hpa hAll T1 T2 tu hl hcl hro hl3' hT3 hln hmn hla0 hpa0 ht ho
            rintro σ' H4 ⟨v5, a1, a2, m1, m2, ts1, ts2, l1, l2, rfl, S, hla, hpa, hAll⟩
            walk_at "gos"
            refine g_ifBH false (Same H4) (fun Q' q => ?_) (fun z => by cases z) (fun _ H9 s9 => ?_)
            · walk_at "go"
              rw [show (1 : Int) - 1 = 0 from rfl]
              refine r_ixL (SqL.of (S.W.cell (i := 0) rfl)) at0 ?_
              walk_at "go"
              refine ⟨a1, m1, day, by rw [S.e1], S.W.roll (i := 0) rfl, S.W.rog (i := 0) rfl, by have := S.n1; omega, by omega, by omega, S.F1, fun H5 lb pb psb tsb s5 hlb0 hpb0 hneb hlb hpb hAllb => ?_⟩
              have S := S.kept (Kept.of s5)
              walk_at "go"
              refine r_neDD (hAllb.dp hlb hpb (S.fl1 hfs)) ((hAll.tups (Tups.same s5)).dp (s5 _ _ hla) (s5 _ _ hpa) (S.fl1 hfs)) (dAll_shaped (S.fl1 hfs) S.F1) (dAll_lay (S.fl1 hfs) S.F1).1 ?_
              walk_at "go"
              refine r_ixL (SqL.of (S.W.cell (i := 0) rfl)) at1 ?_
              walk_at "go"
              refine ⟨a2.x, _, _, by rw [S.e2], (S.W.roll (i := 1) rfl).ob, rfl, ?_⟩
              walk_at "go"
              refine ⟨a2, m2, by rw [S.e2], S.W.roll (i := 1) rfl, fun p hp => ?_⟩
              have s6 := same_new (o := .lst (a2.ta.map V.ref)) hp
              have S := S.kept (Kept.of s6)
              walk_at "go"
              refine r_ixL (SqL.of (S.W.cell (i := 3) rfl)) at1 ?_
              refine TupsAt.ne (S.W.roll (i := 1) rfl).tp upd_same (by rw [S.L2]; exact S.T2) (S.W.cell (i := 2) rfl) (S.fl2 hfs) ?_
              walk_at "go"
              exact q _ (s5.trans s6)
            · walk_at "go"
              exact ⟨_, _, _, _, _, a1, a2, m1, m2, ts1, ts2, l1, l2, rfl, S.kept (Kept.of s9)⟩
        · have hmi := hG.mild hfs hb0 (by omega) he
          refine ⟨hmi.1, hmi.2, fun H3 tt k3 htt0 htt => ?_⟩
          have W3 := W2.kept k3
          have S := S.kept k3
          have ht := k3.keep _ _ nt_tup ht
          have hAll := hAll.tups (Tups.kept k3)
          walk_at "go"
          refine g_tcut (fun σ' H' => ∃ v5 a1 a2 m1 m2 ts1 ts2 l1 l2, σ' = [some (.ref sa), some (.int b), some (.ref fl), some (.int day), some (.ref rl), some (.ref bl), some (.int c), some (.int 1), some (.ref t), some (.ref la), v5, none, none, none] ∧ S15 T.c_Roll T.c_Lease T.P_is_flat H0 H' x1 x2 rl t1 t2 bl sl zs (fun s => s = f0 ∨ s = f1 ∨ s = f2) b (i + 1) a1 a2 m1 m2 ts1 ts2 l1 l2 ∧ H' la = some (.lst (allV pa tsa m1)) ∧ H' pa = some (.lst (psa.map V.ref)) ∧ AllAt H' la pa psa tsa m1 day) ?_ ?_
          · walk_at "go"
            refine ⟨.ref tt, .ty "tuple", _, _, true, rfl, .ty _, .base (.tup htt), kit_ty (by decide +kernel), ?_⟩
            walk_at "gos"
            refine g_ifBH false (fun H' => LawAt T.c_Roll T.c_Lease T.P_is_flat H0 H' [(a1, m1), (a2, m2)] [(rl, .lst [.ref x1, .ref x2]), (t1, .lst (ts1.map V.ref)), (t2, .lst (ts2.map V.ref)), (bl, .lst [.ref t1, .ref t2]), (sl, .lst (zs.map V.int)), (la, .lst (allV pa tsa m1)), (pa, .lst (psa.map V.ref))] ∧ Tups H3 H') (fun Q' q => ?_) (fun z => by cases z) (fun _ H4 ⟨W4, tu4⟩ => ?_)
            · walk_at "go"
              refine r_ixL (SqL.of (W3.cell (i := 3) rfl)) at1 ?_
              walk_at "go"
              refine ⟨by walk_at "sz", fun p hp => ?_⟩
              have s4 := same_new (o := .lst [V.ref t]) hp
              have hlt := S.T2.len
              rw [List.length_map] at hlt
              have hln2 := congrArg List.length S.L2
              rw [List.length_map] at hln2
              refine r_cat (s4 _ _ (W3.cell (i := 2) rfl)) upd_same (by rw [List.length_map]; exact Nat.le_trans (show _ + 1 ≤ 100000 by omega) (by decide)) fun q2 hq2 => ?_
              have e4 : ts2.map V.ref ++ [V.ref t] = (ts2 ++ [t]).map V.ref := by rw [List.map_append]; rfl
              rw [e4]
              have W4 := (W3.same s4).cellNew (u := .lst ((ts2 ++ [t]).map V.ref)) hq2 cell_lst
              have tu4 := (Tups.same s4).trans (Tups.same (same_new (o := .lst ((ts2 ++ [t]).map V.ref)) hq2))
              walk_at "go"
              refine ⟨H0, _, _, q2, ts2 ++ [t], l2 ++ [L], _, b, b + 39, 20, rfl, W4, ⟨7, rfl⟩, ?_, fun M hM => ?_, hfl8, ?_, fun hn => ?_, fun e' he' => ?_⟩
              · have q5 := TupsAt.append (.cons (tu4 _ _ ht) .nil) (S.T2.tups tu4)
                rw [List.map_append (f := Lt.vals)]
                exact q5
              · rcases List.mem_append.mp hM with z | z
                · exact S.G2 M z
                · rw [List.mem_singleton.mp z]; exact hG
              · rw [List.length_append]
                show _ + 1 ≤ _
                omega
              · rw [tellAll_app S.R2 he] at hn; cases hn
              · rw [tellAll_app S.R2 he] at he'
                cases he'
                refine ⟨hmi.1, hmi.2, fun H5 t5 W5 tu5 ht5 => ?_⟩
                walk_at "go"
                refine r_neDD (datT_dp (SqT.of ht5) (nameE_flat e)) (datT_dp (SqT.of (tu5 _ _ (tu4 _ _ htt))) (nameE_flat e)) (datT_shaped (nameE_flat e)) (datT_lay (nameE_flat e)).1 ?_
                walk_at "go"
                exact q H5 ⟨W5.sub sub7, tu4.trans tu5⟩
            · walk_at "go"
              refine ⟨_, a1, a2, m1, m2, ts1, ts2, l1, l2, rfl, (S.mv (W4.sub sub5) tu4).more, W4.cell (i := 5) rfl, W4.cell (i := 6) rfl, hAll.tups tu4⟩
          · clear W2 W3 S hla hpa hAll hln hmn hla0 hpa0 ht htt htt0 hmi he
            rintro σ' H4 ⟨v5, a1, a2, m1, m2, ts1, ts2, l1, l2, rfl, S, hla, hpa, hAll⟩
            walk_at "gos"
            refine g_ifBH false (Same H4) (fun Q' q => ?_) (fun z => by cases z) (fun _ H9 s9 => ?_)
            · walk_at "go"
              rw [show (1 : Int) - 1 = 0 from rfl]
              refine r_ixL (SqL.of (S.W.cell (i := 0) rfl)) at0 ?_
              walk_at "go"
              refine ⟨a1, m1, day, by rw [S.e1], S.W.roll (i := 0) rfl, S.W.rog (i := 0) rfl, by have := S.n1; omega, by omega, by omega, S.F1, fun H5 lb pb psb tsb s5 hlb0 hpb0 hneb hlb hpb hAllb => ?_⟩
              have S := S.kept (Kept.of s5)
              walk_at "go"
              refine r_neDD (hAllb.dp hlb hpb (S.fl1 hfs)) ((hAll.tups (Tups.same s5)).dp (s5 _ _ hla) (s5 _ _ hpa) (S.fl1 hfs)) (dAll_shaped (S.fl1 hfs) S.F1) (dAll_lay (S.fl1 hfs) S.F1).1 ?_
              walk_at "go"
              refine r_ixL (SqL.of (S.W.cell (i := 0) rfl)) at1 ?_
              walk_at "go"
              refine ⟨a2.x, _, _, by rw [S.e2], (S.W.roll (i := 1) rfl).ob, rfl, ?_⟩
              walk_at "go"
              refine ⟨a2, m2, by rw [S.e2], S.W.roll (i := 1) rfl, fun p hp => ?_⟩
              have s6 := same_new (o := .lst (a2.ta.map V.ref)) hp
              have S := S.kept (Kept.of s6)
              walk_at "go"
              refine r_ixL (SqL.of (S.W.cell (i := 3) rfl)) at1 ?_
              refine TupsAt.ne (S.W.roll (i := 1) rfl).tp upd_same (by rw [S.L2]; exact S.T2) (S.W.cell (i := 2) rfl) (S.fl2 hfs) ?_
              walk_at "go"
              exact q _ (s5.trans s6)
            · walk_at "go"
              exact ⟨_, _, _, _, _, a1, a2, m1, m2, ts1, ts2, l1, l2, rfl, S.kept (Kept.of s9)⟩
    · rintro σ' H' ⟨v1, v2, v3, v4, v5, a1, a2, m1, m2, ts1, ts2, l1, l2, rfl, S⟩
      rw [List.length_map] at S
      walk_at "go"
      refine g_forR1 (hi := 2) (fun _ σ' H' => ∃ v1 v2 v3 v4 v5 v6 v7 v8 a1 a2 m1 m2 ts1 ts2 l1 l2, σ' = [some (.ref sa), some (.int b), some (.ref fl), some (.int day), some (.ref rl), some (.ref bl), v1, v2, v3, v4, v5, v6, v7, v8] ∧ S15 T.c_Roll T.c_Lease T.P_is_flat H0 H' x1 x2 rl t1 t2 bl sl zs (fun s => s = f0 ∨ s = f1 ∨ s = f2) b zs.length a1 a2 m1 m2 ts1 ts2 l1 l2)
        (fun Q' q => by walk_at "go"; exact q) (by decide) ⟨_, _, _, _, _, _, _, _, a1, a2, m1, m2, ts1, ts2, l1, l2, rfl, S⟩ ?_ ?_
      · clear S
        rintro i σ' H' hi ⟨v1, v2, v3, v4, v5, v6, v7, v8, a1, a2, m1, m2, ts1, ts2, l1, l2, rfl, S⟩
        rcases (show i = 0 ∨ i = 1 by omega) with rfl | rfl
        · skip
          rw [show (0 : Int) + ((0 : Nat) : Int) = 0 from rfl]
          walk_at "go"
          refine r_ixL (SqL.of (S.W.cell (i := 0) rfl)) at0 ?_
          walk_at "go"
          refine ⟨a1.x, _, _, by rw [S.e1], (S.W.roll (i := 0) rfl).ob, rfl, ?_⟩
          walk_at "go"
          refine ⟨a1, m1, by rw [S.e1], S.W.roll (i := 0) rfl, fun h hh => ?_⟩
          have W1 := S.W.cellNew (u := .lst (a1.ta.map V.ref)) hh cell_lst
          have S := S.kept (Kept.of (same_new (o := .lst (a1.ta.map V.ref)) hh))
          have hln2 := congrArg List.length S.L1
          rw [List.length_map] at hln2
          have hmn := S.n1
          generalize upd H' h (.lst (a1.ta.map V.ref)) = H1 at W1 S ⊢
          clear hh
          walk_at "go"
          refine ⟨H0, _, _, h, a1.ta, l1, _, b, b + 39, 20, rfl, W1, ⟨5, rfl⟩, by rw [← S.L1]; exact (S.W.roll (i := 0) rfl).tp, S.G1, hfl8, by omega, fun _ H2 a3 W2 tu2 => ?_, fun e he => by rw [S.R1] at he; cases he⟩
          rw [S.R1] at W2
          have W2 : LawAt T.c_Roll T.c_Lease T.P_is_flat H0 H2 [(a1, m1), (a2, m2), (a3, m1)] [(rl, .lst [.ref x1, .ref x2]), (t1, .lst (ts1.map V.ref)), (t2, .lst (ts2.map V.ref)), (bl, .lst [.ref t1, .ref t2]), (sl, .lst (zs.map V.int)), (h, .lst (a1.ta.map V.ref))] := W2
          have S := S.mv ((W2.sub sub5).subR sub2) tu2
          clear W1 tu2
          walk_at "gos"
          refine g_ifBH false (Same H2) (fun Q' q => ?_) (fun z => by cases z) (fun _ H3 s3 => ?_)
          · walk_at "go"
            refine r_ixL (SqL.of (S.W.cell (i := 3) rfl)) at0 ?_
            refine TupsAt.ne (S.W.roll (i := 0) rfl).tp (W2.cell (i := 5) rfl) (by rw [S.L1]; exact S.T1) (S.W.cell (i := 1) rfl) (S.fl1 hfs) ?_
            walk_at "go"
            refine ⟨a3, m1, day, rfl, W2.roll (i := 2) rfl, W2.rog (i := 2) rfl, by omega, by omega, by omega, S.F1, fun H5 lb pb psb tsb s5 hlb0 hpb0 hneb hlb hpb hAllb => ?_⟩
            have S := S.kept (Kept.of s5)
            walk_at "go"
            refine r_ixL (SqL.of (S.W.cell (i := 0) rfl)) at0 ?_
            walk_at "go"
            refine ⟨a1, m1, day, by rw [S.e1], S.W.roll (i := 0) rfl, S.W.rog (i := 0) rfl, by omega, by omega, by omega, S.F1, fun H6 lc pc psc tsc s6 hlc0 hpc0 hnec hlc hpc hAllc => ?_⟩
            walk_at "go"
            refine r_neDD ((hAllb.tups (Tups.same s6)).dp (s6 _ _ hlb) (s6 _ _ hpb) (S.fl1 hfs)) (hAllc.dp hlc hpc (S.fl1 hfs)) (dAll_shaped (S.fl1 hfs) S.F1) (dAll_lay (S.fl1 hfs) S.F1).1 ?_
            walk_at "go"
            exact q _ (s5.trans s6)
          have W3 := W2.same s3
          have S := S.kept (Kept.of s3)
          clear W2 s3
          walk_at "go"
          refine ⟨.inl ⟨rfl, _, SqL.of (W3.cell (i := 5) rfl)⟩, ?_⟩
          walk_at "go"
          refine ⟨h, _, rfl, rfl, W3.cell (i := 5) rfl, ?_⟩
          obtain ⟨W4, tu4⟩ := W3.put (i := 5) (u := .lst []) rfl cell_lst
          have W4 : LawAt T.c_Roll T.c_Lease T.P_is_flat H0 _ [(a1, m1), (a2, m2), (a3, m1)] [(rl, .lst [.ref x1, .ref x2]), (t1, .lst (ts1.map V.ref)), (t2, .lst (ts2.map V.ref)), (bl, .lst [.ref t1, .ref t2]), (sl, .lst (zs.map V.int)), (h, .lst [])] := W4
          have S := S.mv ((W4.sub sub5).subR sub2) tu4
          generalize upd H3 h (.lst []) = H4 at W4 S ⊢
          clear W3 tu4
          walk_at "go"
          refine ⟨a3.x, _, _, rfl, (W4.roll (i := 2) rfl).ob, rfl, ?_⟩
          walk_at "go"
          refine ⟨a3, m1, rfl, W4.roll (i := 2) rfl, fun kp hkp => ?_⟩
          have W5 := W4.cellNew (u := .lst (a3.ta.map V.ref)) hkp cell_lst
          have S := S.kept (Kept.of (same_new (o := .lst (a3.ta.map V.ref)) hkp))
          generalize upd H4 kp (.lst (a3.ta.map V.ref)) = H5 at W5 S ⊢
          have T5 := (W5.roll (i := 2) rfl).tp
          clear W4 hkp
          walk_at "go"
          refine ⟨a3.x, _, _, rfl, (W5.roll (i := 2) rfl).ob, rfl, ?_⟩
          walk_at "go"
          have hGb : GoodL (fun s => s = f0 ∨ s = f1 ∨ s = f2) b (b + 50) 20 (.bill (.int (b + 50))) := ⟨b + 50, rfl, by omega, by omega⟩
          have hbl := S.B1
          have ho : Lt.out m1 (.bill (.int (b + 50))) = none := by
            rw [hGb.out hfs hb0 (by omega)]
            exact chk_t (decide_eq_true (show m1.billed ≤ b + 50 by omega))
          refine ⟨a3, m1, .int (b + 50), rfl, W5.roll (i := 2) rfl, W5.rog (i := 2) rfl, by omega, trivial, W5.tab, fun _ => ?_, fun e he => by rw [ho] at he; cases he⟩
          refine W5.told (i := 2) rfl ho fun H6 l tt a' W6 tu6 ex6 _ _ _ _ _ => ?_
          have W6 : LawAt T.c_Roll T.c_Lease T.P_is_flat H0 H6 [(a1, m1), (a2, m2), (a', Lt.then m1 (.bill (.int (b + 50))))] [(rl, .lst [.ref x1, .ref x2]), (t1, .lst (ts1.map V.ref)), (t2, .lst (ts2.map V.ref)), (bl, .lst [.ref t1, .ref t2]), (sl, .lst (zs.map V.int)), (h, .lst []), (kp, .lst (a3.ta.map V.ref))] := W6
          have S := S.mv ((W6.sub sub5).subR sub2) tu6
          have T5 := T5.tups tu6
          have hl5 := T5.len
          clear W5 tu6
          have hfb : FlatLs (m1.letters ++ [Lt.vals (.bill (.int (b + 50)))]) := fun vs hv => by
            rcases List.mem_append.mp hv with z | z
            · exact S.fl1 hfs vs z
            · rw [List.mem_singleton.mp z]; exact hGb.flat hfs
          walk_at "gos"
          refine g_ifBH false (Same H6) (fun Q' q => ?_) (fun z => by cases z) (fun _ H7 s7 => ?_)
          · walk_at "go"
            refine r_ixL (SqL.of (S.W.cell (i := 3) rfl)) at0 ?_
            refine TupsAt.ne T5 (W6.cell (i := 6) rfl) (by rw [S.L1]; exact S.T1) (S.W.cell (i := 1) rfl) (S.fl1 hfs) ?_
            walk_at "go"
            rw [← ex6]
            refine ⟨a'.x, _, _, rfl, (W6.roll (i := 2) rfl).ob, rfl, ?_⟩
            walk_at "go"
            refine ⟨a', _, rfl, W6.roll (i := 2) rfl, fun p hp => ?_⟩
            have s7 := same_new (o := .lst (a'.ta.map V.ref)) hp
            have hp7 : (upd H6 p (.lst (a'.ta.map V.ref))) p = _ := upd_same
            have W7 := W6.same s7
            have S := S.kept (Kept.of s7)
            have T5 := T5.tups (Tups.same s7)
            have T6 := (W7.roll (i := 2) rfl).tp
            rw [then_letters] at T6
            generalize upd H6 p (.lst (a'.ta.map V.ref)) = H7 at s7 hp7 W7 S T5 T6 ⊢
            walk_at "go"
            refine ⟨by walk_at "sz", fun t ht => ?_⟩
            walk_at "go"
            refine ⟨by walk_at "sz", fun u hu => ?_⟩
            have st := same_new (o := .tup [.str "bill", .int (b + 50)]) ht
            have su := same_new (o := .lst [.ref t]) hu
            have s8 := st.trans su
            refine r_cat (s8 _ _ (W7.cell (i := 6) rfl)) upd_same (by rw [List.length_map]; exact Nat.le_trans (show _ + 1 ≤ 100000 by omega) (by decide)) fun v hv => ?_
            have sv := s8.trans (same_new (o := .lst (a3.ta.map V.ref ++ [V.ref t])) hv)
            have T7 : TupsAt _ (a3.ta ++ [t]) (m1.letters ++ [Lt.vals (.bill (.int (b + 50)))]) := TupsAt.append (.cons ((su.trans (same_new (o := .lst (a3.ta.map V.ref ++ [V.ref t])) hv)) _ _ upd_same) .nil) (T5.tups (Tups.same sv))
            have hv9 : (upd (upd (upd H7 t (.tup [.str "bill", .int (b + 50)])) u (.lst [.ref t])) v (.lst (a3.ta.map V.ref ++ [V.ref t]))) v = some (.lst ((a3.ta ++ [t]).map V.ref)) := by rw [upd_same, List.map_append]; rfl
            have W8 := W7.same sv
            have S := S.kept (Kept.of sv)
            have hp9 := sv _ _ hp7
            have T6 := T6.tups (Tups.same sv)
            have T5 := T5.tups (Tups.same sv)
            have s9 := s7.trans sv
            clear W7 W6
            generalize upd (upd (upd H7 t (.tup [.str "bill", .int (b + 50)])) u (.lst [.ref t])) v (.lst (a3.ta.map V.ref ++ [V.ref t])) = H9 at *
            refine TupsAt.ne T6 hp9 T7 hv9 hfb ?_
            walk_at "go"
            refine r_ixL (SqL.of (S.W.cell (i := 0) rfl)) at0 ?_
            walk_at "go"
            refine ⟨a1.x, _, _, by rw [S.e1], (S.W.roll (i := 0) rfl).ob, rfl, ?_⟩
            walk_at "go"
            refine ⟨a1, m1, by rw [S.e1], S.W.roll (i := 0) rfl, fun z hz => ?_⟩
            have sz := same_new (o := .lst (a1.ta.map V.ref)) hz
            walk_at "go"
            refine TupsAt.ne ((S.W.roll (i := 0) rfl).tp.tups (Tups.same sz)) upd_same (T5.tups (Tups.same sz)) (sz _ _ (W8.cell (i := 6) rfl)) (S.fl1 hfs) ?_
            walk_at "go"
            exact q _ (s9.trans sz)
          · walk_at "go"
            exact ⟨_, _, _, _, _, _, _, _, a1, a2, m1, m2, ts1, ts2, l1, l2, rfl, S.kept (Kept.of s7)⟩
        · skip
          rw [show (0 : Int) + ((1 : Nat) : Int) = 1 from rfl]
          walk_at "go"
          refine r_ixL (SqL.of (S.W.cell (i := 0) rfl)) at1 ?_
          walk_at "go"
          refine ⟨a2.x, _, _, by rw [S.e2], (S.W.roll (i := 1) rfl).ob, rfl, ?_⟩
          walk_at "go"
          refine ⟨a2, m2, by rw [S.e2], S.W.roll (i := 1) rfl, fun h hh => ?_⟩
          have W1 := S.W.cellNew (u := .lst (a2.ta.map V.ref)) hh cell_lst
          have S := S.kept (Kept.of (same_new (o := .lst (a2.ta.map V.ref)) hh))
          have hln2 := congrArg List.length S.L2
          rw [List.length_map] at hln2
          have hmn := S.n2
          generalize upd H' h (.lst (a2.ta.map V.ref)) = H1 at W1 S ⊢
          clear hh
          walk_at "go"
          refine ⟨H0, _, _, h, a2.ta, l2, _, b, b + 39, 20, rfl, W1, ⟨5, rfl⟩, by rw [← S.L2]; exact (S.W.roll (i := 1) rfl).tp, S.G2, hfl8, by omega, fun _ H2 a3 W2 tu2 => ?_, fun e he => by rw [S.R2] at he; cases he⟩
          rw [S.R2] at W2
          have W2 : LawAt T.c_Roll T.c_Lease T.P_is_flat H0 H2 [(a1, m1), (a2, m2), (a3, m2)] [(rl, .lst [.ref x1, .ref x2]), (t1, .lst (ts1.map V.ref)), (t2, .lst (ts2.map V.ref)), (bl, .lst [.ref t1, .ref t2]), (sl, .lst (zs.map V.int)), (h, .lst (a2.ta.map V.ref))] := W2
          have S := S.mv ((W2.sub sub5).subR sub2) tu2
          clear W1 tu2
          walk_at "gos"
          refine g_ifBH false (Same H2) (fun Q' q => ?_) (fun z => by cases z) (fun _ H3 s3 => ?_)
          · walk_at "go"
            refine r_ixL (SqL.of (S.W.cell (i := 3) rfl)) at1 ?_
            refine TupsAt.ne (S.W.roll (i := 1) rfl).tp (W2.cell (i := 5) rfl) (by rw [S.L2]; exact S.T2) (S.W.cell (i := 2) rfl) (S.fl2 hfs) ?_
            walk_at "go"
            refine ⟨a3, m2, day, rfl, W2.roll (i := 2) rfl, W2.rog (i := 2) rfl, by omega, by omega, by omega, S.F2, fun H5 lb pb psb tsb s5 hlb0 hpb0 hneb hlb hpb hAllb => ?_⟩
            have S := S.kept (Kept.of s5)
            walk_at "go"
            refine r_ixL (SqL.of (S.W.cell (i := 0) rfl)) at1 ?_
            walk_at "go"
            refine ⟨a2, m2, day, by rw [S.e2], S.W.roll (i := 1) rfl, S.W.rog (i := 1) rfl, by omega, by omega, by omega, S.F2, fun H6 lc pc psc tsc s6 hlc0 hpc0 hnec hlc hpc hAllc => ?_⟩
            walk_at "go"
            refine r_neDD ((hAllb.tups (Tups.same s6)).dp (s6 _ _ hlb) (s6 _ _ hpb) (S.fl2 hfs)) (hAllc.dp hlc hpc (S.fl2 hfs)) (dAll_shaped (S.fl2 hfs) S.F2) (dAll_lay (S.fl2 hfs) S.F2).1 ?_
            walk_at "go"
            exact q _ (s5.trans s6)
          have W3 := W2.same s3
          have S := S.kept (Kept.of s3)
          clear W2 s3
          walk_at "go"
          refine ⟨.inl ⟨rfl, _, SqL.of (W3.cell (i := 5) rfl)⟩, ?_⟩
          walk_at "go"
          refine ⟨h, _, rfl, rfl, W3.cell (i := 5) rfl, ?_⟩
          obtain ⟨W4, tu4⟩ := W3.put (i := 5) (u := .lst []) rfl cell_lst
          have W4 : LawAt T.c_Roll T.c_Lease T.P_is_flat H0 _ [(a1, m1), (a2, m2), (a3, m2)] [(rl, .lst [.ref x1, .ref x2]), (t1, .lst (ts1.map V.ref)), (t2, .lst (ts2.map V.ref)), (bl, .lst [.ref t1, .ref t2]), (sl, .lst (zs.map V.int)), (h, .lst [])] := W4
          have S := S.mv ((W4.sub sub5).subR sub2) tu4
          generalize upd H3 h (.lst []) = H4 at W4 S ⊢
          clear W3 tu4
          walk_at "go"
          refine ⟨a3.x, _, _, rfl, (W4.roll (i := 2) rfl).ob, rfl, ?_⟩
          walk_at "go"
          refine ⟨a3, m2, rfl, W4.roll (i := 2) rfl, fun kp hkp => ?_⟩
          have W5 := W4.cellNew (u := .lst (a3.ta.map V.ref)) hkp cell_lst
          have S := S.kept (Kept.of (same_new (o := .lst (a3.ta.map V.ref)) hkp))
          generalize upd H4 kp (.lst (a3.ta.map V.ref)) = H5 at W5 S ⊢
          have T5 := (W5.roll (i := 2) rfl).tp
          clear W4 hkp
          walk_at "go"
          refine ⟨a3.x, _, _, rfl, (W5.roll (i := 2) rfl).ob, rfl, ?_⟩
          walk_at "go"
          have hGb : GoodL (fun s => s = f0 ∨ s = f1 ∨ s = f2) b (b + 50) 20 (.bill (.int (b + 50))) := ⟨b + 50, rfl, by omega, by omega⟩
          have hbl := S.B2
          have ho : Lt.out m2 (.bill (.int (b + 50))) = none := by
            rw [hGb.out hfs hb0 (by omega)]
            exact chk_t (decide_eq_true (show m2.billed ≤ b + 50 by omega))
          refine ⟨a3, m2, .int (b + 50), rfl, W5.roll (i := 2) rfl, W5.rog (i := 2) rfl, by omega, trivial, W5.tab, fun _ => ?_, fun e he => by rw [ho] at he; cases he⟩
          refine W5.told (i := 2) rfl ho fun H6 l tt a' W6 tu6 ex6 _ _ _ _ _ => ?_
          have W6 : LawAt T.c_Roll T.c_Lease T.P_is_flat H0 H6 [(a1, m1), (a2, m2), (a', Lt.then m2 (.bill (.int (b + 50))))] [(rl, .lst [.ref x1, .ref x2]), (t1, .lst (ts1.map V.ref)), (t2, .lst (ts2.map V.ref)), (bl, .lst [.ref t1, .ref t2]), (sl, .lst (zs.map V.int)), (h, .lst []), (kp, .lst (a3.ta.map V.ref))] := W6
          have S := S.mv ((W6.sub sub5).subR sub2) tu6
          have T5 := T5.tups tu6
          have hl5 := T5.len
          clear W5 tu6
          have hfb : FlatLs (m2.letters ++ [Lt.vals (.bill (.int (b + 50)))]) := fun vs hv => by
            rcases List.mem_append.mp hv with z | z
            · exact S.fl2 hfs vs z
            · rw [List.mem_singleton.mp z]; exact hGb.flat hfs
          walk_at "gos"
          refine g_ifBH false (Same H6) (fun Q' q => ?_) (fun z => by cases z) (fun _ H7 s7 => ?_)
          · walk_at "go"
            refine r_ixL (SqL.of (S.W.cell (i := 3) rfl)) at1 ?_
            refine TupsAt.ne T5 (W6.cell (i := 6) rfl) (by rw [S.L2]; exact S.T2) (S.W.cell (i := 2) rfl) (S.fl2 hfs) ?_
            walk_at "go"
            rw [← ex6]
            refine ⟨a'.x, _, _, rfl, (W6.roll (i := 2) rfl).ob, rfl, ?_⟩
            walk_at "go"
            refine ⟨a', _, rfl, W6.roll (i := 2) rfl, fun p hp => ?_⟩
            have s7 := same_new (o := .lst (a'.ta.map V.ref)) hp
            have hp7 : (upd H6 p (.lst (a'.ta.map V.ref))) p = _ := upd_same
            have W7 := W6.same s7
            have S := S.kept (Kept.of s7)
            have T5 := T5.tups (Tups.same s7)
            have T6 := (W7.roll (i := 2) rfl).tp
            rw [then_letters] at T6
            generalize upd H6 p (.lst (a'.ta.map V.ref)) = H7 at s7 hp7 W7 S T5 T6 ⊢
            walk_at "go"
            refine ⟨by walk_at "sz", fun t ht => ?_⟩
            walk_at "go"
            refine ⟨by walk_at "sz", fun u hu => ?_⟩
            have st := same_new (o := .tup [.str "bill", .int (b + 50)]) ht
            have su := same_new (o := .lst [.ref t]) hu
            have s8 := st.trans su
            refine r_cat (s8 _ _ (W7.cell (i := 6) rfl)) upd_same (by rw [List.length_map]; exact Nat.le_trans (show _ + 1 ≤ 100000 by omega) (by decide)) fun v hv => ?_
            have sv := s8.trans (same_new (o := .lst (a3.ta.map V.ref ++ [V.ref t])) hv)
            have T7 : TupsAt _ (a3.ta ++ [t]) (m2.letters ++ [Lt.vals (.bill (.int (b + 50)))]) := TupsAt.append (.cons ((su.trans (same_new (o := .lst (a3.ta.map V.ref ++ [V.ref t])) hv)) _ _ upd_same) .nil) (T5.tups (Tups.same sv))
            have hv9 : (upd (upd (upd H7 t (.tup [.str "bill", .int (b + 50)])) u (.lst [.ref t])) v (.lst (a3.ta.map V.ref ++ [V.ref t]))) v = some (.lst ((a3.ta ++ [t]).map V.ref)) := by rw [upd_same, List.map_append]; rfl
            have W8 := W7.same sv
            have S := S.kept (Kept.of sv)
            have hp9 := sv _ _ hp7
            have T6 := T6.tups (Tups.same sv)
            have T5 := T5.tups (Tups.same sv)
            have s9 := s7.trans sv
            clear W7 W6
            generalize upd (upd (upd H7 t (.tup [.str "bill", .int (b + 50)])) u (.lst [.ref t])) v (.lst (a3.ta.map V.ref ++ [V.ref t])) = H9 at *
            refine TupsAt.ne T6 hp9 T7 hv9 hfb ?_
            walk_at "go"
            refine r_ixL (SqL.of (S.W.cell (i := 0) rfl)) at1 ?_
            walk_at "go"
            refine ⟨a2.x, _, _, by rw [S.e2], (S.W.roll (i := 1) rfl).ob, rfl, ?_⟩
            walk_at "go"
            refine ⟨a2, m2, by rw [S.e2], S.W.roll (i := 1) rfl, fun z hz => ?_⟩
            have sz := same_new (o := .lst (a2.ta.map V.ref)) hz
            walk_at "go"
            refine TupsAt.ne ((S.W.roll (i := 1) rfl).tp.tups (Tups.same sz)) upd_same (T5.tups (Tups.same sz)) (sz _ _ (W8.cell (i := 6) rfl)) (S.fl2 hfs) ?_
            walk_at "go"
            exact q _ (s9.trans sz)
          · walk_at "go"
            exact ⟨_, _, _, _, _, _, _, _, a1, a2, m1, m2, ts1, ts2, l1, l2, rfl, S.kept (Kept.of s7)⟩
      · rintro σ' H' ⟨v1, v2, v3, v4, v5, v6, v7, v8, a1, a2, m1, m2, ts1, ts2, l1, l2, rfl, S⟩
        walk_at "go"
        exact k _
end
theorem all_mk {P : Program} {w : World} {K : PySem.W.Frag} {h : Heap} {mg : Str → Option Value} {fa : Addr} (X : K.In h) (G : h.Ns mainGlobals mg) (hfa : mg "law" = some (.ref fa))
    (tab : ∀ (x : Str) (c P : Addr), x = "_is_flat" → PySem.W.tabIn K x = some (c, P) → PySem.W.CodeHd h c P ∧ h.get? P = some (PySem.W.tabObj #[]))
    {c_RentError : Addr}
    {c_BadDay : Addr}
    {c_BadFlat : Addr}
    {c_BadAmount : Addr}
    {c_NoLease : Addr}
    {c_Taken : Addr}
    {c_Full : Addr}
    {c_Done : Addr}
    {c_Lease : Addr}
    {c_Roll : Addr}
    {f_is_whole : Addr} {od_is_whole an_is_whole : Option Addr} {sl_is_whole : Array (Option Value)} {oc_is_whole kV_is_whole dc_is_whole pm_is_whole cd_is_whole ct_is_whole : Value}
    {f_is_within : Addr} {od_is_within an_is_within : Option Addr} {sl_is_within : Array (Option Value)} {oc_is_within kV_is_within dc_is_within pm_is_within cd_is_within ct_is_within : Value}
    {f_check_day : Addr} {od_check_day an_check_day : Option Addr} {sl_check_day : Array (Option Value)} {oc_check_day kV_check_day dc_check_day pm_check_day cd_check_day ct_check_day : Value}
    {f_month_days : Addr} {od_month_days an_month_days : Option Addr} {sl_month_days : Array (Option Value)} {oc_month_days kV_month_days dc_month_days pm_month_days cd_month_days ct_month_days : Value}
    {f_month_of : Addr} {od_month_of an_month_of : Option Addr} {sl_month_of : Array (Option Value)} {oc_month_of kV_month_of dc_month_of pm_month_of cd_month_of ct_month_of : Value}
    {f_is_leap : Addr} {od_is_leap an_is_leap : Option Addr} {sl_is_leap : Array (Option Value)} {oc_is_leap kV_is_leap dc_is_leap pm_is_leap cd_is_leap ct_is_leap : Value}
    {f_length : Addr} {od_length an_length : Option Addr} {sl_length : Array (Option Value)} {oc_length kV_length dc_length pm_length cd_length ct_length : Value}
    {f_year_start : Addr} {od_year_start an_year_start : Option Addr} {sl_year_start : Array (Option Value)} {oc_year_start kV_year_start dc_year_start pm_year_start cd_year_start ct_year_start : Value}
    {f_check_flat : Addr} {od_check_flat an_check_flat : Option Addr} {sl_check_flat : Array (Option Value)} {oc_check_flat kV_check_flat dc_check_flat pm_check_flat cd_check_flat ct_check_flat : Value}
    {f_check_amount : Addr} {od_check_amount an_check_amount : Option Addr} {sl_check_amount : Array (Option Value)} {oc_check_amount kV_check_amount dc_check_amount pm_check_amount cd_check_amount ct_check_amount : Value}
    {f_is_flat kc_is_flat kP_is_flat : Addr} {od_is_flat an_is_flat : Option Addr} {sl_is_flat sc_is_flat : Array (Option Value)} {oc_is_flat kV_is_flat dc_is_flat pm_is_flat ct_is_flat ko_is_flat : Value} {kd_is_flat : Option Addr} {kv_is_flat : Array Value}
    {f_in_order : Addr} {od_in_order an_in_order : Option Addr} {sl_in_order : Array (Option Value)} {oc_in_order kV_in_order dc_in_order pm_in_order cd_in_order ct_in_order : Value}
    {f_spans : Addr} {od_spans an_spans : Option Addr} {sl_spans : Array (Option Value)} {oc_spans kV_spans dc_spans pm_spans cd_spans ct_spans : Value}
    {f_balance : Addr} {od_balance an_balance : Option Addr} {sl_balance : Array (Option Value)} {oc_balance kV_balance dc_balance pm_balance cd_balance ct_balance : Value}
    {f_grown : Addr} {od_grown an_grown : Option Addr} {sl_grown : Array (Option Value)} {oc_grown kV_grown dc_grown pm_grown cd_grown ct_grown : Value}
    {f_balances : Addr} {od_balances an_balances : Option Addr} {sl_balances : Array (Option Value)} {oc_balances kV_balances dc_balances pm_balances cd_balances ct_balances : Value}
    {f_pair_held : Addr} {od_pair_held an_pair_held : Option Addr} {sl_pair_held : Array (Option Value)} {oc_pair_held kV_pair_held dc_pair_held pm_pair_held cd_pair_held ct_pair_held : Value}
    {f_held : Addr} {od_held an_held : Option Addr} {sl_held : Array (Option Value)} {oc_held kV_held dc_held pm_held cd_held ct_held : Value}
    {f_owed : Addr} {od_owed an_owed : Option Addr} {sl_owed : Array (Option Value)} {oc_owed kV_owed dc_owed pm_owed cd_owed ct_owed : Value}
    {f_parts : Addr} {od_parts an_parts : Option Addr} {sl_parts : Array (Option Value)} {oc_parts kV_parts dc_parts pm_parts cd_parts ct_parts : Value}
    {f_parts_through : Addr} {od_parts_through an_parts_through : Option Addr} {sl_parts_through : Array (Option Value)} {oc_parts_through kV_parts_through dc_parts_through pm_parts_through cd_parts_through ct_parts_through : Value}
    {f_Lease_init : Addr} {od_Lease_init an_Lease_init : Option Addr} {sl_Lease_init : Array (Option Value)} {oc_Lease_init kV_Lease_init dc_Lease_init pm_Lease_init cd_Lease_init ct_Lease_init : Value}
    {f_Lease_lasts_to : Addr} {od_Lease_lasts_to an_Lease_lasts_to : Option Addr} {sl_Lease_lasts_to : Array (Option Value)} {oc_Lease_lasts_to kV_Lease_lasts_to dc_Lease_lasts_to pm_Lease_lasts_to cd_Lease_lasts_to ct_Lease_lasts_to : Value}
    {f_Lease_owed_through : Addr} {od_Lease_owed_through an_Lease_owed_through : Option Addr} {sl_Lease_owed_through : Array (Option Value)} {oc_Lease_owed_through kV_Lease_owed_through dc_Lease_owed_through pm_Lease_owed_through cd_Lease_owed_through ct_Lease_owed_through : Value}
    {f_Lease_pledge_through : Addr} {od_Lease_pledge_through an_Lease_pledge_through : Option Addr} {sl_Lease_pledge_through : Array (Option Value)} {oc_Lease_pledge_through kV_Lease_pledge_through dc_Lease_pledge_through pm_Lease_pledge_through cd_Lease_pledge_through ct_Lease_pledge_through : Value}
    {f_Roll_init : Addr} {od_Roll_init an_Roll_init : Option Addr} {sl_Roll_init : Array (Option Value)} {oc_Roll_init kV_Roll_init dc_Roll_init pm_Roll_init cd_Roll_init ct_Roll_init : Value}
    {f_Roll_let : Addr} {od_Roll_let an_Roll_let : Option Addr} {sl_Roll_let : Array (Option Value)} {oc_Roll_let kV_Roll_let dc_Roll_let pm_Roll_let cd_Roll_let ct_Roll_let : Value}
    {f_Roll_end : Addr} {od_Roll_end an_Roll_end : Option Addr} {sl_Roll_end : Array (Option Value)} {oc_Roll_end kV_Roll_end dc_Roll_end pm_Roll_end cd_Roll_end ct_Roll_end : Value}
    {f_Roll_step : Addr} {od_Roll_step an_Roll_step : Option Addr} {sl_Roll_step : Array (Option Value)} {oc_Roll_step kV_Roll_step dc_Roll_step pm_Roll_step cd_Roll_step ct_Roll_step : Value}
    {f_Roll_gauge : Addr} {od_Roll_gauge an_Roll_gauge : Option Addr} {sl_Roll_gauge : Array (Option Value)} {oc_Roll_gauge kV_Roll_gauge dc_Roll_gauge pm_Roll_gauge cd_Roll_gauge ct_Roll_gauge : Value}
    {f_Roll_rate : Addr} {od_Roll_rate an_Roll_rate : Option Addr} {sl_Roll_rate : Array (Option Value)} {oc_Roll_rate kV_Roll_rate dc_Roll_rate pm_Roll_rate cd_Roll_rate ct_Roll_rate : Value}
    {f_Roll_paid : Addr} {od_Roll_paid an_Roll_paid : Option Addr} {sl_Roll_paid : Array (Option Value)} {oc_Roll_paid kV_Roll_paid dc_Roll_paid pm_Roll_paid cd_Roll_paid ct_Roll_paid : Value}
    {f_Roll_kept : Addr} {od_Roll_kept an_Roll_kept : Option Addr} {sl_Roll_kept : Array (Option Value)} {oc_Roll_kept kV_Roll_kept dc_Roll_kept pm_Roll_kept cd_Roll_kept ct_Roll_kept : Value}
    {f_Roll_close : Addr} {od_Roll_close an_Roll_close : Option Addr} {sl_Roll_close : Array (Option Value)} {oc_Roll_close kV_Roll_close dc_Roll_close pm_Roll_close cd_Roll_close ct_Roll_close : Value}
    {f_Roll_bill : Addr} {od_Roll_bill an_Roll_bill : Option Addr} {sl_Roll_bill : Array (Option Value)} {oc_Roll_bill kV_Roll_bill dc_Roll_bill pm_Roll_bill cd_Roll_bill ct_Roll_bill : Value}
    {f_Roll_many : Addr} {od_Roll_many an_Roll_many : Option Addr} {sl_Roll_many : Array (Option Value)} {oc_Roll_many kV_Roll_many dc_Roll_many pm_Roll_many cd_Roll_many ct_Roll_many : Value}
    {f_Roll_billed : Addr} {od_Roll_billed an_Roll_billed : Option Addr} {sl_Roll_billed : Array (Option Value)} {oc_Roll_billed kV_Roll_billed dc_Roll_billed pm_Roll_billed cd_Roll_billed ct_Roll_billed : Value}
    {f_Roll_lease : Addr} {od_Roll_lease an_Roll_lease : Option Addr} {sl_Roll_lease : Array (Option Value)} {oc_Roll_lease kV_Roll_lease dc_Roll_lease pm_Roll_lease cd_Roll_lease ct_Roll_lease : Value}
    {f_Roll_owed : Addr} {od_Roll_owed an_Roll_owed : Option Addr} {sl_Roll_owed : Array (Option Value)} {oc_Roll_owed kV_Roll_owed dc_Roll_owed pm_Roll_owed cd_Roll_owed ct_Roll_owed : Value}
    {f_Roll_pledge : Addr} {od_Roll_pledge an_Roll_pledge : Option Addr} {sl_Roll_pledge : Array (Option Value)} {oc_Roll_pledge kV_Roll_pledge dc_Roll_pledge pm_Roll_pledge cd_Roll_pledge ct_Roll_pledge : Value}
    {f_Roll_sent : Addr} {od_Roll_sent an_Roll_sent : Option Addr} {sl_Roll_sent : Array (Option Value)} {oc_Roll_sent kV_Roll_sent dc_Roll_sent pm_Roll_sent cd_Roll_sent ct_Roll_sent : Value}
    {f_Roll_given : Addr} {od_Roll_given an_Roll_given : Option Addr} {sl_Roll_given : Array (Option Value)} {oc_Roll_given kV_Roll_given dc_Roll_given pm_Roll_given cd_Roll_given ct_Roll_given : Value}
    {f_Roll_letters : Addr} {od_Roll_letters an_Roll_letters : Option Addr} {sl_Roll_letters : Array (Option Value)} {oc_Roll_letters kV_Roll_letters dc_Roll_letters pm_Roll_letters cd_Roll_letters ct_Roll_letters : Value}
    {f_Roll__known : Addr} {od_Roll__known an_Roll__known : Option Addr} {sl_Roll__known : Array (Option Value)} {oc_Roll__known kV_Roll__known dc_Roll__known pm_Roll__known cd_Roll__known ct_Roll__known : Value}
    {f_Roll__check_free : Addr} {od_Roll__check_free an_Roll__check_free : Option Addr} {sl_Roll__check_free : Array (Option Value)} {oc_Roll__check_free kV_Roll__check_free dc_Roll__check_free pm_Roll__check_free cd_Roll__check_free ct_Roll__check_free : Value}
    {f_Roll__check_end : Addr} {od_Roll__check_end an_Roll__check_end : Option Addr} {sl_Roll__check_end : Array (Option Value)} {oc_Roll__check_end kV_Roll__check_end dc_Roll__check_end pm_Roll__check_end cd_Roll__check_end ct_Roll__check_end : Value}
    {f_Roll__move : Addr} {od_Roll__move an_Roll__move : Option Addr} {sl_Roll__move : Array (Option Value)} {oc_Roll__move kV_Roll__move dc_Roll__move pm_Roll__move cd_Roll__move ct_Roll__move : Value}
    {f_Roll__done : Addr} {od_Roll__done an_Roll__done : Option Addr} {sl_Roll__done : Array (Option Value)} {oc_Roll__done kV_Roll__done dc_Roll__done pm_Roll__done cd_Roll__done ct_Roll__done : Value}
    {f_roll_of : Addr} {od_roll_of an_roll_of : Option Addr} {sl_roll_of : Array (Option Value)} {oc_roll_of kV_roll_of dc_roll_of pm_roll_of cd_roll_of ct_roll_of : Value}
    {f_tell : Addr} {od_tell an_tell : Option Addr} {sl_tell : Array (Option Value)} {oc_tell kV_tell dc_tell pm_tell cd_tell ct_tell : Value}
    {f_l_cell_at : Addr} {od_l_cell_at an_l_cell_at : Option Addr} {sl_l_cell_at : Array (Option Value)} {oc_l_cell_at kV_l_cell_at dc_l_cell_at pm_l_cell_at cd_l_cell_at ct_l_cell_at : Value}
    {f_l_mix : Addr} {od_l_mix an_l_mix : Option Addr} {sl_l_mix : Array (Option Value)} {oc_l_mix kV_l_mix dc_l_mix pm_l_mix cd_l_mix ct_l_mix : Value}
    {f_l_base : Addr} {od_l_base an_l_base : Option Addr} {sl_l_base : Array (Option Value)} {oc_l_base kV_l_base dc_l_base pm_l_base cd_l_base ct_l_base : Value}
    {f_l_money : Addr} {od_l_money an_l_money : Option Addr} {sl_l_money : Array (Option Value)} {oc_l_money kV_l_money dc_l_money pm_l_money cd_l_money ct_l_money : Value}
    {f_l_number : Addr} {od_l_number an_l_number : Option Addr} {sl_l_number : Array (Option Value)} {oc_l_number kV_l_number dc_l_number pm_l_number cd_l_number ct_l_number : Value}
    {f_l_flats : Addr} {od_l_flats an_l_flats : Option Addr} {sl_l_flats : Array (Option Value)} {oc_l_flats kV_l_flats dc_l_flats pm_l_flats cd_l_flats ct_l_flats : Value}
    {f_l_letter : Addr} {od_l_letter an_l_letter : Option Addr} {sl_l_letter : Array (Option Value)} {oc_l_letter kV_l_letter dc_l_letter pm_l_letter cd_l_letter ct_l_letter : Value}
    {f_l_do : Addr} {od_l_do an_l_do : Option Addr} {sl_l_do : Array (Option Value)} {oc_l_do kV_l_do dc_l_do pm_l_do cd_l_do ct_l_do : Value}
    {f_l_told : Addr} {od_l_told an_l_told : Option Addr} {sl_l_told : Array (Option Value)} {oc_l_told kV_l_told dc_l_told pm_l_told cd_l_told ct_l_told : Value}
    {f_l_room : Addr} {od_l_room an_l_room : Option Addr} {sl_l_room : Array (Option Value)} {oc_l_room kV_l_room dc_l_room pm_l_room cd_l_room ct_l_room : Value}
    {f_l_all : Addr} {od_l_all an_l_all : Option Addr} {sl_l_all : Array (Option Value)} {oc_l_all kV_l_all dc_l_all pm_l_all cd_l_all ct_l_all : Value}
    {f_l_again : Addr} {od_l_again an_l_again : Option Addr} {sl_l_again : Array (Option Value)} {oc_l_again kV_l_again dc_l_again pm_l_again cd_l_again ct_l_again : Value}
    {f_law : Addr} {od_law an_law : Option Addr} {sl_law : Array (Option Value)} {oc_law kV_law dc_law pm_law cd_law ct_law : Value}
    {tk_FIRST_YEAR : Tok}
    {tk_LAST_YEAR : Tok}
    {tk_LAST_DAY : Tok}
    {tk_LONGEST_YEAR : Tok}
    {o_LENGTHS : Addr} {t0_LENGTHS t1_LENGTHS t2_LENGTHS t3_LENGTHS t4_LENGTHS t5_LENGTHS t6_LENGTHS t7_LENGTHS t8_LENGTHS t9_LENGTHS t10_LENGTHS t11_LENGTHS : Tok} {dd_LENGTHS : Option Addr} {nn_LENGTHS : Nat} {ss_LENGTHS : Array (Option Value)}
    {tk_LONGEST_FLAT : Tok}
    {tk_WHOLE : Tok}
    {o_STEADY io_STEADY : Addr} {t0_STEADY t1_STEADY : Tok} {dd_STEADY di_STEADY : Option Addr} {nn_STEADY ni_STEADY : Nat} {ss_STEADY si_STEADY : Array (Option Value)}
    {tk_MOST_LEASES : Tok}
    {tk_MOST_CENTS : Tok}
    {tk_MOST_GAUGE : Tok}
    {tk_MOST_RATE : Tok}
    (a_RentError : PySem.W.nsIn K mainGlobals "RentError" = some (some (.ref c_RentError)))
    (a_BadDay : PySem.W.nsIn K mainGlobals "BadDay" = some (some (.ref c_BadDay)))
    (a_BadFlat : PySem.W.nsIn K mainGlobals "BadFlat" = some (some (.ref c_BadFlat)))
    (a_BadAmount : PySem.W.nsIn K mainGlobals "BadAmount" = some (some (.ref c_BadAmount)))
    (a_NoLease : PySem.W.nsIn K mainGlobals "NoLease" = some (some (.ref c_NoLease)))
    (a_Taken : PySem.W.nsIn K mainGlobals "Taken" = some (some (.ref c_Taken)))
    (a_Full : PySem.W.nsIn K mainGlobals "Full" = some (some (.ref c_Full)))
    (a_Done : PySem.W.nsIn K mainGlobals "Done" = some (some (.ref c_Done)))
    (a_Lease : PySem.W.nsIn K mainGlobals "Lease" = some (some (.ref c_Lease)))
    (a_Roll : PySem.W.nsIn K mainGlobals "Roll" = some (some (.ref c_Roll)))
    (a_is_whole : PySem.W.nsIn K mainGlobals "is_whole" = some (some (.ref f_is_whole)))
    (l_is_whole : K.lookup f_is_whole = some ⟨oc_is_whole, od_is_whole, .func (PySem.W.fnOf "is_whole" "is_whole" (defArgs s_is_whole) (defBody s_is_whole) (defScope s_is_whole) .none kV_is_whole dc_is_whole pm_is_whole an_is_whole cd_is_whole ct_is_whole), sl_is_whole⟩)
    (cc_is_whole : PySem.W.codeIn K cd_is_whole "is_whole" = true)
    (k_is_whole : PySem.W.keepIn K (.ref f_is_whole) = true)
    (a_is_within : PySem.W.nsIn K mainGlobals "is_within" = some (some (.ref f_is_within)))
    (l_is_within : K.lookup f_is_within = some ⟨oc_is_within, od_is_within, .func (PySem.W.fnOf "is_within" "is_within" (defArgs s_is_within) (defBody s_is_within) (defScope s_is_within) .none kV_is_within dc_is_within pm_is_within an_is_within cd_is_within ct_is_within), sl_is_within⟩)
    (cc_is_within : PySem.W.codeIn K cd_is_within "is_within" = true)
    (k_is_within : PySem.W.keepIn K (.ref f_is_within) = true)
    (a_check_day : PySem.W.nsIn K mainGlobals "check_day" = some (some (.ref f_check_day)))
    (l_check_day : K.lookup f_check_day = some ⟨oc_check_day, od_check_day, .func (PySem.W.fnOf "check_day" "check_day" (defArgs s_check_day) (defBody s_check_day) (defScope s_check_day) .none kV_check_day dc_check_day pm_check_day an_check_day cd_check_day ct_check_day), sl_check_day⟩)
    (cc_check_day : PySem.W.codeIn K cd_check_day "check_day" = true)
    (k_check_day : PySem.W.keepIn K (.ref f_check_day) = true)
    (a_month_days : PySem.W.nsIn K mainGlobals "month_days" = some (some (.ref f_month_days)))
    (l_month_days : K.lookup f_month_days = some ⟨oc_month_days, od_month_days, .func (PySem.W.fnOf "month_days" "month_days" (defArgs s_month_days) (defBody s_month_days) (defScope s_month_days) .none kV_month_days dc_month_days pm_month_days an_month_days cd_month_days ct_month_days), sl_month_days⟩)
    (cc_month_days : PySem.W.codeIn K cd_month_days "month_days" = true)
    (k_month_days : PySem.W.keepIn K (.ref f_month_days) = true)
    (a_month_of : PySem.W.nsIn K mainGlobals "month_of" = some (some (.ref f_month_of)))
    (l_month_of : K.lookup f_month_of = some ⟨oc_month_of, od_month_of, .func (PySem.W.fnOf "month_of" "month_of" (defArgs s_month_of) (defBody s_month_of) (defScope s_month_of) .none kV_month_of dc_month_of pm_month_of an_month_of cd_month_of ct_month_of), sl_month_of⟩)
    (cc_month_of : PySem.W.codeIn K cd_month_of "month_of" = true)
    (k_month_of : PySem.W.keepIn K (.ref f_month_of) = true)
    (a_is_leap : PySem.W.nsIn K mainGlobals "_is_leap" = some (some (.ref f_is_leap)))
    (l_is_leap : K.lookup f_is_leap = some ⟨oc_is_leap, od_is_leap, .func (PySem.W.fnOf "_is_leap" "_is_leap" (defArgs s_is_leap) (defBody s_is_leap) (defScope s_is_leap) .none kV_is_leap dc_is_leap pm_is_leap an_is_leap cd_is_leap ct_is_leap), sl_is_leap⟩)
    (cc_is_leap : PySem.W.codeIn K cd_is_leap "_is_leap" = true)
    (k_is_leap : PySem.W.keepIn K (.ref f_is_leap) = true)
    (a_length : PySem.W.nsIn K mainGlobals "_length" = some (some (.ref f_length)))
    (l_length : K.lookup f_length = some ⟨oc_length, od_length, .func (PySem.W.fnOf "_length" "_length" (defArgs s_length) (defBody s_length) (defScope s_length) .none kV_length dc_length pm_length an_length cd_length ct_length), sl_length⟩)
    (cc_length : PySem.W.codeIn K cd_length "_length" = true)
    (k_length : PySem.W.keepIn K (.ref f_length) = true)
    (a_year_start : PySem.W.nsIn K mainGlobals "_year_start" = some (some (.ref f_year_start)))
    (l_year_start : K.lookup f_year_start = some ⟨oc_year_start, od_year_start, .func (PySem.W.fnOf "_year_start" "_year_start" (defArgs s_year_start) (defBody s_year_start) (defScope s_year_start) .none kV_year_start dc_year_start pm_year_start an_year_start cd_year_start ct_year_start), sl_year_start⟩)
    (cc_year_start : PySem.W.codeIn K cd_year_start "_year_start" = true)
    (k_year_start : PySem.W.keepIn K (.ref f_year_start) = true)
    (a_check_flat : PySem.W.nsIn K mainGlobals "check_flat" = some (some (.ref f_check_flat)))
    (l_check_flat : K.lookup f_check_flat = some ⟨oc_check_flat, od_check_flat, .func (PySem.W.fnOf "check_flat" "check_flat" (defArgs s_check_flat) (defBody s_check_flat) (defScope s_check_flat) .none kV_check_flat dc_check_flat pm_check_flat an_check_flat cd_check_flat ct_check_flat), sl_check_flat⟩)
    (cc_check_flat : PySem.W.codeIn K cd_check_flat "check_flat" = true)
    (k_check_flat : PySem.W.keepIn K (.ref f_check_flat) = true)
    (a_check_amount : PySem.W.nsIn K mainGlobals "check_amount" = some (some (.ref f_check_amount)))
    (l_check_amount : K.lookup f_check_amount = some ⟨oc_check_amount, od_check_amount, .func (PySem.W.fnOf "check_amount" "check_amount" (defArgs s_check_amount) (defBody s_check_amount) (defScope s_check_amount) .none kV_check_amount dc_check_amount pm_check_amount an_check_amount cd_check_amount ct_check_amount), sl_check_amount⟩)
    (cc_check_amount : PySem.W.codeIn K cd_check_amount "check_amount" = true)
    (k_check_amount : PySem.W.keepIn K (.ref f_check_amount) = true)
    (a_is_flat : PySem.W.nsIn K mainGlobals "_is_flat" = some (some (.ref f_is_flat)))
    (l_is_flat : K.lookup f_is_flat = some ⟨oc_is_flat, od_is_flat, .func (PySem.W.fnOf "_is_flat" "_is_flat" (defArgs s_is_flat) (defBody s_is_flat) (defScope s_is_flat) .none kV_is_flat dc_is_flat pm_is_flat an_is_flat (.ref kc_is_flat) ct_is_flat), sl_is_flat⟩)
    (cc_is_flat : PySem.W.codeIn K (.ref kc_is_flat) "_is_flat" = true)
    (kl_is_flat : K.lookup kc_is_flat = some ⟨ko_is_flat, kd_is_flat, .fields kv_is_flat, sc_is_flat⟩)
    (kv11_is_flat : (kv_is_flat[11]? : Option Value) = some (.ref kP_is_flat))
    (kn_is_flat : K.lookup kP_is_flat = none)
    (k_is_flat : PySem.W.keepIn K (.ref f_is_flat) = true)
    (a_in_order : PySem.W.nsIn K mainGlobals "in_order" = some (some (.ref f_in_order)))
    (l_in_order : K.lookup f_in_order = some ⟨oc_in_order, od_in_order, .func (PySem.W.fnOf "in_order" "in_order" (defArgs s_in_order) (defBody s_in_order) (defScope s_in_order) .none kV_in_order dc_in_order pm_in_order an_in_order cd_in_order ct_in_order), sl_in_order⟩)
    (cc_in_order : PySem.W.codeIn K cd_in_order "in_order" = true)
    (k_in_order : PySem.W.keepIn K (.ref f_in_order) = true)
    (a_spans : PySem.W.nsIn K mainGlobals "spans" = some (some (.ref f_spans)))
    (l_spans : K.lookup f_spans = some ⟨oc_spans, od_spans, .func (PySem.W.fnOf "spans" "spans" (defArgs s_spans) (defBody s_spans) (defScope s_spans) .none kV_spans dc_spans pm_spans an_spans cd_spans ct_spans), sl_spans⟩)
    (cc_spans : PySem.W.codeIn K cd_spans "spans" = true)
    (k_spans : PySem.W.keepIn K (.ref f_spans) = true)
    (a_balance : PySem.W.nsIn K mainGlobals "balance" = some (some (.ref f_balance)))
    (l_balance : K.lookup f_balance = some ⟨oc_balance, od_balance, .func (PySem.W.fnOf "balance" "balance" (defArgs s_balance) (defBody s_balance) (defScope s_balance) .none kV_balance dc_balance pm_balance an_balance cd_balance ct_balance), sl_balance⟩)
    (cc_balance : PySem.W.codeIn K cd_balance "balance" = true)
    (k_balance : PySem.W.keepIn K (.ref f_balance) = true)
    (a_grown : PySem.W.nsIn K mainGlobals "grown" = some (some (.ref f_grown)))
    (l_grown : K.lookup f_grown = some ⟨oc_grown, od_grown, .func (PySem.W.fnOf "grown" "grown" (defArgs s_grown) (defBody s_grown) (defScope s_grown) .none kV_grown dc_grown pm_grown an_grown cd_grown ct_grown), sl_grown⟩)
    (cc_grown : PySem.W.codeIn K cd_grown "grown" = true)
    (k_grown : PySem.W.keepIn K (.ref f_grown) = true)
    (a_balances : PySem.W.nsIn K mainGlobals "_balances" = some (some (.ref f_balances)))
    (l_balances : K.lookup f_balances = some ⟨oc_balances, od_balances, .func (PySem.W.fnOf "_balances" "_balances" (defArgs s_balances) (defBody s_balances) (defScope s_balances) .none kV_balances dc_balances pm_balances an_balances cd_balances ct_balances), sl_balances⟩)
    (cc_balances : PySem.W.codeIn K cd_balances "_balances" = true)
    (k_balances : PySem.W.keepIn K (.ref f_balances) = true)
    (a_pair_held : PySem.W.nsIn K mainGlobals "pair_held" = some (some (.ref f_pair_held)))
    (l_pair_held : K.lookup f_pair_held = some ⟨oc_pair_held, od_pair_held, .func (PySem.W.fnOf "pair_held" "pair_held" (defArgs s_pair_held) (defBody s_pair_held) (defScope s_pair_held) .none kV_pair_held dc_pair_held pm_pair_held an_pair_held cd_pair_held ct_pair_held), sl_pair_held⟩)
    (cc_pair_held : PySem.W.codeIn K cd_pair_held "pair_held" = true)
    (k_pair_held : PySem.W.keepIn K (.ref f_pair_held) = true)
    (a_held : PySem.W.nsIn K mainGlobals "held" = some (some (.ref f_held)))
    (l_held : K.lookup f_held = some ⟨oc_held, od_held, .func (PySem.W.fnOf "held" "held" (defArgs s_held) (defBody s_held) (defScope s_held) .none kV_held dc_held pm_held an_held cd_held ct_held), sl_held⟩)
    (cc_held : PySem.W.codeIn K cd_held "held" = true)
    (k_held : PySem.W.keepIn K (.ref f_held) = true)
    (a_owed : PySem.W.nsIn K mainGlobals "owed" = some (some (.ref f_owed)))
    (l_owed : K.lookup f_owed = some ⟨oc_owed, od_owed, .func (PySem.W.fnOf "owed" "owed" (defArgs s_owed) (defBody s_owed) (defScope s_owed) .none kV_owed dc_owed pm_owed an_owed cd_owed ct_owed), sl_owed⟩)
    (cc_owed : PySem.W.codeIn K cd_owed "owed" = true)
    (k_owed : PySem.W.keepIn K (.ref f_owed) = true)
    (a_parts : PySem.W.nsIn K mainGlobals "_parts" = some (some (.ref f_parts)))
    (l_parts : K.lookup f_parts = some ⟨oc_parts, od_parts, .func (PySem.W.fnOf "_parts" "_parts" (defArgs s_parts) (defBody s_parts) (defScope s_parts) .none kV_parts dc_parts pm_parts an_parts cd_parts ct_parts), sl_parts⟩)
    (cc_parts : PySem.W.codeIn K cd_parts "_parts" = true)
    (k_parts : PySem.W.keepIn K (.ref f_parts) = true)
    (a_parts_through : PySem.W.nsIn K mainGlobals "_parts_through" = some (some (.ref f_parts_through)))
    (l_parts_through : K.lookup f_parts_through = some ⟨oc_parts_through, od_parts_through, .func (PySem.W.fnOf "_parts_through" "_parts_through" (defArgs s_parts_through) (defBody s_parts_through) (defScope s_parts_through) .none kV_parts_through dc_parts_through pm_parts_through an_parts_through cd_parts_through ct_parts_through), sl_parts_through⟩)
    (cc_parts_through : PySem.W.codeIn K cd_parts_through "_parts_through" = true)
    (k_parts_through : PySem.W.keepIn K (.ref f_parts_through) = true)
    (a_Lease_init : PySem.W.findIn K (.ref c_Lease) "__init__" = some (some (.ref f_Lease_init)))
    (i_Lease_init : PySem.W.isFn K (.ref f_Lease_init) = true)
    (l_Lease_init : K.lookup f_Lease_init = some ⟨oc_Lease_init, od_Lease_init, .func (PySem.W.fnOf "__init__" "Lease.__init__" (defArgs s_Lease_init) (defBody s_Lease_init) (defScope s_Lease_init) .none kV_Lease_init dc_Lease_init pm_Lease_init an_Lease_init cd_Lease_init ct_Lease_init), sl_Lease_init⟩)
    (cc_Lease_init : PySem.W.codeIn K cd_Lease_init "Lease.__init__" = true)
    (k_Lease_init : PySem.W.keepIn K (.ref f_Lease_init) = true)
    (a_Lease_lasts_to : PySem.W.findIn K (.ref c_Lease) "lasts_to" = some (some (.ref f_Lease_lasts_to)))
    (i_Lease_lasts_to : PySem.W.isFn K (.ref f_Lease_lasts_to) = true)
    (l_Lease_lasts_to : K.lookup f_Lease_lasts_to = some ⟨oc_Lease_lasts_to, od_Lease_lasts_to, .func (PySem.W.fnOf "lasts_to" "Lease.lasts_to" (defArgs s_Lease_lasts_to) (defBody s_Lease_lasts_to) (defScope s_Lease_lasts_to) .none kV_Lease_lasts_to dc_Lease_lasts_to pm_Lease_lasts_to an_Lease_lasts_to cd_Lease_lasts_to ct_Lease_lasts_to), sl_Lease_lasts_to⟩)
    (cc_Lease_lasts_to : PySem.W.codeIn K cd_Lease_lasts_to "Lease.lasts_to" = true)
    (k_Lease_lasts_to : PySem.W.keepIn K (.ref f_Lease_lasts_to) = true)
    (a_Lease_owed_through : PySem.W.findIn K (.ref c_Lease) "owed_through" = some (some (.ref f_Lease_owed_through)))
    (i_Lease_owed_through : PySem.W.isFn K (.ref f_Lease_owed_through) = true)
    (l_Lease_owed_through : K.lookup f_Lease_owed_through = some ⟨oc_Lease_owed_through, od_Lease_owed_through, .func (PySem.W.fnOf "owed_through" "Lease.owed_through" (defArgs s_Lease_owed_through) (defBody s_Lease_owed_through) (defScope s_Lease_owed_through) .none kV_Lease_owed_through dc_Lease_owed_through pm_Lease_owed_through an_Lease_owed_through cd_Lease_owed_through ct_Lease_owed_through), sl_Lease_owed_through⟩)
    (cc_Lease_owed_through : PySem.W.codeIn K cd_Lease_owed_through "Lease.owed_through" = true)
    (k_Lease_owed_through : PySem.W.keepIn K (.ref f_Lease_owed_through) = true)
    (a_Lease_pledge_through : PySem.W.findIn K (.ref c_Lease) "pledge_through" = some (some (.ref f_Lease_pledge_through)))
    (i_Lease_pledge_through : PySem.W.isFn K (.ref f_Lease_pledge_through) = true)
    (l_Lease_pledge_through : K.lookup f_Lease_pledge_through = some ⟨oc_Lease_pledge_through, od_Lease_pledge_through, .func (PySem.W.fnOf "pledge_through" "Lease.pledge_through" (defArgs s_Lease_pledge_through) (defBody s_Lease_pledge_through) (defScope s_Lease_pledge_through) .none kV_Lease_pledge_through dc_Lease_pledge_through pm_Lease_pledge_through an_Lease_pledge_through cd_Lease_pledge_through ct_Lease_pledge_through), sl_Lease_pledge_through⟩)
    (cc_Lease_pledge_through : PySem.W.codeIn K cd_Lease_pledge_through "Lease.pledge_through" = true)
    (k_Lease_pledge_through : PySem.W.keepIn K (.ref f_Lease_pledge_through) = true)
    (a_Roll_init : PySem.W.findIn K (.ref c_Roll) "__init__" = some (some (.ref f_Roll_init)))
    (i_Roll_init : PySem.W.isFn K (.ref f_Roll_init) = true)
    (l_Roll_init : K.lookup f_Roll_init = some ⟨oc_Roll_init, od_Roll_init, .func (PySem.W.fnOf "__init__" "Roll.__init__" (defArgs s_Roll_init) (defBody s_Roll_init) (defScope s_Roll_init) .none kV_Roll_init dc_Roll_init pm_Roll_init an_Roll_init cd_Roll_init ct_Roll_init), sl_Roll_init⟩)
    (cc_Roll_init : PySem.W.codeIn K cd_Roll_init "Roll.__init__" = true)
    (k_Roll_init : PySem.W.keepIn K (.ref f_Roll_init) = true)
    (a_Roll_let : PySem.W.findIn K (.ref c_Roll) "let" = some (some (.ref f_Roll_let)))
    (i_Roll_let : PySem.W.isFn K (.ref f_Roll_let) = true)
    (l_Roll_let : K.lookup f_Roll_let = some ⟨oc_Roll_let, od_Roll_let, .func (PySem.W.fnOf "let" "Roll.let" (defArgs s_Roll_let) (defBody s_Roll_let) (defScope s_Roll_let) .none kV_Roll_let dc_Roll_let pm_Roll_let an_Roll_let cd_Roll_let ct_Roll_let), sl_Roll_let⟩)
    (cc_Roll_let : PySem.W.codeIn K cd_Roll_let "Roll.let" = true)
    (k_Roll_let : PySem.W.keepIn K (.ref f_Roll_let) = true)
    (a_Roll_end : PySem.W.findIn K (.ref c_Roll) "end" = some (some (.ref f_Roll_end)))
    (i_Roll_end : PySem.W.isFn K (.ref f_Roll_end) = true)
    (l_Roll_end : K.lookup f_Roll_end = some ⟨oc_Roll_end, od_Roll_end, .func (PySem.W.fnOf "end" "Roll.end" (defArgs s_Roll_end) (defBody s_Roll_end) (defScope s_Roll_end) .none kV_Roll_end dc_Roll_end pm_Roll_end an_Roll_end cd_Roll_end ct_Roll_end), sl_Roll_end⟩)
    (cc_Roll_end : PySem.W.codeIn K cd_Roll_end "Roll.end" = true)
    (k_Roll_end : PySem.W.keepIn K (.ref f_Roll_end) = true)
    (a_Roll_step : PySem.W.findIn K (.ref c_Roll) "step" = some (some (.ref f_Roll_step)))
    (i_Roll_step : PySem.W.isFn K (.ref f_Roll_step) = true)
    (l_Roll_step : K.lookup f_Roll_step = some ⟨oc_Roll_step, od_Roll_step, .func (PySem.W.fnOf "step" "Roll.step" (defArgs s_Roll_step) (defBody s_Roll_step) (defScope s_Roll_step) .none kV_Roll_step dc_Roll_step pm_Roll_step an_Roll_step cd_Roll_step ct_Roll_step), sl_Roll_step⟩)
    (cc_Roll_step : PySem.W.codeIn K cd_Roll_step "Roll.step" = true)
    (k_Roll_step : PySem.W.keepIn K (.ref f_Roll_step) = true)
    (a_Roll_gauge : PySem.W.findIn K (.ref c_Roll) "gauge" = some (some (.ref f_Roll_gauge)))
    (i_Roll_gauge : PySem.W.isFn K (.ref f_Roll_gauge) = true)
    (l_Roll_gauge : K.lookup f_Roll_gauge = some ⟨oc_Roll_gauge, od_Roll_gauge, .func (PySem.W.fnOf "gauge" "Roll.gauge" (defArgs s_Roll_gauge) (defBody s_Roll_gauge) (defScope s_Roll_gauge) .none kV_Roll_gauge dc_Roll_gauge pm_Roll_gauge an_Roll_gauge cd_Roll_gauge ct_Roll_gauge), sl_Roll_gauge⟩)
    (cc_Roll_gauge : PySem.W.codeIn K cd_Roll_gauge "Roll.gauge" = true)
    (k_Roll_gauge : PySem.W.keepIn K (.ref f_Roll_gauge) = true)
    (a_Roll_rate : PySem.W.findIn K (.ref c_Roll) "rate" = some (some (.ref f_Roll_rate)))
    (i_Roll_rate : PySem.W.isFn K (.ref f_Roll_rate) = true)
    (l_Roll_rate : K.lookup f_Roll_rate = some ⟨oc_Roll_rate, od_Roll_rate, .func (PySem.W.fnOf "rate" "Roll.rate" (defArgs s_Roll_rate) (defBody s_Roll_rate) (defScope s_Roll_rate) .none kV_Roll_rate dc_Roll_rate pm_Roll_rate an_Roll_rate cd_Roll_rate ct_Roll_rate), sl_Roll_rate⟩)
    (cc_Roll_rate : PySem.W.codeIn K cd_Roll_rate "Roll.rate" = true)
    (k_Roll_rate : PySem.W.keepIn K (.ref f_Roll_rate) = true)
    (a_Roll_paid : PySem.W.findIn K (.ref c_Roll) "paid" = some (some (.ref f_Roll_paid)))
    (i_Roll_paid : PySem.W.isFn K (.ref f_Roll_paid) = true)
    (l_Roll_paid : K.lookup f_Roll_paid = some ⟨oc_Roll_paid, od_Roll_paid, .func (PySem.W.fnOf "paid" "Roll.paid" (defArgs s_Roll_paid) (defBody s_Roll_paid) (defScope s_Roll_paid) .none kV_Roll_paid dc_Roll_paid pm_Roll_paid an_Roll_paid cd_Roll_paid ct_Roll_paid), sl_Roll_paid⟩)
    (cc_Roll_paid : PySem.W.codeIn K cd_Roll_paid "Roll.paid" = true)
    (k_Roll_paid : PySem.W.keepIn K (.ref f_Roll_paid) = true)
    (a_Roll_kept : PySem.W.findIn K (.ref c_Roll) "kept" = some (some (.ref f_Roll_kept)))
    (i_Roll_kept : PySem.W.isFn K (.ref f_Roll_kept) = true)
    (l_Roll_kept : K.lookup f_Roll_kept = some ⟨oc_Roll_kept, od_Roll_kept, .func (PySem.W.fnOf "kept" "Roll.kept" (defArgs s_Roll_kept) (defBody s_Roll_kept) (defScope s_Roll_kept) .none kV_Roll_kept dc_Roll_kept pm_Roll_kept an_Roll_kept cd_Roll_kept ct_Roll_kept), sl_Roll_kept⟩)
    (cc_Roll_kept : PySem.W.codeIn K cd_Roll_kept "Roll.kept" = true)
    (k_Roll_kept : PySem.W.keepIn K (.ref f_Roll_kept) = true)
    (a_Roll_close : PySem.W.findIn K (.ref c_Roll) "close" = some (some (.ref f_Roll_close)))
    (i_Roll_close : PySem.W.isFn K (.ref f_Roll_close) = true)
    (l_Roll_close : K.lookup f_Roll_close = some ⟨oc_Roll_close, od_Roll_close, .func (PySem.W.fnOf "close" "Roll.close" (defArgs s_Roll_close) (defBody s_Roll_close) (defScope s_Roll_close) .none kV_Roll_close dc_Roll_close pm_Roll_close an_Roll_close cd_Roll_close ct_Roll_close), sl_Roll_close⟩)
    (cc_Roll_close : PySem.W.codeIn K cd_Roll_close "Roll.close" = true)
    (k_Roll_close : PySem.W.keepIn K (.ref f_Roll_close) = true)
    (a_Roll_bill : PySem.W.findIn K (.ref c_Roll) "bill" = some (some (.ref f_Roll_bill)))
    (i_Roll_bill : PySem.W.isFn K (.ref f_Roll_bill) = true)
    (l_Roll_bill : K.lookup f_Roll_bill = some ⟨oc_Roll_bill, od_Roll_bill, .func (PySem.W.fnOf "bill" "Roll.bill" (defArgs s_Roll_bill) (defBody s_Roll_bill) (defScope s_Roll_bill) .none kV_Roll_bill dc_Roll_bill pm_Roll_bill an_Roll_bill cd_Roll_bill ct_Roll_bill), sl_Roll_bill⟩)
    (cc_Roll_bill : PySem.W.codeIn K cd_Roll_bill "Roll.bill" = true)
    (k_Roll_bill : PySem.W.keepIn K (.ref f_Roll_bill) = true)
    (a_Roll_many : PySem.W.findIn K (.ref c_Roll) "many" = some (some (.ref f_Roll_many)))
    (i_Roll_many : PySem.W.isFn K (.ref f_Roll_many) = true)
    (l_Roll_many : K.lookup f_Roll_many = some ⟨oc_Roll_many, od_Roll_many, .func (PySem.W.fnOf "many" "Roll.many" (defArgs s_Roll_many) (defBody s_Roll_many) (defScope s_Roll_many) .none kV_Roll_many dc_Roll_many pm_Roll_many an_Roll_many cd_Roll_many ct_Roll_many), sl_Roll_many⟩)
    (cc_Roll_many : PySem.W.codeIn K cd_Roll_many "Roll.many" = true)
    (k_Roll_many : PySem.W.keepIn K (.ref f_Roll_many) = true)
    (a_Roll_billed : PySem.W.findIn K (.ref c_Roll) "billed" = some (some (.ref f_Roll_billed)))
    (i_Roll_billed : PySem.W.isFn K (.ref f_Roll_billed) = true)
    (l_Roll_billed : K.lookup f_Roll_billed = some ⟨oc_Roll_billed, od_Roll_billed, .func (PySem.W.fnOf "billed" "Roll.billed" (defArgs s_Roll_billed) (defBody s_Roll_billed) (defScope s_Roll_billed) .none kV_Roll_billed dc_Roll_billed pm_Roll_billed an_Roll_billed cd_Roll_billed ct_Roll_billed), sl_Roll_billed⟩)
    (cc_Roll_billed : PySem.W.codeIn K cd_Roll_billed "Roll.billed" = true)
    (k_Roll_billed : PySem.W.keepIn K (.ref f_Roll_billed) = true)
    (a_Roll_lease : PySem.W.findIn K (.ref c_Roll) "lease" = some (some (.ref f_Roll_lease)))
    (i_Roll_lease : PySem.W.isFn K (.ref f_Roll_lease) = true)
    (l_Roll_lease : K.lookup f_Roll_lease = some ⟨oc_Roll_lease, od_Roll_lease, .func (PySem.W.fnOf "lease" "Roll.lease" (defArgs s_Roll_lease) (defBody s_Roll_lease) (defScope s_Roll_lease) .none kV_Roll_lease dc_Roll_lease pm_Roll_lease an_Roll_lease cd_Roll_lease ct_Roll_lease), sl_Roll_lease⟩)
    (cc_Roll_lease : PySem.W.codeIn K cd_Roll_lease "Roll.lease" = true)
    (k_Roll_lease : PySem.W.keepIn K (.ref f_Roll_lease) = true)
    (a_Roll_owed : PySem.W.findIn K (.ref c_Roll) "owed" = some (some (.ref f_Roll_owed)))
    (i_Roll_owed : PySem.W.isFn K (.ref f_Roll_owed) = true)
    (l_Roll_owed : K.lookup f_Roll_owed = some ⟨oc_Roll_owed, od_Roll_owed, .func (PySem.W.fnOf "owed" "Roll.owed" (defArgs s_Roll_owed) (defBody s_Roll_owed) (defScope s_Roll_owed) .none kV_Roll_owed dc_Roll_owed pm_Roll_owed an_Roll_owed cd_Roll_owed ct_Roll_owed), sl_Roll_owed⟩)
    (cc_Roll_owed : PySem.W.codeIn K cd_Roll_owed "Roll.owed" = true)
    (k_Roll_owed : PySem.W.keepIn K (.ref f_Roll_owed) = true)
    (a_Roll_pledge : PySem.W.findIn K (.ref c_Roll) "pledge" = some (some (.ref f_Roll_pledge)))
    (i_Roll_pledge : PySem.W.isFn K (.ref f_Roll_pledge) = true)
    (l_Roll_pledge : K.lookup f_Roll_pledge = some ⟨oc_Roll_pledge, od_Roll_pledge, .func (PySem.W.fnOf "pledge" "Roll.pledge" (defArgs s_Roll_pledge) (defBody s_Roll_pledge) (defScope s_Roll_pledge) .none kV_Roll_pledge dc_Roll_pledge pm_Roll_pledge an_Roll_pledge cd_Roll_pledge ct_Roll_pledge), sl_Roll_pledge⟩)
    (cc_Roll_pledge : PySem.W.codeIn K cd_Roll_pledge "Roll.pledge" = true)
    (k_Roll_pledge : PySem.W.keepIn K (.ref f_Roll_pledge) = true)
    (a_Roll_sent : PySem.W.findIn K (.ref c_Roll) "sent" = some (some (.ref f_Roll_sent)))
    (i_Roll_sent : PySem.W.isFn K (.ref f_Roll_sent) = true)
    (l_Roll_sent : K.lookup f_Roll_sent = some ⟨oc_Roll_sent, od_Roll_sent, .func (PySem.W.fnOf "sent" "Roll.sent" (defArgs s_Roll_sent) (defBody s_Roll_sent) (defScope s_Roll_sent) .none kV_Roll_sent dc_Roll_sent pm_Roll_sent an_Roll_sent cd_Roll_sent ct_Roll_sent), sl_Roll_sent⟩)
    (cc_Roll_sent : PySem.W.codeIn K cd_Roll_sent "Roll.sent" = true)
    (k_Roll_sent : PySem.W.keepIn K (.ref f_Roll_sent) = true)
    (a_Roll_given : PySem.W.findIn K (.ref c_Roll) "given" = some (some (.ref f_Roll_given)))
    (i_Roll_given : PySem.W.isFn K (.ref f_Roll_given) = true)
    (l_Roll_given : K.lookup f_Roll_given = some ⟨oc_Roll_given, od_Roll_given, .func (PySem.W.fnOf "given" "Roll.given" (defArgs s_Roll_given) (defBody s_Roll_given) (defScope s_Roll_given) .none kV_Roll_given dc_Roll_given pm_Roll_given an_Roll_given cd_Roll_given ct_Roll_given), sl_Roll_given⟩)
    (cc_Roll_given : PySem.W.codeIn K cd_Roll_given "Roll.given" = true)
    (k_Roll_given : PySem.W.keepIn K (.ref f_Roll_given) = true)
    (a_Roll_letters : PySem.W.findIn K (.ref c_Roll) "letters" = some (some (.ref f_Roll_letters)))
    (i_Roll_letters : PySem.W.isFn K (.ref f_Roll_letters) = true)
    (l_Roll_letters : K.lookup f_Roll_letters = some ⟨oc_Roll_letters, od_Roll_letters, .func (PySem.W.fnOf "letters" "Roll.letters" (defArgs s_Roll_letters) (defBody s_Roll_letters) (defScope s_Roll_letters) .none kV_Roll_letters dc_Roll_letters pm_Roll_letters an_Roll_letters cd_Roll_letters ct_Roll_letters), sl_Roll_letters⟩)
    (cc_Roll_letters : PySem.W.codeIn K cd_Roll_letters "Roll.letters" = true)
    (k_Roll_letters : PySem.W.keepIn K (.ref f_Roll_letters) = true)
    (a_Roll__known : PySem.W.findIn K (.ref c_Roll) "_known" = some (some (.ref f_Roll__known)))
    (i_Roll__known : PySem.W.isFn K (.ref f_Roll__known) = true)
    (l_Roll__known : K.lookup f_Roll__known = some ⟨oc_Roll__known, od_Roll__known, .func (PySem.W.fnOf "_known" "Roll._known" (defArgs s_Roll__known) (defBody s_Roll__known) (defScope s_Roll__known) .none kV_Roll__known dc_Roll__known pm_Roll__known an_Roll__known cd_Roll__known ct_Roll__known), sl_Roll__known⟩)
    (cc_Roll__known : PySem.W.codeIn K cd_Roll__known "Roll._known" = true)
    (k_Roll__known : PySem.W.keepIn K (.ref f_Roll__known) = true)
    (a_Roll__check_free : PySem.W.findIn K (.ref c_Roll) "_check_free" = some (some (.ref f_Roll__check_free)))
    (i_Roll__check_free : PySem.W.isFn K (.ref f_Roll__check_free) = true)
    (l_Roll__check_free : K.lookup f_Roll__check_free = some ⟨oc_Roll__check_free, od_Roll__check_free, .func (PySem.W.fnOf "_check_free" "Roll._check_free" (defArgs s_Roll__check_free) (defBody s_Roll__check_free) (defScope s_Roll__check_free) .none kV_Roll__check_free dc_Roll__check_free pm_Roll__check_free an_Roll__check_free cd_Roll__check_free ct_Roll__check_free), sl_Roll__check_free⟩)
    (cc_Roll__check_free : PySem.W.codeIn K cd_Roll__check_free "Roll._check_free" = true)
    (k_Roll__check_free : PySem.W.keepIn K (.ref f_Roll__check_free) = true)
    (a_Roll__check_end : PySem.W.findIn K (.ref c_Roll) "_check_end" = some (some (.ref f_Roll__check_end)))
    (i_Roll__check_end : PySem.W.isFn K (.ref f_Roll__check_end) = true)
    (l_Roll__check_end : K.lookup f_Roll__check_end = some ⟨oc_Roll__check_end, od_Roll__check_end, .func (PySem.W.fnOf "_check_end" "Roll._check_end" (defArgs s_Roll__check_end) (defBody s_Roll__check_end) (defScope s_Roll__check_end) .none kV_Roll__check_end dc_Roll__check_end pm_Roll__check_end an_Roll__check_end cd_Roll__check_end ct_Roll__check_end), sl_Roll__check_end⟩)
    (cc_Roll__check_end : PySem.W.codeIn K cd_Roll__check_end "Roll._check_end" = true)
    (k_Roll__check_end : PySem.W.keepIn K (.ref f_Roll__check_end) = true)
    (a_Roll__move : PySem.W.findIn K (.ref c_Roll) "_move" = some (some (.ref f_Roll__move)))
    (i_Roll__move : PySem.W.isFn K (.ref f_Roll__move) = true)
    (l_Roll__move : K.lookup f_Roll__move = some ⟨oc_Roll__move, od_Roll__move, .func (PySem.W.fnOf "_move" "Roll._move" (defArgs s_Roll__move) (defBody s_Roll__move) (defScope s_Roll__move) .none kV_Roll__move dc_Roll__move pm_Roll__move an_Roll__move cd_Roll__move ct_Roll__move), sl_Roll__move⟩)
    (cc_Roll__move : PySem.W.codeIn K cd_Roll__move "Roll._move" = true)
    (k_Roll__move : PySem.W.keepIn K (.ref f_Roll__move) = true)
    (a_Roll__done : PySem.W.findIn K (.ref c_Roll) "_done" = some (some (.ref f_Roll__done)))
    (i_Roll__done : PySem.W.isFn K (.ref f_Roll__done) = true)
    (l_Roll__done : K.lookup f_Roll__done = some ⟨oc_Roll__done, od_Roll__done, .func (PySem.W.fnOf "_done" "Roll._done" (defArgs s_Roll__done) (defBody s_Roll__done) (defScope s_Roll__done) .none kV_Roll__done dc_Roll__done pm_Roll__done an_Roll__done cd_Roll__done ct_Roll__done), sl_Roll__done⟩)
    (cc_Roll__done : PySem.W.codeIn K cd_Roll__done "Roll._done" = true)
    (k_Roll__done : PySem.W.keepIn K (.ref f_Roll__done) = true)
    (a_roll_of : PySem.W.nsIn K mainGlobals "roll_of" = some (some (.ref f_roll_of)))
    (l_roll_of : K.lookup f_roll_of = some ⟨oc_roll_of, od_roll_of, .func (PySem.W.fnOf "roll_of" "roll_of" (defArgs s_roll_of) (defBody s_roll_of) (defScope s_roll_of) .none kV_roll_of dc_roll_of pm_roll_of an_roll_of cd_roll_of ct_roll_of), sl_roll_of⟩)
    (cc_roll_of : PySem.W.codeIn K cd_roll_of "roll_of" = true)
    (k_roll_of : PySem.W.keepIn K (.ref f_roll_of) = true)
    (a_tell : PySem.W.nsIn K mainGlobals "_tell" = some (some (.ref f_tell)))
    (l_tell : K.lookup f_tell = some ⟨oc_tell, od_tell, .func (PySem.W.fnOf "_tell" "_tell" (defArgs s_tell) (defBody s_tell) (defScope s_tell) .none kV_tell dc_tell pm_tell an_tell cd_tell ct_tell), sl_tell⟩)
    (cc_tell : PySem.W.codeIn K cd_tell "_tell" = true)
    (k_tell : PySem.W.keepIn K (.ref f_tell) = true)
    (a_l_cell_at : PySem.W.nsIn K mainGlobals "_law_cell_at" = some (some (.ref f_l_cell_at)))
    (l_l_cell_at : K.lookup f_l_cell_at = some ⟨oc_l_cell_at, od_l_cell_at, .func (PySem.W.fnOf "_law_cell_at" "_law_cell_at" (defArgs s_l_cell_at) (defBody s_l_cell_at) (defScope s_l_cell_at) .none kV_l_cell_at dc_l_cell_at pm_l_cell_at an_l_cell_at cd_l_cell_at ct_l_cell_at), sl_l_cell_at⟩)
    (cc_l_cell_at : PySem.W.codeIn K cd_l_cell_at "_law_cell_at" = true)
    (k_l_cell_at : PySem.W.keepIn K (.ref f_l_cell_at) = true)
    (a_l_mix : PySem.W.nsIn K mainGlobals "_law_mix" = some (some (.ref f_l_mix)))
    (l_l_mix : K.lookup f_l_mix = some ⟨oc_l_mix, od_l_mix, .func (PySem.W.fnOf "_law_mix" "_law_mix" (defArgs s_l_mix) (defBody s_l_mix) (defScope s_l_mix) .none kV_l_mix dc_l_mix pm_l_mix an_l_mix cd_l_mix ct_l_mix), sl_l_mix⟩)
    (cc_l_mix : PySem.W.codeIn K cd_l_mix "_law_mix" = true)
    (k_l_mix : PySem.W.keepIn K (.ref f_l_mix) = true)
    (a_l_base : PySem.W.nsIn K mainGlobals "_law_base" = some (some (.ref f_l_base)))
    (l_l_base : K.lookup f_l_base = some ⟨oc_l_base, od_l_base, .func (PySem.W.fnOf "_law_base" "_law_base" (defArgs s_l_base) (defBody s_l_base) (defScope s_l_base) .none kV_l_base dc_l_base pm_l_base an_l_base cd_l_base ct_l_base), sl_l_base⟩)
    (cc_l_base : PySem.W.codeIn K cd_l_base "_law_base" = true)
    (k_l_base : PySem.W.keepIn K (.ref f_l_base) = true)
    (a_l_money : PySem.W.nsIn K mainGlobals "_law_money" = some (some (.ref f_l_money)))
    (l_l_money : K.lookup f_l_money = some ⟨oc_l_money, od_l_money, .func (PySem.W.fnOf "_law_money" "_law_money" (defArgs s_l_money) (defBody s_l_money) (defScope s_l_money) .none kV_l_money dc_l_money pm_l_money an_l_money cd_l_money ct_l_money), sl_l_money⟩)
    (cc_l_money : PySem.W.codeIn K cd_l_money "_law_money" = true)
    (k_l_money : PySem.W.keepIn K (.ref f_l_money) = true)
    (a_l_number : PySem.W.nsIn K mainGlobals "_law_number" = some (some (.ref f_l_number)))
    (l_l_number : K.lookup f_l_number = some ⟨oc_l_number, od_l_number, .func (PySem.W.fnOf "_law_number" "_law_number" (defArgs s_l_number) (defBody s_l_number) (defScope s_l_number) .none kV_l_number dc_l_number pm_l_number an_l_number cd_l_number ct_l_number), sl_l_number⟩)
    (cc_l_number : PySem.W.codeIn K cd_l_number "_law_number" = true)
    (k_l_number : PySem.W.keepIn K (.ref f_l_number) = true)
    (a_l_flats : PySem.W.nsIn K mainGlobals "_law_flats" = some (some (.ref f_l_flats)))
    (l_l_flats : K.lookup f_l_flats = some ⟨oc_l_flats, od_l_flats, .func (PySem.W.fnOf "_law_flats" "_law_flats" (defArgs s_l_flats) (defBody s_l_flats) (defScope s_l_flats) .none kV_l_flats dc_l_flats pm_l_flats an_l_flats cd_l_flats ct_l_flats), sl_l_flats⟩)
    (cc_l_flats : PySem.W.codeIn K cd_l_flats "_law_flats" = true)
    (k_l_flats : PySem.W.keepIn K (.ref f_l_flats) = true)
    (a_l_letter : PySem.W.nsIn K mainGlobals "_law_letter" = some (some (.ref f_l_letter)))
    (l_l_letter : K.lookup f_l_letter = some ⟨oc_l_letter, od_l_letter, .func (PySem.W.fnOf "_law_letter" "_law_letter" (defArgs s_l_letter) (defBody s_l_letter) (defScope s_l_letter) .none kV_l_letter dc_l_letter pm_l_letter an_l_letter cd_l_letter ct_l_letter), sl_l_letter⟩)
    (cc_l_letter : PySem.W.codeIn K cd_l_letter "_law_letter" = true)
    (k_l_letter : PySem.W.keepIn K (.ref f_l_letter) = true)
    (a_l_do : PySem.W.nsIn K mainGlobals "_law_do" = some (some (.ref f_l_do)))
    (l_l_do : K.lookup f_l_do = some ⟨oc_l_do, od_l_do, .func (PySem.W.fnOf "_law_do" "_law_do" (defArgs s_l_do) (defBody s_l_do) (defScope s_l_do) .none kV_l_do dc_l_do pm_l_do an_l_do cd_l_do ct_l_do), sl_l_do⟩)
    (cc_l_do : PySem.W.codeIn K cd_l_do "_law_do" = true)
    (k_l_do : PySem.W.keepIn K (.ref f_l_do) = true)
    (a_l_told : PySem.W.nsIn K mainGlobals "_law_told" = some (some (.ref f_l_told)))
    (l_l_told : K.lookup f_l_told = some ⟨oc_l_told, od_l_told, .func (PySem.W.fnOf "_law_told" "_law_told" (defArgs s_l_told) (defBody s_l_told) (defScope s_l_told) .none kV_l_told dc_l_told pm_l_told an_l_told cd_l_told ct_l_told), sl_l_told⟩)
    (cc_l_told : PySem.W.codeIn K cd_l_told "_law_told" = true)
    (k_l_told : PySem.W.keepIn K (.ref f_l_told) = true)
    (a_l_room : PySem.W.nsIn K mainGlobals "_law_room" = some (some (.ref f_l_room)))
    (l_l_room : K.lookup f_l_room = some ⟨oc_l_room, od_l_room, .func (PySem.W.fnOf "_law_room" "_law_room" (defArgs s_l_room) (defBody s_l_room) (defScope s_l_room) .none kV_l_room dc_l_room pm_l_room an_l_room cd_l_room ct_l_room), sl_l_room⟩)
    (cc_l_room : PySem.W.codeIn K cd_l_room "_law_room" = true)
    (k_l_room : PySem.W.keepIn K (.ref f_l_room) = true)
    (a_l_all : PySem.W.nsIn K mainGlobals "_law_all" = some (some (.ref f_l_all)))
    (l_l_all : K.lookup f_l_all = some ⟨oc_l_all, od_l_all, .func (PySem.W.fnOf "_law_all" "_law_all" (defArgs s_l_all) (defBody s_l_all) (defScope s_l_all) .none kV_l_all dc_l_all pm_l_all an_l_all cd_l_all ct_l_all), sl_l_all⟩)
    (cc_l_all : PySem.W.codeIn K cd_l_all "_law_all" = true)
    (k_l_all : PySem.W.keepIn K (.ref f_l_all) = true)
    (a_l_again : PySem.W.nsIn K mainGlobals "_law_again" = some (some (.ref f_l_again)))
    (l_l_again : K.lookup f_l_again = some ⟨oc_l_again, od_l_again, .func (PySem.W.fnOf "_law_again" "_law_again" (defArgs s_l_again) (defBody s_l_again) (defScope s_l_again) .none kV_l_again dc_l_again pm_l_again an_l_again cd_l_again ct_l_again), sl_l_again⟩)
    (cc_l_again : PySem.W.codeIn K cd_l_again "_law_again" = true)
    (k_l_again : PySem.W.keepIn K (.ref f_l_again) = true)
    (a_law : PySem.W.nsIn K mainGlobals "law" = some (some (.ref f_law)))
    (l_law : K.lookup f_law = some ⟨oc_law, od_law, .func (PySem.W.fnOf "law" "law" (defArgs s_law) (defBody s_law) (defScope s_law) .none kV_law dc_law pm_law an_law cd_law ct_law), sl_law⟩)
    (cc_law : PySem.W.codeIn K cd_law "law" = true)
    (k_law : PySem.W.keepIn K (.ref f_law) = true)
    (x_BadDay : PySem.W.excIn K c_BadDay [.type "ValueError", .type "Exception", .type "BaseException", .type "object"] "ValueError.__new__" = true)
    (k_BadDay : PySem.W.keepIn K (.ref c_BadDay) = true)
    (s_BadDay : PySem.W.subIn K (.ref c_BadDay) (.type "BaseException") = some true)
    (t_BadDay : PySem.W.typeIn K (.ref c_BadDay) = some (.type "type"))
    (x_BadFlat : PySem.W.excIn K c_BadFlat [.type "ValueError", .type "Exception", .type "BaseException", .type "object"] "ValueError.__new__" = true)
    (k_BadFlat : PySem.W.keepIn K (.ref c_BadFlat) = true)
    (s_BadFlat : PySem.W.subIn K (.ref c_BadFlat) (.type "BaseException") = some true)
    (t_BadFlat : PySem.W.typeIn K (.ref c_BadFlat) = some (.type "type"))
    (x_BadAmount : PySem.W.excIn K c_BadAmount [.type "ValueError", .type "Exception", .type "BaseException", .type "object"] "ValueError.__new__" = true)
    (k_BadAmount : PySem.W.keepIn K (.ref c_BadAmount) = true)
    (s_BadAmount : PySem.W.subIn K (.ref c_BadAmount) (.type "BaseException") = some true)
    (t_BadAmount : PySem.W.typeIn K (.ref c_BadAmount) = some (.type "type"))
    (x_Full : PySem.W.excIn K c_Full [.type "ValueError", .type "Exception", .type "BaseException", .type "object"] "ValueError.__new__" = true)
    (k_Full : PySem.W.keepIn K (.ref c_Full) = true)
    (s_Full : PySem.W.subIn K (.ref c_Full) (.type "BaseException") = some true)
    (t_Full : PySem.W.typeIn K (.ref c_Full) = some (.type "type"))
    (x_Done : PySem.W.excIn K c_Done [.type "ValueError", .type "Exception", .type "BaseException", .type "object"] "ValueError.__new__" = true)
    (k_Done : PySem.W.keepIn K (.ref c_Done) = true)
    (s_Done : PySem.W.subIn K (.ref c_Done) (.type "BaseException") = some true)
    (t_Done : PySem.W.typeIn K (.ref c_Done) = some (.type "type"))
    (x_NoLease : PySem.W.excIn K c_NoLease [.type "ValueError", .type "Exception", .type "BaseException", .type "object"] "ValueError.__new__" = true)
    (k_NoLease : PySem.W.keepIn K (.ref c_NoLease) = true)
    (s_NoLease : PySem.W.subIn K (.ref c_NoLease) (.type "BaseException") = some true)
    (t_NoLease : PySem.W.typeIn K (.ref c_NoLease) = some (.type "type"))
    (x_Taken : PySem.W.excIn K c_Taken [.type "ValueError", .type "Exception", .type "BaseException", .type "object"] "ValueError.__new__" = true)
    (k_Taken : PySem.W.keepIn K (.ref c_Taken) = true)
    (s_Taken : PySem.W.subIn K (.ref c_Taken) (.type "BaseException") = some true)
    (t_Taken : PySem.W.typeIn K (.ref c_Taken) = some (.type "type"))
    (x_RentError : PySem.W.excIn K c_RentError [.type "ValueError", .type "Exception", .type "BaseException", .type "object"] "ValueError.__new__" = true)
    (k_RentError : PySem.W.keepIn K (.ref c_RentError) = true)
    (s_RentError : PySem.W.subIn K (.ref c_RentError) (.type "BaseException") = some true)
    (t_RentError : PySem.W.typeIn K (.ref c_RentError) = some (.type "type"))
    (cs_NoLease : PySem.W.subIn K (.ref c_NoLease) (.type "BaseException") = some true)
    (cd_NoLease : PySem.W.hasDictIn K c_NoLease = true)
    (ct_NoLease : PySem.W.typeIn K (.ref c_NoLease) = some (.type "type"))
    (cs_BadDay : PySem.W.subIn K (.ref c_BadDay) (.type "BaseException") = some true)
    (cd_BadDay : PySem.W.hasDictIn K c_BadDay = true)
    (ct_BadDay : PySem.W.typeIn K (.ref c_BadDay) = some (.type "type"))
    (cs_Taken : PySem.W.subIn K (.ref c_Taken) (.type "BaseException") = some true)
    (cd_Taken : PySem.W.hasDictIn K c_Taken = true)
    (ct_Taken : PySem.W.typeIn K (.ref c_Taken) = some (.type "type"))
    (cs_Done : PySem.W.subIn K (.ref c_Done) (.type "BaseException") = some true)
    (cd_Done : PySem.W.hasDictIn K c_Done = true)
    (ct_Done : PySem.W.typeIn K (.ref c_Done) = some (.type "type"))
    (cs_Full : PySem.W.subIn K (.ref c_Full) (.type "BaseException") = some true)
    (cd_Full : PySem.W.hasDictIn K c_Full = true)
    (ct_Full : PySem.W.typeIn K (.ref c_Full) = some (.type "type"))
    (m_BadDay_NoLease : PySem.W.subIn K (.ref c_BadDay) (.ref c_NoLease) = some false)
    (m_BadDay_BadDay : PySem.W.subIn K (.ref c_BadDay) (.ref c_BadDay) = some true)
    (m_BadDay_Taken : PySem.W.subIn K (.ref c_BadDay) (.ref c_Taken) = some false)
    (m_BadDay_Done : PySem.W.subIn K (.ref c_BadDay) (.ref c_Done) = some false)
    (m_BadDay_Full : PySem.W.subIn K (.ref c_BadDay) (.ref c_Full) = some false)
    (m_BadFlat_NoLease : PySem.W.subIn K (.ref c_BadFlat) (.ref c_NoLease) = some false)
    (m_BadFlat_BadDay : PySem.W.subIn K (.ref c_BadFlat) (.ref c_BadDay) = some false)
    (m_BadFlat_Taken : PySem.W.subIn K (.ref c_BadFlat) (.ref c_Taken) = some false)
    (m_BadFlat_Done : PySem.W.subIn K (.ref c_BadFlat) (.ref c_Done) = some false)
    (m_BadFlat_Full : PySem.W.subIn K (.ref c_BadFlat) (.ref c_Full) = some false)
    (m_BadAmount_NoLease : PySem.W.subIn K (.ref c_BadAmount) (.ref c_NoLease) = some false)
    (m_BadAmount_BadDay : PySem.W.subIn K (.ref c_BadAmount) (.ref c_BadDay) = some false)
    (m_BadAmount_Taken : PySem.W.subIn K (.ref c_BadAmount) (.ref c_Taken) = some false)
    (m_BadAmount_Done : PySem.W.subIn K (.ref c_BadAmount) (.ref c_Done) = some false)
    (m_BadAmount_Full : PySem.W.subIn K (.ref c_BadAmount) (.ref c_Full) = some false)
    (m_Full_NoLease : PySem.W.subIn K (.ref c_Full) (.ref c_NoLease) = some false)
    (m_Full_BadDay : PySem.W.subIn K (.ref c_Full) (.ref c_BadDay) = some false)
    (m_Full_Taken : PySem.W.subIn K (.ref c_Full) (.ref c_Taken) = some false)
    (m_Full_Done : PySem.W.subIn K (.ref c_Full) (.ref c_Done) = some false)
    (m_Full_Full : PySem.W.subIn K (.ref c_Full) (.ref c_Full) = some true)
    (m_Done_NoLease : PySem.W.subIn K (.ref c_Done) (.ref c_NoLease) = some false)
    (m_Done_BadDay : PySem.W.subIn K (.ref c_Done) (.ref c_BadDay) = some false)
    (m_Done_Taken : PySem.W.subIn K (.ref c_Done) (.ref c_Taken) = some false)
    (m_Done_Done : PySem.W.subIn K (.ref c_Done) (.ref c_Done) = some true)
    (m_Done_Full : PySem.W.subIn K (.ref c_Done) (.ref c_Full) = some false)
    (m_NoLease_NoLease : PySem.W.subIn K (.ref c_NoLease) (.ref c_NoLease) = some true)
    (m_NoLease_BadDay : PySem.W.subIn K (.ref c_NoLease) (.ref c_BadDay) = some false)
    (m_NoLease_Taken : PySem.W.subIn K (.ref c_NoLease) (.ref c_Taken) = some false)
    (m_NoLease_Done : PySem.W.subIn K (.ref c_NoLease) (.ref c_Done) = some false)
    (m_NoLease_Full : PySem.W.subIn K (.ref c_NoLease) (.ref c_Full) = some false)
    (m_Taken_NoLease : PySem.W.subIn K (.ref c_Taken) (.ref c_NoLease) = some false)
    (m_Taken_BadDay : PySem.W.subIn K (.ref c_Taken) (.ref c_BadDay) = some false)
    (m_Taken_Taken : PySem.W.subIn K (.ref c_Taken) (.ref c_Taken) = some true)
    (m_Taken_Done : PySem.W.subIn K (.ref c_Taken) (.ref c_Done) = some false)
    (m_Taken_Full : PySem.W.subIn K (.ref c_Taken) (.ref c_Full) = some false)
    (m_RentError_NoLease : PySem.W.subIn K (.ref c_RentError) (.ref c_NoLease) = some false)
    (m_RentError_BadDay : PySem.W.subIn K (.ref c_RentError) (.ref c_BadDay) = some false)
    (m_RentError_Taken : PySem.W.subIn K (.ref c_RentError) (.ref c_Taken) = some false)
    (m_RentError_Done : PySem.W.subIn K (.ref c_RentError) (.ref c_Done) = some false)
    (m_RentError_Full : PySem.W.subIn K (.ref c_RentError) (.ref c_Full) = some false)
    (pg_Lease : PySem.W.plainGet K c_Lease Str.empty = true)
    (hd_Lease : PySem.W.hasDictIn K c_Lease = true)
    (po_Lease : PySem.W.plainOver K c_Lease = true)
    (sa_Lease : PySem.W.findIn K (.ref c_Lease) "__setattr__" = some (some (.builtin "object.__setattr__")))
    (mk_Lease : PySem.W.makesIn K c_Lease = true)
    (kc_Lease : PySem.W.keepIn K (.ref c_Lease) = true)
    (n_Lease_flat : PySem.W.findIn K (.ref c_Lease) "flat" = some none)
    (n_Lease_first : PySem.W.findIn K (.ref c_Lease) "first" = some none)
    (n_Lease_last : PySem.W.findIn K (.ref c_Lease) "last" = some none)
    (n_Lease_indexed : PySem.W.findIn K (.ref c_Lease) "indexed" = some none)
    (n_Lease_steps : PySem.W.findIn K (.ref c_Lease) "steps" = some none)
    (n_Lease_moves : PySem.W.findIn K (.ref c_Lease) "moves" = some none)
    (n_Lease_closing : PySem.W.findIn K (.ref c_Lease) "closing" = some none)
    (n_Lease_cents_sent : PySem.W.findIn K (.ref c_Lease) "cents_sent" = some none)
    (n_Lease_cents_given : PySem.W.findIn K (.ref c_Lease) "cents_given" = some none)
    (pg_Roll : PySem.W.plainGet K c_Roll Str.empty = true)
    (hd_Roll : PySem.W.hasDictIn K c_Roll = true)
    (po_Roll : PySem.W.plainOver K c_Roll = true)
    (sa_Roll : PySem.W.findIn K (.ref c_Roll) "__setattr__" = some (some (.builtin "object.__setattr__")))
    (mk_Roll : PySem.W.makesIn K c_Roll = true)
    (kc_Roll : PySem.W.keepIn K (.ref c_Roll) = true)
    (n_Roll__leases : PySem.W.findIn K (.ref c_Roll) "_leases" = some none)
    (n_Roll__gauges : PySem.W.findIn K (.ref c_Roll) "_gauges" = some none)
    (n_Roll__rates : PySem.W.findIn K (.ref c_Roll) "_rates" = some none)
    (n_Roll__billed : PySem.W.findIn K (.ref c_Roll) "_billed" = some none)
    (n_Roll__letters : PySem.W.findIn K (.ref c_Roll) "_letters" = some none)
    (a_FIRST_YEAR : PySem.W.nsIn K mainGlobals "FIRST_YEAR" = some (some (.int 2000 tk_FIRST_YEAR)))
    (a_LAST_YEAR : PySem.W.nsIn K mainGlobals "LAST_YEAR" = some (some (.int 2273 tk_LAST_YEAR)))
    (a_LAST_DAY : PySem.W.nsIn K mainGlobals "LAST_DAY" = some (some (.int 99999 tk_LAST_DAY)))
    (a_LONGEST_YEAR : PySem.W.nsIn K mainGlobals "LONGEST_YEAR" = some (some (.int 366 tk_LONGEST_YEAR)))
    (a_LENGTHS : PySem.W.nsIn K mainGlobals "LENGTHS" = some (some (.ref o_LENGTHS)))
    (l_LENGTHS : K.lookup o_LENGTHS = some ⟨.type "tuple", dd_LENGTHS, .seq #[(.int 31 t0_LENGTHS), (.int 28 t1_LENGTHS), (.int 31 t2_LENGTHS), (.int 30 t3_LENGTHS), (.int 31 t4_LENGTHS), (.int 30 t5_LENGTHS), (.int 31 t6_LENGTHS), (.int 31 t7_LENGTHS), (.int 30 t8_LENGTHS), (.int 31 t9_LENGTHS), (.int 30 t10_LENGTHS), (.int 31 t11_LENGTHS)] nn_LENGTHS, ss_LENGTHS⟩)
    (a_LONGEST_FLAT : PySem.W.nsIn K mainGlobals "LONGEST_FLAT" = some (some (.int 8 tk_LONGEST_FLAT)))
    (a_WHOLE : PySem.W.nsIn K mainGlobals "WHOLE" = some (some (.int 3650000 tk_WHOLE)))
    (a_STEADY : PySem.W.nsIn K mainGlobals "STEADY" = some (some (.ref o_STEADY)))
    (l_STEADY : K.lookup o_STEADY = some ⟨.type "tuple", dd_STEADY, .seq #[.ref io_STEADY] nn_STEADY, ss_STEADY⟩)
    (li_STEADY : K.lookup io_STEADY = some ⟨.type "tuple", di_STEADY, .seq #[(.int 0 t0_STEADY), (.int 100 t1_STEADY)] ni_STEADY, si_STEADY⟩)
    (a_MOST_LEASES : PySem.W.nsIn K mainGlobals "MOST_LEASES" = some (some (.int 20 tk_MOST_LEASES)))
    (a_MOST_CENTS : PySem.W.nsIn K mainGlobals "MOST_CENTS" = some (some (.int 1000000000 tk_MOST_CENTS)))
    (a_MOST_GAUGE : PySem.W.nsIn K mainGlobals "MOST_GAUGE" = some (some (.int 1000000 tk_MOST_GAUGE)))
    (a_MOST_RATE : PySem.W.nsIn K mainGlobals "MOST_RATE" = some (some (.int 10000 tk_MOST_RATE)))
    (z_isinstance : PySem.W.nsIn K mainGlobals "isinstance" = some none)
    (z_int : PySem.W.nsIn K mainGlobals "int" = some none)
    (z_bool : PySem.W.nsIn K mainGlobals "bool" = some none)
    (z_all : PySem.W.nsIn K mainGlobals "all" = some none)
    (z_str : PySem.W.nsIn K mainGlobals "str" = some none)
    (z_len : PySem.W.nsIn K mainGlobals "len" = some none)
    (z_sorted : PySem.W.nsIn K mainGlobals "sorted" = some none)
    (z_reversed : PySem.W.nsIn K mainGlobals "reversed" = some none)
    (z_max : PySem.W.nsIn K mainGlobals "max" = some none)
    (z_sum : PySem.W.nsIn K mainGlobals "sum" = some none)
    (z_list : PySem.W.nsIn K mainGlobals "list" = some none)
    (z_enumerate : PySem.W.nsIn K mainGlobals "enumerate" = some none)
    (z_range : PySem.W.nsIn K mainGlobals "range" = some none)
    (z_tuple : PySem.W.nsIn K mainGlobals "tuple" = some none)
    : ∃ (fd : FuncData) (cs : List (Addr × Addr)) (sp : Sp), (∀ p ∈ cs, h.get? p.2 = some { cls := .none, data := .fields #[] }) ∧ (∀ p ∈ cs, K.lookup p.2 = none) ∧ (∀ p ∈ cs, PySem.W.CodeHd h p.1 p.2) ∧ (∀ (s : Shared) (u : Value), BindsTo s fd ⟨[u], []⟩ [("_law_script", u)]) ∧
      (∀ (H : Hp) (a : Addr) (ns : List Int), ns.length ≤ 63 → (∀ z ∈ ns, Builtin.Int.intBits z ≤ 1048576) → (∀ p ∈ cs, H p.2 = some (.tbl #[])) → SqL K H a (ns.map V.int) → sp [.ref a] H (fun v _ => v = .bl true) fun _ _ _ => False) ∧
      ∀ base : Heap, K.In base → base.Ns mainGlobals mg → (∀ p ∈ cs, LamX.TabB base mg p.1 p.2) → FnOk P w K mg base (L2.CX P w) 13 fa fd ["_law_script"] sp := by
  have e : fa = f_law := Value.ref.inj (Option.some.inj (hfa.symm.trans (PySem.W.mg_of X G a_law)))
  rw [e]
  have F_is_whole := fun_mk (st := s_is_whole) l_is_whole cc_is_whole k_is_whole
  have F_is_within := fun_mk (st := s_is_within) l_is_within cc_is_within k_is_within
  have F_check_day := fun_mk (st := s_check_day) l_check_day cc_check_day k_check_day
  have F_month_days := fun_mk (st := s_month_days) l_month_days cc_month_days k_month_days
  have F_month_of := fun_mk (st := s_month_of) l_month_of cc_month_of k_month_of
  have F_is_leap := fun_mk (st := s_is_leap) l_is_leap cc_is_leap k_is_leap
  have F_length := fun_mk (st := s_length) l_length cc_length k_length
  have F_year_start := fun_mk (st := s_year_start) l_year_start cc_year_start k_year_start
  have F_check_flat := fun_mk (st := s_check_flat) l_check_flat cc_check_flat k_check_flat
  have F_check_amount := fun_mk (st := s_check_amount) l_check_amount cc_check_amount k_check_amount
  have F_is_flat := fun_mk (st := s_is_flat) l_is_flat cc_is_flat k_is_flat
  have F_in_order := fun_mk (st := s_in_order) l_in_order cc_in_order k_in_order
  have F_spans := fun_mk (st := s_spans) l_spans cc_spans k_spans
  have F_balance := fun_mk (st := s_balance) l_balance cc_balance k_balance
  have F_grown := fun_mk (st := s_grown) l_grown cc_grown k_grown
  have F_balances := fun_mk (st := s_balances) l_balances cc_balances k_balances
  have F_pair_held := fun_mk (st := s_pair_held) l_pair_held cc_pair_held k_pair_held
  have F_held := fun_mk (st := s_held) l_held cc_held k_held
  have F_owed := fun_mk (st := s_owed) l_owed cc_owed k_owed
  have F_parts := fun_mk (st := s_parts) l_parts cc_parts k_parts
  have F_parts_through := fun_mk (st := s_parts_through) l_parts_through cc_parts_through k_parts_through
  have F_Lease_init := fun_mk (st := s_Lease_init) l_Lease_init cc_Lease_init k_Lease_init
  have F_Lease_lasts_to := fun_mk (st := s_Lease_lasts_to) l_Lease_lasts_to cc_Lease_lasts_to k_Lease_lasts_to
  have F_Lease_owed_through := fun_mk (st := s_Lease_owed_through) l_Lease_owed_through cc_Lease_owed_through k_Lease_owed_through
  have F_Lease_pledge_through := fun_mk (st := s_Lease_pledge_through) l_Lease_pledge_through cc_Lease_pledge_through k_Lease_pledge_through
  have F_Roll_init := fun_mk (st := s_Roll_init) l_Roll_init cc_Roll_init k_Roll_init
  have F_Roll_let := fun_mk (st := s_Roll_let) l_Roll_let cc_Roll_let k_Roll_let
  have F_Roll_end := fun_mk (st := s_Roll_end) l_Roll_end cc_Roll_end k_Roll_end
  have F_Roll_step := fun_mk (st := s_Roll_step) l_Roll_step cc_Roll_step k_Roll_step
  have F_Roll_gauge := fun_mk (st := s_Roll_gauge) l_Roll_gauge cc_Roll_gauge k_Roll_gauge
  have F_Roll_rate := fun_mk (st := s_Roll_rate) l_Roll_rate cc_Roll_rate k_Roll_rate
  have F_Roll_paid := fun_mk (st := s_Roll_paid) l_Roll_paid cc_Roll_paid k_Roll_paid
  have F_Roll_kept := fun_mk (st := s_Roll_kept) l_Roll_kept cc_Roll_kept k_Roll_kept
  have F_Roll_close := fun_mk (st := s_Roll_close) l_Roll_close cc_Roll_close k_Roll_close
  have F_Roll_bill := fun_mk (st := s_Roll_bill) l_Roll_bill cc_Roll_bill k_Roll_bill
  have F_Roll_many := fun_mk (st := s_Roll_many) l_Roll_many cc_Roll_many k_Roll_many
  have F_Roll_billed := fun_mk (st := s_Roll_billed) l_Roll_billed cc_Roll_billed k_Roll_billed
  have F_Roll_lease := fun_mk (st := s_Roll_lease) l_Roll_lease cc_Roll_lease k_Roll_lease
  have F_Roll_owed := fun_mk (st := s_Roll_owed) l_Roll_owed cc_Roll_owed k_Roll_owed
  have F_Roll_pledge := fun_mk (st := s_Roll_pledge) l_Roll_pledge cc_Roll_pledge k_Roll_pledge
  have F_Roll_sent := fun_mk (st := s_Roll_sent) l_Roll_sent cc_Roll_sent k_Roll_sent
  have F_Roll_given := fun_mk (st := s_Roll_given) l_Roll_given cc_Roll_given k_Roll_given
  have F_Roll_letters := fun_mk (st := s_Roll_letters) l_Roll_letters cc_Roll_letters k_Roll_letters
  have F_Roll__known := fun_mk (st := s_Roll__known) l_Roll__known cc_Roll__known k_Roll__known
  have F_Roll__check_free := fun_mk (st := s_Roll__check_free) l_Roll__check_free cc_Roll__check_free k_Roll__check_free
  have F_Roll__check_end := fun_mk (st := s_Roll__check_end) l_Roll__check_end cc_Roll__check_end k_Roll__check_end
  have F_Roll__move := fun_mk (st := s_Roll__move) l_Roll__move cc_Roll__move k_Roll__move
  have F_Roll__done := fun_mk (st := s_Roll__done) l_Roll__done cc_Roll__done k_Roll__done
  have F_roll_of := fun_mk (st := s_roll_of) l_roll_of cc_roll_of k_roll_of
  have F_tell := fun_mk (st := s_tell) l_tell cc_tell k_tell
  have F_l_cell_at := fun_mk (st := s_l_cell_at) l_l_cell_at cc_l_cell_at k_l_cell_at
  have F_l_mix := fun_mk (st := s_l_mix) l_l_mix cc_l_mix k_l_mix
  have F_l_base := fun_mk (st := s_l_base) l_l_base cc_l_base k_l_base
  have F_l_money := fun_mk (st := s_l_money) l_l_money cc_l_money k_l_money
  have F_l_number := fun_mk (st := s_l_number) l_l_number cc_l_number k_l_number
  have F_l_flats := fun_mk (st := s_l_flats) l_l_flats cc_l_flats k_l_flats
  have F_l_letter := fun_mk (st := s_l_letter) l_l_letter cc_l_letter k_l_letter
  have F_l_do := fun_mk (st := s_l_do) l_l_do cc_l_do k_l_do
  have F_l_told := fun_mk (st := s_l_told) l_l_told cc_l_told k_l_told
  have F_l_room := fun_mk (st := s_l_room) l_l_room cc_l_room k_l_room
  have F_l_all := fun_mk (st := s_l_all) l_l_all cc_l_all k_l_all
  have F_l_again := fun_mk (st := s_l_again) l_l_again cc_l_again k_l_again
  have F_law := fun_mk (st := s_law) l_law cc_law k_law
  have ht : PySem.W.tabIn K "_is_flat" = some (kc_is_flat, kP_is_flat) := by
    unfold PySem.W.tabIn
    rw [a_is_flat]
    dsimp only
    rw [l_is_flat]
    dsimp only [PySem.W.fnOf]
    rw [kl_is_flat]
    dsimp only
    rw [kv11_is_flat]
  obtain ⟨hc, hp⟩ := tab _ _ _ (by simp) ht
  refine ⟨PySem.W.fnOf "law" "law" (defArgs s_law) (defBody s_law) (defScope s_law) .none kV_law dc_law pm_law an_law cd_law ct_law, [(kc_is_flat, kP_is_flat)], sp_law K kP_is_flat, ?_, ?_, ?_, fun s v => .of_eq rfl, ?_, fun base _ _ tbs => ?_⟩
  · intro p hp'
    rw [List.mem_singleton.mp hp']
    exact hp
  · intro p hp'
    rw [List.mem_singleton.mp hp']
    exact kn_is_flat
  · intro p hp'
    rw [List.mem_singleton.mp hp']
    exact hc
  · intro H a ns hl _ hT hS
    exact ⟨a, ns, rfl, hS, hl, hT _ (List.mem_singleton.mpr rfl), fun _ => rfl⟩
  have t0 := tbs _ (List.mem_singleton.mpr rfl)
  have tb_is_flat : GxR.TabB base mg kc_is_flat kP_is_flat := ⟨t0.code, t0.bm, t0.gP⟩
  let T : Txt K mg base := {
    f_is_whole := f_is_whole,
    fd_is_whole := _,
    F_is_whole := F_is_whole,
    b_is_whole := F_is_whole.binds (ps := ["thing"]) fun _ _ _ _ _ _ us hl => match us, hl with | [_], _ => rfl,
    g_is_whole := PySem.W.mg_of X G a_is_whole,
    f_is_within := f_is_within,
    fd_is_within := _,
    F_is_within := F_is_within,
    b_is_within := F_is_within.binds (ps := ["thing", "low", "high"]) fun _ _ _ _ _ _ us hl => match us, hl with | [_, _, _], _ => rfl,
    g_is_within := PySem.W.mg_of X G a_is_within,
    f_check_day := f_check_day,
    fd_check_day := _,
    F_check_day := F_check_day,
    b_check_day := F_check_day.binds (ps := ["day"]) fun _ _ _ _ _ _ us hl => match us, hl with | [_], _ => rfl,
    g_check_day := PySem.W.mg_of X G a_check_day,
    f_month_days := f_month_days,
    fd_month_days := _,
    F_month_days := F_month_days,
    b_month_days := F_month_days.binds (ps := ["year", "month"]) fun _ _ _ _ _ _ us hl => match us, hl with | [_, _], _ => rfl,
    g_month_days := PySem.W.mg_of X G a_month_days,
    f_month_of := f_month_of,
    fd_month_of := _,
    F_month_of := F_month_of,
    b_month_of := F_month_of.binds (ps := ["day"]) fun _ _ _ _ _ _ us hl => match us, hl with | [_], _ => rfl,
    g_month_of := PySem.W.mg_of X G a_month_of,
    f_is_leap := f_is_leap,
    fd_is_leap := _,
    F_is_leap := F_is_leap,
    b_is_leap := F_is_leap.binds (ps := ["year"]) fun _ _ _ _ _ _ us hl => match us, hl with | [_], _ => rfl,
    g_is_leap := PySem.W.mg_of X G a_is_leap,
    f_length := f_length,
    fd_length := _,
    F_length := F_length,
    b_length := F_length.binds (ps := ["year", "month"]) fun _ _ _ _ _ _ us hl => match us, hl with | [_, _], _ => rfl,
    g_length := PySem.W.mg_of X G a_length,
    f_year_start := f_year_start,
    fd_year_start := _,
    F_year_start := F_year_start,
    b_year_start := F_year_start.binds (ps := ["year"]) fun _ _ _ _ _ _ us hl => match us, hl with | [_], _ => rfl,
    g_year_start := PySem.W.mg_of X G a_year_start,
    f_check_flat := f_check_flat,
    fd_check_flat := _,
    F_check_flat := F_check_flat,
    b_check_flat := F_check_flat.binds (ps := ["flat"]) fun _ _ _ _ _ _ us hl => match us, hl with | [_], _ => rfl,
    g_check_flat := PySem.W.mg_of X G a_check_flat,
    f_check_amount := f_check_amount,
    fd_check_amount := _,
    F_check_amount := F_check_amount,
    b_check_amount := F_check_amount.binds (ps := ["amount", "low", "high"]) fun _ _ _ _ _ _ us hl => match us, hl with | [_, _, _], _ => rfl,
    g_check_amount := PySem.W.mg_of X G a_check_amount,
    f_is_flat := f_is_flat,
    fd_is_flat := _,
    k_is_flat := kc_is_flat,
    P_is_flat := kP_is_flat,
    C_is_flat := ⟨⟨_, _, _, _, _, _, _, _, rfl, l_is_flat, cc_is_flat⟩⟩,
    tb_is_flat := tb_is_flat,
    F_is_flat := F_is_flat,
    b_is_flat := F_is_flat.binds (ps := ["thing"]) fun _ _ _ _ _ _ us hl => match us, hl with | [_], _ => rfl,
    g_is_flat := PySem.W.mg_of X G a_is_flat,
    f_in_order := f_in_order,
    fd_in_order := _,
    F_in_order := F_in_order,
    b_in_order := F_in_order.binds (ps := ["terms"]) fun _ _ _ _ _ _ us hl => match us, hl with | [_], _ => rfl,
    g_in_order := PySem.W.mg_of X G a_in_order,
    f_spans := f_spans,
    fd_spans := _,
    F_spans := F_spans,
    b_spans := F_spans.binds (ps := ["terms", "first", "last"]) fun _ _ _ _ _ _ us hl => match us, hl with | [_, _, _], _ => rfl,
    g_spans := PySem.W.mg_of X G a_spans,
    f_balance := f_balance,
    fd_balance := _,
    F_balance := F_balance,
    b_balance := F_balance.binds (ps := ["moves", "day"]) fun _ _ _ _ _ _ us hl => match us, hl with | [_, _], _ => rfl,
    g_balance := PySem.W.mg_of X G a_balance,
    f_grown := f_grown,
    fd_grown := _,
    F_grown := F_grown,
    b_grown := F_grown.binds (ps := ["moves", "rates", "last"]) fun _ _ _ _ _ _ us hl => match us, hl with | [_, _, _], _ => rfl,
    g_grown := PySem.W.mg_of X G a_grown,
    f_balances := f_balances,
    fd_balances := _,
    F_balances := F_balances,
    b_balances := F_balances.binds (ps := ["moves"]) fun _ _ _ _ _ _ us hl => match us, hl with | [_], _ => rfl,
    g_balances := PySem.W.mg_of X G a_balances,
    f_pair_held := f_pair_held,
    fd_pair_held := _,
    F_pair_held := F_pair_held,
    b_pair_held := F_pair_held.binds (ps := ["terms", "day"]) fun _ _ _ _ _ _ us hl => match us, hl with | [_, _], _ => rfl,
    g_pair_held := PySem.W.mg_of X G a_pair_held,
    f_held := f_held,
    fd_held := _,
    F_held := F_held,
    b_held := F_held.binds (ps := ["terms", "day"]) fun _ _ _ _ _ _ us hl => match us, hl with | [_, _], _ => rfl,
    g_held := PySem.W.mg_of X G a_held,
    f_owed := f_owed,
    fd_owed := _,
    F_owed := F_owed,
    b_owed := F_owed.binds (ps := ["steps", "gauges", "first", "last"]) fun _ _ _ _ _ _ us hl => match us, hl with | [_, _, _, _], _ => rfl,
    g_owed := PySem.W.mg_of X G a_owed,
    f_parts := f_parts,
    fd_parts := _,
    F_parts := F_parts,
    b_parts := F_parts.binds (ps := ["rent", "first", "last"]) fun _ _ _ _ _ _ us hl => match us, hl with | [_, _, _], _ => rfl,
    g_parts := PySem.W.mg_of X G a_parts,
    f_parts_through := f_parts_through,
    fd_parts_through := _,
    F_parts_through := F_parts_through,
    b_parts_through := F_parts_through.binds (ps := ["rent", "year", "month", "number"]) fun _ _ _ _ _ _ us hl => match us, hl with | [_, _, _, _], _ => rfl,
    g_parts_through := PySem.W.mg_of X G a_parts_through,
    f_Lease_init := f_Lease_init,
    fd_Lease_init := _,
    F_Lease_init := F_Lease_init,
    b_Lease_init := F_Lease_init.binds (ps := ["self", "flat", "first", "rent", "indexed"]) fun _ _ _ _ _ _ us hl => match us, hl with | [_, _, _, _, _], _ => rfl,
    f_Lease_lasts_to := f_Lease_lasts_to,
    fd_Lease_lasts_to := _,
    F_Lease_lasts_to := F_Lease_lasts_to,
    b_Lease_lasts_to := F_Lease_lasts_to.binds (ps := ["self", "day"]) fun _ _ _ _ _ _ us hl => match us, hl with | [_, _], _ => rfl,
    f_Lease_owed_through := f_Lease_owed_through,
    fd_Lease_owed_through := _,
    F_Lease_owed_through := F_Lease_owed_through,
    b_Lease_owed_through := F_Lease_owed_through.binds (ps := ["self", "day", "gauges"]) fun _ _ _ _ _ _ us hl => match us, hl with | [_, _, _], _ => rfl,
    f_Lease_pledge_through := f_Lease_pledge_through,
    fd_Lease_pledge_through := _,
    F_Lease_pledge_through := F_Lease_pledge_through,
    b_Lease_pledge_through := F_Lease_pledge_through.binds (ps := ["self", "day", "rates"]) fun _ _ _ _ _ _ us hl => match us, hl with | [_, _, _], _ => rfl,
    f_Roll_init := f_Roll_init,
    fd_Roll_init := _,
    F_Roll_init := F_Roll_init,
    b_Roll_init := F_Roll_init.binds (ps := ["self"]) fun _ _ _ _ _ _ us hl => match us, hl with | [_], _ => rfl,
    f_Roll_let := f_Roll_let,
    fd_Roll_let := _,
    F_Roll_let := F_Roll_let,
    b_Roll_let := F_Roll_let.binds (ps := ["self", "flat", "first", "rent", "indexed"]) fun _ _ _ _ _ _ us hl => match us, hl with | [_, _, _, _, _], _ => rfl,
    f_Roll_end := f_Roll_end,
    fd_Roll_end := _,
    F_Roll_end := F_Roll_end,
    b_Roll_end := F_Roll_end.binds (ps := ["self", "lease", "last"]) fun _ _ _ _ _ _ us hl => match us, hl with | [_, _, _], _ => rfl,
    f_Roll_step := f_Roll_step,
    fd_Roll_step := _,
    F_Roll_step := F_Roll_step,
    b_Roll_step := F_Roll_step.binds (ps := ["self", "lease", "first", "rent"]) fun _ _ _ _ _ _ us hl => match us, hl with | [_, _, _, _], _ => rfl,
    f_Roll_gauge := f_Roll_gauge,
    fd_Roll_gauge := _,
    F_Roll_gauge := F_Roll_gauge,
    b_Roll_gauge := F_Roll_gauge.binds (ps := ["self", "first", "number"]) fun _ _ _ _ _ _ us hl => match us, hl with | [_, _, _], _ => rfl,
    f_Roll_rate := f_Roll_rate,
    fd_Roll_rate := _,
    F_Roll_rate := F_Roll_rate,
    b_Roll_rate := F_Roll_rate.binds (ps := ["self", "first", "hundredths"]) fun _ _ _ _ _ _ us hl => match us, hl with | [_, _, _], _ => rfl,
    f_Roll_paid := f_Roll_paid,
    fd_Roll_paid := _,
    F_Roll_paid := F_Roll_paid,
    b_Roll_paid := F_Roll_paid.binds (ps := ["self", "lease", "day", "cents"]) fun _ _ _ _ _ _ us hl => match us, hl with | [_, _, _, _], _ => rfl,
    f_Roll_kept := f_Roll_kept,
    fd_Roll_kept := _,
    F_Roll_kept := F_Roll_kept,
    b_Roll_kept := F_Roll_kept.binds (ps := ["self", "lease", "day", "cents"]) fun _ _ _ _ _ _ us hl => match us, hl with | [_, _, _, _], _ => rfl,
    f_Roll_close := f_Roll_close,
    fd_Roll_close := _,
    F_Roll_close := F_Roll_close,
    b_Roll_close := F_Roll_close.binds (ps := ["self", "lease", "day"]) fun _ _ _ _ _ _ us hl => match us, hl with | [_, _, _], _ => rfl,
    f_Roll_bill := f_Roll_bill,
    fd_Roll_bill := _,
    F_Roll_bill := F_Roll_bill,
    b_Roll_bill := F_Roll_bill.binds (ps := ["self", "day"]) fun _ _ _ _ _ _ us hl => match us, hl with | [_, _], _ => rfl,
    f_Roll_many := f_Roll_many,
    fd_Roll_many := _,
    F_Roll_many := F_Roll_many,
    b_Roll_many := F_Roll_many.binds (ps := ["self"]) fun _ _ _ _ _ _ us hl => match us, hl with | [_], _ => rfl,
    f_Roll_billed := f_Roll_billed,
    fd_Roll_billed := _,
    F_Roll_billed := F_Roll_billed,
    b_Roll_billed := F_Roll_billed.binds (ps := ["self"]) fun _ _ _ _ _ _ us hl => match us, hl with | [_], _ => rfl,
    f_Roll_lease := f_Roll_lease,
    fd_Roll_lease := _,
    F_Roll_lease := F_Roll_lease,
    b_Roll_lease := F_Roll_lease.binds (ps := ["self", "number"]) fun _ _ _ _ _ _ us hl => match us, hl with | [_, _], _ => rfl,
    f_Roll_owed := f_Roll_owed,
    fd_Roll_owed := _,
    F_Roll_owed := F_Roll_owed,
    b_Roll_owed := F_Roll_owed.binds (ps := ["self", "lease", "day"]) fun _ _ _ _ _ _ us hl => match us, hl with | [_, _, _], _ => rfl,
    f_Roll_pledge := f_Roll_pledge,
    fd_Roll_pledge := _,
    F_Roll_pledge := F_Roll_pledge,
    b_Roll_pledge := F_Roll_pledge.binds (ps := ["self", "lease", "day"]) fun _ _ _ _ _ _ us hl => match us, hl with | [_, _, _], _ => rfl,
    f_Roll_sent := f_Roll_sent,
    fd_Roll_sent := _,
    F_Roll_sent := F_Roll_sent,
    b_Roll_sent := F_Roll_sent.binds (ps := ["self", "lease"]) fun _ _ _ _ _ _ us hl => match us, hl with | [_, _], _ => rfl,
    f_Roll_given := f_Roll_given,
    fd_Roll_given := _,
    F_Roll_given := F_Roll_given,
    b_Roll_given := F_Roll_given.binds (ps := ["self", "lease"]) fun _ _ _ _ _ _ us hl => match us, hl with | [_, _], _ => rfl,
    f_Roll_letters := f_Roll_letters,
    fd_Roll_letters := _,
    F_Roll_letters := F_Roll_letters,
    b_Roll_letters := F_Roll_letters.binds (ps := ["self"]) fun _ _ _ _ _ _ us hl => match us, hl with | [_], _ => rfl,
    f_Roll__known := f_Roll__known,
    fd_Roll__known := _,
    F_Roll__known := F_Roll__known,
    b_Roll__known := F_Roll__known.binds (ps := ["self", "number"]) fun _ _ _ _ _ _ us hl => match us, hl with | [_, _], _ => rfl,
    f_Roll__check_free := f_Roll__check_free,
    fd_Roll__check_free := _,
    F_Roll__check_free := F_Roll__check_free,
    b_Roll__check_free := F_Roll__check_free.binds (ps := ["self", "flat", "first"]) fun _ _ _ _ _ _ us hl => match us, hl with | [_, _, _], _ => rfl,
    f_Roll__check_end := f_Roll__check_end,
    fd_Roll__check_end := _,
    F_Roll__check_end := F_Roll__check_end,
    b_Roll__check_end := F_Roll__check_end.binds (ps := ["self", "ended", "last"]) fun _ _ _ _ _ _ us hl => match us, hl with | [_, _, _], _ => rfl,
    f_Roll__move := f_Roll__move,
    fd_Roll__move := _,
    F_Roll__move := F_Roll__move,
    b_Roll__move := F_Roll__move.binds (ps := ["self", "lease", "day", "cents", "sign"]) fun _ _ _ _ _ _ us hl => match us, hl with | [_, _, _, _, _], _ => rfl,
    f_Roll__done := f_Roll__done,
    fd_Roll__done := _,
    F_Roll__done := F_Roll__done,
    b_Roll__done := F_Roll__done.binds (ps := ["self", "letter"]) fun _ _ _ _ _ _ us hl => match us, hl with | [_, _], _ => rfl,
    f_roll_of := f_roll_of,
    fd_roll_of := _,
    F_roll_of := F_roll_of,
    b_roll_of := F_roll_of.binds (ps := ["letters"]) fun _ _ _ _ _ _ us hl => match us, hl with | [_], _ => rfl,
    g_roll_of := PySem.W.mg_of X G a_roll_of,
    f_tell := f_tell,
    fd_tell := _,
    F_tell := F_tell,
    b_tell := F_tell.binds (ps := ["roll", "letter"]) fun _ _ _ _ _ _ us hl => match us, hl with | [_, _], _ => rfl,
    g_tell := PySem.W.mg_of X G a_tell,
    f_l_cell_at := f_l_cell_at,
    fd_l_cell_at := _,
    F_l_cell_at := F_l_cell_at,
    b_l_cell_at := F_l_cell_at.binds (ps := ["_law_script", "_law_k"]) fun _ _ _ _ _ _ us hl => match us, hl with | [_, _], _ => rfl,
    g_l_cell_at := PySem.W.mg_of X G a_l_cell_at,
    f_l_mix := f_l_mix,
    fd_l_mix := _,
    F_l_mix := F_l_mix,
    b_l_mix := F_l_mix.binds (ps := ["_law_number_here", "_law_k"]) fun _ _ _ _ _ _ us hl => match us, hl with | [_, _], _ => rfl,
    g_l_mix := PySem.W.mg_of X G a_l_mix,
    f_l_base := f_l_base,
    fd_l_base := _,
    F_l_base := F_l_base,
    b_l_base := F_l_base.binds (ps := ["_law_cell"]) fun _ _ _ _ _ _ us hl => match us, hl with | [_], _ => rfl,
    g_l_base := PySem.W.mg_of X G a_l_base,
    f_l_money := f_l_money,
    fd_l_money := _,
    F_l_money := F_l_money,
    b_l_money := F_l_money.binds (ps := ["_law_cell"]) fun _ _ _ _ _ _ us hl => match us, hl with | [_], _ => rfl,
    g_l_money := PySem.W.mg_of X G a_l_money,
    f_l_number := f_l_number,
    fd_l_number := _,
    F_l_number := F_l_number,
    b_l_number := F_l_number.binds (ps := ["_law_cell"]) fun _ _ _ _ _ _ us hl => match us, hl with | [_], _ => rfl,
    g_l_number := PySem.W.mg_of X G a_l_number,
    f_l_flats := f_l_flats,
    fd_l_flats := _,
    F_l_flats := F_l_flats,
    b_l_flats := F_l_flats.binds (ps := ["_law_cell"]) fun _ _ _ _ _ _ us hl => match us, hl with | [_], _ => rfl,
    g_l_flats := PySem.W.mg_of X G a_l_flats,
    f_l_letter := f_l_letter,
    fd_l_letter := _,
    F_l_letter := F_l_letter,
    b_l_letter := F_l_letter.binds (ps := ["_law_cell", "_law_base_here", "_law_wide", "_law_flats_here", "_law_many"]) fun _ _ _ _ _ _ us hl => match us, hl with | [_, _, _, _, _], _ => rfl,
    g_l_letter := PySem.W.mg_of X G a_l_letter,
    f_l_do := f_l_do,
    fd_l_do := _,
    F_l_do := F_l_do,
    b_l_do := F_l_do.binds (ps := ["_law_roll", "_law_letter_here"]) fun _ _ _ _ _ _ us hl => match us, hl with | [_, _], _ => rfl,
    g_l_do := PySem.W.mg_of X G a_l_do,
    f_l_told := f_l_told,
    fd_l_told := _,
    F_l_told := F_l_told,
    b_l_told := F_l_told.binds (ps := ["_law_roll", "_law_letter_here"]) fun _ _ _ _ _ _ us hl => match us, hl with | [_, _], _ => rfl,
    g_l_told := PySem.W.mg_of X G a_l_told,
    f_l_room := f_l_room,
    fd_l_room := _,
    F_l_room := F_l_room,
    b_l_room := F_l_room.binds (ps := ["_law_script", "_law_small", "_law_great"]) fun _ _ _ _ _ _ us hl => match us, hl with | [_, _, _], _ => rfl,
    g_l_room := PySem.W.mg_of X G a_l_room,
    f_l_all := f_l_all,
    fd_l_all := _,
    F_l_all := F_l_all,
    b_l_all := F_l_all.binds (ps := ["_law_roll", "_law_day"]) fun _ _ _ _ _ _ us hl => match us, hl with | [_, _], _ => rfl,
    g_l_all := PySem.W.mg_of X G a_l_all,
    f_l_again := f_l_again,
    fd_l_again := _,
    F_l_again := F_l_again,
    b_l_again := F_l_again.binds (ps := ["_law_letters"]) fun _ _ _ _ _ _ us hl => match us, hl with | [_], _ => rfl,
    g_l_again := PySem.W.mg_of X G a_l_again,
    f_law := f_law,
    fd_law := _,
    F_law := F_law,
    b_law := F_law.binds (ps := ["_law_script"]) fun _ _ _ _ _ _ us hl => match us, hl with | [_], _ => rfl,
    g_law := PySem.W.mg_of X G a_law,
    c_RentError := c_RentError,
    g_RentError := PySem.W.mg_of X G a_RentError,
    c_BadDay := c_BadDay,
    g_BadDay := PySem.W.mg_of X G a_BadDay,
    c_BadFlat := c_BadFlat,
    g_BadFlat := PySem.W.mg_of X G a_BadFlat,
    c_BadAmount := c_BadAmount,
    g_BadAmount := PySem.W.mg_of X G a_BadAmount,
    c_NoLease := c_NoLease,
    g_NoLease := PySem.W.mg_of X G a_NoLease,
    c_Taken := c_Taken,
    g_Taken := PySem.W.mg_of X G a_Taken,
    c_Full := c_Full,
    g_Full := PySem.W.mg_of X G a_Full,
    c_Done := c_Done,
    g_Done := PySem.W.mg_of X G a_Done,
    x_BadDay := x_BadDay,
    k_BadDay := k_BadDay,
    s_BadDay := s_BadDay,
    t_BadDay := t_BadDay,
    m_BadDay_NoLease := PySem.W.exm_ref cs_NoLease cd_NoLease ct_NoLease m_BadDay_NoLease,
    m_BadDay_BadDay := PySem.W.exm_ref cs_BadDay cd_BadDay ct_BadDay m_BadDay_BadDay,
    m_BadDay_Taken := PySem.W.exm_ref cs_Taken cd_Taken ct_Taken m_BadDay_Taken,
    m_BadDay_Done := PySem.W.exm_ref cs_Done cd_Done ct_Done m_BadDay_Done,
    m_BadDay_Full := PySem.W.exm_ref cs_Full cd_Full ct_Full m_BadDay_Full,
    x_BadFlat := x_BadFlat,
    k_BadFlat := k_BadFlat,
    s_BadFlat := s_BadFlat,
    t_BadFlat := t_BadFlat,
    m_BadFlat_NoLease := PySem.W.exm_ref cs_NoLease cd_NoLease ct_NoLease m_BadFlat_NoLease,
    m_BadFlat_BadDay := PySem.W.exm_ref cs_BadDay cd_BadDay ct_BadDay m_BadFlat_BadDay,
    m_BadFlat_Taken := PySem.W.exm_ref cs_Taken cd_Taken ct_Taken m_BadFlat_Taken,
    m_BadFlat_Done := PySem.W.exm_ref cs_Done cd_Done ct_Done m_BadFlat_Done,
    m_BadFlat_Full := PySem.W.exm_ref cs_Full cd_Full ct_Full m_BadFlat_Full,
    x_BadAmount := x_BadAmount,
    k_BadAmount := k_BadAmount,
    s_BadAmount := s_BadAmount,
    t_BadAmount := t_BadAmount,
    m_BadAmount_NoLease := PySem.W.exm_ref cs_NoLease cd_NoLease ct_NoLease m_BadAmount_NoLease,
    m_BadAmount_BadDay := PySem.W.exm_ref cs_BadDay cd_BadDay ct_BadDay m_BadAmount_BadDay,
    m_BadAmount_Taken := PySem.W.exm_ref cs_Taken cd_Taken ct_Taken m_BadAmount_Taken,
    m_BadAmount_Done := PySem.W.exm_ref cs_Done cd_Done ct_Done m_BadAmount_Done,
    m_BadAmount_Full := PySem.W.exm_ref cs_Full cd_Full ct_Full m_BadAmount_Full,
    x_Full := x_Full,
    k_Full := k_Full,
    s_Full := s_Full,
    t_Full := t_Full,
    m_Full_NoLease := PySem.W.exm_ref cs_NoLease cd_NoLease ct_NoLease m_Full_NoLease,
    m_Full_BadDay := PySem.W.exm_ref cs_BadDay cd_BadDay ct_BadDay m_Full_BadDay,
    m_Full_Taken := PySem.W.exm_ref cs_Taken cd_Taken ct_Taken m_Full_Taken,
    m_Full_Done := PySem.W.exm_ref cs_Done cd_Done ct_Done m_Full_Done,
    m_Full_Full := PySem.W.exm_ref cs_Full cd_Full ct_Full m_Full_Full,
    x_Done := x_Done,
    k_Done := k_Done,
    s_Done := s_Done,
    t_Done := t_Done,
    m_Done_NoLease := PySem.W.exm_ref cs_NoLease cd_NoLease ct_NoLease m_Done_NoLease,
    m_Done_BadDay := PySem.W.exm_ref cs_BadDay cd_BadDay ct_BadDay m_Done_BadDay,
    m_Done_Taken := PySem.W.exm_ref cs_Taken cd_Taken ct_Taken m_Done_Taken,
    m_Done_Done := PySem.W.exm_ref cs_Done cd_Done ct_Done m_Done_Done,
    m_Done_Full := PySem.W.exm_ref cs_Full cd_Full ct_Full m_Done_Full,
    x_NoLease := x_NoLease,
    k_NoLease := k_NoLease,
    s_NoLease := s_NoLease,
    t_NoLease := t_NoLease,
    m_NoLease_NoLease := PySem.W.exm_ref cs_NoLease cd_NoLease ct_NoLease m_NoLease_NoLease,
    m_NoLease_BadDay := PySem.W.exm_ref cs_BadDay cd_BadDay ct_BadDay m_NoLease_BadDay,
    m_NoLease_Taken := PySem.W.exm_ref cs_Taken cd_Taken ct_Taken m_NoLease_Taken,
    m_NoLease_Done := PySem.W.exm_ref cs_Done cd_Done ct_Done m_NoLease_Done,
    m_NoLease_Full := PySem.W.exm_ref cs_Full cd_Full ct_Full m_NoLease_Full,
    x_Taken := x_Taken,
    k_Taken := k_Taken,
    s_Taken := s_Taken,
    t_Taken := t_Taken,
    m_Taken_NoLease := PySem.W.exm_ref cs_NoLease cd_NoLease ct_NoLease m_Taken_NoLease,
    m_Taken_BadDay := PySem.W.exm_ref cs_BadDay cd_BadDay ct_BadDay m_Taken_BadDay,
    m_Taken_Taken := PySem.W.exm_ref cs_Taken cd_Taken ct_Taken m_Taken_Taken,
    m_Taken_Done := PySem.W.exm_ref cs_Done cd_Done ct_Done m_Taken_Done,
    m_Taken_Full := PySem.W.exm_ref cs_Full cd_Full ct_Full m_Taken_Full,
    x_RentError := x_RentError,
    k_RentError := k_RentError,
    s_RentError := s_RentError,
    t_RentError := t_RentError,
    m_RentError_NoLease := PySem.W.exm_ref cs_NoLease cd_NoLease ct_NoLease m_RentError_NoLease,
    m_RentError_BadDay := PySem.W.exm_ref cs_BadDay cd_BadDay ct_BadDay m_RentError_BadDay,
    m_RentError_Taken := PySem.W.exm_ref cs_Taken cd_Taken ct_Taken m_RentError_Taken,
    m_RentError_Done := PySem.W.exm_ref cs_Done cd_Done ct_Done m_RentError_Done,
    m_RentError_Full := PySem.W.exm_ref cs_Full cd_Full ct_Full m_RentError_Full,
    c_Lease := c_Lease,
    g_Lease := PySem.W.mg_of X G a_Lease,
    cl_Lease := ⟨pg_Lease, hd_Lease, po_Lease, sa_Lease⟩,
    n_Lease_flat := n_Lease_flat,
    n_Lease_first := n_Lease_first,
    n_Lease_last := n_Lease_last,
    n_Lease_indexed := n_Lease_indexed,
    n_Lease_steps := n_Lease_steps,
    n_Lease_moves := n_Lease_moves,
    n_Lease_closing := n_Lease_closing,
    n_Lease_cents_sent := n_Lease_cents_sent,
    n_Lease_cents_given := n_Lease_cents_given,
    mk_Lease := ⟨mk_Lease, a_Lease_init, i_Lease_init, kc_Lease⟩,
    m_Lease_lasts_to := ⟨a_Lease_lasts_to, i_Lease_lasts_to, k_Lease_lasts_to⟩,
    m_Lease_owed_through := ⟨a_Lease_owed_through, i_Lease_owed_through, k_Lease_owed_through⟩,
    m_Lease_pledge_through := ⟨a_Lease_pledge_through, i_Lease_pledge_through, k_Lease_pledge_through⟩,
    c_Roll := c_Roll,
    g_Roll := PySem.W.mg_of X G a_Roll,
    cl_Roll := ⟨pg_Roll, hd_Roll, po_Roll, sa_Roll⟩,
    n_Roll__leases := n_Roll__leases,
    n_Roll__gauges := n_Roll__gauges,
    n_Roll__rates := n_Roll__rates,
    n_Roll__billed := n_Roll__billed,
    n_Roll__letters := n_Roll__letters,
    mk_Roll := ⟨mk_Roll, a_Roll_init, i_Roll_init, kc_Roll⟩,
    m_Roll_let := ⟨a_Roll_let, i_Roll_let, k_Roll_let⟩,
    m_Roll_end := ⟨a_Roll_end, i_Roll_end, k_Roll_end⟩,
    m_Roll_step := ⟨a_Roll_step, i_Roll_step, k_Roll_step⟩,
    m_Roll_gauge := ⟨a_Roll_gauge, i_Roll_gauge, k_Roll_gauge⟩,
    m_Roll_rate := ⟨a_Roll_rate, i_Roll_rate, k_Roll_rate⟩,
    m_Roll_paid := ⟨a_Roll_paid, i_Roll_paid, k_Roll_paid⟩,
    m_Roll_kept := ⟨a_Roll_kept, i_Roll_kept, k_Roll_kept⟩,
    m_Roll_close := ⟨a_Roll_close, i_Roll_close, k_Roll_close⟩,
    m_Roll_bill := ⟨a_Roll_bill, i_Roll_bill, k_Roll_bill⟩,
    m_Roll_many := ⟨a_Roll_many, i_Roll_many, k_Roll_many⟩,
    m_Roll_billed := ⟨a_Roll_billed, i_Roll_billed, k_Roll_billed⟩,
    m_Roll_lease := ⟨a_Roll_lease, i_Roll_lease, k_Roll_lease⟩,
    m_Roll_owed := ⟨a_Roll_owed, i_Roll_owed, k_Roll_owed⟩,
    m_Roll_pledge := ⟨a_Roll_pledge, i_Roll_pledge, k_Roll_pledge⟩,
    m_Roll_sent := ⟨a_Roll_sent, i_Roll_sent, k_Roll_sent⟩,
    m_Roll_given := ⟨a_Roll_given, i_Roll_given, k_Roll_given⟩,
    m_Roll_letters := ⟨a_Roll_letters, i_Roll_letters, k_Roll_letters⟩,
    m_Roll__known := ⟨a_Roll__known, i_Roll__known, k_Roll__known⟩,
    m_Roll__check_free := ⟨a_Roll__check_free, i_Roll__check_free, k_Roll__check_free⟩,
    m_Roll__check_end := ⟨a_Roll__check_end, i_Roll__check_end, k_Roll__check_end⟩,
    m_Roll__move := ⟨a_Roll__move, i_Roll__move, k_Roll__move⟩,
    m_Roll__done := ⟨a_Roll__done, i_Roll__done, k_Roll__done⟩,
    tk_FIRST_YEAR := _,
    g_FIRST_YEAR := PySem.W.mg_of X G a_FIRST_YEAR,
    tk_LAST_YEAR := _,
    g_LAST_YEAR := PySem.W.mg_of X G a_LAST_YEAR,
    tk_LAST_DAY := _,
    g_LAST_DAY := PySem.W.mg_of X G a_LAST_DAY,
    tk_LONGEST_YEAR := _,
    g_LONGEST_YEAR := PySem.W.mg_of X G a_LONGEST_YEAR,
    a_LENGTHS := o_LENGTHS,
    g_LENGTHS := PySem.W.mg_of X G a_LENGTHS,
    q_LENGTHS := fun H => .inr ⟨_, _, _, l_LENGTHS, rfl, rfl, Nat.le_of_ble_eq_true rfl, .cons ⟨_, rfl⟩ (.cons ⟨_, rfl⟩ (.cons ⟨_, rfl⟩ (.cons ⟨_, rfl⟩ (.cons ⟨_, rfl⟩ (.cons ⟨_, rfl⟩ (.cons ⟨_, rfl⟩ (.cons ⟨_, rfl⟩ (.cons ⟨_, rfl⟩ (.cons ⟨_, rfl⟩ (.cons ⟨_, rfl⟩ (.cons ⟨_, rfl⟩ (.nil))))))))))))⟩,
    tk_LONGEST_FLAT := _,
    g_LONGEST_FLAT := PySem.W.mg_of X G a_LONGEST_FLAT,
    tk_WHOLE := _,
    g_WHOLE := PySem.W.mg_of X G a_WHOLE,
    a_STEADY := o_STEADY,
    i_STEADY := io_STEADY,
    g_STEADY := PySem.W.mg_of X G a_STEADY,
    q_STEADY := fun H => .inr ⟨_, _, _, l_STEADY, rfl, rfl, Nat.le_of_ble_eq_true rfl, .cons rfl .nil⟩,
    qi_STEADY := fun H => .inr ⟨_, _, _, li_STEADY, rfl, rfl, Nat.le_of_ble_eq_true rfl, .cons ⟨_, rfl⟩ (.cons ⟨_, rfl⟩ (.nil))⟩,
    tk_MOST_LEASES := _,
    g_MOST_LEASES := PySem.W.mg_of X G a_MOST_LEASES,
    tk_MOST_CENTS := _,
    g_MOST_CENTS := PySem.W.mg_of X G a_MOST_CENTS,
    tk_MOST_GAUGE := _,
    g_MOST_GAUGE := PySem.W.mg_of X G a_MOST_GAUGE,
    tk_MOST_RATE := _,
    g_MOST_RATE := PySem.W.mg_of X G a_MOST_RATE,
    n_isinstance := PySem.W.mg_none_of X G z_isinstance,
    n_int := PySem.W.mg_none_of X G z_int,
    n_bool := PySem.W.mg_none_of X G z_bool,
    n_all := PySem.W.mg_none_of X G z_all,
    n_str := PySem.W.mg_none_of X G z_str,
    n_len := PySem.W.mg_none_of X G z_len,
    n_sorted := PySem.W.mg_none_of X G z_sorted,
    n_reversed := PySem.W.mg_none_of X G z_reversed,
    n_max := PySem.W.mg_none_of X G z_max,
    n_sum := PySem.W.mg_none_of X G z_sum,
    n_list := PySem.W.mg_none_of X G z_list,
    n_enumerate := PySem.W.mg_none_of X G z_enumerate,
    n_range := PySem.W.mg_none_of X G z_range,
    n_tuple := PySem.W.mg_none_of X G z_tuple
  }
  exact ok_law T
theorem walk {l : PySem.W.OpenLaw} {q : Program} {loose : List Str} {XP : (Str → Option Value) → Heap → Prop} {YP : World → Heap → Prop} {d : DefRec} {K : Params → PySem.W.Frag} (hn : l.most = some 63) (hdf : d.params.defaults = [])
    (hY : ∀ (w : World) (h : Heap), YP w h → (K w.params).In h) {dd : DefRec} {x0 : Str} (hr : (recsOf q).find? (fun e => e.name == x0) = some dd)
    (F : ∀ (w : World) (mg : Str → Option Value) (fa : Addr) (h : Heap), (K w.params).In h → h.Ns mainGlobals mg → mg d.name = some (.ref fa) →
      (∀ (x : Str) (c P : Addr), x = x0 → PySem.W.tabIn (K w.params) x = some (c, P) → PySem.W.CodeHd h c P ∧ h.get? P = some (PySem.W.tabObj #[])) → LamX.LawAtS l w (K w.params) (L2.CX l.prog w) 13 63 "_law_script" mg fa h) :
    PySem.W.WalkO q loose XP YP l.row.toRowW d [] (fun f vs => PySem.call f vs) := by
  refine Att.attach_callB hn hdf ?_
  intro w s0 s1 mg mb fa o pm cd doc a vs ns G Y ho hd hcd hmg hobj hints hlen hbits hg
  have KX := hY w _ Y
  have tt : ∀ (x : Str) (c P : Addr), x = x0 → PySem.W.tabIn (K w.params) x = some (c, P) → PySem.W.CodeHd s1.heap c P ∧ s1.heap.get? P = some (PySem.W.tabObj #[]) := by
    intro x c P hx ht
    subst hx
    exact PySem.W.tab_of G.T KX hr ht
  rcases F w mg fa _ KX G.T.g hmg tt with ⟨fd, cs, sp, t1, t2, t3, t4, t5, t6⟩
  refine LamX.law_callTs KX G.T.g G.T.b G.T.builtins G.T.nolimit hg t1 t2 t3 G.T.bmain hobj hints (Nat.le_trans hlen (by decide)) (k := 13) ⟨rfl, by decide, by decide⟩ t6 t4 ?_ ?_
  · intro H hH hS
    exact t5 H a ns hlen hbits hH hS
  · intro H e s' z
    rcases z with ⟨_, _, _, _, _, _, _, _, _, _, _, _, z⟩
    exact z
end NS
open PySem PySem.W PyProof.Rows in
set_option maxRecDepth 100000 in
set_option maxHeartbeats 0 in
theorem PySem.Challenge.cw_rentroll_k15_letters_again_holds : PySem.Challenge.rw_rentroll_k15_letters_again.Holds := by
  w_on; o_law; k_head; (case hw => w_witness2)
  k_fill
  refine NS.walk (l := PySem.Challenge.rw_rentroll_k15_letters_again) rfl rfl (fun w h Y => PySem.W.kIn_of Y) (x0 := "_is_flat") rfl ?F
  case F =>
    intro w mg fa h KX G hmg tab
    refine' NS.all_mk KX G hmg tab ?a_RentError ?a_BadDay ?a_BadFlat ?a_BadAmount ?a_NoLease ?a_Taken ?a_Full ?a_Done ?a_Lease ?a_Roll ?a_is_whole ?l_is_whole ?cc_is_whole ?k_is_whole ?a_is_within ?l_is_within ?cc_is_within ?k_is_within ?a_check_day ?l_check_day ?cc_check_day ?k_check_day ?a_month_days ?l_month_days ?cc_month_days ?k_month_days ?a_month_of ?l_month_of ?cc_month_of ?k_month_of ?a_is_leap ?l_is_leap ?cc_is_leap ?k_is_leap ?a_length ?l_length ?cc_length ?k_length ?a_year_start ?l_year_start ?cc_year_start ?k_year_start ?a_check_flat ?l_check_flat ?cc_check_flat ?k_check_flat ?a_check_amount ?l_check_amount ?cc_check_amount ?k_check_amount ?a_is_flat ?l_is_flat ?cc_is_flat ?kl_is_flat ?kv11_is_flat ?kn_is_flat ?k_is_flat ?a_in_order ?l_in_order ?cc_in_order ?k_in_order ?a_spans ?l_spans ?cc_spans ?k_spans ?a_balance ?l_balance ?cc_balance ?k_balance ?a_grown ?l_grown ?cc_grown ?k_grown ?a_balances ?l_balances ?cc_balances ?k_balances ?a_pair_held ?l_pair_held ?cc_pair_held ?k_pair_held ?a_held ?l_held ?cc_held ?k_held ?a_owed ?l_owed ?cc_owed ?k_owed ?a_parts ?l_parts ?cc_parts ?k_parts ?a_parts_through ?l_parts_through ?cc_parts_through ?k_parts_through ?a_Lease_init ?i_Lease_init ?l_Lease_init ?cc_Lease_init ?k_Lease_init ?a_Lease_lasts_to ?i_Lease_lasts_to ?l_Lease_lasts_to ?cc_Lease_lasts_to ?k_Lease_lasts_to ?a_Lease_owed_through ?i_Lease_owed_through ?l_Lease_owed_through ?cc_Lease_owed_through ?k_Lease_owed_through ?a_Lease_pledge_through ?i_Lease_pledge_through ?l_Lease_pledge_through ?cc_Lease_pledge_through ?k_Lease_pledge_through ?a_Roll_init ?i_Roll_init ?l_Roll_init ?cc_Roll_init ?k_Roll_init ?a_Roll_let ?i_Roll_let ?l_Roll_let ?cc_Roll_let ?k_Roll_let ?a_Roll_end ?i_Roll_end ?l_Roll_end ?cc_Roll_end ?k_Roll_end ?a_Roll_step ?i_Roll_step ?l_Roll_step ?cc_Roll_step ?k_Roll_step ?a_Roll_gauge ?i_Roll_gauge ?l_Roll_gauge ?cc_Roll_gauge ?k_Roll_gauge ?a_Roll_rate ?i_Roll_rate ?l_Roll_rate ?cc_Roll_rate ?k_Roll_rate ?a_Roll_paid ?i_Roll_paid ?l_Roll_paid ?cc_Roll_paid ?k_Roll_paid ?a_Roll_kept ?i_Roll_kept ?l_Roll_kept ?cc_Roll_kept ?k_Roll_kept ?a_Roll_close ?i_Roll_close ?l_Roll_close ?cc_Roll_close ?k_Roll_close ?a_Roll_bill ?i_Roll_bill ?l_Roll_bill ?cc_Roll_bill ?k_Roll_bill ?a_Roll_many ?i_Roll_many ?l_Roll_many ?cc_Roll_many ?k_Roll_many ?a_Roll_billed ?i_Roll_billed ?l_Roll_billed ?cc_Roll_billed ?k_Roll_billed ?a_Roll_lease ?i_Roll_lease ?l_Roll_lease ?cc_Roll_lease ?k_Roll_lease ?a_Roll_owed ?i_Roll_owed ?l_Roll_owed ?cc_Roll_owed ?k_Roll_owed ?a_Roll_pledge ?i_Roll_pledge ?l_Roll_pledge ?cc_Roll_pledge ?k_Roll_pledge ?a_Roll_sent ?i_Roll_sent ?l_Roll_sent ?cc_Roll_sent ?k_Roll_sent ?a_Roll_given ?i_Roll_given ?l_Roll_given ?cc_Roll_given ?k_Roll_given ?a_Roll_letters ?i_Roll_letters ?l_Roll_letters ?cc_Roll_letters ?k_Roll_letters ?a_Roll__known ?i_Roll__known ?l_Roll__known ?cc_Roll__known ?k_Roll__known ?a_Roll__check_free ?i_Roll__check_free ?l_Roll__check_free ?cc_Roll__check_free ?k_Roll__check_free ?a_Roll__check_end ?i_Roll__check_end ?l_Roll__check_end ?cc_Roll__check_end ?k_Roll__check_end ?a_Roll__move ?i_Roll__move ?l_Roll__move ?cc_Roll__move ?k_Roll__move ?a_Roll__done ?i_Roll__done ?l_Roll__done ?cc_Roll__done ?k_Roll__done ?a_roll_of ?l_roll_of ?cc_roll_of ?k_roll_of ?a_tell ?l_tell ?cc_tell ?k_tell ?a_l_cell_at ?l_l_cell_at ?cc_l_cell_at ?k_l_cell_at ?a_l_mix ?l_l_mix ?cc_l_mix ?k_l_mix ?a_l_base ?l_l_base ?cc_l_base ?k_l_base ?a_l_money ?l_l_money ?cc_l_money ?k_l_money ?a_l_number ?l_l_number ?cc_l_number ?k_l_number ?a_l_flats ?l_l_flats ?cc_l_flats ?k_l_flats ?a_l_letter ?l_l_letter ?cc_l_letter ?k_l_letter ?a_l_do ?l_l_do ?cc_l_do ?k_l_do ?a_l_told ?l_l_told ?cc_l_told ?k_l_told ?a_l_room ?l_l_room ?cc_l_room ?k_l_room ?a_l_all ?l_l_all ?cc_l_all ?k_l_all ?a_l_again ?l_l_again ?cc_l_again ?k_l_again ?a_law ?l_law ?cc_law ?k_law ?x_BadDay ?k_BadDay ?s_BadDay ?t_BadDay ?x_BadFlat ?k_BadFlat ?s_BadFlat ?t_BadFlat ?x_BadAmount ?k_BadAmount ?s_BadAmount ?t_BadAmount ?x_Full ?k_Full ?s_Full ?t_Full ?x_Done ?k_Done ?s_Done ?t_Done ?x_NoLease ?k_NoLease ?s_NoLease ?t_NoLease ?x_Taken ?k_Taken ?s_Taken ?t_Taken ?x_RentError ?k_RentError ?s_RentError ?t_RentError ?cs_NoLease ?cd_NoLease ?ct_NoLease ?cs_BadDay ?cd_BadDay ?ct_BadDay ?cs_Taken ?cd_Taken ?ct_Taken ?cs_Done ?cd_Done ?ct_Done ?cs_Full ?cd_Full ?ct_Full ?m_BadDay_NoLease ?m_BadDay_BadDay ?m_BadDay_Taken ?m_BadDay_Done ?m_BadDay_Full ?m_BadFlat_NoLease ?m_BadFlat_BadDay ?m_BadFlat_Taken ?m_BadFlat_Done ?m_BadFlat_Full ?m_BadAmount_NoLease ?m_BadAmount_BadDay ?m_BadAmount_Taken ?m_BadAmount_Done ?m_BadAmount_Full ?m_Full_NoLease ?m_Full_BadDay ?m_Full_Taken ?m_Full_Done ?m_Full_Full ?m_Done_NoLease ?m_Done_BadDay ?m_Done_Taken ?m_Done_Done ?m_Done_Full ?m_NoLease_NoLease ?m_NoLease_BadDay ?m_NoLease_Taken ?m_NoLease_Done ?m_NoLease_Full ?m_Taken_NoLease ?m_Taken_BadDay ?m_Taken_Taken ?m_Taken_Done ?m_Taken_Full ?m_RentError_NoLease ?m_RentError_BadDay ?m_RentError_Taken ?m_RentError_Done ?m_RentError_Full ?pg_Lease ?hd_Lease ?po_Lease ?sa_Lease ?mk_Lease ?kc_Lease ?n_Lease_flat ?n_Lease_first ?n_Lease_last ?n_Lease_indexed ?n_Lease_steps ?n_Lease_moves ?n_Lease_closing ?n_Lease_cents_sent ?n_Lease_cents_given ?pg_Roll ?hd_Roll ?po_Roll ?sa_Roll ?mk_Roll ?kc_Roll ?n_Roll__leases ?n_Roll__gauges ?n_Roll__rates ?n_Roll__billed ?n_Roll__letters ?a_FIRST_YEAR ?a_LAST_YEAR ?a_LAST_DAY ?a_LONGEST_YEAR ?a_LENGTHS ?l_LENGTHS ?a_LONGEST_FLAT ?a_WHOLE ?a_STEADY ?l_STEADY ?li_STEADY ?a_MOST_LEASES ?a_MOST_CENTS ?a_MOST_GAUGE ?a_MOST_RATE ?z_isinstance ?z_int ?z_bool ?z_all ?z_str ?z_len ?z_sorted ?z_reversed ?z_max ?z_sum ?z_list ?z_enumerate ?z_range ?z_tuple
    (case a_RentError => k_is)
    (case a_BadDay => k_is)
    (case a_BadFlat => k_is)
    (case a_BadAmount => k_is)
    (case a_NoLease => k_is)
    (case a_Taken => k_is)
    (case a_Full => k_is)
    (case a_Done => k_is)
    (case a_Lease => k_is)
    (case a_Roll => k_is)
    (case a_is_whole => k_is)
    (case l_is_whole => k_is)
    (case cc_is_whole => k_is)
    (case k_is_whole => k_is)
    (case a_is_within => k_is)
    (case l_is_within => k_is)
    (case cc_is_within => k_is)
    (case k_is_within => k_is)
    (case a_check_day => k_is)
    (case l_check_day => k_is)
    (case cc_check_day => k_is)
    (case k_check_day => k_is)
    (case a_month_days => k_is)
    (case l_month_days => k_is)
    (case cc_month_days => k_is)
    (case k_month_days => k_is)
    (case a_month_of => k_is)
    (case l_month_of => k_is)
    (case cc_month_of => k_is)
    (case k_month_of => k_is)
    (case a_is_leap => k_is)
    (case l_is_leap => k_is)
    (case cc_is_leap => k_is)
    (case k_is_leap => k_is)
    (case a_length => k_is)
    (case l_length => k_is)
    (case cc_length => k_is)
    (case k_length => k_is)
    (case a_year_start => k_is)
    (case l_year_start => k_is)
    (case cc_year_start => k_is)
    (case k_year_start => k_is)
    (case a_check_flat => k_is)
    (case l_check_flat => k_is)
    (case cc_check_flat => k_is)
    (case k_check_flat => k_is)
    (case a_check_amount => k_is)
    (case l_check_amount => k_is)
    (case cc_check_amount => k_is)
    (case k_check_amount => k_is)
    (case a_is_flat => k_is)
    (case l_is_flat => k_is)
    (case cc_is_flat => k_is)
    (case kl_is_flat => k_is)
    (case kv11_is_flat => rfl)
    (case kn_is_flat => first | rfl | decide +kernel | kernel_rfl)
    (case k_is_flat => k_is)
    (case a_in_order => k_is)
    (case l_in_order => k_is)
    (case cc_in_order => k_is)
    (case k_in_order => k_is)
    (case a_spans => k_is)
    (case l_spans => k_is)
    (case cc_spans => k_is)
    (case k_spans => k_is)
    (case a_balance => k_is)
    (case l_balance => k_is)
    (case cc_balance => k_is)
    (case k_balance => k_is)
    (case a_grown => k_is)
    (case l_grown => k_is)
    (case cc_grown => k_is)
    (case k_grown => k_is)
    (case a_balances => k_is)
    (case l_balances => k_is)
    (case cc_balances => k_is)
    (case k_balances => k_is)
    (case a_pair_held => k_is)
    (case l_pair_held => k_is)
    (case cc_pair_held => k_is)
    (case k_pair_held => k_is)
    (case a_held => k_is)
    (case l_held => k_is)
    (case cc_held => k_is)
    (case k_held => k_is)
    (case a_owed => k_is)
    (case l_owed => k_is)
    (case cc_owed => k_is)
    (case k_owed => k_is)
    (case a_parts => k_is)
    (case l_parts => k_is)
    (case cc_parts => k_is)
    (case k_parts => k_is)
    (case a_parts_through => k_is)
    (case l_parts_through => k_is)
    (case cc_parts_through => k_is)
    (case k_parts_through => k_is)
    (case a_Lease_init => k_is)
    (case i_Lease_init => k_is)
    (case l_Lease_init => k_is)
    (case cc_Lease_init => k_is)
    (case k_Lease_init => k_is)
    (case a_Lease_lasts_to => k_is)
    (case i_Lease_lasts_to => k_is)
    (case l_Lease_lasts_to => k_is)
    (case cc_Lease_lasts_to => k_is)
    (case k_Lease_lasts_to => k_is)
    (case a_Lease_owed_through => k_is)
    (case i_Lease_owed_through => k_is)
    (case l_Lease_owed_through => k_is)
    (case cc_Lease_owed_through => k_is)
    (case k_Lease_owed_through => k_is)
    (case a_Lease_pledge_through => k_is)
    (case i_Lease_pledge_through => k_is)
    (case l_Lease_pledge_through => k_is)
    (case cc_Lease_pledge_through => k_is)
    (case k_Lease_pledge_through => k_is)
    (case a_Roll_init => k_is)
    (case i_Roll_init => k_is)
    (case l_Roll_init => k_is)
    (case cc_Roll_init => k_is)
    (case k_Roll_init => k_is)
    (case a_Roll_let => k_is)
    (case i_Roll_let => k_is)
    (case l_Roll_let => k_is)
    (case cc_Roll_let => k_is)
    (case k_Roll_let => k_is)
    (case a_Roll_end => k_is)
    (case i_Roll_end => k_is)
    (case l_Roll_end => k_is)
    (case cc_Roll_end => k_is)
    (case k_Roll_end => k_is)
    (case a_Roll_step => k_is)
    (case i_Roll_step => k_is)
    (case l_Roll_step => k_is)
    (case cc_Roll_step => k_is)
    (case k_Roll_step => k_is)
    (case a_Roll_gauge => k_is)
    (case i_Roll_gauge => k_is)
    (case l_Roll_gauge => k_is)
    (case cc_Roll_gauge => k_is)
    (case k_Roll_gauge => k_is)
    (case a_Roll_rate => k_is)
    (case i_Roll_rate => k_is)
    (case l_Roll_rate => k_is)
    (case cc_Roll_rate => k_is)
    (case k_Roll_rate => k_is)
    (case a_Roll_paid => k_is)
    (case i_Roll_paid => k_is)
    (case l_Roll_paid => k_is)
    (case cc_Roll_paid => k_is)
    (case k_Roll_paid => k_is)
    (case a_Roll_kept => k_is)
    (case i_Roll_kept => k_is)
    (case l_Roll_kept => k_is)
    (case cc_Roll_kept => k_is)
    (case k_Roll_kept => k_is)
    (case a_Roll_close => k_is)
    (case i_Roll_close => k_is)
    (case l_Roll_close => k_is)
    (case cc_Roll_close => k_is)
    (case k_Roll_close => k_is)
    (case a_Roll_bill => k_is)
    (case i_Roll_bill => k_is)
    (case l_Roll_bill => k_is)
    (case cc_Roll_bill => k_is)
    (case k_Roll_bill => k_is)
    (case a_Roll_many => k_is)
    (case i_Roll_many => k_is)
    (case l_Roll_many => k_is)
    (case cc_Roll_many => k_is)
    (case k_Roll_many => k_is)
    (case a_Roll_billed => k_is)
    (case i_Roll_billed => k_is)
    (case l_Roll_billed => k_is)
    (case cc_Roll_billed => k_is)
    (case k_Roll_billed => k_is)
    (case a_Roll_lease => k_is)
    (case i_Roll_lease => k_is)
    (case l_Roll_lease => k_is)
    (case cc_Roll_lease => k_is)
    (case k_Roll_lease => k_is)
    (case a_Roll_owed => k_is)
    (case i_Roll_owed => k_is)
    (case l_Roll_owed => k_is)
    (case cc_Roll_owed => k_is)
    (case k_Roll_owed => k_is)
    (case a_Roll_pledge => k_is)
    (case i_Roll_pledge => k_is)
    (case l_Roll_pledge => k_is)
    (case cc_Roll_pledge => k_is)
    (case k_Roll_pledge => k_is)
    (case a_Roll_sent => k_is)
    (case i_Roll_sent => k_is)
    (case l_Roll_sent => k_is)
    (case cc_Roll_sent => k_is)
    (case k_Roll_sent => k_is)
    (case a_Roll_given => k_is)
    (case i_Roll_given => k_is)
    (case l_Roll_given => k_is)
    (case cc_Roll_given => k_is)
    (case k_Roll_given => k_is)
    (case a_Roll_letters => k_is)
    (case i_Roll_letters => k_is)
    (case l_Roll_letters => k_is)
    (case cc_Roll_letters => k_is)
    (case k_Roll_letters => k_is)
    (case a_Roll__known => k_is)
    (case i_Roll__known => k_is)
    (case l_Roll__known => k_is)
    (case cc_Roll__known => k_is)
    (case k_Roll__known => k_is)
    (case a_Roll__check_free => k_is)
    (case i_Roll__check_free => k_is)
    (case l_Roll__check_free => k_is)
    (case cc_Roll__check_free => k_is)
    (case k_Roll__check_free => k_is)
    (case a_Roll__check_end => k_is)
    (case i_Roll__check_end => k_is)
    (case l_Roll__check_end => k_is)
    (case cc_Roll__check_end => k_is)
    (case k_Roll__check_end => k_is)
    (case a_Roll__move => k_is)
    (case i_Roll__move => k_is)
    (case l_Roll__move => k_is)
    (case cc_Roll__move => k_is)
    (case k_Roll__move => k_is)
    (case a_Roll__done => k_is)
    (case i_Roll__done => k_is)
    (case l_Roll__done => k_is)
    (case cc_Roll__done => k_is)
    (case k_Roll__done => k_is)
    (case a_roll_of => k_is)
    (case l_roll_of => k_is)
    (case cc_roll_of => k_is)
    (case k_roll_of => k_is)
    (case a_tell => k_is)
    (case l_tell => k_is)
    (case cc_tell => k_is)
    (case k_tell => k_is)
    (case a_l_cell_at => k_is)
    (case l_l_cell_at => k_is)
    (case cc_l_cell_at => k_is)
    (case k_l_cell_at => k_is)
    (case a_l_mix => k_is)
    (case l_l_mix => k_is)
    (case cc_l_mix => k_is)
    (case k_l_mix => k_is)
    (case a_l_base => k_is)
    (case l_l_base => k_is)
    (case cc_l_base => k_is)
    (case k_l_base => k_is)
    (case a_l_money => k_is)
    (case l_l_money => k_is)
    (case cc_l_money => k_is)
    (case k_l_money => k_is)
    (case a_l_number => k_is)
    (case l_l_number => k_is)
    (case cc_l_number => k_is)
    (case k_l_number => k_is)
    (case a_l_flats => k_is)
    (case l_l_flats => k_is)
    (case cc_l_flats => k_is)
    (case k_l_flats => k_is)
    (case a_l_letter => k_is)
    (case l_l_letter => k_is)
    (case cc_l_letter => k_is)
    (case k_l_letter => k_is)
    (case a_l_do => k_is)
    (case l_l_do => k_is)
    (case cc_l_do => k_is)
    (case k_l_do => k_is)
    (case a_l_told => k_is)
    (case l_l_told => k_is)
    (case cc_l_told => k_is)
    (case k_l_told => k_is)
    (case a_l_room => k_is)
    (case l_l_room => k_is)
    (case cc_l_room => k_is)
    (case k_l_room => k_is)
    (case a_l_all => k_is)
    (case l_l_all => k_is)
    (case cc_l_all => k_is)
    (case k_l_all => k_is)
    (case a_l_again => k_is)
    (case l_l_again => k_is)
    (case cc_l_again => k_is)
    (case k_l_again => k_is)
    (case a_law => k_is)
    (case l_law => k_is)
    (case cc_law => k_is)
    (case k_law => k_is)
    (case x_BadDay => k_exc)
    (case k_BadDay => k_is)
    (case s_BadDay => k_is)
    (case t_BadDay => k_is)
    (case x_BadFlat => k_exc)
    (case k_BadFlat => k_is)
    (case s_BadFlat => k_is)
    (case t_BadFlat => k_is)
    (case x_BadAmount => k_exc)
    (case k_BadAmount => k_is)
    (case s_BadAmount => k_is)
    (case t_BadAmount => k_is)
    (case x_Full => k_exc)
    (case k_Full => k_is)
    (case s_Full => k_is)
    (case t_Full => k_is)
    (case x_Done => k_exc)
    (case k_Done => k_is)
    (case s_Done => k_is)
    (case t_Done => k_is)
    (case x_NoLease => k_exc)
    (case k_NoLease => k_is)
    (case s_NoLease => k_is)
    (case t_NoLease => k_is)
    (case x_Taken => k_exc)
    (case k_Taken => k_is)
    (case s_Taken => k_is)
    (case t_Taken => k_is)
    (case x_RentError => k_exc)
    (case k_RentError => k_is)
    (case s_RentError => k_is)
    (case t_RentError => k_is)
    (case cs_NoLease => k_is)
    (case cd_NoLease => k_is)
    (case ct_NoLease => k_is)
    (case cs_BadDay => k_is)
    (case cd_BadDay => k_is)
    (case ct_BadDay => k_is)
    (case cs_Taken => k_is)
    (case cd_Taken => k_is)
    (case ct_Taken => k_is)
    (case cs_Done => k_is)
    (case cd_Done => k_is)
    (case ct_Done => k_is)
    (case cs_Full => k_is)
    (case cd_Full => k_is)
    (case ct_Full => k_is)
    (case m_BadDay_NoLease => first | rfl | k_is)
    (case m_BadDay_BadDay => first | rfl | k_is)
    (case m_BadDay_Taken => first | rfl | k_is)
    (case m_BadDay_Done => first | rfl | k_is)
    (case m_BadDay_Full => first | rfl | k_is)
    (case m_BadFlat_NoLease => first | rfl | k_is)
    (case m_BadFlat_BadDay => first | rfl | k_is)
    (case m_BadFlat_Taken => first | rfl | k_is)
    (case m_BadFlat_Done => first | rfl | k_is)
    (case m_BadFlat_Full => first | rfl | k_is)
    (case m_BadAmount_NoLease => first | rfl | k_is)
    (case m_BadAmount_BadDay => first | rfl | k_is)
    (case m_BadAmount_Taken => first | rfl | k_is)
    (case m_BadAmount_Done => first | rfl | k_is)
    (case m_BadAmount_Full => first | rfl | k_is)
    (case m_Full_NoLease => first | rfl | k_is)
    (case m_Full_BadDay => first | rfl | k_is)
    (case m_Full_Taken => first | rfl | k_is)
    (case m_Full_Done => first | rfl | k_is)
    (case m_Full_Full => first | rfl | k_is)
    (case m_Done_NoLease => first | rfl | k_is)
    (case m_Done_BadDay => first | rfl | k_is)
    (case m_Done_Taken => first | rfl | k_is)
    (case m_Done_Done => first | rfl | k_is)
    (case m_Done_Full => first | rfl | k_is)
    (case m_NoLease_NoLease => first | rfl | k_is)
    (case m_NoLease_BadDay => first | rfl | k_is)
    (case m_NoLease_Taken => first | rfl | k_is)
    (case m_NoLease_Done => first | rfl | k_is)
    (case m_NoLease_Full => first | rfl | k_is)
    (case m_Taken_NoLease => first | rfl | k_is)
    (case m_Taken_BadDay => first | rfl | k_is)
    (case m_Taken_Taken => first | rfl | k_is)
    (case m_Taken_Done => first | rfl | k_is)
    (case m_Taken_Full => first | rfl | k_is)
    (case m_RentError_NoLease => first | rfl | k_is)
    (case m_RentError_BadDay => first | rfl | k_is)
    (case m_RentError_Taken => first | rfl | k_is)
    (case m_RentError_Done => first | rfl | k_is)
    (case m_RentError_Full => first | rfl | k_is)
    (case pg_Lease => k_is)
    (case hd_Lease => k_is)
    (case po_Lease => k_is)
    (case sa_Lease => k_is)
    (case mk_Lease => k_is)
    (case kc_Lease => k_is)
    (case n_Lease_flat => k_is)
    (case n_Lease_first => k_is)
    (case n_Lease_last => k_is)
    (case n_Lease_indexed => k_is)
    (case n_Lease_steps => k_is)
    (case n_Lease_moves => k_is)
    (case n_Lease_closing => k_is)
    (case n_Lease_cents_sent => k_is)
    (case n_Lease_cents_given => k_is)
    (case pg_Roll => k_is)
    (case hd_Roll => k_is)
    (case po_Roll => k_is)
    (case sa_Roll => k_is)
    (case mk_Roll => k_is)
    (case kc_Roll => k_is)
    (case n_Roll__leases => k_is)
    (case n_Roll__gauges => k_is)
    (case n_Roll__rates => k_is)
    (case n_Roll__billed => k_is)
    (case n_Roll__letters => k_is)
    (case a_FIRST_YEAR => k_is)
    (case a_LAST_YEAR => k_is)
    (case a_LAST_DAY => k_is)
    (case a_LONGEST_YEAR => k_is)
    (case a_LENGTHS => k_is)
    (case l_LENGTHS => k_is)
    (case a_LONGEST_FLAT => k_is)
    (case a_WHOLE => k_is)
    (case a_STEADY => k_is)
    (case l_STEADY => k_is)
    (case li_STEADY => k_is)
    (case a_MOST_LEASES => k_is)
    (case a_MOST_CENTS => k_is)
    (case a_MOST_GAUGE => k_is)
    (case a_MOST_RATE => k_is)
    (case z_isinstance => k_is)
    (case z_int => k_is)
    (case z_bool => k_is)
    (case z_all => k_is)
    (case z_str => k_is)
    (case z_len => k_is)
    (case z_sorted => k_is)
    (case z_reversed => k_is)
    (case z_max => k_is)
    (case z_sum => k_is)
    (case z_list => k_is)
    (case z_enumerate => k_is)
    (case z_range => k_is)
    (case z_tuple => k_is)
#print axioms PySem.Challenge.cw_rentroll_k15_letters_again_holds
