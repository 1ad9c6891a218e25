import PyProof.Rows.All
import Wide.All
import OpenK.AllK
import Wide.FinOn
import HandS.ForMost
import HandS.Wide
import HandS.IsInst
import HandS.Codes
import PySem.Challenge.RW_tapline_k20_numbers_and_texts
set_option Elab.async false
set_option linter.all false
set_option maxRecDepth 100000
/-! reading lemmas: one a construct, its conclusion headed by the construct's name -/
namespace R
open PySem PySem.Spec PyProof.Rows L2
section
variable {nx bk ct : L2.St → Hp → Prop} {rt : V → Hp → Prop}
variable {t u : TS} {D : Ends} {σ σ' : L2.St} {H H1 : Hp} {te ta tb tc : TE} {tr : TA} {i : Nat} {v w x y : V} {Q : VK} {c c' : TT} {K : PySem.W.Frag} {n n' : L2.St → Hp → Prop} {B : Bool → Hp → Prop}
theorem r_seq (h : t ⟨u ⟨nx, rt, bk, ct⟩, rt, bk, ct⟩ σ H) : tSeq t u ⟨nx, rt, bk, ct⟩ σ H := h
theorem r_asg (h : te σ H (fun x H1 => nx (σ.set i (some x)) H1)) : tAsg te (gName i) ⟨nx, rt, bk, ct⟩ σ H := h
theorem r_asgG {g : TG} (h : te σ H (fun x H1 => g x σ H1 nx)) : tAsg te g ⟨nx, rt, bk, ct⟩ σ H := h
theorem r_gname {Q : L2.St → Hp → Prop} (h : Q (σ.set i (some x)) H) : gName i x σ H Q := h
theorem r_ret (h : te σ H rt) : tRet te ⟨nx, rt, bk, ct⟩ σ H := h
theorem r_retN (h : rt .non H) : tRetN ⟨nx, rt, bk, ct⟩ σ H := h
theorem r_drop (h : te σ H (fun _ H1 => nx σ H1)) : tDrop te ⟨nx, rt, bk, ct⟩ σ H := h
theorem r_ifS (h : c σ H (fun b H1 => if b = true then t ⟨nx, rt, bk, ct⟩ σ H1 else u ⟨nx, rt, bk, ct⟩ σ H1)) : tIfS c t u ⟨nx, rt, bk, ct⟩ σ H := h
theorem r_next (h : nx σ H) : tNext ⟨nx, rt, bk, ct⟩ σ H := h
theorem r_brk (h : bk σ H) : tBreak ⟨nx, rt, bk, ct⟩ σ H := h
theorem r_cnt (h : ct σ H) : tCont ⟨nx, rt, bk, ct⟩ σ H := h
/-- for k in range(m): k in slot j; the loop's own end -/
theorem r_rng1 {tr : TA} {tb : TS} {g : TG} (h : tr σ H fun vs H1 => ∃ m : Int, vs = [.int m] ∧ -(2 ^ 62) ≤ m ∧ m < 2 ^ 62 ∧ ∃ W : Nat → Nat → L2.St → Hp → Prop, (∃ q, W 0 q σ H1) ∧ ∀ i q σ H, W i q σ H → ((Itr 0 m.toNat).stop i H ∧ nx σ H) ∨ ((Itr 0 m.toNat).go i H ∧ ∃ N : L2.St → Hp → Prop, (∀ σ' H', N σ' H' → ∃ q', q' < q ∧ W (i + 1) q' σ' H') ∧ ∀ x H', (Itr 0 m.toNat).yld i H x H' → g x σ H' fun σ2 H2 => tb ⟨N, rt, nx, N⟩ σ2 H2)) : tFor (iRng1 tr) g tb ⟨nx, rt, bk, ct⟩ σ H := h
theorem r_rngL {tb : TS} {j : Nat} {m : Int} (Pv : Nat → L2.St → Hp → Prop) (hm : -1000000000 ≤ m ∧ m ≤ 1000000000) (h0 : Pv 0 σ H)
    (hs : ∀ (k : Nat) σ' H', (k : Int) < m → Pv k σ' H' → tb ⟨Pv (k + 1), rt, nx, Pv (k + 1)⟩ (σ'.set j (some (.int (k : Int)))) H') (hd : ∀ σ' H', Pv m.toNat σ' H' → nx σ' H') :
    ∃ m' : Int, [V.int m] = [.int m'] ∧ -(2 ^ 62) ≤ m' ∧ m' < 2 ^ 62 ∧ ∃ W : Nat → Nat → L2.St → Hp → Prop, (∃ q, W 0 q σ H) ∧ ∀ i q σ H, W i q σ H → ((Itr 0 m'.toNat).stop i H ∧ nx σ H) ∨ ((Itr 0 m'.toNat).go i H ∧ ∃ N : L2.St → Hp → Prop, (∀ σ' H', N σ' H' → ∃ q', q' < q ∧ W (i + 1) q' σ' H') ∧ ∀ x H', (Itr 0 m'.toNat).yld i H x H' → gName j x σ H' fun σ2 H2 => tb ⟨N, rt, nx, N⟩ σ2 H2) :=
  ⟨m, rfl, by omega, by omega, for_range (D := ⟨nx, rt, fun _ _ => False, fun _ _ => False⟩) (g := gName j) (lo := 0) (n := m.toNat) Pv h0 (fun k σ' H' hk p => by
    have z := hs k σ' H' (by omega) p
    show tb ⟨Pv (k + 1), rt, nx, Pv (k + 1)⟩ (σ'.set j (some (.int ((0 : Int) + (k : Int))))) H'
    rw [show (0 : Int) + (k : Int) = (k : Int) from Int.zero_add _]
    exact z) hd⟩
/- expressions -/
theorem r_var (e : σ[i]? = some (some v)) (h : Q v H) : tVar i σ H Q := ⟨v, e, h⟩
theorem r_c (h : Q v H) : tC v σ H Q := h
theorem r_op {r : R2} (h : ta σ H fun x H1 => tb σ H1 fun y H2 => r x y H2 Q) : tOp r ta tb σ H Q := h
theorem r_un {r : V → Hp → VK → Prop} (h : ta σ H fun x H1 => r x H1 Q) : tUn r ta σ H Q := h
theorem r_I0 {g : Int → Int → V} {i j : Int} (h : Q (g i j) H) : rI0 g (.int i) (.int j) H Q := ⟨i, j, rfl, rfl, h⟩
theorem r_I {C : Int → Int → Prop} {g : Int → Int → V} {i j : Int} (hc : C i j) (h : Q (g i j) H) : rI C g (.int i) (.int j) H Q := ⟨i, j, rfl, rfl, hc, h⟩
theorem r_U {g : Int → V} {i : Int} (h : Q (g i) H) : rU g (.int i) H Q := ⟨i, rfl, h⟩
theorem r_cb {r : List V → Hp → VK → Prop} (h : tr σ H fun vs H1 => r vs H1 Q) : tCB r tr σ H Q := h
theorem r_cons {Q : List V → Hp → Prop} (h : ta σ H fun x H1 => tr σ H1 fun xs H2 => Q (x :: xs) H2) : tCons ta tr σ H Q := h
theorem r_nil {Q : List V → Hp → Prop} (h : Q [] H) : tNil σ H Q := h
theorem r_tup (h : tr σ H fun xs H1 => xs.length ≤ sizeLine ∧ ∀ p, H1 p = none → Q (.ref p) (upd H1 p (.tup xs))) : tTup tr σ H Q := h
theorem r_lst (h : tr σ H fun xs H1 => xs.length ≤ sizeLine ∧ ∀ p, H1 p = none → Q (.ref p) (upd H1 p (.lst xs))) : tLst tr σ H Q := h
theorem r_call {sp : Sp} {dvs : List V} {E : XK} (h : tr σ H fun vs H1 => sp (vs ++ dvs) H1 Q E) : tCall sp dvs E tr σ H Q := h
theorem r_test (h : ta σ H fun x H' => ∃ k, x = .bl k ∧ B k H') : tTest ta σ H B := h
theorem r_B (h : ta σ H fun x H' => ∃ k, x = .bl k ∧ B k H') : tB ta σ H B := h
theorem r_bl {b : Bool} (h : B b H) : ∃ k, V.bl b = .bl k ∧ B k H := ⟨b, rfl, h⟩
theorem r_and (h : c σ H fun b H1 => if b = true then c' σ H1 B else B false H1) : tAnd c c' σ H B := h
theorem r_or (h : c σ H fun b H1 => if b = true then B true H1 else c' σ H1 B) : tOr c c' σ H B := h
theorem r_not (h : c σ H fun b H1 => B (!b) H1) : tNot c σ H B := h
theorem r_andV (h : ta σ H fun x H1 => ∃ k, x = .bl k ∧ if k = true then tb σ H1 Q else Q (.bl false) H1) : tAndV ta tb σ H Q := h
theorem r_orV (h : ta σ H fun x H1 => ∃ k, x = .bl k ∧ if k = true then Q (.bl true) H1 else tb σ H1 Q) : tOrV ta tb σ H Q := h
theorem r_blV {b : Bool} {P : Bool → Prop} (h : P b) : ∃ k, V.bl b = .bl k ∧ P k := ⟨b, rfl, h⟩
theorem r_notV (h : ta σ H fun x H1 => ∃ k, x = .bl k ∧ Q (.bl (!k)) H1) : tNotV ta σ H Q := h
theorem r_ifE (h : c σ H fun b H1 => if b = true then ta σ H1 Q else tb σ H1 Q) : tIf c ta tb σ H Q := h
theorem r_eqI {i j : Int} (h : Q (.bl (decide (i = j))) H) : rEq (.int i) (.int j) H Q := ⟨rfl, by
  rw [show decide (V.int i = V.int j) = decide (i = j) from by simp]; exact h⟩
theorem r_neI {i j : Int} (h : Q (.bl (!decide (i = j))) H) : rNe (.int i) (.int j) H Q := ⟨rfl, by
  rw [show decide (V.int i = V.int j) = decide (i = j) from by simp]; exact h⟩
theorem r_eqS {i j : Str} (h : Q (.bl (decide (i = j))) H) : rEq (.str i) (.str j) H Q := ⟨rfl, by
  rw [show decide (V.str i = V.str j) = decide (i = j) from by simp]; exact h⟩
theorem r_neS {i j : Str} (h : Q (.bl (!decide (i = j))) H) : rNe (.str i) (.str j) H Q := ⟨rfl, by
  rw [show decide (V.str i = V.str j) = decide (i = j) from by simp]; exact h⟩
theorem r_isN (h : Q (.bl (decide (x = .non))) H) : V.non = .non ∧ Q (.bl (decide (x = .non))) H := ⟨rfl, h⟩
theorem r_t {A B : Prop} (h : A) : if true = true then A else B := iteT h
theorem r_f {A B : Prop} (h : B) : if false = true then A else B := iteF h
theorem r_nf {A B : Prop} (h : A) : if (!false) = true then A else B := iteT h
theorem r_nt {A B : Prop} (h : B) : if (!true) = true then A else B := iteF h
theorem r_ite {p A B : Prop} [Decidable p] (h1 : p → A) (h2 : ¬ p → B) : if decide p = true then A else B := ite2 (fun h => h1 (of_decide_eq_true h)) (fun h => h2 fun q => h (decide_eq_true q))
theorem r_iteN {p A B : Prop} [Decidable p] (h1 : ¬ p → A) (h2 : p → B) : if (!decide p) = true then A else B := by
  by_cases h : p
  · rw [decide_eq_true h]; exact iteF (h2 h)
  · rw [decide_eq_false h]; exact iteT (h1 h)
theorem r_iteY {p A B : Prop} [Decidable p] (h : p) (h1 : A) : if decide p = true then A else B := by rw [decide_eq_true h]; exact iteT h1
theorem r_iteF {p A B : Prop} [Decidable p] (h : ¬ p) (h1 : B) : if decide p = true then A else B := by rw [decide_eq_false h]; exact iteF h1
theorem r_ite_b {b b' : Bool} {A B : Prop} (e : b = b') (h : if b' = true then A else B) : if b = true then A else B := by rw [e]; exact h
theorem r_yes (h : B true H) : tYes σ H B := h
theorem r_bm {T : String} {r : V → List V → Hp → VK → Prop} (h : ta σ H fun x H1 => tyV K T x H1 ∧ tr σ H1 fun xs H2 => r x xs H2 Q) : tBM K T r ta tr σ H Q := h
theorem r_bm0 {T : String} {r : V → List V → Hp → VK → Prop} (h : ta σ H fun x H1 => tyV K T x H1 ∧ r x [] H1 Q) : tBM0 K T r ta σ H Q := h
theorem r_dget (h : ta σ H fun x H1 => tb σ H1 fun y H2 => ∃ a v, x = .ref a ∧ DGet H2 a y (some v) ∧ Q v H2) : tDGet ta tb σ H Q := h
theorem r_dgetS {a : Addr} {kvs : List (Key × V)} {k : Str} (e : H a = some (.dK kvs)) {P : V → Prop} (hv : valV kvs (Sum.inr k : Key) = some v) (h : P v) : ∃ a' v', V.ref a = .ref a' ∧ DGet H a' (.str k) (some v') ∧ P v' :=
  ⟨a, v, rfl, by have z := DGet.k (k := (Sum.inr k : Key)) e; rw [hv] at z; exact z, h⟩
theorem r_dput {bk ct : L2.St → Hp → Prop} (h : tc σ H fun v H1 => ta σ H1 fun x H2 => tb σ H2 fun y H3 => ∃ a H4, x = .ref a ∧ DPut H3 a y v H4 ∧ nx σ H4) : sDPut ta tb tc ⟨nx, rt, bk, ct⟩ σ H := h
theorem r_dputS {a : Addr} {kvs kvs' : List (Key × V)} {k : Str} (e : H a = some (.dK kvs)) (hl : kvs.length ≤ 1000) {P : Hp → Prop} (hv : putK kvs (Sum.inr k : Key) v = kvs') (h : P (upd H a (.dK kvs'))) : ∃ a' H', V.ref a = .ref a' ∧ DPut H a' (.str k) v H' ∧ P H' :=
  ⟨a, _, rfl, DPut.k (k := (Sum.inr k : Key)) e (small1000 hl), by rw [hv]; exact h⟩
theorem r_disp {trs : List (TE × TE)} (h : ∀ p, H p = none → tPairs trs σ (upd H p (.dK [])) fun ps H2 => H2 p = some (.dK []) ∧ ∃ kvs : List (Key × V), ps = kvs.map (fun kv => (kV kv.1, kv.2)) ∧ kvs.length ≤ 15 ∧ Q (.ref p) (upd H2 p (.dK (mergeK [] kvs)))) : tDisp trs σ H Q := h
theorem r_pnil {Q : List (V × V) → Hp → Prop} (h : Q [] H) : tPairs [] σ H Q := h
theorem r_pcons {Q : List (V × V) → Hp → Prop} {trs : List (TE × TE)} (h : ta σ H fun x H1 => tb σ H1 fun y H2 => tPairs trs σ H2 fun ps H3 => Q ((x, y) :: ps) H3) : tPairs ((ta, tb) :: trs) σ H Q := h
theorem r_fld {f : Str} (h : ta σ H fun x H1 => ∃ a C dx fs v, x = .ref a ∧ H1 a = some (.ins C dx fs) ∧ Cls K C ∧ NoAttr K C f ∧ fs.lookup f = some v ∧ Q v H1) : tFld K ta f σ H Q := h
theorem r_slice {r : V → Option Int → Option Int → Hp → VK → Prop} {tl th : TO} (h : te σ H fun x H1 => tl σ H1 fun l H2 => th σ H2 fun u H3 => r x l u H3 Q) : tSl r te tl th σ H Q := h
theorem r_nopart {Q : Option Int → Hp → Prop} (h : Q none H) : tNoPart σ H Q := h
theorem r_part {Q : Option Int → Hp → Prop} (h : te σ H fun x H1 => ∃ i, x = .int i ∧ Q (some i) H1) : tPart te σ H Q := h
theorem r_int {P : Int → Prop} {i : Int} (h : P i) : ∃ j, V.int i = .int j ∧ P j := ⟨i, rfl, h⟩
theorem r_ixL {p : Addr} {xs : List V} {i : Int} (hs : SqL K H p xs) (e : atI xs i = some v) (h : Q v H) : rIxL K (.ref p) (.int i) H Q := ⟨p, xs, i, v, rfl, rfl, hs, e, h⟩
theorem r_ixT {p : Addr} {xs : List V} {i : Int} (hs : SqT K H p xs) (e : atI xs i = some v) (h : Q v H) : rIxT K (.ref p) (.int i) H Q := ⟨p, xs, i, v, rfl, rfl, hs, e, h⟩
theorem r_ixS {z : Str} {i : Int} {k : Nat} (hl : z.length ≤ sizeLine) (e : atI z.cps.toList i = some k) (h : Q (.str ⟨#[k]⟩) H) : rIxS (.str z) (.int i) H Q := ⟨z, i, k, rfl, rfl, hl, e, h⟩
/- built-ins by named relations -/
def rAbs : List V → Hp → VK → Prop := fun xs H Q => ∃ i, xs = [.int i] ∧ Q (.int (if i < 0 then -i else i)) H
theorem r_abs {i : Int} (h : Q (.int (if i < 0 then -i else i)) H) : rAbs [.int i] H Q := ⟨i, rfl, h⟩
def rInt1 : List V → Hp → VK → Prop := fun xs H Q => (∃ i, xs = [.int i] ∧ Q (.int i) H) ∨ ∃ k, xs = [.bl k] ∧ Q (.int (if k then 1 else 0)) H
theorem r_int1 {i : Int} (h : Q (.int i) H) : rInt1 [.int i] H Q := .inl ⟨i, rfl, h⟩
theorem r_int1b {b : Bool} (h : Q (.int (if b then 1 else 0)) H) : rInt1 [.bl b] H Q := .inr ⟨b, rfl, h⟩
def rMin2 : List V → Hp → VK → Prop := fun xs H Q => ∃ i j, xs = [.int i, .int j] ∧ Q (.int (if j < i then j else i)) H
theorem r_min2 {i j : Int} (h : Q (.int (if j < i then j else i)) H) : rMin2 [.int i, .int j] H Q := ⟨i, j, rfl, h⟩
def rLenS (K : PySem.W.Frag) : List V → Hp → VK → Prop := fun xs H Q => ∃ p ys, xs = [.ref p] ∧ (SqL K H p ys ∨ SqT K H p ys) ∧ Q (.int ys.length) H
theorem r_lenL {p : Addr} {ys : List V} (hs : SqL K H p ys) (h : Q (.int ys.length) H) : rLenS K [.ref p] H Q := ⟨p, ys, rfl, .inl hs, h⟩
theorem r_lenT {p : Addr} {ys : List V} (hs : SqT K H p ys) (h : Q (.int ys.length) H) : rLenS K [.ref p] H Q := ⟨p, ys, rfl, .inr hs, h⟩
def CIsi (K : PySem.W.Frag) (H : Hp) (x c : V) (b : Bool) : Prop := ∃ (t u : Value), ClsV c u ∧ TyX K H x t ∧ PySem.W.kitOne K t u = some b
theorem r_isi {x c : V} {b : Bool} (hc : CIsi K H x c b) (h : Q (.bl b) H) : rIsi K [x, c] H Q := by
  obtain ⟨t, u, a, b', e⟩ := hc
  exact ⟨x, c, t, u, b, rfl, a, b', e, h⟩
theorem isi_int {i : Int} : CIsi K H (.int i) (.ty "int") true := ⟨_, _, .ty _, .base (.int i), kit_ty (by decide +kernel)⟩
theorem isi_intB {i : Int} : CIsi K H (.int i) (.ty "bool") false := ⟨_, _, .ty _, .base (.int i), kit_ty (by decide +kernel)⟩
theorem isi_lst {p : Addr} {xs : List V} (e : H p = some (.lst xs)) : CIsi K H (.ref p) (.ty "list") true := ⟨_, _, .ty _, .base (.lst e), kit_ty (by decide +kernel)⟩
theorem isi_tup {p : Addr} {xs : List V} (e : H p = some (.tup xs)) : CIsi K H (.ref p) (.ty "tuple") true := ⟨_, _, .ty _, .base (.tup e), kit_ty (by decide +kernel)⟩
theorem r_pow {i j z : Int} (e : i ^ j.toNat = z) (hc : CPow i j) (h : Q (.int z) H) : rI CPow (fun i j => .int (i ^ j.toNat)) (.int i) (.int j) H Q := ⟨i, j, rfl, rfl, hc, by show Q (.int (i ^ j.toNat)) H; rw [e]; exact h⟩
theorem r_p2_63 (h : Q (.int 9223372036854775808) H) : rI CPow (fun i j => .int (i ^ j.toNat)) (.int 2) (.int 63) H Q := r_pow (by decide) (by unfold CPow; decide) h
theorem r_p2_64 (h : Q (.int 18446744073709551616) H) : rI CPow (fun i j => .int (i ^ j.toNat)) (.int 2) (.int 64) H Q := r_pow (by decide) (by unfold CPow; decide) h
theorem r_p2_32 (h : Q (.int 4294967296) H) : rI CPow (fun i j => .int (i ^ j.toNat)) (.int 2) (.int 32) H Q := r_pow (by decide) (by unfold CPow; decide) h
theorem r_p2_31 (h : Q (.int 2147483648) H) : rI CPow (fun i j => .int (i ^ j.toNat)) (.int 2) (.int 31) H Q := r_pow (by decide) (by unfold CPow; decide) h
theorem r_p10_18 (h : Q (.int 1000000000000000000) H) : rI CPow (fun i j => .int (i ^ j.toNat)) (.int 10) (.int 18) H Q := r_pow (by decide) (by unfold CPow; decide) h
theorem r_p10_30 (h : Q (.int 1000000000000000000000000000000) H) : rI CPow (fun i j => .int (i ^ j.toNat)) (.int 10) (.int 30) H Q := r_pow (by decide) (by unfold CPow; decide) h
theorem r_mulR {i j : Int} (hc : -(2 ^ 64) < j ∧ j < 2 ^ 64) (h : Q (.int (i * j)) H) : rI CMul (fun i j => .int (i * j)) (.int i) (.int j) H Q := ⟨i, j, rfl, rfl, .inr hc, h⟩
theorem r_mulL {i j : Int} (hc : -(2 ^ 64) < i ∧ i < 2 ^ 64) (h : Q (.int (i * j)) H) : rI CMul (fun i j => .int (i * j)) (.int i) (.int j) H Q := ⟨i, j, rfl, rfl, .inl hc, h⟩
theorem r_div {i j : Int} (hc : 0 < j ∧ j < 1073741824) (h : Q (.int (i / j)) H) : rI CDiv (fun i j => .int (i / j)) (.int i) (.int j) H Q := ⟨i, j, rfl, rfl, hc, h⟩
theorem r_mod {i j : Int} (hc : 0 < j) (h : Q (.int (i % j)) H) : rI (fun _ j => 0 < j) (fun i j => .int (i % j)) (.int i) (.int j) H Q := ⟨i, j, rfl, rfl, hc, h⟩
theorem eqS {s a : Str} : eqV (.str a) (.str s) = decide (s = a) := by
  show (a == s) = decide (s = a)
  by_cases h : s = a
  · subst h
    rw [decide_eq_true rfl, beq_self_eq_true]
  · rw [decide_eq_false h]
    exact beq_eq_false_iff_ne.mpr fun z => h z.symm
theorem in2 {s a b : Str} : inV (.str s) [.str a, .str b] = (decide (s = a) || decide (s = b)) := by
  unfold inV
  rw [List.any_cons, List.any_cons, List.any_nil, Bool.or_false, eqS, eqS]
theorem in3 {s a b c : Str} : inV (.str s) [.str a, .str b, .str c] = (decide (s = a) || (decide (s = b) || decide (s = c))) := by
  unfold inV
  rw [List.any_cons, List.any_cons, List.any_cons, List.any_nil, Bool.or_false, eqS, eqS, eqS]
theorem r_inT {p : Addr} {xs : List V} {b : Bool} (e : H p = some (.tup xs)) (hx : flatV x = true) (ha : xs.all flatV = true) (hb : inV x xs = b) (h : Q (.bl b) H) : rIn K false x (.ref p) H Q :=
  ⟨p, xs, rfl, .inr (.inl (.inl e)), hx, ha, by rw [if_neg Bool.false_ne_true, hb]; exact h⟩
theorem r_niT {p : Addr} {xs : List V} {b : Bool} (e : H p = some (.tup xs)) (hx : flatV x = true) (ha : xs.all flatV = true) (hb : inV x xs = b) (h : Q (.bl (!b)) H) : rIn K true x (.ref p) H Q :=
  ⟨p, xs, rfl, .inr (.inl (.inl e)), hx, ha, by rw [if_pos rfl, hb]; exact h⟩
theorem r_m1 {r : V → List V → Hp → VK → Prop} (h : ta σ H fun x H1 => (∃ a, x = .str a) ∧ te σ H1 fun y H2 => r x [y] H2 Q) : tM1 r ta te σ H Q := h
/-- [e for x in range(m)] -/
def LcR (te : TE) (g : TG) (ts : TT) (vs : List Nat) (σ : L2.St) (Q : VK) : List V → Hp → Prop := fun ws H1 => ∃ m : Int, ws = [.int m] ∧ -(2 ^ 62) ≤ m ∧ m < 2 ^ 62 ∧ ∀ D, H1 D = none → ∃ W : Nat → Nat → Hp → Prop, (∃ q, W 0 q (upd H1 D (.lst []))) ∧ ∀ i q H, W i q H →
      ((Itr 0 m.toNat).stop i H ∧ Q (.ref D) H) ∨ ((Itr 0 m.toNat).go i H ∧ ∃ Nx : Hp → Prop, (∀ H', Nx H' → ∃ q', q' < q ∧ W (i + 1) q' H') ∧ ∀ x H', (Itr 0 m.toNat).yld i H x H' → g x (wipe σ vs) H' fun σ2 H2 => wipe σ2 vs = wipe σ vs ∧ ts σ2 H2 fun b H3 =>
        if b = true then te σ2 H3 fun y H4 => ∃ acc, H4 D = some (.lst acc) ∧ acc.length < sizeLine ∧ Nx (upd H4 D (.lst (acc ++ [y]))) else Nx H3)
theorem r_lcr {g : TG} {ts : TT} {vs : List Nat} (h : tr σ H (LcR te g ts vs σ Q)) : tLc (iRng1 tr) g ts te vs σ H Q := h
theorem r_lcR {j : Nat} {vs : List Nat} {m : Int} (Pv : Addr → Nat → Hp → Prop) (hm : -1000000000 ≤ m ∧ m ≤ 1000000000) (h0 : ∀ D, H D = none → Pv D 0 (upd H D (.lst [])))
    (hw : ∀ x, wipe ((wipe σ vs).set j (some x)) vs = wipe σ vs)
    (hs : ∀ D (k : Nat) H', H D = none → (k : Int) < m → Pv D k H' → te ((wipe σ vs).set j (some (.int (k : Int)))) H' fun y H4 => ∃ acc, H4 D = some (.lst acc) ∧ acc.length < sizeLine ∧ Pv D (k + 1) (upd H4 D (.lst (acc ++ [y]))))
    (hd : ∀ D H', H D = none → Pv D m.toNat H' → Q (.ref D) H') : LcR te (gName j) tYes vs σ Q [.int m] H := by
  refine ⟨m, rfl, by omega, by omega, fun D hD => lc_range (lo := 0) (n := m.toNat) (Pv D) (h0 D hD) (fun k H' hk p => ?_) (fun H' p => hd D H' hD p)⟩
  refine ⟨hw _, ?_⟩
  have z := hs D k H' hD (by omega) p
  rw [show (0 : Int) + (k : Int) = (k : Int) from Int.zero_add _]
  exact r_yes (iteT z)
/- own rules by value -/
end
theorem r_cut {t u : TS} {nx bk ct : L2.St → Hp → Prop} {rt : V → Hp → Prop} {σ : L2.St} {H : Hp} (Mid : L2.St → Hp → Prop) (h : t ⟨Mid, rt, bk, ct⟩ σ H) (h2 : ∀ σ' H', Mid σ' H' → u ⟨nx, rt, bk, ct⟩ σ' H') : C8.tCut t u ⟨nx, rt, bk, ct⟩ σ H := ⟨Mid, h, h2⟩
section
variable {X : Cx}
theorem cAbs : CallR X (.builtin "abs") rAbs := call_abs
theorem cInt1 : CallR X (.type "int") rInt1 := call_int1
theorem cMin2 (hc : X.calm = true) : CallR X (.builtin "min") rMin2 := call_min2 hc
theorem cLenS : CallR X (.builtin "len") (rLenS X.K) := call_len_seq
/-- // by any divisor below 2 ^ 9000 but 0 -/
def CDivZ (_ j : Int) : Prop := j ≠ 0 ∧ j.natAbs.log2 < 9000
theorem op_fdivZ : OpR X (binaryOp .FloorDiv) (rI CDivZ fun i j => .int (i.fdiv j)) := opI fun i j _ _ _ _ _ hc q => by
  exact floordiv_int hc.1 q (.inl (PyProof.noPylong_of_log2 hc.2))
theorem div_ok {i j : Int} (h : j ≠ 0) (hb : j.natAbs < 2 ^ 100) : CDivZ i j := ⟨h, Nat.lt_of_lt_of_le (PySem.Flt.log2_lt_of (by decide) hb) (by decide)⟩
end
/- heaps -/
/-- all but p stands as it stood -/
def Mv (p : Addr) (H H' : Hp) : Prop := ∀ b o, H b = some o → b ≠ p → H' b = some o
theorem Mv.refl {p : Addr} {H : Hp} : Mv p H H := fun _ _ e _ => e
theorem Mv.trans {p : Addr} {H H1 H2 : Hp} (a : Mv p H H1) (b : Mv p H1 H2) : Mv p H H2 := fun c o h hp => b c o (a c o h hp) hp
theorem Mv.upd {p : Addr} {H : Hp} {o : HO} : Mv p H (upd H p o) := fun b u e hp => by rw [upd_ne hp]; exact e
theorem Mv.of {p : Addr} {H H' : Hp} (a : Same H H') : Mv p H H' := fun b o e _ => a b o e
theorem same_new {H : Hp} {p : Addr} {o : HO} (h : H p = none) : Same H (upd H p o) := fun b x e => by
  rw [upd_ne (ne_of_none e h)]
  exact e
theorem same_new2 {H : Hp} {p : Addr} {o o' : HO} (h : H p = none) : Same H (upd (upd H p o) p o') := fun b x e => by
  rw [upd_ne (ne_of_none e h), upd_ne (ne_of_none e h)]
  exact e
theorem Same.sqt {K : PySem.W.Frag} {H H' : Hp} {a : Addr} {xs : List V} (e : Same H H') (h : SqT K H a xs) : SqT K H' a xs := by
  rcases h with (h | ⟨o, h⟩) | h
  · exact .inl (.inl (e _ _ h))
  · exact .inl (.inr ⟨o, e _ _ h⟩)
  · exact .inr h
theorem sqL {K : PySem.W.Frag} {H : Hp} {a : Addr} {xs : List V} (h : H a = some (.lst xs)) : SqL K H a xs := .inl (.inl h)
theorem sqT {K : PySem.W.Frag} {H : Hp} {a : Addr} {xs : List V} (h : H a = some (.tup xs)) : SqT K H a xs := .inl (.inl h)
theorem size_of {n : Nat} (h : n ≤ 100000) : n ≤ sizeLine := Nat.le_trans h (by decide)
theorem size_lt {n : Nat} (h : n < 100000) : n < sizeLine := Nat.lt_of_lt_of_le h (by decide)
theorem at_nat {α : Type} {xs : List α} {i : Int} {v : α} (h0 : 0 ≤ i) (h : xs[i.toNat]? = some v) : atI xs i = some v := by
  have z := atI_nat h
  rwa [Int.toNat_of_nonneg h0] at z
theorem map_int_get {ns : List Int} {i : Nat} {y : V} (h : (ns.map V.int)[i]? = some y) : ∃ z, ns[i]? = some z ∧ y = .int z := by
  rw [List.getElem?_map] at h
  cases e : ns[i]? with
  | none => rw [e] at h; cases h
  | some z => rw [e] at h; exact ⟨z, rfl, (Option.some.inj h).symm⟩
end R
local macro_rules | `(tactic| walk_at "s1") => `(tactic| first
  | ((with_reducible apply R.r_var); · rfl)
  | with_reducible apply R.r_c
  | with_reducible apply R.r_op
  | with_reducible apply R.r_I0
  | with_reducible apply R.r_cb
  | with_reducible apply R.r_cons
  | with_reducible apply R.r_nil
  | with_reducible apply R.r_seq
  | with_reducible apply R.r_asg
  | with_reducible apply R.r_ret
  | with_reducible apply R.r_ifS
  | with_reducible apply R.r_test
  | with_reducible apply R.r_t
  | with_reducible apply R.r_f
  | with_reducible apply R.r_nt
  | with_reducible apply R.r_nf
  | with_reducible apply R.r_bl
  | with_reducible apply R.r_U
  | with_reducible apply R.r_un
  | with_reducible apply R.r_eqI
  | with_reducible apply R.r_eqS
  | with_reducible apply R.r_neI
  | with_reducible apply R.r_neS
  | with_reducible apply R.r_and
  | with_reducible apply R.r_or
  | with_reducible apply R.r_not
  | with_reducible apply R.r_andV
  | with_reducible apply R.r_orV
  | with_reducible apply R.r_notV
  | with_reducible apply R.r_blV
  | with_reducible apply R.r_B
  | with_reducible apply R.r_ifE
  | with_reducible apply R.r_tup
  | with_reducible apply R.r_lst
  | with_reducible apply R.r_call
  | with_reducible apply R.r_drop
  | with_reducible apply R.r_next
  | with_reducible apply R.r_abs
  | with_reducible apply R.r_int1
  | with_reducible apply R.r_int1b
  | with_reducible apply R.r_min2
  | with_reducible apply R.r_bm
  | with_reducible apply R.r_bm0
  | with_reducible apply R.r_dget
  | with_reducible apply R.r_dput
  | with_reducible apply R.r_disp
  | with_reducible apply R.r_pnil
  | with_reducible apply R.r_pcons
  | with_reducible apply R.r_fld
  | with_reducible apply R.r_slice
  | with_reducible apply R.r_nopart
  | with_reducible apply R.r_part
  | with_reducible apply R.r_int
  | with_reducible apply R.r_yes
  | with_reducible apply R.r_retN
  | with_reducible apply R.r_asgG
  | with_reducible apply R.r_gname
  | with_reducible apply R.r_rng1
  | with_reducible apply R.r_brk
  | with_reducible apply R.r_cnt
  | with_reducible apply R.r_m1
  | with_reducible apply R.r_lcr
  | with_reducible apply R.r_p2_63
  | with_reducible apply R.r_p2_64
  | with_reducible apply R.r_p2_32
  | with_reducible apply R.r_p2_31
  | with_reducible apply R.r_p10_18
  | with_reducible apply R.r_p10_30
  | with_reducible refine R.r_mod (by omega) ?_
  | with_reducible refine R.r_div (by omega) ?_
  | with_reducible refine R.r_mulR (by omega) ?_
  | with_reducible refine R.r_mulL (by omega) ?_
  | with_reducible refine R.r_iteY (by decide +kernel) ?_
  | with_reducible refine R.r_iteF (by decide +kernel) ?_
  | with_reducible refine R.r_isi R.isi_int ?_
  | with_reducible refine R.r_isi R.isi_intB ?_)
local macro_rules | `(tactic| walk_at "go") => `(tactic| repeat (walk_at "s1"))

namespace K20
open PySem PySem.Spec PyProof.Rows L2
def topS (i : Nat) : Stmt := PySem.Challenge.pw_tapline_k20_numbers_and_texts.main.body.getD i (.Pass ⟨0, 0, 0, 0⟩)
abbrev s_wrap : Stmt := topS 4
abbrev N_wrap : List Str := ["n"]
theorem sc_wrap : FnScope N_wrap ["n"] (defScope s_wrap) := ⟨rfl, rfl, rfl, by decide +kernel, rfl, by decide +kernel, by decide +kernel⟩
abbrev s_zero : Stmt := topS 5
abbrev N_zero : List Str := ["kind"]
theorem sc_zero : FnScope N_zero ["kind"] (defScope s_zero) := ⟨rfl, rfl, rfl, by decide +kernel, rfl, by decide +kernel, by decide +kernel⟩
abbrev s_apply_op : Stmt := topS 6
abbrev N_apply_op : List Str := ["sign", "a", "b"]
theorem sc_apply_op : FnScope N_apply_op ["sign", "a", "b"] (defScope s_apply_op) := ⟨rfl, rfl, rfl, by decide +kernel, rfl, by decide +kernel, by decide +kernel⟩
abbrev s_apply_same : Stmt := topS 7
abbrev N_apply_same : List Str := ["sign", "s", "t"]
theorem sc_apply_same : FnScope N_apply_same ["sign", "s", "t"] (defScope s_apply_same) := ⟨rfl, rfl, rfl, by decide +kernel, rfl, by decide +kernel, by decide +kernel⟩
abbrev s_truth_of : Stmt := topS 8
abbrev N_truth_of : List Str := ["sign", "a", "b", "holds"]
theorem sc_truth_of : FnScope N_truth_of ["sign", "a", "b"] (defScope s_truth_of) := ⟨rfl, rfl, rfl, by decide +kernel, rfl, by decide +kernel, by decide +kernel⟩
abbrev s_law_draws : Stmt := topS 10
abbrev N_law_draws : List Str := ["script", "draws", "k", "cell", "turn", "mixed"]
theorem sc_law_draws : FnScope N_law_draws ["script"] (defScope s_law_draws) := ⟨rfl, rfl, rfl, by decide +kernel, rfl, by decide +kernel, by decide +kernel⟩
abbrev s_law_reader : Stmt := topS 11
abbrev N_law_reader : List Str := ["script", "row", "seed"]
theorem sc_law_reader : FnScope N_law_reader ["script"] (defScope s_law_reader) := ⟨rfl, rfl, rfl, by decide +kernel, rfl, by decide +kernel, by decide +kernel⟩
abbrev s_law_next : Stmt := topS 12
abbrev N_law_next : List Str := ["draws", "many", "at", "mixed"]
theorem sc_law_next : FnScope N_law_next ["draws", "many"] (defScope s_law_next) := ⟨rfl, rfl, rfl, by decide +kernel, rfl, by decide +kernel, by decide +kernel⟩
abbrev s_law_number : Stmt := topS 13
abbrev N_law_number : List Str := ["draws", "near", "base"]
theorem sc_law_number : FnScope N_law_number ["draws"] (defScope s_law_number) := ⟨rfl, rfl, rfl, by decide +kernel, rfl, by decide +kernel, by decide +kernel⟩
abbrev s_law_text : Stmt := topS 14
abbrev N_law_text : List Str := ["draws", "letters", "k"]
theorem sc_law_text : FnScope N_law_text ["draws"] (defScope s_law_text) := ⟨rfl, rfl, rfl, by decide +kernel, rfl, by decide +kernel, by decide +kernel⟩
abbrev s_law_is_wrapped : Stmt := topS 15
abbrev N_law_is_wrapped : List Str := ["told", "n"]
theorem sc_law_is_wrapped : FnScope N_law_is_wrapped ["told", "n"] (defScope s_law_is_wrapped) := ⟨rfl, rfl, rfl, by decide +kernel, rfl, by decide +kernel, by decide +kernel⟩
abbrev s_law_is_right : Stmt := topS 16
abbrev N_law_is_right : List Str := ["sign", "a", "b", "told", "quotient", "rest"]
theorem sc_law_is_right : FnScope N_law_is_right ["sign", "a", "b"] (defScope s_law_is_right) := ⟨rfl, rfl, rfl, by decide +kernel, rfl, by decide +kernel, by decide +kernel⟩
abbrev s_law_is_compared : Stmt := topS 17
abbrev N_law_is_compared : List Str := ["told", "sign", "a", "b", "below", "above", "holds"]
theorem sc_law_is_compared : FnScope N_law_is_compared ["told", "sign", "a", "b"] (defScope s_law_is_compared) := ⟨rfl, rfl, rfl, by decide +kernel, rfl, by decide +kernel, by decide +kernel⟩
abbrev s_law : Stmt := topS 18
abbrev N_law : List Str := ["script", "draws", "signs", "k", "n", "a", "b", "one", "other", "sign"]
theorem sc_law : FnScope N_law ["script"] (defScope s_law) := ⟨rfl, rfl, rfl, by decide +kernel, rfl, by decide +kernel, by decide +kernel⟩
structure Txt (K : PySem.W.Frag) (mg : Str → Option Value) where
  f_wrap : Addr
  fd_wrap : FuncData
  F_wrap : Fun K "wrap" "wrap" s_wrap f_wrap fd_wrap
  b_wrap : Binds K fd_wrap ["n"] []
  g_wrap : mg "wrap" = some (.ref f_wrap)
  f_zero : Addr
  fd_zero : FuncData
  F_zero : Fun K "zero" "zero" s_zero f_zero fd_zero
  b_zero : Binds K fd_zero ["kind"] []
  g_zero : mg "zero" = some (.ref f_zero)
  f_apply_op : Addr
  fd_apply_op : FuncData
  F_apply_op : Fun K "apply_op" "apply_op" s_apply_op f_apply_op fd_apply_op
  b_apply_op : Binds K fd_apply_op ["sign", "a", "b"] []
  g_apply_op : mg "apply_op" = some (.ref f_apply_op)
  f_apply_same : Addr
  fd_apply_same : FuncData
  F_apply_same : Fun K "apply_same" "apply_same" s_apply_same f_apply_same fd_apply_same
  b_apply_same : Binds K fd_apply_same ["sign", "s", "t"] []
  g_apply_same : mg "apply_same" = some (.ref f_apply_same)
  f_truth_of : Addr
  fd_truth_of : FuncData
  F_truth_of : Fun K "truth_of" "truth_of" s_truth_of f_truth_of fd_truth_of
  b_truth_of : Binds K fd_truth_of ["sign", "a", "b"] []
  g_truth_of : mg "truth_of" = some (.ref f_truth_of)
  f_law_draws : Addr
  fd_law_draws : FuncData
  F_law_draws : Fun K "_law_draws" "_law_draws" s_law_draws f_law_draws fd_law_draws
  b_law_draws : Binds K fd_law_draws ["script"] []
  g_law_draws : mg "_law_draws" = some (.ref f_law_draws)
  f_law_reader : Addr
  fd_law_reader : FuncData
  F_law_reader : Fun K "_law_reader" "_law_reader" s_law_reader f_law_reader fd_law_reader
  b_law_reader : Binds K fd_law_reader ["script"] []
  g_law_reader : mg "_law_reader" = some (.ref f_law_reader)
  f_law_next : Addr
  fd_law_next : FuncData
  F_law_next : Fun K "_law_next" "_law_next" s_law_next f_law_next fd_law_next
  b_law_next : Binds K fd_law_next ["draws", "many"] []
  g_law_next : mg "_law_next" = some (.ref f_law_next)
  f_law_number : Addr
  fd_law_number : FuncData
  F_law_number : Fun K "_law_number" "_law_number" s_law_number f_law_number fd_law_number
  b_law_number : Binds K fd_law_number ["draws"] []
  g_law_number : mg "_law_number" = some (.ref f_law_number)
  f_law_text : Addr
  fd_law_text : FuncData
  F_law_text : Fun K "_law_text" "_law_text" s_law_text f_law_text fd_law_text
  b_law_text : Binds K fd_law_text ["draws"] []
  g_law_text : mg "_law_text" = some (.ref f_law_text)
  f_law_is_wrapped : Addr
  fd_law_is_wrapped : FuncData
  F_law_is_wrapped : Fun K "_law_is_wrapped" "_law_is_wrapped" s_law_is_wrapped f_law_is_wrapped fd_law_is_wrapped
  b_law_is_wrapped : Binds K fd_law_is_wrapped ["told", "n"] []
  g_law_is_wrapped : mg "_law_is_wrapped" = some (.ref f_law_is_wrapped)
  f_law_is_right : Addr
  fd_law_is_right : FuncData
  F_law_is_right : Fun K "_law_is_right" "_law_is_right" s_law_is_right f_law_is_right fd_law_is_right
  b_law_is_right : Binds K fd_law_is_right ["sign", "a", "b"] []
  g_law_is_right : mg "_law_is_right" = some (.ref f_law_is_right)
  f_law_is_compared : Addr
  fd_law_is_compared : FuncData
  F_law_is_compared : Fun K "_law_is_compared" "_law_is_compared" s_law_is_compared f_law_is_compared fd_law_is_compared
  b_law_is_compared : Binds K fd_law_is_compared ["told", "sign", "a", "b"] []
  g_law_is_compared : mg "_law_is_compared" = some (.ref f_law_is_compared)
  f_law : Addr
  fd_law : FuncData
  F_law : Fun K "law" "law" s_law f_law fd_law
  b_law : Binds K fd_law ["script"] []
  g_law : mg "law" = some (.ref f_law)
  m_abs : mg "abs" = none
  m_bool : mg "bool" = none
  m_int : mg "int" = none
  m_isinstance : mg "isinstance" = none
  m_len : mg "len" = none
  m_min : mg "min" = none
  m_range : mg "range" = none
  v_INT : Value
  c_INT : mg "INT" = some v_INT
  r_INT : RelV (V.str "int") v_INT
  v_LEAST : Value
  c_LEAST : mg "LEAST" = some v_LEAST
  r_LEAST : RelV (V.int (-9223372036854775808)) v_LEAST
  v_RANGE : Value
  c_RANGE : mg "RANGE" = some v_RANGE
  r_RANGE : RelV (V.int 18446744073709551616) v_RANGE
/-! ### what the defs are worth -/
def wrapI (n : Int) : Int := (n - -9223372036854775808) % 18446744073709551616 + -9223372036854775808
theorem wrapI_lo (n : Int) : -9223372036854775808 ≤ wrapI n := by unfold wrapI; omega
theorem wrapI_hi (n : Int) : wrapI n < 9223372036854775808 := by unfold wrapI; omega
theorem wrapI_mod (n : Int) : (n - wrapI n) % 18446744073709551616 = 0 := by unfold wrapI; omega
def InR (n : Int) : Prop := -9223372036854775808 ≤ n ∧ n < 9223372036854775808
section
variable {P : Program} {w : World} {K : PySem.W.Frag} {mg : Str → Option Value} {base : Heap}
def sp_wrap : Sp := fun vs H Q _ => ∃ n, vs = [.int n] ∧ Q (.int (wrapI n)) H
theorem ok_wrap (T : Txt K mg) : FnOk P w K mg base CX0 1 T.f_wrap T.fd_wrap ["n"] sp_wrap := by
  refine T.F_wrap.ok sc_wrap (fun vs H Q E h => ?_) (fun cdv A outer s H vs Q E hr h => ?_)
  · obtain ⟨n, rfl, _⟩ := h
    rfl
  · obtain ⟨n, rfl, q⟩ := h
    refine ⟨_, (pss_one (ps_ret (pe_op op_add (pe_op op_mod (pe_op op_sub (pv 0) (pe_glob (by rfl) T.c_LEAST T.r_LEAST)) (pe_glob (by rfl) T.c_RANGE T.r_RANGE)) (pe_glob (by rfl) T.c_LEAST T.r_LEAST)))), ?_⟩
    walk_at "go"
    exact q
def sp_zero : Sp := fun vs H Q _ => ∃ k : Str, vs = [.str k] ∧ ∀ p, H p = none → Q (.ref p) (upd H p (if k = "int" then .tup [.str "int", .int 0] else .tup [.str "str", .str ""]))
theorem ok_zero (T : Txt K mg) : FnOk P w K mg base CX0 1 T.f_zero T.fd_zero ["kind"] sp_zero := by
  refine T.F_zero.ok sc_zero (fun vs H Q E h => ?_) (fun cdv A outer s H vs Q E hr h => ?_)
  · obtain ⟨n, rfl, _⟩ := h
    rfl
  · obtain ⟨k, rfl, q⟩ := h
    refine ⟨_, (pss_cons (ps_if (pt_cmpR op_eq (pv 0) (pe_glob (by rfl) T.c_INT T.r_INT) (nomark _))
 (pss_one (ps_ret (pe_tup (pa_cons pe_str (pa_cons pe_int pa_nil)))))
 pss_nil)
(pss_one (ps_ret (pe_tup (pa_cons pe_str (pa_cons pe_str pa_nil)))))), ?_⟩
    walk_at "go"
    refine R.r_ite (fun e => ?_) (fun e => ?_)
    · walk_at "go"
      refine ⟨by decide, fun p hp => ?_⟩
      walk_at "go"
      have z := q p hp
      rwa [if_pos e] at z
    · walk_at "go"
      refine ⟨by decide, fun p hp => ?_⟩
      walk_at "go"
      have z := q p hp
      rwa [if_neg e] at z
/-- a comparison's truth -/
def cmpB (sg : Str) (eq lt gt : Bool) : Bool :=
  if sg = "==" then eq else if sg = "!=" then !eq else if sg = "<" then lt else if sg = "<=" then !gt else if sg = ">" then gt else !lt
def ltS (s t : Str) : Bool := decide (s.cps.toList < t.cps.toList)
def sp_truth_of : Sp := fun vs H Q _ => ∃ sg : Str,
  ((∃ i j : Int, vs = [.str sg, .int i, .int j] ∧ Q (.int (if cmpB sg (decide (i = j)) (decide (i < j)) (decide (j < i)) then 1 else 0)) H) ∨
   (∃ s t : Str, vs = [.str sg, .str s, .str t] ∧ Q (.int (if cmpB sg (decide (s = t)) (ltS s t) (ltS t s) then 1 else 0)) H))
theorem ok_truth_of (T : Txt K mg) : FnOk P w K mg base CX0 1 T.f_truth_of T.fd_truth_of ["sign", "a", "b"] sp_truth_of := by
  refine T.F_truth_of.ok sc_truth_of (fun vs H Q E h => ?_) (fun cdv A outer s H vs Q E hr h => ?_)
  · obtain ⟨sg, ⟨i, j, rfl, _⟩ | ⟨i, j, rfl, _⟩⟩ := h <;> rfl
  · obtain ⟨sg, ⟨i, j, rfl, q⟩ | ⟨i, j, rfl, q⟩⟩ := h
    · refine ⟨_, (pss_cons (ps_if (pt_cmpR op_eq (pv 0) pe_str (nomark _))
 (pss_one (ps_set (i := 3) sc_truth_of.nd rfl (.inl rfl) (pe_cmpR op_eq (pv 1) (pv 2) (nomark _))))
 (pss_one (ps_if (pt_cmpR op_eq (pv 0) pe_str (nomark _))
 (pss_one (ps_set (i := 3) sc_truth_of.nd rfl (.inl rfl) (pe_cmpR op_ne (pv 1) (pv 2) (nomark _))))
 (pss_one (ps_if (pt_cmpR op_eq (pv 0) pe_str (nomark _))
 (pss_one (ps_set (i := 3) sc_truth_of.nd rfl (.inl rfl) (pe_cmpR op_lt (pv 1) (pv 2) (nomark _))))
 (pss_one (ps_if (pt_cmpR op_eq (pv 0) pe_str (nomark _))
 (pss_one (ps_set (i := 3) sc_truth_of.nd rfl (.inl rfl) (pe_cmpR op_le (pv 1) (pv 2) (nomark _))))
 (pss_one (ps_if (pt_cmpR op_eq (pv 0) pe_str (nomark _))
 (pss_one (ps_set (i := 3) sc_truth_of.nd rfl (.inl rfl) (pe_cmpR op_gt (pv 1) (pv 2) (nomark _))))
 (pss_one (ps_set (i := 3) sc_truth_of.nd rfl (.inl rfl) (pe_cmpR op_ge (pv 1) (pv 2) (nomark _)))))))))))))
(pss_one (ps_ret (pe_callTy R.cInt1 (by rfl) T.m_int (by decide +kernel) (pa_cons (pv 3) pa_nil))))), ?_⟩
      unfold cmpB at q
      walk_at "go"
      refine R.r_ite (fun e => ?_) (fun e => ?_)
      · walk_at "go"
        rw [if_pos e] at q
        exact q
      rw [if_neg e] at q
      walk_at "go"
      refine R.r_ite (fun e => ?_) (fun e => ?_)
      · walk_at "go"
        rw [if_pos e] at q
        exact q
      rw [if_neg e] at q
      walk_at "go"
      refine R.r_ite (fun e => ?_) (fun e => ?_)
      · walk_at "go"
        rw [if_pos e] at q
        exact q
      rw [if_neg e] at q
      walk_at "go"
      refine R.r_ite (fun e => ?_) (fun e => ?_)
      · walk_at "go"
        rw [if_pos e] at q
        rwa [show (!decide (j < i)) = decide (i ≤ j) from by by_cases h : j < i <;> simp [h] <;> omega] at q
      rw [if_neg e] at q
      walk_at "go"
      refine R.r_ite (fun e => ?_) (fun e => ?_)
      · walk_at "go"
        rw [if_pos e] at q
        exact q
      rw [if_neg e] at q
      walk_at "go"
      rwa [show (!decide (i < j)) = decide (j ≤ i) from by by_cases h : i < j <;> simp [h] <;> omega] at q
    · refine ⟨_, (pss_cons (ps_if (pt_cmpR op_eq (pv 0) pe_str (nomark _))
 (pss_one (ps_set (i := 3) sc_truth_of.nd rfl (.inl rfl) (pe_cmpR op_eq (pv 1) (pv 2) (nomark _))))
 (pss_one (ps_if (pt_cmpR op_eq (pv 0) pe_str (nomark _))
 (pss_one (ps_set (i := 3) sc_truth_of.nd rfl (.inl rfl) (pe_cmpR op_ne (pv 1) (pv 2) (nomark _))))
 (pss_one (ps_if (pt_cmpR op_eq (pv 0) pe_str (nomark _))
 (pss_one (ps_set (i := 3) sc_truth_of.nd rfl (.inl rfl) (pe_cmpR op_lt_str (pv 1) (pv 2) (nomark _))))
 (pss_one (ps_if (pt_cmpR op_eq (pv 0) pe_str (nomark _))
 (pss_one (ps_set (i := 3) sc_truth_of.nd rfl (.inl rfl) (pe_cmpR op_le_str (pv 1) (pv 2) (nomark _))))
 (pss_one (ps_if (pt_cmpR op_eq (pv 0) pe_str (nomark _))
 (pss_one (ps_set (i := 3) sc_truth_of.nd rfl (.inl rfl) (pe_cmpR op_gt_str (pv 1) (pv 2) (nomark _))))
 (pss_one (ps_set (i := 3) sc_truth_of.nd rfl (.inl rfl) (pe_cmpR op_ge_str (pv 1) (pv 2) (nomark _)))))))))))))
(pss_one (ps_ret (pe_callTy R.cInt1 (by rfl) T.m_int (by decide +kernel) (pa_cons (pv 3) pa_nil))))), ?_⟩
      unfold cmpB at q
      walk_at "go"
      refine R.r_ite (fun e => ?_) (fun e => ?_)
      · walk_at "go"
        rw [if_pos e] at q
        exact q
      rw [if_neg e] at q
      walk_at "go"
      refine R.r_ite (fun e => ?_) (fun e => ?_)
      · walk_at "go"
        rw [if_pos e] at q
        exact q
      rw [if_neg e] at q
      walk_at "go"
      refine R.r_ite (fun e => ?_) (fun e => ?_)
      · walk_at "go"
        rw [if_pos e] at q
        refine ⟨_, _, rfl, rfl, ?_⟩
        walk_at "go"
        exact q
      rw [if_neg e] at q
      walk_at "go"
      refine R.r_ite (fun e => ?_) (fun e => ?_)
      · walk_at "go"
        rw [if_pos e] at q
        refine ⟨_, _, rfl, rfl, ?_⟩
        walk_at "go"
        exact q
      rw [if_neg e] at q
      walk_at "go"
      refine R.r_ite (fun e => ?_) (fun e => ?_)
      · walk_at "go"
        rw [if_pos e] at q
        refine ⟨_, _, rfl, rfl, ?_⟩
        walk_at "go"
        exact q
      rw [if_neg e] at q
      walk_at "go"
      refine ⟨_, _, rfl, rfl, ?_⟩
      walk_at "go"
      exact q
/-- apply_op's value -/
def opV (sg : Str) (i j : Int) : V :=
  if sg = "+" then .int (wrapI (i + j)) else if sg = "-" then .int (wrapI (i - j)) else if sg = "*" then .int (wrapI (i * j)) else
  if sg = "/" ∨ sg = "mod" then (if j = 0 then .non else if sg = "/" then .int (wrapI (i.fdiv j)) else .int (i.fmod j)) else
  .int (if cmpB sg (decide (i = j)) (decide (i < j)) (decide (j < i)) then 1 else 0)
def sp_apply_op : Sp := fun vs H Q _ => ∃ (sg : Str) (i j : Int), vs = [.str sg, .int i, .int j] ∧ InR i ∧ InR j ∧ ∀ H', Same H H' → Q (opV sg i j) H'
theorem abs_lt {j : Int} (h : InR j) : j.natAbs < 2 ^ 100 := by
  have h1 := h.1
  have h2 := h.2
  have : j.natAbs ≤ 9223372036854775808 := by omega
  exact Nat.lt_of_le_of_lt this (by decide)
theorem ok_apply_op (T : Txt K mg) : FnOk P w K mg base CX0 2 T.f_apply_op T.fd_apply_op ["sign", "a", "b"] sp_apply_op := by
  refine T.F_apply_op.ok sc_apply_op (fun vs H Q E h => ?_) (fun cdv A outer s H vs Q E hr h => ?_)
  · obtain ⟨sg, i, j, rfl, _⟩ := h
    rfl
  · obtain ⟨sg, i, j, rfl, hi, hj, q⟩ := h
    have hi1 := hi.1
    have hi2 := hi.2
    unfold opV at q
    refine ⟨_, (pss_cons (ps_if (pt_cmpR op_eq (pv 0) pe_str (nomark _))
 (pss_one (ps_ret (pe_call (ok_wrap T) (hr.mono (by decide)) (by rfl) T.g_wrap T.F_wrap.kp T.b_wrap .nil pass0 (pa_cons (pe_op op_add (pv 1) (pv 2)) pa_nil))))
 pss_nil)
(pss_cons (ps_if (pt_cmpR op_eq (pv 0) pe_str (nomark _))
 (pss_one (ps_ret (pe_call (ok_wrap T) (hr.mono (by decide)) (by rfl) T.g_wrap T.F_wrap.kp T.b_wrap .nil pass0 (pa_cons (pe_op op_sub (pv 1) (pv 2)) pa_nil))))
 pss_nil)
(pss_cons (ps_if (pt_cmpR op_eq (pv 0) pe_str (nomark _))
 (pss_one (ps_ret (pe_call (ok_wrap T) (hr.mono (by decide)) (by rfl) T.g_wrap T.F_wrap.kp T.b_wrap .nil pass0 (pa_cons (pe_op op_mul (pv 1) (pv 2)) pa_nil))))
 pss_nil)
(pss_cons (ps_if (pt_cmpR op_notIn_seq (pv 0) (pe_tup (pa_cons pe_str (pa_cons pe_str pa_nil))) rfl)
 (pss_one (ps_ret (pe_call (ok_truth_of T) (hr.mono (by decide)) (by rfl) T.g_truth_of T.F_truth_of.kp T.b_truth_of .nil pass0 (pa_cons (pv 0) (pa_cons (pv 1) (pa_cons (pv 2) pa_nil))))))
 pss_nil)
(pss_cons (ps_if (pt_cmpR op_eq (pv 2) pe_int (nomark _))
 (pss_one (ps_ret pe_non))
 pss_nil)
(pss_cons (ps_if (pt_cmpR op_eq (pv 0) pe_str (nomark _))
 (pss_one (ps_ret (pe_call (ok_wrap T) (hr.mono (by decide)) (by rfl) T.g_wrap T.F_wrap.kp T.b_wrap .nil pass0 (pa_cons (pe_op R.op_fdivZ (pv 1) (pv 2)) pa_nil))))
 pss_nil)
(pss_one (ps_ret (pe_op op_modN (pv 1) (pv 2)))))))))), ?_⟩
    walk_at "go"
    refine R.r_ite (fun e => ?_) (fun e => ?_)
    · rw [if_pos e] at q
      walk_at "go"
      exact ⟨_, rfl, q H (Same.refl H)⟩
    rw [if_neg e] at q
    walk_at "go"
    refine R.r_ite (fun e => ?_) (fun e => ?_)
    · rw [if_pos e] at q
      walk_at "go"
      exact ⟨_, rfl, q H (Same.refl H)⟩
    rw [if_neg e] at q
    walk_at "go"
    refine R.r_ite (fun e => ?_) (fun e => ?_)
    · rw [if_pos e] at q
      walk_at "go"
      exact ⟨_, rfl, q H (Same.refl H)⟩
    rw [if_neg e] at q
    walk_at "go"
    refine ⟨by decide, fun p hp => ?_⟩
    have sm : Same H (upd H p (.tup [.str "/", .str "mod"])) := R.same_new hp
    have q' := q _ sm
    refine R.r_niT upd_same rfl rfl R.in2 ?_
    walk_at "go"
    by_cases e1 : sg = "/" ∨ sg = "mod"
    · rw [if_pos e1] at q'
      refine R.r_ite_b (b' := false) (by rcases e1 with e1 | e1 <;> subst e1 <;> decide +kernel) ?_
      walk_at "go"
      refine R.r_ite (fun e => ?_) (fun e => ?_)
      · rw [if_pos e] at q'
        walk_at "go"
        exact q'
      rw [if_neg e] at q'
      walk_at "go"
      refine R.r_ite (fun e => ?_) (fun e => ?_)
      · rw [if_pos e] at q'
        walk_at "go"
        refine R.r_I (R.div_ok (by assumption) (abs_lt hj)) ?_
        walk_at "go"
        exact ⟨_, rfl, q'⟩
      rw [if_neg e] at q'
      walk_at "go"
      refine R.r_I (by assumption) ?_
      exact q'
    · rw [if_neg e1] at q'
      refine R.r_ite_b (b' := true) ?_ ?_
      · rw [decide_eq_false (fun z => e1 (.inl z)), decide_eq_false (fun z => e1 (.inr z))]
        rfl
      walk_at "go"
      exact ⟨_, .inl ⟨_, _, rfl, q'⟩⟩
def sp_apply_same : Sp := fun vs H Q _ => ∃ (sg : Str) (s t : Str), vs = [.str sg, .str s, .str t] ∧ Q (.int (if cmpB sg (decide (s = t)) (ltS s t) (ltS t s) then 1 else 0)) H
theorem ok_apply_same (T : Txt K mg) : FnOk P w K mg base CX0 2 T.f_apply_same T.fd_apply_same ["sign", "s", "t"] sp_apply_same := by
  refine T.F_apply_same.ok sc_apply_same (fun vs H Q E h => ?_) (fun cdv A outer s H vs Q E hr h => ?_)
  · obtain ⟨sg, i, j, rfl, _⟩ := h
    rfl
  · obtain ⟨sg, i, j, rfl, q⟩ := h
    refine ⟨_, (pss_one (ps_ret (pe_call (ok_truth_of T) (hr.mono (by decide)) (by rfl) T.g_truth_of T.F_truth_of.kp T.b_truth_of .nil pass0 (pa_cons (pv 0) (pa_cons (pv 1) (pa_cons (pv 2) pa_nil)))))), ?_⟩
    walk_at "go"
    exact ⟨_, .inr ⟨_, _, rfl, q⟩⟩
/-! ### the law's draws -/
/-- a list of ints that a loop fills -/
def sp_law_draws (K : PySem.W.Frag) : Sp := fun vs H Q _ => ∃ (a : Addr) (ns : List Int), vs = [.ref a] ∧ SqL K H a (ns.map V.int) ∧ ns.length ≤ 63 ∧
  ∀ (H' : Hp) (p : Addr) (ds : List Int), Same H H' → H p = none → H' p = some (.lst (ds.map V.int)) → ds.length ≤ 1260 → Q (.ref p) H'
def Grow (K : PySem.W.Frag) (H : Hp) (p : Addr) (n : Nat) (H' : Hp) : Prop := Same H H' ∧ ∃ ds : List Int, H' p = some (.lst (ds.map V.int)) ∧ ds.length ≤ n
theorem Grow.app {H H' : Hp} {p : Addr} {n m : Nat} {ds : List Int} {v : Int} (hp : H p = none) (sm : Same H H') (e : H' p = some (.lst (ds.map V.int))) (hl : ds.length ≤ n) (hm : n + 1 ≤ m) : Grow K H p m (upd H' p (.lst (ds.map V.int ++ [.int v]))) := by
  refine ⟨fun b o hb => ?_, ds ++ [v], ?_, ?_⟩
  · rw [upd_ne (ne_of_none hb hp)]
    exact sm b o hb
  · rw [upd_same, List.map_append]
    rfl
  · rw [List.length_append]
    show ds.length + 1 ≤ m
    omega
theorem ok_law_draws (T : Txt K mg) : FnOk P w K mg base CX0 1 T.f_law_draws T.fd_law_draws ["script"] (sp_law_draws K) := by
  refine T.F_law_draws.ok sc_law_draws (fun vs H Q E h => ?_) (fun cdv A outer s H vs Q E hr h => ?_)
  · obtain ⟨a, ns, rfl, _⟩ := h
    rfl
  · obtain ⟨a, ns, rfl, hS, hlen, q⟩ := h
    refine ⟨_, (pss_cons (ps_set (i := 1) sc_law_draws.nd rfl (.inl rfl) (pe_lst pa_nil))
(pss_cons (ps_for PassesOwn.never rfl (pi_range1 rfl T.m_range (pa_cons (pe_callB (R.cMin2 rfl) (by rfl) T.m_min (by decide +kernel) (pa_cons (pe_callB R.cLenS (by rfl) T.m_len (by decide +kernel) (pa_cons (pv 0) pa_nil)) (pa_cons pe_int pa_nil))) pa_nil)) (pg_name (i := 2) sc_law_draws.nd rfl (.inl rfl))
 (pss_cons (ps_set (i := 3) sc_law_draws.nd rfl (.inl rfl) (pe_callB R.cAbs (by rfl) T.m_abs (by decide +kernel) (pa_cons (pe_ix ix_list (pv 0) (pv 2) (fun _ _ => rfl)) pa_nil)))
(pss_one (ps_if (pt_cmpR op_ge (pv 3) (pe_op op_pow pe_int pe_int) (nomark _))
 (pss_one (ps_for PassesOwn.never rfl (pi_range1 rfl T.m_range (pa_cons pe_int pa_nil)) (pg_name (i := 4) sc_law_draws.nd rfl (.inl rfl))
 (pss_one (ps_if (pt_cmpR op_gt (pv 3) pe_int (nomark _))
 (pss_cons (ps_expr (pe_bm PySem.F.plainAttrs_list PySem.F.slot_list_append PySem.F.type_list_append mt_append (pv 1) (pa_cons (pe_op op_mod (pv 3) pe_int) pa_nil)))
(pss_one (ps_set (i := 3) sc_law_draws.nd rfl (.inl rfl) (pe_op op_fdiv (pv 3) pe_int))))
 pss_nil))))
 (pss_cons (ps_set (i := 5) sc_law_draws.nd rfl (.inl rfl) (pe_op op_mod (pe_callTy R.cInt1 (by rfl) T.m_int (by decide +kernel) (pa_cons (pe_op op_add (pe_op op_add (pe_op op_mul (pe_ix ix_list (pv 0) (pv 2) (fun _ _ => rfl)) pe_int) (pe_op op_mul (pv 2) pe_int)) pe_int) pa_nil)) pe_int))
(pss_one (ps_for PassesOwn.never rfl (pi_range1 rfl T.m_range (pa_cons pe_int pa_nil)) (pg_name (i := 4) sc_law_draws.nd rfl (.inl rfl))
 (pss_cons (ps_set (i := 5) sc_law_draws.nd rfl (.inl rfl) (pe_op op_mod (pe_callTy R.cInt1 (by rfl) T.m_int (by decide +kernel) (pa_cons (pe_op op_add (pe_op op_add (pe_op op_mul (pv 5) (pv 5)) (pe_op op_mul (pv 4) pe_int)) pe_int) pa_nil)) pe_int))
(pss_one (ps_expr (pe_bm PySem.F.plainAttrs_list PySem.F.slot_list_append PySem.F.type_list_append mt_append (pv 1) (pa_cons (pe_op op_mod (pv 5) pe_int) pa_nil))))))))))))
(pss_one (ps_ret (pv 1))))), ?_⟩
    walk_at "go"
    refine ⟨by decide, fun p hp => ?_⟩
    have sm : Same H (upd H p (.lst [])) := R.same_new hp
    walk_at "go"
    refine R.r_lenL (sm.seq hS) ?_
    walk_at "go"
    rw [List.length_map, show (if (63 : Int) < (ns.length : Int) then 63 else (ns.length : Int)) = (ns.length : Int) from if_neg (by omega)]
    refine R.r_rngL (fun k σ H' => ∃ y2 y3 y4 y5, σ = [some (.ref a), some (.ref p), y2, y3, y4, y5] ∧ Grow K H p (20 * k) H') (by omega) ?_ ?_ ?_
    · exact ⟨none, none, none, none, rfl, sm, [], upd_same, Nat.le_refl _⟩
    · rintro k σ H1 hk ⟨y2, y3, y4, y5, rfl, s1, ds, e1, l1⟩
      have hk1 : k < ns.length := by omega
      have g : (ns.map V.int)[k]? = some (.int ns[k]) := by
        rw [List.getElem?_map, List.getElem?_eq_getElem hk1]
        rfl
      walk_at "go"
      refine R.r_ixL (s1.seq hS) (atI_nat g) ?_
      walk_at "go"
      refine R.r_ite (fun e => ?_) (fun e => ?_)
      · walk_at "go"
        refine R.r_rngL (fun t σ H' => ∃ c y4, 0 ≤ c ∧ σ = [some (.ref a), some (.ref p), some (.int (k : Int)), some (.int c), y4, y5] ∧ Grow K H p (20 * k + t) H') (by decide) ?_ ?_ ?_
        · exact ⟨_, _, by split <;> omega, rfl, s1, ds, e1, by omega⟩
        · rintro t σ H2 ht ⟨c, y4, hc, rfl, s2, ds2, e2, l2⟩
          walk_at "go"
          refine R.r_ite (fun e' => ?_) (fun e' => ?_)
          · walk_at "go"
            refine ⟨.inl ⟨rfl, _, R.sqL e2⟩, ?_⟩
            walk_at "go"
            refine ⟨_, _, _, rfl, rfl, e2, R.size_lt (by rw [List.length_map]; omega), ?_⟩
            walk_at "go"
            exact ⟨_, _, by omega, rfl, Grow.app hp s2 e2 l2 (by omega)⟩
          · walk_at "go"
            exact ⟨_, _, hc, rfl, s2, ds2, e2, by omega⟩
        · rintro σ H2 ⟨c, y4, hc, rfl, s2, ds2, e2, l2⟩
          exact ⟨_, _, _, _, rfl, s2, ds2, e2, by omega⟩
      · walk_at "go"
        refine R.r_ixL (s1.seq hS) (atI_nat g) ?_
        walk_at "go"
        refine R.r_rngL (fun t σ H' => ∃ m y3 y4, (0 ≤ m ∧ m < 2147483647) ∧ σ = [some (.ref a), some (.ref p), some (.int (k : Int)), y3, y4, some (.int m)] ∧ Grow K H p (20 * k + t) H') (by decide) ?_ ?_ ?_
        · refine ⟨_, _, _, ?_, rfl, s1, ds, e1, by omega⟩
          omega
        · rintro t σ H2 ht ⟨c, y3, y4, hc, rfl, s2, ds2, e2, l2⟩
          walk_at "go"
          refine ⟨.inl ⟨rfl, _, R.sqL e2⟩, ?_⟩
          walk_at "go"
          refine ⟨_, _, _, rfl, rfl, e2, R.size_lt (by rw [List.length_map]; omega), ?_⟩
          walk_at "go"
          refine ⟨_, _, _, ?_, rfl, Grow.app hp s2 e2 l2 (by omega)⟩
          omega
        · rintro σ H2 ⟨c, y3, y4, hc, rfl, s2, ds2, e2, l2⟩
          exact ⟨_, _, _, _, rfl, s2, ds2, e2, by omega⟩
    · rintro σ H1 ⟨y2, y3, y4, y5, rfl, s1, ds, e1, l1⟩
      walk_at "go"
      exact q H1 p ds s1 hp e1 (by omega)
/-- the reader's dict and its row -/
def dd (r : Addr) (at' : Nat) (seed : Int) : List (Key × V) := [(.inr "row", .ref r), (.inr "at", .int (at' : Int)), (.inr "seed", .int seed)]
def Dw (H : Hp) (p r : Addr) : Prop := ∃ (ds : List Int) (at' : Nat) (seed : Int), H p = some (.dK (dd r at' seed)) ∧ H r = some (.lst (ds.map V.int))
theorem Dw.same {H H' : Hp} {p r : Addr} (s : Same H H') (d : Dw H p r) : Dw H' p r := by
  obtain ⟨ds, n, z, e, e2⟩ := d
  exact ⟨ds, n, z, s _ _ e, s _ _ e2⟩
theorem Dw.ne {H : Hp} {p r b : Addr} (d : Dw H p r) (h : H b = none) : p ≠ b := by
  obtain ⟨ds, n, z, e, e2⟩ := d
  exact ne_of_none e h
theorem Dw.ner {H : Hp} {p r b : Addr} (d : Dw H p r) (h : H b = none) : r ≠ b := by
  obtain ⟨ds, n, z, e, e2⟩ := d
  exact ne_of_none e2 h
/-- p's reader goes on, all else stands -/
def Go (p r : Addr) (H H' : Hp) : Prop := R.Mv p H H' ∧ Dw H' p r
theorem Go.trans {p r : Addr} {H H1 H2 : Hp} (a : Go p r H H1) (b : Go p r H1 H2) : Go p r H H2 := ⟨a.1.trans b.1, b.2⟩
theorem Go.refl {p r : Addr} {H : Hp} (d : Dw H p r) : Go p r H H := ⟨R.Mv.refl, d⟩
theorem Go.sm {p r : Addr} {H H1 H2 : Hp} (a : Go p r H H1) (s : Same H1 H2) : Go p r H H2 := ⟨a.1.trans (R.Mv.of s), a.2.same s⟩
theorem Go.new {p r q : Addr} {o : HO} {H H1 : Hp} (a : Go p r H H1) (h : H1 q = none) : Go p r H (upd H1 q o) := ⟨a.1.trans (R.Mv.of (R.same_new h)), a.2.same (R.same_new h)⟩
def sp_law_reader (K : PySem.W.Frag) : Sp := fun vs H Q _ => ∃ (a : Addr) (ns : List Int), vs = [.ref a] ∧ SqL K H a (ns.map V.int) ∧ ns.length ≤ 63 ∧
  ∀ (H' : Hp) (p r : Addr), Same H H' → H p = none → Dw H' p r → Q (.ref p) H'
theorem ok_law_reader (T : Txt K mg) : FnOk P w K mg base CX0 2 T.f_law_reader T.fd_law_reader ["script"] (sp_law_reader K) := by
  refine T.F_law_reader.ok sc_law_reader (fun vs H Q E h => ?_) (fun cdv A outer s H vs Q E hr h => ?_)
  · obtain ⟨a, ns, rfl, _⟩ := h
    rfl
  · obtain ⟨a, ns, rfl, hS, hlen, q⟩ := h
    refine ⟨_, (pss_cons (ps_set (i := 1) sc_law_reader.nd rfl (.inl rfl) (pe_call (ok_law_draws T) (hr.mono (by decide)) (by rfl) T.g_law_draws T.F_law_draws.kp T.b_law_draws .nil pass0 (pa_cons (pv 0) pa_nil)))
(pss_cons (ps_set (i := 2) sc_law_reader.nd rfl (.inl rfl) pe_int)
(pss_cons (ps_if (pt_cmpR op_gt (pe_callB R.cLenS (by rfl) T.m_len (by decide +kernel) (pa_cons (pv 0) pa_nil)) pe_int (nomark _))
 (pss_one (ps_set (i := 2) sc_law_reader.nd rfl (.inl rfl) (pe_op op_mod (pe_callB R.cAbs (by rfl) T.m_abs (by decide +kernel) (pa_cons (pe_ix ix_list (pv 0) (pe_un un_neg pe_int) (fun _ _ => rfl)) pa_nil)) pe_int)))
 pss_nil)
(pss_one (ps_ret (pe_disp (pps_cons pe_str (pv 1) (pps_cons pe_str pe_int (pps_cons pe_str (pv 2) pps_nil))) (by rfl) (by rfl) (fun z => by cases z) (by decide))))))), ?_⟩
    walk_at "go"
    refine ⟨a, ns, rfl, hS, hlen, fun H1 r ds s1 hr1 e1 l1 => ?_⟩
    walk_at "go"
    refine R.r_lenL (s1.seq hS) ?_
    walk_at "go"
    have fin : ∀ (z : Int) (b : Addr), H1 b = none → Q (.ref b) (upd (upd H1 b (.dK [])) b (.dK (dd r 0 z))) := fun z b hb => by
      refine q _ _ r (fun c o e => ?_) (s1.free hb) ⟨ds, 0, z, upd_same, ?_⟩
      · have hc := ne_of_none e (s1.free hb)
        rw [upd_ne hc, upd_ne hc]
        exact s1 c o e
      · rw [upd_ne (ne_of_none e1 hb), upd_ne (ne_of_none e1 hb)]
        exact e1
    refine R.r_ite (fun e => ?_) (fun e => ?_)
    · walk_at "go"
      obtain ⟨x, xs, rfl⟩ : ∃ x xs, ns = xs ++ [x] := by
        rcases List.eq_nil_or_concat ns with h | ⟨xs, x, h⟩
        · subst h
          exact absurd e (by decide)
        · exact ⟨x, xs, h.trans (List.concat_eq_append ..)⟩
      refine R.r_ixL (s1.seq hS) (v := .int x) (by rw [List.map_append]; exact atI_last _ _) ?_
      walk_at "go"
      intro b hb
      walk_at "go"
      refine ⟨upd_same, [(.inr "row", _), (.inr "at", _), (.inr "seed", _)], rfl, Nat.le_of_ble_eq_true rfl, ?_⟩
      exact fin _ b hb
    · walk_at "go"
      intro b hb
      walk_at "go"
      refine ⟨upd_same, [(.inr "row", _), (.inr "at", _), (.inr "seed", _)], rfl, Nat.le_of_ble_eq_true rfl, ?_⟩
      exact fin _ b hb
def sp_law_next : Sp := fun vs H Q _ => ∃ (p r : Addr) (m : Int), vs = [.ref p, .int m] ∧ 0 < m ∧ Dw H p r ∧ ∀ (v : Int) (H' : Hp), 0 ≤ v → v < m → Go p r H H' → Q (.int v) H'
theorem ok_law_next (T : Txt K mg) : FnOk P w K mg base CX0 1 T.f_law_next T.fd_law_next ["draws", "many"] sp_law_next := by
  refine T.F_law_next.ok sc_law_next (fun vs H Q E h => ?_) (fun cdv A outer s H vs Q E hr h => ?_)
  · obtain ⟨p, r, m, rfl, _⟩ := h
    rfl
  · obtain ⟨p, r, m, rfl, hm, ⟨ds, n, z, e, e2⟩, q⟩ := h
    have npr : r ≠ p := fun h => by
      rw [h, e] at e2
      cases e2
    refine ⟨_, (pss_cons (ps_set (i := 2) sc_law_next.nd rfl (.inl rfl) (pe_dget (hu_of hr) (pv 0) pe_str (fun _ _ => rfl)))
(pss_cons (ps_dput (hu_of hr) (pv 0) pe_str (pe_op op_add (pv 2) pe_int) rfl)
(pss_cons (ps_if (pt_cmpR op_lt (pv 2) (pe_callB R.cLenS (by rfl) T.m_len (by decide +kernel) (pa_cons (pe_dget (hu_of hr) (pv 0) pe_str (fun _ _ => rfl)) pa_nil)) (nomark _))
 (pss_one (ps_ret (pe_op op_mod (pe_ix ix_list (pe_dget (hu_of hr) (pv 0) pe_str (fun _ _ => rfl)) (pv 2) (fun _ _ => rfl)) (pv 1))))
 pss_nil)
(pss_cons (ps_set (i := 3) sc_law_next.nd rfl (.inl rfl) (pe_op op_mod (pe_callTy R.cInt1 (by rfl) T.m_int (by decide +kernel) (pa_cons (pe_op op_mul (pe_op op_add (pe_op op_add (pe_dget (hu_of hr) (pv 0) pe_str (fun _ _ => rfl)) (pe_op op_mul pe_int (pv 2))) pe_int) pe_int) pa_nil)) pe_int))
(pss_one (ps_ret (pe_op op_mod (pe_op op_fdiv (pe_op op_mod (pe_callTy R.cInt1 (by rfl) T.m_int (by decide +kernel) (pa_cons (pe_op op_add (pe_op op_mul (pv 3) (pv 3)) (pv 2)) pa_nil)) pe_int) pe_int) (pv 1)))))))), ?_⟩
    walk_at "go"
    refine R.r_dgetS e (v := .int (n : Int)) rfl ?_
    walk_at "go"
    refine R.r_dputS e (kvs' := dd r (n + 1) z) (by show 3 ≤ 1000; decide) rfl ?_
    have e' : upd H p (.dK (dd r (n + 1) z)) r = some (.lst (ds.map V.int)) := by
      rw [upd_ne npr]
      exact e2
    have go : Go p r H (upd H p (.dK (dd r (n + 1) z))) := ⟨R.Mv.upd, ds, n + 1, z, upd_same, e'⟩
    walk_at "go"
    refine R.r_dgetS (k := "row") (kvs := dd r (n + 1) z) upd_same (v := .ref r) rfl ?_
    walk_at "go"
    refine R.r_lenL (R.sqL e') ?_
    walk_at "go"
    refine R.r_ite (fun h => ?_) (fun h => ?_)
    · rw [List.length_map] at h
      have hn : n < ds.length := by omega
      walk_at "go"
      refine R.r_dgetS (k := "row") (kvs := dd r (n + 1) z) upd_same (v := .ref r) rfl ?_
      walk_at "go"
      refine R.r_ixL (R.sqL e') (v := .int ds[n]) (atI_nat (by rw [List.getElem?_map, List.getElem?_eq_getElem hn]; rfl)) ?_
      walk_at "go"
      exact q _ _ (Int.emod_nonneg _ (by omega)) (Int.emod_lt_of_pos _ hm) go
    · walk_at "go"
      refine R.r_dgetS (k := "seed") (kvs := dd r (n + 1) z) upd_same (v := .int z) rfl ?_
      walk_at "go"
      exact q _ _ (Int.emod_nonneg _ (by omega)) (Int.emod_lt_of_pos _ hm) go
/-- an item of a display of ints -/
theorem pick {xs : List Int} {p : Addr} {H : Hp} {i : Int} (e : H p = some (.lst (xs.map V.int))) (h0 : 0 ≤ i) (h1 : i < xs.length) : ∃ v ∈ xs, atI (xs.map V.int) i = some (.int v) := by
  have h : i.toNat < xs.length := by omega
  exact ⟨xs[i.toNat], List.getElem_mem h, R.at_nat h0 (by rw [List.getElem?_map, List.getElem?_eq_getElem h]; rfl)⟩
def Near (v : Int) : Prop := -9223372036854775812 ≤ v ∧ v ≤ 9223372036854775812
def sp_law_number : Sp := fun vs H Q _ => ∃ (p r : Addr), vs = [.ref p] ∧ Dw H p r ∧ ∀ (v : Int) (H' : Hp), Near v → Go p r H H' → Q (.int v) H'
theorem ok_law_number (T : Txt K mg) : FnOk P w K mg base CX0 2 T.f_law_number T.fd_law_number ["draws"] sp_law_number := by
  refine T.F_law_number.ok sc_law_number (fun vs H Q E h => ?_) (fun cdv A outer s H vs Q E hr h => ?_)
  · obtain ⟨p, r, rfl, _⟩ := h
    rfl
  · obtain ⟨p, r, rfl, d, q⟩ := h
    refine ⟨_, (pss_cons (ps_set (i := 1) sc_law_number.nd rfl (.inl rfl) (pe_op op_sub (pe_call (ok_law_next T) (hr.mono (by decide)) (by rfl) T.g_law_next T.F_law_next.kp T.b_law_next .nil pass0 (pa_cons (pv 0) (pa_cons pe_int pa_nil))) pe_int))
(pss_cons (ps_set (i := 2) sc_law_number.nd rfl (.inl rfl) (pe_ix ix_list (pe_lst (pa_cons pe_int (pa_cons (pe_op op_pow pe_int pe_int) (pa_cons (pe_un un_neg (pe_op op_pow pe_int pe_int)) (pa_cons (pe_op op_pow pe_int pe_int) (pa_cons (pe_un un_neg (pe_op op_pow pe_int pe_int)) (pa_cons pe_int (pa_cons pe_int pa_nil)))))))) (pe_call (ok_law_next T) (hr.mono (by decide)) (by rfl) T.g_law_next T.F_law_next.kp T.b_law_next .nil pass0 (pa_cons (pv 0) (pa_cons pe_int pa_nil))) (fun _ _ => rfl)))
(pss_one (ps_ret (pe_op op_add (pv 2) (pv 1)))))), ?_⟩
    walk_at "go"
    refine ⟨p, r, 7, rfl, by decide, d, fun v1 H1 h1 h2 g1 => ?_⟩
    walk_at "go"
    refine ⟨by decide, fun l hl => ?_⟩
    have g2 := g1.new (o := .lst [V.int 0, V.int 9223372036854775808, V.int (-9223372036854775808), V.int 4294967296, V.int (-2147483648), V.int 3037000499, V.int 1000]) hl
    walk_at "go"
    refine ⟨p, r, 7, rfl, by decide, g2.2, fun v2 H3 h3 h4 g3 => ?_⟩
    have nl : l ≠ p := (g1.2.ne hl).symm
    have el := g3.1 _ _ upd_same nl
    obtain ⟨b, hb, eb⟩ := pick (xs := [0, 9223372036854775808, -9223372036854775808, 4294967296, -2147483648, 3037000499, 1000]) el h3 h4
    refine R.r_ixL (R.sqL el) eb ?_
    walk_at "go"
    refine q _ _ ?_ (g2.trans g3)
    have hb' : -9223372036854775808 ≤ b ∧ b ≤ 9223372036854775808 := by
      clear eb
      revert b
      decide
    unfold Near
    omega
theorem join_len (ys : List Str) : (Txt.join "" ys).length ≤ (ys.map (·.length)).sum := by
  have h := StrLaws.join_length_le "" ys
  have : (("" : Str).length) = 0 := by decide +kernel
  have e : Txt.join "" ys = Str.join "" ys := StrLaws.glued_eq_join "" ys
  rw [this, Nat.mul_zero, Nat.add_zero, ← e] at h
  exact h
def sp_law_text : Sp := fun vs H Q _ => ∃ (p r : Addr), vs = [.ref p] ∧ Dw H p r ∧ ∀ (v : Str) (H' : Hp), v.length ≤ 32 → Go p r H H' → Q (.str v) H'
theorem ok_law_text (T : Txt K mg) : FnOk P w K mg base CX0 2 T.f_law_text T.fd_law_text ["draws"] sp_law_text := by
  refine T.F_law_text.ok sc_law_text (fun vs H Q E h => ?_) (fun cdv A outer s H vs Q E hr h => ?_)
  · obtain ⟨p, r, rfl, _⟩ := h
    rfl
  · obtain ⟨p, r, rfl, d, q⟩ := h
    refine ⟨_, (pss_cons (ps_set (i := 1) sc_law_text.nd rfl (.inr rfl) pe_str)
(pss_one (ps_ret (pe_join pe_str (pe_lc (own := [("k", 2)]) (g := gName 2) (tt := tYes) rfl sc_law_text.nd (pi_range1 rfl T.m_range (pa_cons (pe_call (ok_law_next T) (hr.mono (by decide)) (by rfl) T.g_law_next T.F_law_next.kp T.b_law_next .nil pass0 (pa_cons (pv 0) (pa_cons pe_int pa_nil))) pa_nil)) (blkOk_by (own := [("k", 2)]) (N := N_law_text) (sc := defScope s_law_text) (by decide +kernel)) (fun _ _ _ _ _ => (pg_name (i := 2) sc_law_text.nd rfl (.inl rfl))) (fun _ _ _ _ _ => pts_nil) (fun _ _ _ _ _ => (pe_ix ix_str (pv 1) (pe_call (ok_law_next T) (hr.mono (by decide)) (by rfl) T.g_law_next T.F_law_next.kp T.b_law_next .nil pass0 (pa_cons (pv 0) (pa_cons pe_int pa_nil))) (fun _ _ => rfl)))))))), ?_⟩
    walk_at "go"
    refine ⟨⟨_, rfl⟩, ?_⟩
    walk_at "go"
    refine ⟨p, r, 33, rfl, by decide, d, fun v1 H1 h1 h2 g1 => ?_⟩
    walk_at "go"
    refine R.r_lcR (fun D k H' => Go p r H H' ∧ D ≠ p ∧ ∃ ys : List Str, H' D = some (.lst (ys.map V.str)) ∧ ys.length = k ∧ (ys.map (·.length)).sum = k) (by omega) ?_ ?_ ?_ ?_
    · intro D hD
      exact ⟨g1.new hD, (g1.2.ne hD).symm, [], upd_same, rfl, rfl⟩
    · intro x
      rfl
    · rintro D k H2 hD hk ⟨g2, nD, ys, e, l, l2⟩
      walk_at "go"
      refine ⟨p, r, 7, rfl, by decide, g2.2, fun v2 H3 h3 h4 g3 => ?_⟩
      obtain ⟨c, hc⟩ : ∃ c, atI (("ab zA~0" : Str).cps.toList) v2 = some c := by
        have h : v2.toNat < (("ab zA~0" : Str).cps.toList).length := by
          have : (("ab zA~0" : Str).cps.toList).length = 7 := by decide +kernel
          omega
        exact ⟨_, R.at_nat h3 (List.getElem?_eq_getElem h)⟩
      refine R.r_ixS (by decide +kernel) hc ?_
      have e3 := g3.1 _ _ e nD
      refine ⟨_, e3, R.size_lt (by rw [List.length_map]; omega), ?_, nD, ys ++ [⟨#[c]⟩], ?_, ?_, ?_⟩
      · refine ⟨fun b o hb hbp => ?_, ?_⟩
        · rw [upd_ne (ne_of_none (g1.1 _ _ hb hbp) hD)]
          exact g3.1 _ _ (g2.1 _ _ hb hbp) hbp
        · obtain ⟨ds, n, z, e4, e5⟩ := g3.2
          exact ⟨ds, n, z, by rw [upd_ne nD.symm]; exact e4, by rw [upd_ne (g1.2.ner hD)]; exact e5⟩
      · rw [upd_same, List.map_append]
        rfl
      · rw [List.length_append, l]
        rfl
      · rw [List.map_append, List.sum_append, l2]
        rfl
    · rintro D H2 hD ⟨g2, nD, ys, e, l, l2⟩
      have h33 : v1.toNat ≤ 32 := by omega
      refine ⟨_, D, ys, rfl, rfl, .inl (R.sqL e), ?_, ?_⟩
      · rw [l2, l]
        have : (("" : Str).length) = 0 := by decide +kernel
        rw [this]
        omega
      · exact q _ _ (Nat.le_trans (join_len ys) (by rw [l2]; exact h33)) g2
def sp_law_is_wrapped : Sp := fun vs H Q _ => ∃ (t n : Int), vs = [.int t, .int n] ∧ InR t ∧ (n - t) % 18446744073709551616 = 0 ∧ Q (.bl true) H
theorem ok_law_is_wrapped (T : Txt K mg) : FnOk P w K mg base CX0 1 T.f_law_is_wrapped T.fd_law_is_wrapped ["told", "n"] sp_law_is_wrapped := by
  refine T.F_law_is_wrapped.ok sc_law_is_wrapped (fun vs H Q E h => ?_) (fun cdv A outer s H vs Q E hr h => ?_)
  · obtain ⟨t, n, rfl, _⟩ := h
    rfl
  · obtain ⟨t, n, rfl, ht, hn, q⟩ := h
    refine ⟨_, (pss_one (ps_ret (pe_and (pe_callB call_isi (by rfl) T.m_isinstance (by decide +kernel) (pa_cons (pv 0) (pa_cons (pe_bltn (v := .ty "int") (u := .type "int") (by rfl) T.m_int (by decide +kernel) rfl) pa_nil))) (pe_and (pe_not (pe_callB call_isi (by rfl) T.m_isinstance (by decide +kernel) (pa_cons (pv 0) (pa_cons (pe_bltn (v := .ty "bool") (u := .type "bool") (by rfl) T.m_bool (by decide +kernel) rfl) pa_nil)))) (pe_and (pe_cmpR op_ge (pv 0) (pe_un un_neg (pe_op op_pow pe_int pe_int)) (nomark _)) (pe_and (pe_cmpR op_lt (pv 0) (pe_op op_pow pe_int pe_int) (nomark _)) (pe_one (pe_cmpR op_eq (pe_op op_mod (pe_callTy R.cInt1 (by rfl) T.m_int (by decide +kernel) (pa_cons (pe_op op_sub (pv 1) (pv 0)) pa_nil)) (pe_op op_pow pe_int pe_int)) pe_int (nomark _))))))))), ?_⟩
    walk_at "go"
    refine R.r_iteY ht.1 ?_
    walk_at "go"
    refine R.r_iteY ht.2 ?_
    walk_at "go"
    rw [decide_eq_true hn]
    exact q
def SG : List Str := ["+", "-", "*", "/", "mod", "==", "!=", "<", "<=", ">", ">="]
def CG : List Str := ["==", "!=", "<", "<=", ">", ">="]
def sp_law_is_compared : Sp := fun vs H Q _ => ∃ sg ∈ CG, ∃ n : Int,
  ((∃ i j : Int, vs = [.int n, .str sg, .int i, .int j] ∧ n = if cmpB sg (decide (i = j)) (decide (i < j)) (decide (j < i)) then 1 else 0) ∨
   (∃ s t : Str, vs = [.int n, .str sg, .str s, .str t] ∧ n = if cmpB sg (decide (s = t)) (ltS s t) (ltS t s) then 1 else 0)) ∧ ∀ H', Same H H' → Q (.bl true) H'
theorem triI (i j : Int) : decide (i = j) = (!decide (i < j) && !decide (j < i)) := by
  by_cases h1 : i < j
  · simp [h1]; omega
  · by_cases h2 : j < i
    · simp [h2]; omega
    · have : i = j := by omega
      simp [this]
theorem triS (s t : Str) : decide (s = t) = (!ltS s t && !ltS t s) := by
  unfold ltS
  by_cases h1 : s.cps.toList < t.cps.toList
  · rw [decide_eq_true h1, decide_eq_false]
    · rfl
    · intro z
      subst z
      exact List.lt_irrefl _ h1
  · by_cases h2 : t.cps.toList < s.cps.toList
    · rw [decide_eq_true h2, decide_eq_false h1, decide_eq_false]
      · rfl
      · intro z
        subst z
        exact List.lt_irrefl _ h2
    · rw [decide_eq_false h1, decide_eq_false h2]
      exact decide_eq_true (ext_toList (List.le_antisymm (List.not_lt.mp h2) (List.not_lt.mp h1)))
theorem cmp_dict {sg : Str} (h : sg ∈ CG) (b1 b2 : Bool) : valV (mergeK [] [((.inr "==" : Key), V.bl (!b1 && !b2)), (.inr "!=", .bl (b1 || b2)), (.inr "<", .bl b1), (.inr "<=", .bl (!b2)), (.inr ">", .bl b2), (.inr ">=", .bl (!b1))]) (.inr sg) = some (.bl (cmpB sg (!b1 && !b2) b1 b2)) := by
  have h' : sg = "==" ∨ sg = "!=" ∨ sg = "<" ∨ sg = "<=" ∨ sg = ">" ∨ sg = ">=" := by
    unfold CG at h
    simpa using h
  rcases h' with h | h | h | h | h | h <;> subst h <;> cases b1 <;> cases b2 <;> rfl
theorem ok_law_is_compared (T : Txt K mg) : FnOk P w K mg base CX0 1 T.f_law_is_compared T.fd_law_is_compared ["told", "sign", "a", "b"] sp_law_is_compared := by
  refine T.F_law_is_compared.ok sc_law_is_compared (fun vs H Q E h => ?_) (fun cdv A outer s H vs Q E hr h => ?_)
  · obtain ⟨sg, _, n, ⟨i, j, rfl, _⟩ | ⟨i, j, rfl, _⟩, _⟩ := h <;> rfl
  · obtain ⟨sg, hsg, n, ⟨i, j, rfl, hn⟩ | ⟨i, j, rfl, hn⟩, q⟩ := h
    · refine ⟨_, (pss_cons (ps_set (i := 4) sc_law_is_compared.nd rfl (.inl rfl) (pe_cmpR op_lt (pv 2) (pv 3) (nomark _)))
(pss_cons (ps_set (i := 5) sc_law_is_compared.nd rfl (.inl rfl) (pe_cmpR op_lt (pv 3) (pv 2) (nomark _)))
(pss_cons (ps_set (i := 6) sc_law_is_compared.nd rfl (.inl rfl) (pe_dget (hu_of hr) (pe_disp (pps_cons pe_str (pe_and (pe_not (pv 4)) (pe_one (pe_not (pv 5)))) (pps_cons pe_str (pe_or (pv 4) (pe_one (pv 5))) (pps_cons pe_str (pv 4) (pps_cons pe_str (pe_not (pv 5)) (pps_cons pe_str (pv 5) (pps_cons pe_str (pe_not (pv 4)) pps_nil)))))) (by rfl) (by rfl) (fun z => by cases z) (by decide)) (pv 1) (fun _ _ => rfl)))
(pss_one (ps_ret (pe_and (pe_callB call_isi (by rfl) T.m_isinstance (by decide +kernel) (pa_cons (pv 0) (pa_cons (pe_bltn (v := .ty "int") (u := .type "int") (by rfl) T.m_int (by decide +kernel) rfl) pa_nil))) (pe_and (pe_not (pe_callB call_isi (by rfl) T.m_isinstance (by decide +kernel) (pa_cons (pv 0) (pa_cons (pe_bltn (v := .ty "bool") (u := .type "bool") (by rfl) T.m_bool (by decide +kernel) rfl) pa_nil)))) (pe_one (pe_cmpR op_eq (pv 0) (pe_callTy R.cInt1 (by rfl) T.m_int (by decide +kernel) (pa_cons (pv 6) pa_nil)) (nomark _)))))))))), ?_⟩
      walk_at "go"
      intro d hd
      rw [triI] at hn
      generalize decide (i < j) = b1 at hn ⊢
      generalize decide (j < i) = b2 at hn ⊢
      have key := cmp_dict hsg b1 b2
      cases b1 <;> cases b2
      all_goals
        walk_at "go"
        refine ⟨upd_same, [(.inr "==", _), (.inr "!=", _), (.inr "<", _), (.inr "<=", _), (.inr ">", _), (.inr ">=", _)], rfl, Nat.le_of_ble_eq_true rfl, ?_⟩
        walk_at "go"
        refine R.r_dgetS (k := sg) upd_same key ?_
        walk_at "go"
        rw [decide_eq_true (show n = _ from hn)]
        exact q _ (R.same_new2 hd)
    · refine ⟨_, (pss_cons (ps_set (i := 4) sc_law_is_compared.nd rfl (.inl rfl) (pe_cmpR op_lt_str (pv 2) (pv 3) (nomark _)))
(pss_cons (ps_set (i := 5) sc_law_is_compared.nd rfl (.inl rfl) (pe_cmpR op_lt_str (pv 3) (pv 2) (nomark _)))
(pss_cons (ps_set (i := 6) sc_law_is_compared.nd rfl (.inl rfl) (pe_dget (hu_of hr) (pe_disp (pps_cons pe_str (pe_and (pe_not (pv 4)) (pe_one (pe_not (pv 5)))) (pps_cons pe_str (pe_or (pv 4) (pe_one (pv 5))) (pps_cons pe_str (pv 4) (pps_cons pe_str (pe_not (pv 5)) (pps_cons pe_str (pv 5) (pps_cons pe_str (pe_not (pv 4)) pps_nil)))))) (by rfl) (by rfl) (fun z => by cases z) (by decide)) (pv 1) (fun _ _ => rfl)))
(pss_one (ps_ret (pe_and (pe_callB call_isi (by rfl) T.m_isinstance (by decide +kernel) (pa_cons (pv 0) (pa_cons (pe_bltn (v := .ty "int") (u := .type "int") (by rfl) T.m_int (by decide +kernel) rfl) pa_nil))) (pe_and (pe_not (pe_callB call_isi (by rfl) T.m_isinstance (by decide +kernel) (pa_cons (pv 0) (pa_cons (pe_bltn (v := .ty "bool") (u := .type "bool") (by rfl) T.m_bool (by decide +kernel) rfl) pa_nil)))) (pe_one (pe_cmpR op_eq (pv 0) (pe_callTy R.cInt1 (by rfl) T.m_int (by decide +kernel) (pa_cons (pv 6) pa_nil)) (nomark _)))))))))), ?_⟩
      walk_at "go"
      refine ⟨_, _, rfl, rfl, ?_⟩
      walk_at "go"
      refine ⟨_, _, rfl, rfl, ?_⟩
      walk_at "go"
      intro d hd
      rw [triS] at hn
      unfold ltS at hn
      generalize decide (i.cps.toList < j.cps.toList) = b1 at hn ⊢
      generalize decide (j.cps.toList < i.cps.toList) = b2 at hn ⊢
      have key := cmp_dict hsg b1 b2
      cases b1 <;> cases b2
      all_goals
        walk_at "go"
        refine ⟨upd_same, [(.inr "==", _), (.inr "!=", _), (.inr "<", _), (.inr "<=", _), (.inr ">", _), (.inr ">=", _)], rfl, Nat.le_of_ble_eq_true rfl, ?_⟩
        walk_at "go"
        refine R.r_dgetS (k := sg) upd_same key ?_
        walk_at "go"
        rw [decide_eq_true (show n = _ from hn)]
        exact q _ (R.same_new2 hd)
theorem fdiv_ok {a b : Int} (hb : b ≠ 0) : a - b * (a.fdiv b) = a.fmod b ∧ ((0 ≤ a.fmod b ∧ a.fmod b < b) ∨ (b < a.fmod b ∧ a.fmod b ≤ 0)) := by
  have h := Int.mul_fdiv_add_fmod a b
  refine ⟨by omega, ?_⟩
  by_cases hp : 0 < b
  · exact .inl ⟨Int.fmod_nonneg_of_pos _ hp, Int.fmod_lt_of_pos _ hp⟩
  · refine .inr ?_
    have h1 := Int.fmod_nonneg_of_pos (-a) (show 0 < -b by omega)
    have h2 := Int.fmod_lt_of_pos (-a) (show 0 < -b by omega)
    rw [Int.neg_fmod_neg] at h1 h2
    omega
theorem opV_div {i j : Int} : opV "/" i j = if j = 0 then .non else .int (wrapI (i.fdiv j)) := by
  unfold opV
  rw [if_neg (by decide +kernel), if_neg (by decide +kernel), if_neg (by decide +kernel), if_pos (.inl rfl), if_pos rfl]
theorem opV_mod {i j : Int} : opV "mod" i j = if j = 0 then .non else .int (i.fmod j) := by
  unfold opV
  rw [if_neg (by decide +kernel), if_neg (by decide +kernel), if_neg (by decide +kernel), if_pos (.inr rfl), if_neg (c := ("mod" : Str) = "/") (by decide +kernel)]
theorem opV_cmp {sg : Str} (h : sg ∈ CG) {i j : Int} : opV sg i j = .int (if cmpB sg (decide (i = j)) (decide (i < j)) (decide (j < i)) then 1 else 0) := by
  have h' : sg = "==" ∨ sg = "!=" ∨ sg = "<" ∨ sg = "<=" ∨ sg = ">" ∨ sg = ">=" := by
    unfold CG at h
    simpa using h
  unfold opV
  rcases h' with h | h | h | h | h | h <;> subst h <;> rw [if_neg (by decide +kernel), if_neg (by decide +kernel), if_neg (by decide +kernel), if_neg (by decide +kernel)]
def arV (sg : Str) (i j : Int) : Int := if sg = "+" then i + j else if sg = "-" then i - j else i * j
theorem opV_ar {sg : Str} (h : sg = "+" ∨ sg = "-" ∨ sg = "*") {i j : Int} : opV sg i j = .int (wrapI (arV sg i j)) := by
  unfold opV arV
  rcases h with h | h | h <;> subst h
  · rw [if_pos rfl, if_pos rfl]
  · rw [if_neg (by decide +kernel), if_pos rfl, if_neg (by decide +kernel), if_pos rfl]
  · rw [if_neg (by decide +kernel), if_neg (by decide +kernel), if_pos rfl, if_neg (by decide +kernel), if_neg (by decide +kernel)]
theorem ar_dict {sg : Str} (h : sg = "+" ∨ sg = "-" ∨ sg = "*") {i j : Int} : valV (mergeK [] [((.inr "+" : Key), V.int (i + j)), (.inr "-", .int (i - j)), (.inr "*", .int (i * j))]) (.inr sg) = some (.int (arV sg i j)) := by
  rcases h with h | h | h <;> subst h <;> rfl
theorem not_in {sg : Str} {l : List Str} (h : sg ∈ CG) (hl : ∀ x ∈ l, x ∉ CG) : ∀ x ∈ l, ¬ sg = x := fun x hx e => hl x hx (e ▸ h)
theorem cg_no {sg : Str} (h : sg ∈ CG) : ¬ sg = "+" ∧ ¬ sg = "-" ∧ ¬ sg = "*" ∧ ¬ sg = "/" ∧ ¬ sg = "mod" := by
  have h' : sg = "==" ∨ sg = "!=" ∨ sg = "<" ∨ sg = "<=" ∨ sg = ">" ∨ sg = ">=" := by
    unfold CG at h
    simpa using h
  rcases h' with h | h | h | h | h | h <;> subst h <;> decide +kernel
theorem wrap_ok (n : Int) : InR (wrapI n) ∧ (n - wrapI n) % 18446744073709551616 = 0 := ⟨⟨wrapI_lo n, wrapI_hi n⟩, wrapI_mod n⟩
def sp_law_is_right : Sp := fun vs H Q _ => ∃ sg ∈ SG, ∃ i j : Int, vs = [.str sg, .int i, .int j] ∧ InR i ∧ InR j ∧ ∀ H', Same H H' → Q (.bl true) H'
theorem ok_law_is_right (T : Txt K mg) : FnOk P w K mg base CX0 3 T.f_law_is_right T.fd_law_is_right ["sign", "a", "b"] sp_law_is_right := by
  refine T.F_law_is_right.ok sc_law_is_right (fun vs H Q E h => ?_) (fun cdv A outer s H vs Q E hr h => ?_)
  · obtain ⟨sg, _, i, j, rfl, _⟩ := h
    rfl
  · obtain ⟨sg, hsg, i, j, rfl, hi, hj, q⟩ := h
    have hi1 := hi.1
    have hi2 := hi.2
    have hj1 := hj.1
    have hj2 := hj.2
    refine ⟨_, (pss_cons (ps_set (i := 3) sc_law_is_right.nd rfl (.inl rfl) (pe_call (ok_apply_op T) (hr.mono (by decide)) (by rfl) T.g_apply_op T.F_apply_op.kp T.b_apply_op .nil pass0 (pa_cons (pv 0) (pa_cons (pv 1) (pa_cons (pv 2) pa_nil)))))
(pss_cons (ps_if ((pw_and (pt_cmpR op_in_seq (pv 0) (pe_tup (pa_cons pe_str (pa_cons pe_str pa_nil))) rfl) (pw_and1 (pt_cmpR op_eq (pv 2) pe_int (nomark _))))).pt
 (pss_one (ps_ret (pe_cmpR op_isN (pv 3) pe_non (nomark _))))
 pss_nil)
(pss_cons (ps_if (pt_cmpR op_in_seq (pv 0) (pe_tup (pa_cons pe_str (pa_cons pe_str (pa_cons pe_str pa_nil)))) rfl)
 (pss_one (ps_ret (pe_call (ok_law_is_wrapped T) (hr.mono (by decide)) (by rfl) T.g_law_is_wrapped T.F_law_is_wrapped.kp T.b_law_is_wrapped .nil pass0 (pa_cons (pv 3) (pa_cons (pe_dget (hu_of hr) (pe_disp (pps_cons pe_str (pe_op op_add (pv 1) (pv 2)) (pps_cons pe_str (pe_op op_sub (pv 1) (pv 2)) (pps_cons pe_str (pe_op op_mul (pv 1) (pv 2)) pps_nil))) (by rfl) (by rfl) (fun z => by cases z) (by decide)) (pv 0) (fun _ _ => rfl)) pa_nil)))))
 pss_nil)
(pss_cons (ps_if (pt_cmpR op_in_seq (pv 0) (pe_tup (pa_cons pe_str (pa_cons pe_str pa_nil))) rfl)
 (pss_cons (ps_set (i := 4) sc_law_is_right.nd rfl (.inl rfl) (pe_op R.op_fdivZ (pv 1) (pv 2)))
(pss_cons (ps_set (i := 5) sc_law_is_right.nd rfl (.inl rfl) (pe_op op_sub (pv 1) (pe_op op_mul (pv 2) (pv 4))))
(pss_cons (ps_if (pt_not ((pw_or ((pw_and (pt_cmpR op_le pe_int (pv 5) (nomark _)) (pw_and1 (pt_cmpR op_lt (pv 5) (pv 2) (nomark _))))).pt (pw_or1 ((pw_and (pt_cmpR op_lt (pv 2) (pv 5) (nomark _)) (pw_and1 (pt_cmpR op_le (pv 5) pe_int (nomark _))))).pt))).pt)
 (pss_one (ps_ret pe_bl))
 pss_nil)
(pss_cons (ps_if (pt_cmpR op_eq (pv 0) pe_str (nomark _))
 (pss_one (ps_ret (pe_cmpR op_eq (pv 3) (pv 5) (nomark _))))
 pss_nil)
(pss_one (ps_ret (pe_call (ok_law_is_wrapped T) (hr.mono (by decide)) (by rfl) T.g_law_is_wrapped T.F_law_is_wrapped.kp T.b_law_is_wrapped .nil pass0 (pa_cons (pv 3) (pa_cons (pv 4) pa_nil)))))))))
 pss_nil)
(pss_one (ps_ret (pe_call (ok_law_is_compared T) (hr.mono (by decide)) (by rfl) T.g_law_is_compared T.F_law_is_compared.kp T.b_law_is_compared .nil pass0 (pa_cons (pv 3) (pa_cons (pv 0) (pa_cons (pv 1) (pa_cons (pv 2) pa_nil))))))))))), ?_⟩
    walk_at "go"
    refine ⟨sg, i, j, rfl, hi, hj, fun H1 s1 => ?_⟩
    have h' : (sg = "/" ∨ sg = "mod") ∨ (sg = "+" ∨ sg = "-" ∨ sg = "*") ∨ sg ∈ CG := by
      unfold SG at hsg
      unfold CG
      simp only [List.mem_cons, List.not_mem_nil, or_false] at hsg ⊢
      rcases hsg with h | h | h | h | h | h | h | h | h | h | h <;> simp [h]
    walk_at "go"
    refine ⟨Nat.le_of_ble_eq_true rfl, fun p hp => ?_⟩
    refine R.r_inT upd_same rfl rfl R.in2 ?_
    have s2 := s1.trans (R.same_new (o := .tup [.str "/", .str "mod"]) hp)
    walk_at "go"
    rcases h' with h | h | h
    · refine R.r_ite_b (b' := true) (by rcases h with h | h <;> subst h <;> decide +kernel) ?_
      walk_at "go"
      by_cases hz : j = 0
      · refine R.r_iteY hz ?_
        walk_at "go"
        refine ⟨rfl, ?_⟩
        have e : opV sg i j = .non := by rcases h with h | h <;> subst h <;> rw [hz] <;> first | rw [opV_div, if_pos rfl] | rw [opV_mod, if_pos rfl]
        rw [e, decide_eq_true rfl]
        exact q _ s2
      refine R.r_iteF hz ?_
      walk_at "go"
      refine ⟨Nat.le_of_ble_eq_true rfl, fun p2 hp2 => ?_⟩
      refine R.r_inT upd_same rfl rfl R.in3 ?_
      have s3 := s2.trans (R.same_new (o := .tup [.str "+", .str "-", .str "*"]) hp2)
      walk_at "go"
      refine R.r_ite_b (b' := false) (by rcases h with h | h <;> subst h <;> decide +kernel) ?_
      walk_at "go"
      refine ⟨Nat.le_of_ble_eq_true rfl, fun p3 hp3 => ?_⟩
      refine R.r_inT upd_same rfl rfl R.in2 ?_
      have s4 := s3.trans (R.same_new (o := .tup [.str "/", .str "mod"]) hp3)
      walk_at "go"
      refine R.r_ite_b (b' := true) (by rcases h with h | h <;> subst h <;> decide +kernel) ?_
      walk_at "go"
      refine R.r_I (R.div_ok hz (abs_lt hj)) ?_
      walk_at "go"
      obtain ⟨e1, e2⟩ := fdiv_ok (a := i) hz
      rw [e1]
      have e3 : (0 ≤ i.fmod j ∧ i.fmod j < j) ∨ (0 ≤ i.fmod j ∧ ¬ i.fmod j < j ∧ j < i.fmod j ∧ i.fmod j ≤ 0) ∨ (¬ 0 ≤ i.fmod j ∧ j < i.fmod j ∧ i.fmod j ≤ 0) := by omega
      have fin : ∀ H', Same H H' → Q (.bl true) H' := q
      rcases e3 with ⟨a, b⟩ | ⟨a, b, c, d⟩ | ⟨a, b, c⟩
      · refine R.r_iteY a ?_
        walk_at "go"
        refine R.r_iteY b ?_
        walk_at "go"
        refine R.r_ite (fun e => ?_) (fun e => ?_)
        · walk_at "go"
          subst e
          rw [opV_mod, if_neg hz]
          walk_at "go"
          rw [decide_eq_true rfl]
          exact q _ s4
        · have e : sg = "/" := h.resolve_right e
          subst e
          walk_at "go"
          rw [opV_div, if_neg hz]
          exact ⟨_, _, rfl, (wrap_ok _).1, (wrap_ok _).2, q _ s4⟩
      · refine R.r_iteY a ?_
        walk_at "go"
        refine R.r_iteF b ?_
        walk_at "go"
        refine R.r_iteY c ?_
        walk_at "go"
        refine R.r_ite_b (b' := false) (by rw [decide_eq_true d]; rfl) ?_
        walk_at "go"
        refine R.r_ite (fun e => ?_) (fun e => ?_)
        · walk_at "go"
          subst e
          rw [opV_mod, if_neg hz]
          walk_at "go"
          rw [decide_eq_true rfl]
          exact q _ s4
        · have e : sg = "/" := h.resolve_right e
          subst e
          walk_at "go"
          rw [opV_div, if_neg hz]
          exact ⟨_, _, rfl, (wrap_ok _).1, (wrap_ok _).2, q _ s4⟩
      · refine R.r_iteF a ?_
        walk_at "go"
        refine R.r_iteY b ?_
        walk_at "go"
        refine R.r_ite_b (b' := false) (by rw [decide_eq_true c]; rfl) ?_
        walk_at "go"
        refine R.r_ite (fun e => ?_) (fun e => ?_)
        · walk_at "go"
          subst e
          rw [opV_mod, if_neg hz]
          walk_at "go"
          rw [decide_eq_true rfl]
          exact q _ s4
        · have e : sg = "/" := h.resolve_right e
          subst e
          walk_at "go"
          rw [opV_div, if_neg hz]
          exact ⟨_, _, rfl, (wrap_ok _).1, (wrap_ok _).2, q _ s4⟩
    · refine R.r_ite_b (b' := false) (by rcases h with h | h | h <;> subst h <;> decide +kernel) ?_
      walk_at "go"
      refine ⟨Nat.le_of_ble_eq_true rfl, fun p2 hp2 => ?_⟩
      refine R.r_inT upd_same rfl rfl R.in3 ?_
      have s3 := s2.trans (R.same_new (o := .tup [.str "+", .str "-", .str "*"]) hp2)
      walk_at "go"
      refine R.r_ite_b (b' := true) (by rcases h with h | h | h <;> subst h <;> decide +kernel) ?_
      walk_at "go"
      intro d hd
      walk_at "go"
      refine ⟨upd_same, [(.inr "+", _), (.inr "-", _), (.inr "*", _)], rfl, Nat.le_of_ble_eq_true rfl, ?_⟩
      walk_at "go"
      refine R.r_dgetS (k := sg) upd_same (ar_dict h) ?_
      walk_at "go"
      rw [opV_ar h]
      exact ⟨_, _, rfl, (wrap_ok _).1, (wrap_ok _).2, q _ (s3.trans (R.same_new2 hd))⟩
    · obtain ⟨n1, n2, n3, n4, n5⟩ := cg_no h
      refine R.r_ite_b (b' := false) (by rw [decide_eq_false n4, decide_eq_false n5]; rfl) ?_
      walk_at "go"
      refine ⟨Nat.le_of_ble_eq_true rfl, fun p2 hp2 => ?_⟩
      refine R.r_inT upd_same rfl rfl R.in3 ?_
      have s3 := s2.trans (R.same_new (o := .tup [.str "+", .str "-", .str "*"]) hp2)
      walk_at "go"
      refine R.r_ite_b (b' := false) (by rw [decide_eq_false n1, decide_eq_false n2, decide_eq_false n3]; rfl) ?_
      walk_at "go"
      refine ⟨Nat.le_of_ble_eq_true rfl, fun p3 hp3 => ?_⟩
      refine R.r_inT upd_same rfl rfl R.in2 ?_
      have s4 := s3.trans (R.same_new (o := .tup [.str "/", .str "mod"]) hp3)
      walk_at "go"
      refine R.r_ite_b (b' := false) (by rw [decide_eq_false n4, decide_eq_false n5]; rfl) ?_
      walk_at "go"
      rw [opV_cmp h]
      exact ⟨sg, h, _, .inl ⟨i, j, rfl, rfl⟩, fun H' s' => q _ (s4.trans s')⟩
theorem pickV {α : Type} {f : α → V} {xs : List α} {i : Int} (h0 : 0 ≤ i) (h1 : i < xs.length) : ∃ v ∈ xs, atI (xs.map f) i = some (f v) := by
  have h : i.toNat < xs.length := by omega
  exact ⟨xs[i.toNat], List.getElem_mem h, R.at_nat h0 (by rw [List.getElem?_map, List.getElem?_eq_getElem h]; rfl)⟩
theorem pickCG {i : Int} (h0 : 0 ≤ i) (h1 : i < 6) : ∃ sg ∈ CG, atI (SG.map V.str) (5 + i) = some (V.str sg) := by
  have h : i = 0 ∨ i = 1 ∨ i = 2 ∨ i = 3 ∨ i = 4 ∨ i = 5 := by omega
  rcases h with h | h | h | h | h | h <;> subst h
  · exact ⟨"==", by decide +kernel, rfl⟩
  · exact ⟨"!=", by decide +kernel, rfl⟩
  · exact ⟨"<", by decide +kernel, rfl⟩
  · exact ⟨"<=", by decide +kernel, rfl⟩
  · exact ⟨">", by decide +kernel, rfl⟩
  · exact ⟨">=", by decide +kernel, rfl⟩
def sp_law (K : PySem.W.Frag) : Sp := fun vs H Q _ => ∃ (a : Addr) (ns : List Int), vs = [.ref a] ∧ SqL K H a (ns.map V.int) ∧ ns.length ≤ 63 ∧ ∀ H', Q (.bl true) H'
theorem ok_law (T : Txt K mg) : FnOk P w K mg base CX0 4 T.f_law T.fd_law ["script"] (sp_law K) := by
  refine T.F_law.ok sc_law (fun vs H Q E h => ?_) (fun cdv A outer s H vs Q E hr h => ?_)
  · obtain ⟨a, ns, rfl, _⟩ := h
    rfl
  · obtain ⟨a, ns, rfl, hS, hl, q⟩ := h
    refine ⟨_, (pss_cons (ps_set (i := 1) sc_law.nd rfl (.inl rfl) (pe_call (ok_law_reader T) (hr.mono (by decide)) (by rfl) T.g_law_reader T.F_law_reader.kp T.b_law_reader .nil pass0 (pa_cons (pv 0) pa_nil)))
(pss_cons (ps_if ((pw_or (pt_cmpR (op_neD hr.units) (pe_call (ok_zero T) (hr.mono (by decide)) (by rfl) T.g_zero T.F_zero.kp T.b_zero .nil pass0 (pa_cons pe_str pa_nil)) (pe_tup (pa_cons pe_str (pa_cons pe_int pa_nil))) (nomark _)) (pw_or1 (pt_cmpR (op_neD hr.units) (pe_call (ok_zero T) (hr.mono (by decide)) (by rfl) T.g_zero T.F_zero.kp T.b_zero .nil pass0 (pa_cons pe_str pa_nil)) (pe_tup (pa_cons pe_str (pa_cons pe_str pa_nil))) (nomark _))))).pt
 (pss_one (ps_ret pe_bl))
 pss_nil)
(pss_cons (ps_set (i := 2) sc_law.nd rfl (.inl rfl) (pe_lst (pa_cons pe_str (pa_cons pe_str (pa_cons pe_str (pa_cons pe_str (pa_cons pe_str (pa_cons pe_str (pa_cons pe_str (pa_cons pe_str (pa_cons pe_str (pa_cons pe_str (pa_cons pe_str pa_nil)))))))))))))
(pss_cons (ps_for PassesOwn.never rfl (pi_range1 rfl T.m_range (pa_cons pe_int pa_nil)) (pg_name (i := 3) sc_law.nd rfl (.inl rfl))
 (pss_cons (ps_set (i := 4) sc_law.nd rfl (.inl rfl) (pe_op op_mul (pe_call (ok_law_number T) (hr.mono (by decide)) (by rfl) T.g_law_number T.F_law_number.kp T.b_law_number .nil pass0 (pa_cons (pv 1) pa_nil)) (pe_ix ix_list (pe_lst (pa_cons pe_int (pa_cons pe_int (pa_cons (pe_op op_pow pe_int pe_int) (pa_cons (pe_op op_mul (pe_un un_neg pe_int) (pe_op op_pow pe_int pe_int)) (pa_cons (pe_op op_pow pe_int pe_int) pa_nil)))))) (pe_call (ok_law_next T) (hr.mono (by decide)) (by rfl) T.g_law_next T.F_law_next.kp T.b_law_next .nil pass0 (pa_cons (pv 1) (pa_cons pe_int pa_nil))) (fun _ _ => rfl))))
(pss_cons (ps_if (pt_not (pt_val (pe_call (ok_law_is_wrapped T) (hr.mono (by decide)) (by rfl) T.g_law_is_wrapped T.F_law_is_wrapped.kp T.b_law_is_wrapped .nil pass0 (pa_cons (pe_call (ok_wrap T) (hr.mono (by decide)) (by rfl) T.g_wrap T.F_wrap.kp T.b_wrap .nil pass0 (pa_cons (pv 4) pa_nil)) (pa_cons (pv 4) pa_nil)))))
 (pss_one (ps_ret pe_bl))
 pss_nil)
(pss_cons (ps_set (i := 5) sc_law.nd rfl (.inl rfl) (pe_call (ok_wrap T) (hr.mono (by decide)) (by rfl) T.g_wrap T.F_wrap.kp T.b_wrap .nil pass0 (pa_cons (pe_call (ok_law_number T) (hr.mono (by decide)) (by rfl) T.g_law_number T.F_law_number.kp T.b_law_number .nil pass0 (pa_cons (pv 1) pa_nil)) pa_nil)))
(pss_cons (ps_set (i := 6) sc_law.nd rfl (.inl rfl) (pe_call (ok_wrap T) (hr.mono (by decide)) (by rfl) T.g_wrap T.F_wrap.kp T.b_wrap .nil pass0 (pa_cons (pe_call (ok_law_number T) (hr.mono (by decide)) (by rfl) T.g_law_number T.F_law_number.kp T.b_law_number .nil pass0 (pa_cons (pv 1) pa_nil)) pa_nil)))
(C8.pss_cut (ps_if (pt_cmpR op_eq (pe_call (ok_law_next T) (hr.mono (by decide)) (by rfl) T.g_law_next T.F_law_next.kp T.b_law_next .nil pass0 (pa_cons (pv 1) (pa_cons pe_int pa_nil))) pe_int (nomark _))
 (pss_one (ps_set (i := 6) sc_law.nd rfl (.inl rfl) (pv 5)))
 pss_nil)
(pss_cons (ps_if (pt_not (pt_val (pe_call (ok_law_is_right T) (hr.mono (by decide)) (by rfl) T.g_law_is_right T.F_law_is_right.kp T.b_law_is_right .nil pass0 (pa_cons (pe_ix ix_list (pv 2) (pe_call (ok_law_next T) (hr.mono (by decide)) (by rfl) T.g_law_next T.F_law_next.kp T.b_law_next .nil pass0 (pa_cons (pv 1) (pa_cons pe_int pa_nil))) (fun _ _ => rfl)) (pa_cons (pv 5) (pa_cons (pv 6) pa_nil))))))
 (pss_one (ps_ret pe_bl))
 pss_nil)
(pss_cons (ps_set (i := 7) sc_law.nd rfl (.inl rfl) (pe_call (ok_law_text T) (hr.mono (by decide)) (by rfl) T.g_law_text T.F_law_text.kp T.b_law_text .nil pass0 (pa_cons (pv 1) pa_nil)))
(pss_cons (ps_set (i := 8) sc_law.nd rfl (.inl rfl) (pe_ix ix_list (pe_lst (pa_cons (pe_call (ok_law_text T) (hr.mono (by decide)) (by rfl) T.g_law_text T.F_law_text.kp T.b_law_text .nil pass0 (pa_cons (pv 1) pa_nil)) (pa_cons (pv 7) (pa_cons (pe_op op_add_str (pe_slice sl_str (pv 7) po_none (po_some pe_int)) pe_str) pa_nil)))) (pe_call (ok_law_next T) (hr.mono (by decide)) (by rfl) T.g_law_next T.F_law_next.kp T.b_law_next .nil pass0 (pa_cons (pv 1) (pa_cons pe_int pa_nil))) (fun _ _ => rfl)))
(pss_cons (ps_set (i := 9) sc_law.nd rfl (.inl rfl) (pe_ix ix_list (pv 2) (pe_op op_add pe_int (pe_call (ok_law_next T) (hr.mono (by decide)) (by rfl) T.g_law_next T.F_law_next.kp T.b_law_next .nil pass0 (pa_cons (pv 1) (pa_cons pe_int pa_nil)))) (fun _ _ => rfl)))
(pss_one (ps_if (pt_not (pt_val (pe_call (ok_law_is_compared T) (hr.mono (by decide)) (by rfl) T.g_law_is_compared T.F_law_is_compared.kp T.b_law_is_compared .nil pass0 (pa_cons (pe_call (ok_apply_same T) (hr.mono (by decide)) (by rfl) T.g_apply_same T.F_apply_same.kp T.b_apply_same .nil pass0 (pa_cons (pv 9) (pa_cons (pv 7) (pa_cons (pv 8) pa_nil)))) (pa_cons (pv 9) (pa_cons (pv 7) (pa_cons (pv 8) pa_nil)))))))
 (pss_one (ps_ret pe_bl))
 pss_nil))))))))))))
(pss_one (ps_ret pe_bl)))))), ?_⟩
    walk_at "go"
    refine ⟨a, ns, rfl, hS, hl, fun H1 p r s1 hp d1 => ?_⟩
    walk_at "go"
    refine ⟨_, rfl, fun p2 hp2 => ?_⟩
    rw [if_pos rfl]
    have d2 : Go p r H1 _ := (Go.refl d1).new (o := .tup [.str "int", .int 0]) hp2
    walk_at "go"
    refine ⟨Nat.le_of_ble_eq_true rfl, fun p3 hp3 => ?_⟩
    have d3 := d2.new (o := .tup [.str "int", .int 0]) hp3
    refine ⟨.tuple [.str "int", .int 0], .tuple [.str "int", .int 0], .tup (R.sqT (by rw [upd_ne (ne_of_none upd_same hp3)]; exact upd_same)) (.cons (.str _) (.cons (.int _) .nil)), .tup (R.sqT upd_same) (.cons (.str _) (.cons (.int _) .nil)), by decide +kernel, by decide +kernel, ?_⟩
    refine ⟨false, by decide +kernel, ?_⟩
    walk_at "go"
    refine ⟨_, rfl, fun p4 hp4 => ?_⟩
    rw [if_neg (c := ("str" : Str) = "int") (by decide +kernel)]
    have d4 := d3.new (o := .tup [.str "str", .str ""]) hp4
    walk_at "go"
    refine ⟨Nat.le_of_ble_eq_true rfl, fun p5 hp5 => ?_⟩
    have d5 := d4.new (o := .tup [.str "str", .str ""]) hp5
    refine ⟨.tuple [.str "str", .str ""], .tuple [.str "str", .str ""], .tup (R.sqT (by rw [upd_ne (ne_of_none upd_same hp5)]; exact upd_same)) (.cons (.str _) (.cons (.str _) .nil)), .tup (R.sqT upd_same) (.cons (.str _) (.cons (.str _) .nil)), by decide +kernel, by decide +kernel, ?_⟩
    refine ⟨false, by decide +kernel, ?_⟩
    walk_at "go"
    refine ⟨Nat.le_of_ble_eq_true rfl, fun l hl6 => ?_⟩
    have d6 := d5.new (o := .lst (SG.map V.str)) hl6
    have nl : l ≠ p := (d5.2.ne hl6).symm
    walk_at "go"
    refine R.r_rngL (fun k σ H' => ∃ y3 y4 y5 y6 y7 y8 y9, σ = [some (.ref a), some (.ref p), some (.ref l), y3, y4, y5, y6, y7, y8, y9] ∧ Go p r H1 H' ∧ H' l = some (.lst (SG.map V.str))) (by decide) ?_ ?_ ?_
    · exact ⟨_, _, _, _, _, _, _, rfl, d6, upd_same⟩
    · rintro k σ H2 hk ⟨y3, y4, y5, y6, y7, y8, y9, rfl, g2, e2⟩
      walk_at "go"
      refine ⟨p, r, rfl, g2.2, fun v1 H3 hv1 g3 => ?_⟩
      obtain ⟨hv1a, hv1b⟩ := hv1
      walk_at "go"
      refine ⟨Nat.le_of_ble_eq_true rfl, fun l2 hl2 => ?_⟩
      walk_at "go"
      have g4 := (g2.trans g3).new (o := .lst (([1, 1, 18446744073709551616, -3 * 9223372036854775808, 1000000000000000000000000000000] : List Int).map V.int)) hl2
      have n2 : l2 ≠ p := (g3.2.ne hl2).symm
      refine ⟨p, r, 5, rfl, by decide, g4.2, fun v2 H5 h5a h5b g5 => ?_⟩
      have el2 := g5.1 _ _ upd_same n2
      obtain ⟨b, hb, eb⟩ := pickV (f := V.int) (xs := [1, 1, 18446744073709551616, -3 * 9223372036854775808, 1000000000000000000000000000000]) h5a h5b
      refine R.r_ixL (R.sqL el2) eb ?_
      walk_at "go"
      refine ⟨_, rfl, ?_⟩
      walk_at "go"
      refine ⟨_, _, rfl, (wrap_ok _).1, (wrap_ok _).2, ?_⟩
      walk_at "go"
      have g6 := g4.trans g5
      refine ⟨p, r, rfl, g6.2, fun v3 H7 _ g7 => ?_⟩
      walk_at "go"
      refine ⟨_, rfl, ?_⟩
      walk_at "go"
      refine ⟨p, r, rfl, g7.2, fun v4 H8 _ g8 => ?_⟩
      walk_at "go"
      refine ⟨_, rfl, ?_⟩
      walk_at "go"
      have g9 := (g6.trans g7).trans g8
      refine R.r_cut (fun σ H' => ∃ y4 b, σ = [some (.ref a), some (.ref p), some (.ref l), some (.int (k : Int)), y4, some (.int (wrapI v3)), some (.int b), y7, y8, y9] ∧ InR b ∧ Go p r H1 H' ∧ H' l = some (.lst (SG.map V.str))) ?_ ?_
      · have e9 := g8.1 _ _ (g7.1 _ _ (g5.1 _ _ (R.same_new hl2 _ _ (g3.1 _ _ e2 nl)) nl) nl) nl
        walk_at "go"
        refine ⟨p, r, 6, rfl, by decide, g9.2, fun v5 H10 _ _ g10 => ?_⟩
        have e10 := g10.1 _ _ e9 nl
        walk_at "go"
        refine R.r_ite (fun e => ?_) (fun e => ?_)
        · walk_at "go"
          exact ⟨_, _, rfl, (wrap_ok _).1, g9.trans g10, e10⟩
        · walk_at "go"
          exact ⟨_, _, rfl, (wrap_ok _).1, g9.trans g10, e10⟩
      · rintro σ H9 ⟨y4, b2, rfl, hb2, g9, e9⟩
        walk_at "go"
        refine ⟨p, r, 11, rfl, by decide, g9.2, fun v5 H10 h10a h10b g10 => ?_⟩
        have e10 := g10.1 _ _ e9 nl
        obtain ⟨sg, hsg, esg⟩ := pickV (f := V.str) (xs := SG) h10a h10b
        refine R.r_ixL (R.sqL e10) esg ?_
        walk_at "go"
        refine ⟨sg, hsg, _, _, rfl, (wrap_ok _).1, hb2, fun H11 s11 => ?_⟩
        have g11 := (g9.trans g10).sm s11
        have e11 := s11 _ _ e10
        walk_at "go"
        refine ⟨p, r, rfl, g11.2, fun one H12 hone g12 => ?_⟩
        walk_at "go"
        refine ⟨p, r, rfl, g12.2, fun two H13 htwo g13 => ?_⟩
        walk_at "go"
        refine ⟨one, rfl, Nat.le_trans hone (by decide), ?_⟩
        walk_at "go"
        refine ⟨_, _, rfl, rfl, ?_, ?_⟩
        · have := cutS_length one none (some 31)
          have h1 : (("a" : Str)).length = 1 := by decide +kernel
          rw [h1]
          exact R.size_of (by omega)
        walk_at "go"
        refine ⟨Nat.le_of_ble_eq_true rfl, fun l3 hl3 => ?_⟩
        walk_at "go"
        have g13' := (g11.trans g12).trans g13
        have e13 := g13.1 _ _ (g12.1 _ _ e11 nl) nl
        have g14 := g13'.new (o := .lst (([two, one, cutS one none (some 31) ++ "a"] : List Str).map V.str)) hl3
        have e14 := R.same_new (o := .lst (([two, one, cutS one none (some 31) ++ "a"] : List Str).map V.str)) hl3 _ _ e13
        have n3 : l3 ≠ p := (g13'.2.ne hl3).symm
        refine ⟨p, r, 3, rfl, by decide, g14.2, fun v6 H15 h15a h15b g15 => ?_⟩
        have el3 := g15.1 _ _ upd_same n3
        obtain ⟨oth, hoth, eoth⟩ := pickV (f := V.str) (xs := [two, one, cutS one none (some 31) ++ "a"]) h15a h15b
        refine R.r_ixL (R.sqL el3) eoth ?_
        walk_at "go"
        have g15' := g14.trans g15
        have e15 := g15.1 _ _ e14 nl
        refine ⟨p, r, 6, rfl, by decide, g15'.2, fun v7 H16 h16a h16b g16 => ?_⟩
        have e16 := g16.1 _ _ e15 nl
        obtain ⟨sg2, hsg2, esg2⟩ := pickCG h16a h16b
        walk_at "go"
        refine R.r_ixL (R.sqL e16) esg2 ?_
        walk_at "go"
        refine ⟨sg2, one, oth, rfl, ?_⟩
        walk_at "go"
        refine ⟨sg2, hsg2, _, .inr ⟨one, oth, rfl, rfl⟩, fun H17 s17 => ?_⟩
        walk_at "go"
        exact ⟨_, _, _, _, _, _, _, rfl, (g15'.trans g16).sm s17, s17 _ _ e16⟩
    · rintro σ H2 ⟨y3, y4, y5, y6, y7, y8, y9, rfl, g2, e2⟩
      walk_at "go"
      exact q _
end
theorem all_mk {l : PySem.W.OpenLaw} {w : World} {K : PySem.W.Frag} {h : Heap} {mg : Str → Option Value} {fa : Addr} (X : K.In h) (G : h.Ns mainGlobals mg) (hfa : mg "law" = some (.ref fa))
    {od1 an1 : Option Addr} {sl1 : Array (Option Value)} {oc1 kV1 dc1 pm1 cd1 ct1 : Value} {f1 : Addr} {od2 an2 : Option Addr} {sl2 : Array (Option Value)} {oc2 kV2 dc2 pm2 cd2 ct2 : Value} {f2 : Addr} {od3 an3 : Option Addr} {sl3 : Array (Option Value)} {oc3 kV3 dc3 pm3 cd3 ct3 : Value} {f3 : Addr} {od4 an4 : Option Addr} {sl4 : Array (Option Value)} {oc4 kV4 dc4 pm4 cd4 ct4 : Value} {f4 : Addr} {od5 an5 : Option Addr} {sl5 : Array (Option Value)} {oc5 kV5 dc5 pm5 cd5 ct5 : Value} {f5 : Addr} {od6 an6 : Option Addr} {sl6 : Array (Option Value)} {oc6 kV6 dc6 pm6 cd6 ct6 : Value} {f6 : Addr} {od7 an7 : Option Addr} {sl7 : Array (Option Value)} {oc7 kV7 dc7 pm7 cd7 ct7 : Value} {f7 : Addr} {od8 an8 : Option Addr} {sl8 : Array (Option Value)} {oc8 kV8 dc8 pm8 cd8 ct8 : Value} {f8 : Addr} {od9 an9 : Option Addr} {sl9 : Array (Option Value)} {oc9 kV9 dc9 pm9 cd9 ct9 : Value} {f9 : Addr} {od10 an10 : Option Addr} {sl10 : Array (Option Value)} {oc10 kV10 dc10 pm10 cd10 ct10 : Value} {f10 : Addr} {od11 an11 : Option Addr} {sl11 : Array (Option Value)} {oc11 kV11 dc11 pm11 cd11 ct11 : Value} {f11 : Addr} {od12 an12 : Option Addr} {sl12 : Array (Option Value)} {oc12 kV12 dc12 pm12 cd12 ct12 : Value} {f12 : Addr} {od13 an13 : Option Addr} {sl13 : Array (Option Value)} {oc13 kV13 dc13 pm13 cd13 ct13 : Value} {f13 : Addr} {od14 an14 : Option Addr} {sl14 : Array (Option Value)} {oc14 kV14 dc14 pm14 cd14 ct14 : Value} {f14 : Addr} {w1 : Value} {w2 : Value} {w3 : Value}
    (a1 : PySem.W.nsIn K mainGlobals "wrap" = some (some (.ref f1)))
    (l1 : K.lookup f1 = some ⟨oc1, od1, .func (PySem.W.fnOf "wrap" "wrap" (defArgs s_wrap) (defBody s_wrap) (defScope s_wrap) .none kV1 dc1 pm1 an1 cd1 ct1), sl1⟩)
    (c1 : PySem.W.codeIn K cd1 "wrap" = true)
    (k1 : PySem.W.keepIn K (.ref f1) = true)
    (a2 : PySem.W.nsIn K mainGlobals "zero" = some (some (.ref f2)))
    (l2 : K.lookup f2 = some ⟨oc2, od2, .func (PySem.W.fnOf "zero" "zero" (defArgs s_zero) (defBody s_zero) (defScope s_zero) .none kV2 dc2 pm2 an2 cd2 ct2), sl2⟩)
    (c2 : PySem.W.codeIn K cd2 "zero" = true)
    (k2 : PySem.W.keepIn K (.ref f2) = true)
    (a3 : PySem.W.nsIn K mainGlobals "apply_op" = some (some (.ref f3)))
    (l3 : K.lookup f3 = some ⟨oc3, od3, .func (PySem.W.fnOf "apply_op" "apply_op" (defArgs s_apply_op) (defBody s_apply_op) (defScope s_apply_op) .none kV3 dc3 pm3 an3 cd3 ct3), sl3⟩)
    (c3 : PySem.W.codeIn K cd3 "apply_op" = true)
    (k3 : PySem.W.keepIn K (.ref f3) = true)
    (a4 : PySem.W.nsIn K mainGlobals "apply_same" = some (some (.ref f4)))
    (l4 : K.lookup f4 = some ⟨oc4, od4, .func (PySem.W.fnOf "apply_same" "apply_same" (defArgs s_apply_same) (defBody s_apply_same) (defScope s_apply_same) .none kV4 dc4 pm4 an4 cd4 ct4), sl4⟩)
    (c4 : PySem.W.codeIn K cd4 "apply_same" = true)
    (k4 : PySem.W.keepIn K (.ref f4) = true)
    (a5 : PySem.W.nsIn K mainGlobals "truth_of" = some (some (.ref f5)))
    (l5 : K.lookup f5 = some ⟨oc5, od5, .func (PySem.W.fnOf "truth_of" "truth_of" (defArgs s_truth_of) (defBody s_truth_of) (defScope s_truth_of) .none kV5 dc5 pm5 an5 cd5 ct5), sl5⟩)
    (c5 : PySem.W.codeIn K cd5 "truth_of" = true)
    (k5 : PySem.W.keepIn K (.ref f5) = true)
    (a6 : PySem.W.nsIn K mainGlobals "_law_draws" = some (some (.ref f6)))
    (l6 : K.lookup f6 = some ⟨oc6, od6, .func (PySem.W.fnOf "_law_draws" "_law_draws" (defArgs s_law_draws) (defBody s_law_draws) (defScope s_law_draws) .none kV6 dc6 pm6 an6 cd6 ct6), sl6⟩)
    (c6 : PySem.W.codeIn K cd6 "_law_draws" = true)
    (k6 : PySem.W.keepIn K (.ref f6) = true)
    (a7 : PySem.W.nsIn K mainGlobals "_law_reader" = some (some (.ref f7)))
    (l7 : K.lookup f7 = some ⟨oc7, od7, .func (PySem.W.fnOf "_law_reader" "_law_reader" (defArgs s_law_reader) (defBody s_law_reader) (defScope s_law_reader) .none kV7 dc7 pm7 an7 cd7 ct7), sl7⟩)
    (c7 : PySem.W.codeIn K cd7 "_law_reader" = true)
    (k7 : PySem.W.keepIn K (.ref f7) = true)
    (a8 : PySem.W.nsIn K mainGlobals "_law_next" = some (some (.ref f8)))
    (l8 : K.lookup f8 = some ⟨oc8, od8, .func (PySem.W.fnOf "_law_next" "_law_next" (defArgs s_law_next) (defBody s_law_next) (defScope s_law_next) .none kV8 dc8 pm8 an8 cd8 ct8), sl8⟩)
    (c8 : PySem.W.codeIn K cd8 "_law_next" = true)
    (k8 : PySem.W.keepIn K (.ref f8) = true)
    (a9 : PySem.W.nsIn K mainGlobals "_law_number" = some (some (.ref f9)))
    (l9 : K.lookup f9 = some ⟨oc9, od9, .func (PySem.W.fnOf "_law_number" "_law_number" (defArgs s_law_number) (defBody s_law_number) (defScope s_law_number) .none kV9 dc9 pm9 an9 cd9 ct9), sl9⟩)
    (c9 : PySem.W.codeIn K cd9 "_law_number" = true)
    (k9 : PySem.W.keepIn K (.ref f9) = true)
    (a10 : PySem.W.nsIn K mainGlobals "_law_text" = some (some (.ref f10)))
    (l10 : K.lookup f10 = some ⟨oc10, od10, .func (PySem.W.fnOf "_law_text" "_law_text" (defArgs s_law_text) (defBody s_law_text) (defScope s_law_text) .none kV10 dc10 pm10 an10 cd10 ct10), sl10⟩)
    (c10 : PySem.W.codeIn K cd10 "_law_text" = true)
    (k10 : PySem.W.keepIn K (.ref f10) = true)
    (a11 : PySem.W.nsIn K mainGlobals "_law_is_wrapped" = some (some (.ref f11)))
    (l11 : K.lookup f11 = some ⟨oc11, od11, .func (PySem.W.fnOf "_law_is_wrapped" "_law_is_wrapped" (defArgs s_law_is_wrapped) (defBody s_law_is_wrapped) (defScope s_law_is_wrapped) .none kV11 dc11 pm11 an11 cd11 ct11), sl11⟩)
    (c11 : PySem.W.codeIn K cd11 "_law_is_wrapped" = true)
    (k11 : PySem.W.keepIn K (.ref f11) = true)
    (a12 : PySem.W.nsIn K mainGlobals "_law_is_right" = some (some (.ref f12)))
    (l12 : K.lookup f12 = some ⟨oc12, od12, .func (PySem.W.fnOf "_law_is_right" "_law_is_right" (defArgs s_law_is_right) (defBody s_law_is_right) (defScope s_law_is_right) .none kV12 dc12 pm12 an12 cd12 ct12), sl12⟩)
    (c12 : PySem.W.codeIn K cd12 "_law_is_right" = true)
    (k12 : PySem.W.keepIn K (.ref f12) = true)
    (a13 : PySem.W.nsIn K mainGlobals "_law_is_compared" = some (some (.ref f13)))
    (l13 : K.lookup f13 = some ⟨oc13, od13, .func (PySem.W.fnOf "_law_is_compared" "_law_is_compared" (defArgs s_law_is_compared) (defBody s_law_is_compared) (defScope s_law_is_compared) .none kV13 dc13 pm13 an13 cd13 ct13), sl13⟩)
    (c13 : PySem.W.codeIn K cd13 "_law_is_compared" = true)
    (k13 : PySem.W.keepIn K (.ref f13) = true)
    (a14 : PySem.W.nsIn K mainGlobals "law" = some (some (.ref f14)))
    (l14 : K.lookup f14 = some ⟨oc14, od14, .func (PySem.W.fnOf "law" "law" (defArgs s_law) (defBody s_law) (defScope s_law) .none kV14 dc14 pm14 an14 cd14 ct14), sl14⟩)
    (c14 : PySem.W.codeIn K cd14 "law" = true)
    (k14 : PySem.W.keepIn K (.ref f14) = true)
    (z1 : PySem.W.nsIn K mainGlobals "abs" = some none)
    (z2 : PySem.W.nsIn K mainGlobals "bool" = some none)
    (z3 : PySem.W.nsIn K mainGlobals "int" = some none)
    (z4 : PySem.W.nsIn K mainGlobals "isinstance" = some none)
    (z5 : PySem.W.nsIn K mainGlobals "len" = some none)
    (z6 : PySem.W.nsIn K mainGlobals "min" = some none)
    (z7 : PySem.W.nsIn K mainGlobals "range" = some none)
    (y1 : PySem.W.nsIn K mainGlobals "INT" = some (some w1))
    (x1 : RelV (V.str "int") w1)
    (y2 : PySem.W.nsIn K mainGlobals "LEAST" = some (some w2))
    (x2 : RelV (V.int (-9223372036854775808)) w2)
    (y3 : PySem.W.nsIn K mainGlobals "RANGE" = some (some w3))
    (x3 : RelV (V.int 18446744073709551616) w3)
    : ∃ fd : FuncData, (∀ (s : Shared) (v : Value), BindsTo s fd ⟨[v], []⟩ [("script", v)]) ∧ ∀ base : Heap, K.In base → base.Ns mainGlobals mg → FnOk l.prog w K mg base CX0 4 fa fd ["script"] (sp_law K) := by
  have e := hfa.symm.trans (PySem.W.mg_of X G a14)
  cases e
  have F1 := fun_mk (st := s_wrap) l1 c1 k1
  have b1 := F1.binds (ps := ["n"]) fun _ _ _ _ _ _ us hl => match us, hl with | [_], _ => rfl
  have F2 := fun_mk (st := s_zero) l2 c2 k2
  have b2 := F2.binds (ps := ["kind"]) fun _ _ _ _ _ _ us hl => match us, hl with | [_], _ => rfl
  have F3 := fun_mk (st := s_apply_op) l3 c3 k3
  have b3 := F3.binds (ps := ["sign", "a", "b"]) fun _ _ _ _ _ _ us hl => match us, hl with | [_, _, _], _ => rfl
  have F4 := fun_mk (st := s_apply_same) l4 c4 k4
  have b4 := F4.binds (ps := ["sign", "s", "t"]) fun _ _ _ _ _ _ us hl => match us, hl with | [_, _, _], _ => rfl
  have F5 := fun_mk (st := s_truth_of) l5 c5 k5
  have b5 := F5.binds (ps := ["sign", "a", "b"]) fun _ _ _ _ _ _ us hl => match us, hl with | [_, _, _], _ => rfl
  have F6 := fun_mk (st := s_law_draws) l6 c6 k6
  have b6 := F6.binds (ps := ["script"]) fun _ _ _ _ _ _ us hl => match us, hl with | [_], _ => rfl
  have F7 := fun_mk (st := s_law_reader) l7 c7 k7
  have b7 := F7.binds (ps := ["script"]) fun _ _ _ _ _ _ us hl => match us, hl with | [_], _ => rfl
  have F8 := fun_mk (st := s_law_next) l8 c8 k8
  have b8 := F8.binds (ps := ["draws", "many"]) fun _ _ _ _ _ _ us hl => match us, hl with | [_, _], _ => rfl
  have F9 := fun_mk (st := s_law_number) l9 c9 k9
  have b9 := F9.binds (ps := ["draws"]) fun _ _ _ _ _ _ us hl => match us, hl with | [_], _ => rfl
  have F10 := fun_mk (st := s_law_text) l10 c10 k10
  have b10 := F10.binds (ps := ["draws"]) fun _ _ _ _ _ _ us hl => match us, hl with | [_], _ => rfl
  have F11 := fun_mk (st := s_law_is_wrapped) l11 c11 k11
  have b11 := F11.binds (ps := ["told", "n"]) fun _ _ _ _ _ _ us hl => match us, hl with | [_, _], _ => rfl
  have F12 := fun_mk (st := s_law_is_right) l12 c12 k12
  have b12 := F12.binds (ps := ["sign", "a", "b"]) fun _ _ _ _ _ _ us hl => match us, hl with | [_, _, _], _ => rfl
  have F13 := fun_mk (st := s_law_is_compared) l13 c13 k13
  have b13 := F13.binds (ps := ["told", "sign", "a", "b"]) fun _ _ _ _ _ _ us hl => match us, hl with | [_, _, _, _], _ => rfl
  have F14 := fun_mk (st := s_law) l14 c14 k14
  have b14 := F14.binds (ps := ["script"]) fun _ _ _ _ _ _ us hl => match us, hl with | [_], _ => rfl
  exact ⟨PySem.W.fnOf "law" "law" (defArgs s_law) (defBody s_law) (defScope s_law) .none kV14 dc14 pm14 an14 cd14 ct14, fun s v => .of_eq rfl, fun base _ _ => ok_law (T := {f_wrap := f1, fd_wrap := _, F_wrap := F1, b_wrap := b1, g_wrap := PySem.W.mg_of X G a1, f_zero := f2, fd_zero := _, F_zero := F2, b_zero := b2, g_zero := PySem.W.mg_of X G a2, f_apply_op := f3, fd_apply_op := _, F_apply_op := F3, b_apply_op := b3, g_apply_op := PySem.W.mg_of X G a3, f_apply_same := f4, fd_apply_same := _, F_apply_same := F4, b_apply_same := b4, g_apply_same := PySem.W.mg_of X G a4, f_truth_of := f5, fd_truth_of := _, F_truth_of := F5, b_truth_of := b5, g_truth_of := PySem.W.mg_of X G a5, f_law_draws := f6, fd_law_draws := _, F_law_draws := F6, b_law_draws := b6, g_law_draws := PySem.W.mg_of X G a6, f_law_reader := f7, fd_law_reader := _, F_law_reader := F7, b_law_reader := b7, g_law_reader := PySem.W.mg_of X G a7, f_law_next := f8, fd_law_next := _, F_law_next := F8, b_law_next := b8, g_law_next := PySem.W.mg_of X G a8, f_law_number := f9, fd_law_number := _, F_law_number := F9, b_law_number := b9, g_law_number := PySem.W.mg_of X G a9, f_law_text := f10, fd_law_text := _, F_law_text := F10, b_law_text := b10, g_law_text := PySem.W.mg_of X G a10, f_law_is_wrapped := f11, fd_law_is_wrapped := _, F_law_is_wrapped := F11, b_law_is_wrapped := b11, g_law_is_wrapped := PySem.W.mg_of X G a11, f_law_is_right := f12, fd_law_is_right := _, F_law_is_right := F12, b_law_is_right := b12, g_law_is_right := PySem.W.mg_of X G a12, f_law_is_compared := f13, fd_law_is_compared := _, F_law_is_compared := F13, b_law_is_compared := b13, g_law_is_compared := PySem.W.mg_of X G a13, f_law := fa, fd_law := _, F_law := F14, b_law := b14, g_law := PySem.W.mg_of X G a14, m_abs := PySem.W.mg_none_of X G z1, m_bool := PySem.W.mg_none_of X G z2, m_int := PySem.W.mg_none_of X G z3, m_isinstance := PySem.W.mg_none_of X G z4, m_len := PySem.W.mg_none_of X G z5, m_min := PySem.W.mg_none_of X G z6, m_range := PySem.W.mg_none_of X G z7, v_INT := w1, c_INT := PySem.W.mg_of X G y1, r_INT := x1, v_LEAST := w2, c_LEAST := PySem.W.mg_of X G y2, r_LEAST := x2, v_RANGE := w3, c_RANGE := PySem.W.mg_of X G y3, r_RANGE := x3})⟩
end K20
open PySem PySem.W PyProof.Rows
set_option maxHeartbeats 0 in
theorem PySem.Challenge.cw_tapline_k20_numbers_and_texts_holds : PySem.Challenge.rw_tapline_k20_numbers_and_texts.Holds := by
  w_on; o_law; k_head; (case hw => w_witness2)
  k_fill
  refine L2.walk_of (l := PySem.Challenge.rw_tapline_k20_numbers_and_texts) (n := 63) (k := 4) (x := "script") (CX := fun _ => L2.CX0) (sp := fun w => K20.sp_law _) rfl (by decide) rfl ⟨rfl, by decide, by decide⟩ (fun w h Y => PySem.W.kIn_of Y) ?F (fun _ _ a ns hl _ hS => ⟨a, ns, rfl, hS, hl, fun _ => rfl⟩) (fun _ _ _ _ _ h => h)
  case F =>
    intro w mg fa h KX G hmg
    refine' K20.all_mk KX G hmg ?a1 ?l1 ?c1 ?k1 ?a2 ?l2 ?c2 ?k2 ?a3 ?l3 ?c3 ?k3 ?a4 ?l4 ?c4 ?k4 ?a5 ?l5 ?c5 ?k5 ?a6 ?l6 ?c6 ?k6 ?a7 ?l7 ?c7 ?k7 ?a8 ?l8 ?c8 ?k8 ?a9 ?l9 ?c9 ?k9 ?a10 ?l10 ?c10 ?k10 ?a11 ?l11 ?c11 ?k11 ?a12 ?l12 ?c12 ?k12 ?a13 ?l13 ?c13 ?k13 ?a14 ?l14 ?c14 ?k14 ?z1 ?z2 ?z3 ?z4 ?z5 ?z6 ?z7 ?y1 ?x1 ?y2 ?x2 ?y3 ?x3
    (case a1 => k_is)
    (case l1 => k_is)
    (case c1 => k_is)
    (case k1 => k_is)
    (case a2 => k_is)
    (case l2 => k_is)
    (case c2 => k_is)
    (case k2 => k_is)
    (case a3 => k_is)
    (case l3 => k_is)
    (case c3 => k_is)
    (case k3 => k_is)
    (case a4 => k_is)
    (case l4 => k_is)
    (case c4 => k_is)
    (case k4 => k_is)
    (case a5 => k_is)
    (case l5 => k_is)
    (case c5 => k_is)
    (case k5 => k_is)
    (case a6 => k_is)
    (case l6 => k_is)
    (case c6 => k_is)
    (case k6 => k_is)
    (case a7 => k_is)
    (case l7 => k_is)
    (case c7 => k_is)
    (case k7 => k_is)
    (case a8 => k_is)
    (case l8 => k_is)
    (case c8 => k_is)
    (case k8 => k_is)
    (case a9 => k_is)
    (case l9 => k_is)
    (case c9 => k_is)
    (case k9 => k_is)
    (case a10 => k_is)
    (case l10 => k_is)
    (case c10 => k_is)
    (case k10 => k_is)
    (case a11 => k_is)
    (case l11 => k_is)
    (case c11 => k_is)
    (case k11 => k_is)
    (case a12 => k_is)
    (case l12 => k_is)
    (case c12 => k_is)
    (case k12 => k_is)
    (case a13 => k_is)
    (case l13 => k_is)
    (case c13 => k_is)
    (case k13 => k_is)
    (case a14 => k_is)
    (case l14 => k_is)
    (case c14 => k_is)
    (case k14 => k_is)
    (case z1 => k_is)
    (case z2 => k_is)
    (case z3 => k_is)
    (case z4 => k_is)
    (case z5 => k_is)
    (case z6 => k_is)
    (case z7 => k_is)
    (case y1 => k_is)
    (case x1 => first | exact ⟨_, rfl⟩ | rfl)
    (case y2 => k_is)
    (case x2 => first | exact ⟨_, rfl⟩ | rfl)
    (case y3 => k_is)
    (case x3 => first | exact ⟨_, rfl⟩ | rfl)


