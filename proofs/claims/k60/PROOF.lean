import PyProof.Rows.All
import Wide.All
import OpenK.AllK
import Wide.FinOn
import HandS.ForMost
import HandS.Wide
import HandS.IsInst
import HandS.Codes
import HandS.Conv
import HandS.Walk
import HandS.Deep
import HandS.SortRule
import HandS.More
import HandS.TupAny
import HandS.SortInts
import PySem.Challenge.RW_tapline_k60_the_machine_pick_by_pick
set_option Elab.async false
set_option linter.all false
set_option maxRecDepth 100000
set_option maxHeartbeats 4000000
section
/-! reading lemmas: one a construct, its conclusion headed by the construct's name -/
namespace R
open PySem PySem.Spec PyProof.Rows L2
section
variable {nx bk ct : L2.St → Hp → Prop} {rt : V → Hp → Prop}
variable {t u : TS} {D : Ends} {σ σ' : L2.St} {H H1 : Hp} {te ta tb tc : TE} {tr : TA} {i : Nat} {v w x y : V} {Q : VK} {c c' : TT} {K : PySem.W.Frag} {n n' : L2.St → Hp → Prop} {B : Bool → Hp → Prop}
theorem r_seq (h : t ⟨u ⟨nx, rt, bk, ct⟩, rt, bk, ct⟩ σ H) : tSeq t u ⟨nx, rt, bk, ct⟩ σ H := h
theorem r_asg (h : te σ H (fun x H1 => nx (σ.set i (some x)) H1)) : tAsg te (gName i) ⟨nx, rt, bk, ct⟩ σ H := h
theorem r_asgG {g : TG} (h : te σ H (fun x H1 => g x σ H1 nx)) : tAsg te g ⟨nx, rt, bk, ct⟩ σ H := h
theorem r_gname {Q : L2.St → Hp → Prop} (h : Q (σ.set i (some x)) H) : gName i x σ H Q := h
theorem r_ret (h : te σ H rt) : tRet te ⟨nx, rt, bk, ct⟩ σ H := h
theorem r_retN (h : rt .non H) : tRetN ⟨nx, rt, bk, ct⟩ σ H := h
theorem r_drop (h : te σ H (fun _ H1 => nx σ H1)) : tDrop te ⟨nx, rt, bk, ct⟩ σ H := h
theorem r_ifS (h : c σ H (fun b H1 => if b = true then t ⟨nx, rt, bk, ct⟩ σ H1 else u ⟨nx, rt, bk, ct⟩ σ H1)) : tIfS c t u ⟨nx, rt, bk, ct⟩ σ H := h
theorem r_next (h : nx σ H) : tNext ⟨nx, rt, bk, ct⟩ σ H := h
theorem r_brk (h : bk σ H) : tBreak ⟨nx, rt, bk, ct⟩ σ H := h
theorem r_cnt (h : ct σ H) : tCont ⟨nx, rt, bk, ct⟩ σ H := h
/-- for k in range(m): k in slot j; the loop's own end -/
theorem r_rng1 {tr : TA} {tb : TS} {g : TG} (h : tr σ H fun vs H1 => ∃ m : Int, vs = [.int m] ∧ -(2 ^ 62) ≤ m ∧ m < 2 ^ 62 ∧ ∃ W : Nat → Nat → L2.St → Hp → Prop, (∃ q, W 0 q σ H1) ∧ ∀ i q σ H, W i q σ H → ((Itr 0 m.toNat).stop i H ∧ nx σ H) ∨ ((Itr 0 m.toNat).go i H ∧ ∃ N : L2.St → Hp → Prop, (∀ σ' H', N σ' H' → ∃ q', q' < q ∧ W (i + 1) q' σ' H') ∧ ∀ x H', (Itr 0 m.toNat).yld i H x H' → g x σ H' fun σ2 H2 => tb ⟨N, rt, nx, N⟩ σ2 H2)) : tFor (iRng1 tr) g tb ⟨nx, rt, bk, ct⟩ σ H := h
theorem r_rngL {tb : TS} {j : Nat} {m : Int} (Pv : Nat → L2.St → Hp → Prop) (hm : -1000000000 ≤ m ∧ m ≤ 1000000000) (h0 : Pv 0 σ H)
    (hs : ∀ (k : Nat) σ' H', (k : Int) < m → Pv k σ' H' → tb ⟨Pv (k + 1), rt, nx, Pv (k + 1)⟩ (σ'.set j (some (.int (k : Int)))) H') (hd : ∀ σ' H', Pv m.toNat σ' H' → nx σ' H') :
    ∃ m' : Int, [V.int m] = [.int m'] ∧ -(2 ^ 62) ≤ m' ∧ m' < 2 ^ 62 ∧ ∃ W : Nat → Nat → L2.St → Hp → Prop, (∃ q, W 0 q σ H) ∧ ∀ i q σ H, W i q σ H → ((Itr 0 m'.toNat).stop i H ∧ nx σ H) ∨ ((Itr 0 m'.toNat).go i H ∧ ∃ N : L2.St → Hp → Prop, (∀ σ' H', N σ' H' → ∃ q', q' < q ∧ W (i + 1) q' σ' H') ∧ ∀ x H', (Itr 0 m'.toNat).yld i H x H' → gName j x σ H' fun σ2 H2 => tb ⟨N, rt, nx, N⟩ σ2 H2) :=
  ⟨m, rfl, by omega, by omega, for_range (D := ⟨nx, rt, fun _ _ => False, fun _ _ => False⟩) (g := gName j) (lo := 0) (n := m.toNat) Pv h0 (fun k σ' H' hk p => by
    have z := hs k σ' H' (by omega) p
    show tb ⟨Pv (k + 1), rt, nx, Pv (k + 1)⟩ (σ'.set j (some (.int ((0 : Int) + (k : Int))))) H'
    rw [show (0 : Int) + (k : Int) = (k : Int) from Int.zero_add _]
    exact z) hd⟩
/- expressions -/
theorem r_var (e : σ[i]? = some (some v)) (h : Q v H) : tVar i σ H Q := ⟨v, e, h⟩
theorem r_c (h : Q v H) : tC v σ H Q := h
theorem r_op {r : R2} (h : ta σ H fun x H1 => tb σ H1 fun y H2 => r x y H2 Q) : tOp r ta tb σ H Q := h
theorem r_un {r : V → Hp → VK → Prop} (h : ta σ H fun x H1 => r x H1 Q) : tUn r ta σ H Q := h
theorem r_I0 {g : Int → Int → V} {i j : Int} (h : Q (g i j) H) : rI0 g (.int i) (.int j) H Q := ⟨i, j, rfl, rfl, h⟩
theorem r_I {C : Int → Int → Prop} {g : Int → Int → V} {i j : Int} (hc : C i j) (h : Q (g i j) H) : rI C g (.int i) (.int j) H Q := ⟨i, j, rfl, rfl, hc, h⟩
theorem r_U {g : Int → V} {i : Int} (h : Q (g i) H) : rU g (.int i) H Q := ⟨i, rfl, h⟩
theorem r_cb {r : List V → Hp → VK → Prop} (h : tr σ H fun vs H1 => r vs H1 Q) : tCB r tr σ H Q := h
theorem r_cons {Q : List V → Hp → Prop} (h : ta σ H fun x H1 => tr σ H1 fun xs H2 => Q (x :: xs) H2) : tCons ta tr σ H Q := h
theorem r_nil {Q : List V → Hp → Prop} (h : Q [] H) : tNil σ H Q := h
theorem r_tup (h : tr σ H fun xs H1 => xs.length ≤ sizeLine ∧ ∀ p, H1 p = none → Q (.ref p) (upd H1 p (.tup xs))) : tTup tr σ H Q := h
theorem r_lst (h : tr σ H fun xs H1 => xs.length ≤ sizeLine ∧ ∀ p, H1 p = none → Q (.ref p) (upd H1 p (.lst xs))) : tLst tr σ H Q := h
theorem r_call {sp : Sp} {dvs : List V} {E : XK} (h : tr σ H fun vs H1 => sp (vs ++ dvs) H1 Q E) : tCall sp dvs E tr σ H Q := h
theorem r_test (h : ta σ H fun x H' => ∃ k, x = .bl k ∧ B k H') : tTest ta σ H B := h
theorem r_B (h : ta σ H fun x H' => ∃ k, x = .bl k ∧ B k H') : tB ta σ H B := h
theorem r_bl {b : Bool} (h : B b H) : ∃ k, V.bl b = .bl k ∧ B k H := ⟨b, rfl, h⟩
theorem r_and (h : c σ H fun b H1 => if b = true then c' σ H1 B else B false H1) : tAnd c c' σ H B := h
theorem r_or (h : c σ H fun b H1 => if b = true then B true H1 else c' σ H1 B) : tOr c c' σ H B := h
theorem r_not (h : c σ H fun b H1 => B (!b) H1) : tNot c σ H B := h
theorem r_andV (h : ta σ H fun x H1 => ∃ k, x = .bl k ∧ if k = true then tb σ H1 Q else Q (.bl false) H1) : tAndV ta tb σ H Q := h
theorem r_orV (h : ta σ H fun x H1 => ∃ k, x = .bl k ∧ if k = true then Q (.bl true) H1 else tb σ H1 Q) : tOrV ta tb σ H Q := h
theorem r_blV {b : Bool} {P : Bool → Prop} (h : P b) : ∃ k, V.bl b = .bl k ∧ P k := ⟨b, rfl, h⟩
theorem r_notV (h : ta σ H fun x H1 => ∃ k, x = .bl k ∧ Q (.bl (!k)) H1) : tNotV ta σ H Q := h
theorem r_ifE (h : c σ H fun b H1 => if b = true then ta σ H1 Q else tb σ H1 Q) : tIf c ta tb σ H Q := h
theorem r_eqI {i j : Int} (h : Q (.bl (decide (i = j))) H) : rEq (.int i) (.int j) H Q := ⟨rfl, by
  rw [show decide (V.int i = V.int j) = decide (i = j) from by simp]; exact h⟩
theorem r_neI {i j : Int} (h : Q (.bl (!decide (i = j))) H) : rNe (.int i) (.int j) H Q := ⟨rfl, by
  rw [show decide (V.int i = V.int j) = decide (i = j) from by simp]; exact h⟩
theorem r_eqS {i j : Str} (h : Q (.bl (decide (i = j))) H) : rEq (.str i) (.str j) H Q := ⟨rfl, by
  rw [show decide (V.str i = V.str j) = decide (i = j) from by simp]; exact h⟩
theorem r_neS {i j : Str} (h : Q (.bl (!decide (i = j))) H) : rNe (.str i) (.str j) H Q := ⟨rfl, by
  rw [show decide (V.str i = V.str j) = decide (i = j) from by simp]; exact h⟩
theorem r_isN (h : Q (.bl (decide (x = .non))) H) : V.non = .non ∧ Q (.bl (decide (x = .non))) H := ⟨rfl, h⟩
theorem r_t {A B : Prop} (h : A) : if true = true then A else B := iteT h
theorem r_f {A B : Prop} (h : B) : if false = true then A else B := iteF h
theorem r_nf {A B : Prop} (h : A) : if (!false) = true then A else B := iteT h
theorem r_nt {A B : Prop} (h : B) : if (!true) = true then A else B := iteF h
theorem r_ite {p A B : Prop} [Decidable p] (h1 : p → A) (h2 : ¬ p → B) : if decide p = true then A else B := ite2 (fun h => h1 (of_decide_eq_true h)) (fun h => h2 fun q => h (decide_eq_true q))
theorem r_iteN {p A B : Prop} [Decidable p] (h1 : ¬ p → A) (h2 : p → B) : if (!decide p) = true then A else B := by
  by_cases h : p
  · rw [decide_eq_true h]; exact iteF (h2 h)
  · rw [decide_eq_false h]; exact iteT (h1 h)
theorem r_iteY {p A B : Prop} [Decidable p] (h : p) (h1 : A) : if decide p = true then A else B := by rw [decide_eq_true h]; exact iteT h1
theorem r_iteF {p A B : Prop} [Decidable p] (h : ¬ p) (h1 : B) : if decide p = true then A else B := by rw [decide_eq_false h]; exact iteF h1
theorem r_ite_b {b b' : Bool} {A B : Prop} (e : b = b') (h : if b' = true then A else B) : if b = true then A else B := by rw [e]; exact h
theorem r_yes (h : B true H) : tYes σ H B := h
theorem r_bm {T : String} {r : V → List V → Hp → VK → Prop} (h : ta σ H fun x H1 => tyV K T x H1 ∧ tr σ H1 fun xs H2 => r x xs H2 Q) : tBM K T r ta tr σ H Q := h
theorem r_bm0 {T : String} {r : V → List V → Hp → VK → Prop} (h : ta σ H fun x H1 => tyV K T x H1 ∧ r x [] H1 Q) : tBM0 K T r ta σ H Q := h
theorem r_dget (h : ta σ H fun x H1 => tb σ H1 fun y H2 => ∃ a v, x = .ref a ∧ DGet H2 a y (some v) ∧ Q v H2) : tDGet ta tb σ H Q := h
theorem r_dgetS {a : Addr} {kvs : List (Key × V)} {k : Str} (e : H a = some (.dK kvs)) {P : V → Prop} (hv : valV kvs (Sum.inr k : Key) = some v) (h : P v) : ∃ a' v', V.ref a = .ref a' ∧ DGet H a' (.str k) (some v') ∧ P v' :=
  ⟨a, v, rfl, by have z := DGet.k (k := (Sum.inr k : Key)) e; rw [hv] at z; exact z, h⟩
theorem r_dput {bk ct : L2.St → Hp → Prop} (h : tc σ H fun v H1 => ta σ H1 fun x H2 => tb σ H2 fun y H3 => ∃ a H4, x = .ref a ∧ DPut H3 a y v H4 ∧ nx σ H4) : sDPut ta tb tc ⟨nx, rt, bk, ct⟩ σ H := h
theorem r_dputS {a : Addr} {kvs kvs' : List (Key × V)} {k : Str} (e : H a = some (.dK kvs)) (hl : kvs.length ≤ 1000) {P : Hp → Prop} (hv : putK kvs (Sum.inr k : Key) v = kvs') (h : P (upd H a (.dK kvs'))) : ∃ a' H', V.ref a = .ref a' ∧ DPut H a' (.str k) v H' ∧ P H' :=
  ⟨a, _, rfl, DPut.k (k := (Sum.inr k : Key)) e (small1000 hl), by rw [hv]; exact h⟩
theorem r_disp {trs : List (TE × TE)} (h : ∀ p, H p = none → tPairs trs σ (upd H p (.dK [])) fun ps H2 => H2 p = some (.dK []) ∧ ∃ kvs : List (Key × V), ps = kvs.map (fun kv => (kV kv.1, kv.2)) ∧ kvs.length ≤ 15 ∧ Q (.ref p) (upd H2 p (.dK (mergeK [] kvs)))) : tDisp trs σ H Q := h
theorem r_pnil {Q : List (V × V) → Hp → Prop} (h : Q [] H) : tPairs [] σ H Q := h
theorem r_pcons {Q : List (V × V) → Hp → Prop} {trs : List (TE × TE)} (h : ta σ H fun x H1 => tb σ H1 fun y H2 => tPairs trs σ H2 fun ps H3 => Q ((x, y) :: ps) H3) : tPairs ((ta, tb) :: trs) σ H Q := h
theorem r_fld {f : Str} (h : ta σ H fun x H1 => ∃ a C dx fs v, x = .ref a ∧ H1 a = some (.ins C dx fs) ∧ Cls K C ∧ NoAttr K C f ∧ fs.lookup f = some v ∧ Q v H1) : tFld K ta f σ H Q := h
theorem r_slice {r : V → Option Int → Option Int → Hp → VK → Prop} {tl th : TO} (h : te σ H fun x H1 => tl σ H1 fun l H2 => th σ H2 fun u H3 => r x l u H3 Q) : tSl r te tl th σ H Q := h
theorem r_nopart {Q : Option Int → Hp → Prop} (h : Q none H) : tNoPart σ H Q := h
theorem r_part {Q : Option Int → Hp → Prop} (h : te σ H fun x H1 => ∃ i, x = .int i ∧ Q (some i) H1) : tPart te σ H Q := h
theorem r_int {P : Int → Prop} {i : Int} (h : P i) : ∃ j, V.int i = .int j ∧ P j := ⟨i, rfl, h⟩
theorem r_ixL {p : Addr} {xs : List V} {i : Int} (hs : SqL K H p xs) (e : atI xs i = some v) (h : Q v H) : rIxL K (.ref p) (.int i) H Q := ⟨p, xs, i, v, rfl, rfl, hs, e, h⟩
theorem r_ixT {p : Addr} {xs : List V} {i : Int} (hs : SqT K H p xs) (e : atI xs i = some v) (h : Q v H) : rIxT K (.ref p) (.int i) H Q := ⟨p, xs, i, v, rfl, rfl, hs, e, h⟩
theorem r_ixS {z : Str} {i : Int} {k : Nat} (hl : z.length ≤ sizeLine) (e : atI z.cps.toList i = some k) (h : Q (.str ⟨#[k]⟩) H) : rIxS (.str z) (.int i) H Q := ⟨z, i, k, rfl, rfl, hl, e, h⟩
/- built-ins by named relations -/
def rAbs : List V → Hp → VK → Prop := fun xs H Q => ∃ i, xs = [.int i] ∧ Q (.int (if i < 0 then -i else i)) H
theorem r_abs {i : Int} (h : Q (.int (if i < 0 then -i else i)) H) : rAbs [.int i] H Q := ⟨i, rfl, h⟩
def rInt1 : List V → Hp → VK → Prop := fun xs H Q => (∃ i, xs = [.int i] ∧ Q (.int i) H) ∨ ∃ k, xs = [.bl k] ∧ Q (.int (if k then 1 else 0)) H
theorem r_int1 {i : Int} (h : Q (.int i) H) : rInt1 [.int i] H Q := .inl ⟨i, rfl, h⟩
theorem r_int1b {b : Bool} (h : Q (.int (if b then 1 else 0)) H) : rInt1 [.bl b] H Q := .inr ⟨b, rfl, h⟩
def rMin2 : List V → Hp → VK → Prop := fun xs H Q => ∃ i j, xs = [.int i, .int j] ∧ Q (.int (if j < i then j else i)) H
theorem r_min2 {i j : Int} (h : Q (.int (if j < i then j else i)) H) : rMin2 [.int i, .int j] H Q := ⟨i, j, rfl, h⟩
def rLenS (K : PySem.W.Frag) : List V → Hp → VK → Prop := fun xs H Q => ∃ p ys, xs = [.ref p] ∧ (SqL K H p ys ∨ SqT K H p ys) ∧ Q (.int ys.length) H
theorem r_lenL {p : Addr} {ys : List V} (hs : SqL K H p ys) (h : Q (.int ys.length) H) : rLenS K [.ref p] H Q := ⟨p, ys, rfl, .inl hs, h⟩
theorem r_lenT {p : Addr} {ys : List V} (hs : SqT K H p ys) (h : Q (.int ys.length) H) : rLenS K [.ref p] H Q := ⟨p, ys, rfl, .inr hs, h⟩
def CIsi (K : PySem.W.Frag) (H : Hp) (x c : V) (b : Bool) : Prop := ∃ (t u : Value), ClsV c u ∧ TyX K H x t ∧ PySem.W.kitOne K t u = some b
theorem r_isi {x c : V} {b : Bool} (hc : CIsi K H x c b) (h : Q (.bl b) H) : rIsi K [x, c] H Q := by
  obtain ⟨t, u, a, b', e⟩ := hc
  exact ⟨x, c, t, u, b, rfl, a, b', e, h⟩
theorem isi_int {i : Int} : CIsi K H (.int i) (.ty "int") true := ⟨_, _, .ty _, .base (.int i), kit_ty (by decide +kernel)⟩
theorem isi_intB {i : Int} : CIsi K H (.int i) (.ty "bool") false := ⟨_, _, .ty _, .base (.int i), kit_ty (by decide +kernel)⟩
theorem isi_lst {p : Addr} {xs : List V} (e : H p = some (.lst xs)) : CIsi K H (.ref p) (.ty "list") true := ⟨_, _, .ty _, .base (.lst e), kit_ty (by decide +kernel)⟩
theorem isi_tup {p : Addr} {xs : List V} (e : H p = some (.tup xs)) : CIsi K H (.ref p) (.ty "tuple") true := ⟨_, _, .ty _, .base (.tup e), kit_ty (by decide +kernel)⟩
theorem r_pow {i j z : Int} (e : i ^ j.toNat = z) (hc : CPow i j) (h : Q (.int z) H) : rI CPow (fun i j => .int (i ^ j.toNat)) (.int i) (.int j) H Q := ⟨i, j, rfl, rfl, hc, by show Q (.int (i ^ j.toNat)) H; rw [e]; exact h⟩
theorem r_p2_63 (h : Q (.int 9223372036854775808) H) : rI CPow (fun i j => .int (i ^ j.toNat)) (.int 2) (.int 63) H Q := r_pow (by decide) (by unfold CPow; decide) h
theorem r_p2_64 (h : Q (.int 18446744073709551616) H) : rI CPow (fun i j => .int (i ^ j.toNat)) (.int 2) (.int 64) H Q := r_pow (by decide) (by unfold CPow; decide) h
theorem r_p2_32 (h : Q (.int 4294967296) H) : rI CPow (fun i j => .int (i ^ j.toNat)) (.int 2) (.int 32) H Q := r_pow (by decide) (by unfold CPow; decide) h
theorem r_p2_31 (h : Q (.int 2147483648) H) : rI CPow (fun i j => .int (i ^ j.toNat)) (.int 2) (.int 31) H Q := r_pow (by decide) (by unfold CPow; decide) h
theorem r_p10_18 (h : Q (.int 1000000000000000000) H) : rI CPow (fun i j => .int (i ^ j.toNat)) (.int 10) (.int 18) H Q := r_pow (by decide) (by unfold CPow; decide) h
theorem r_p10_30 (h : Q (.int 1000000000000000000000000000000) H) : rI CPow (fun i j => .int (i ^ j.toNat)) (.int 10) (.int 30) H Q := r_pow (by decide) (by unfold CPow; decide) h
theorem r_mulR {i j : Int} (hc : -(2 ^ 64) < j ∧ j < 2 ^ 64) (h : Q (.int (i * j)) H) : rI CMul (fun i j => .int (i * j)) (.int i) (.int j) H Q := ⟨i, j, rfl, rfl, .inr hc, h⟩
theorem r_mulL {i j : Int} (hc : -(2 ^ 64) < i ∧ i < 2 ^ 64) (h : Q (.int (i * j)) H) : rI CMul (fun i j => .int (i * j)) (.int i) (.int j) H Q := ⟨i, j, rfl, rfl, .inl hc, h⟩
theorem r_div {i j : Int} (hc : 0 < j ∧ j < 1073741824) (h : Q (.int (i / j)) H) : rI CDiv (fun i j => .int (i / j)) (.int i) (.int j) H Q := ⟨i, j, rfl, rfl, hc, h⟩
theorem r_mod {i j : Int} (hc : 0 < j) (h : Q (.int (i % j)) H) : rI (fun _ j => 0 < j) (fun i j => .int (i % j)) (.int i) (.int j) H Q := ⟨i, j, rfl, rfl, hc, h⟩
theorem eqS {s a : Str} : eqV (.str a) (.str s) = decide (s = a) := by
  show (a == s) = decide (s = a)
  by_cases h : s = a
  · subst h
    rw [decide_eq_true rfl, beq_self_eq_true]
  · rw [decide_eq_false h]
    exact beq_eq_false_iff_ne.mpr fun z => h z.symm
theorem in2 {s a b : Str} : inV (.str s) [.str a, .str b] = (decide (s = a) || decide (s = b)) := by
  unfold inV
  rw [List.any_cons, List.any_cons, List.any_nil, Bool.or_false, eqS, eqS]
theorem in3 {s a b c : Str} : inV (.str s) [.str a, .str b, .str c] = (decide (s = a) || (decide (s = b) || decide (s = c))) := by
  unfold inV
  rw [List.any_cons, List.any_cons, List.any_cons, List.any_nil, Bool.or_false, eqS, eqS, eqS]
theorem r_inT {p : Addr} {xs : List V} {b : Bool} (e : H p = some (.tup xs)) (hx : flatV x = true) (ha : xs.all flatV = true) (hb : inV x xs = b) (h : Q (.bl b) H) : rIn K false x (.ref p) H Q :=
  ⟨p, xs, rfl, .inr (.inl (.inl e)), hx, ha, by rw [if_neg Bool.false_ne_true, hb]; exact h⟩
theorem r_niT {p : Addr} {xs : List V} {b : Bool} (e : H p = some (.tup xs)) (hx : flatV x = true) (ha : xs.all flatV = true) (hb : inV x xs = b) (h : Q (.bl (!b)) H) : rIn K true x (.ref p) H Q :=
  ⟨p, xs, rfl, .inr (.inl (.inl e)), hx, ha, by rw [if_pos rfl, hb]; exact h⟩
theorem r_m1 {r : V → List V → Hp → VK → Prop} (h : ta σ H fun x H1 => (∃ a, x = .str a) ∧ te σ H1 fun y H2 => r x [y] H2 Q) : tM1 r ta te σ H Q := h
/-- [e for x in range(m)] -/
def LcR (te : TE) (g : TG) (ts : TT) (vs : List Nat) (σ : L2.St) (Q : VK) : List V → Hp → Prop := fun ws H1 => ∃ m : Int, ws = [.int m] ∧ -(2 ^ 62) ≤ m ∧ m < 2 ^ 62 ∧ ∀ D, H1 D = none → ∃ W : Nat → Nat → Hp → Prop, (∃ q, W 0 q (upd H1 D (.lst []))) ∧ ∀ i q H, W i q H →
      ((Itr 0 m.toNat).stop i H ∧ Q (.ref D) H) ∨ ((Itr 0 m.toNat).go i H ∧ ∃ Nx : Hp → Prop, (∀ H', Nx H' → ∃ q', q' < q ∧ W (i + 1) q' H') ∧ ∀ x H', (Itr 0 m.toNat).yld i H x H' → g x (wipe σ vs) H' fun σ2 H2 => wipe σ2 vs = wipe σ vs ∧ ts σ2 H2 fun b H3 =>
        if b = true then te σ2 H3 fun y H4 => ∃ acc, H4 D = some (.lst acc) ∧ acc.length < sizeLine ∧ Nx (upd H4 D (.lst (acc ++ [y]))) else Nx H3)
theorem r_lcr {g : TG} {ts : TT} {vs : List Nat} (h : tr σ H (LcR te g ts vs σ Q)) : tLc (iRng1 tr) g ts te vs σ H Q := h
theorem r_lcR {j : Nat} {vs : List Nat} {m : Int} (Pv : Addr → Nat → Hp → Prop) (hm : -1000000000 ≤ m ∧ m ≤ 1000000000) (h0 : ∀ D, H D = none → Pv D 0 (upd H D (.lst [])))
    (hw : ∀ x, wipe ((wipe σ vs).set j (some x)) vs = wipe σ vs)
    (hs : ∀ D (k : Nat) H', H D = none → (k : Int) < m → Pv D k H' → te ((wipe σ vs).set j (some (.int (k : Int)))) H' fun y H4 => ∃ acc, H4 D = some (.lst acc) ∧ acc.length < sizeLine ∧ Pv D (k + 1) (upd H4 D (.lst (acc ++ [y]))))
    (hd : ∀ D H', H D = none → Pv D m.toNat H' → Q (.ref D) H') : LcR te (gName j) tYes vs σ Q [.int m] H := by
  refine ⟨m, rfl, by omega, by omega, fun D hD => lc_range (lo := 0) (n := m.toNat) (Pv D) (h0 D hD) (fun k H' hk p => ?_) (fun H' p => hd D H' hD p)⟩
  refine ⟨hw _, ?_⟩
  have z := hs D k H' hD (by omega) p
  rw [show (0 : Int) + (k : Int) = (k : Int) from Int.zero_add _]
  exact r_yes (iteT z)
/- own rules by value -/
end
theorem r_cut {t u : TS} {nx bk ct : L2.St → Hp → Prop} {rt : V → Hp → Prop} {σ : L2.St} {H : Hp} (Mid : L2.St → Hp → Prop) (h : t ⟨Mid, rt, bk, ct⟩ σ H) (h2 : ∀ σ' H', Mid σ' H' → u ⟨nx, rt, bk, ct⟩ σ' H') : C8.tCut t u ⟨nx, rt, bk, ct⟩ σ H := ⟨Mid, h, h2⟩
section
variable {X : Cx}
theorem cAbs : CallR X (.builtin "abs") rAbs := call_abs
theorem cInt1 : CallR X (.type "int") rInt1 := call_int1
theorem cMin2 (hc : X.calm = true) : CallR X (.builtin "min") rMin2 := call_min2 hc
theorem cLenS : CallR X (.builtin "len") (rLenS X.K) := call_len_seq
/-- // by any divisor below 2 ^ 9000 but 0 -/
def CDivZ (_ j : Int) : Prop := j ≠ 0 ∧ j.natAbs.log2 < 9000
theorem op_fdivZ : OpR X (binaryOp .FloorDiv) (rI CDivZ fun i j => .int (i.fdiv j)) := opI fun i j _ _ _ _ _ hc q => by
  exact floordiv_int hc.1 q (.inl (PyProof.noPylong_of_log2 hc.2))
theorem div_ok {i j : Int} (h : j ≠ 0) (hb : j.natAbs < 2 ^ 100) : CDivZ i j := ⟨h, Nat.lt_of_lt_of_le (PySem.Flt.log2_lt_of (by decide) hb) (by decide)⟩
end
/- heaps -/
/-- all but p stands as it stood -/
def Mv (p : Addr) (H H' : Hp) : Prop := ∀ b o, H b = some o → b ≠ p → H' b = some o
theorem Mv.refl {p : Addr} {H : Hp} : Mv p H H := fun _ _ e _ => e
theorem Mv.trans {p : Addr} {H H1 H2 : Hp} (a : Mv p H H1) (b : Mv p H1 H2) : Mv p H H2 := fun c o h hp => b c o (a c o h hp) hp
theorem Mv.upd {p : Addr} {H : Hp} {o : HO} : Mv p H (upd H p o) := fun b u e hp => by rw [upd_ne hp]; exact e
theorem Mv.of {p : Addr} {H H' : Hp} (a : Same H H') : Mv p H H' := fun b o e _ => a b o e
theorem same_new {H : Hp} {p : Addr} {o : HO} (h : H p = none) : Same H (upd H p o) := fun b x e => by
  rw [upd_ne (ne_of_none e h)]
  exact e
theorem same_new2 {H : Hp} {p : Addr} {o o' : HO} (h : H p = none) : Same H (upd (upd H p o) p o') := fun b x e => by
  rw [upd_ne (ne_of_none e h), upd_ne (ne_of_none e h)]
  exact e
theorem Same.sqt {K : PySem.W.Frag} {H H' : Hp} {a : Addr} {xs : List V} (e : Same H H') (h : SqT K H a xs) : SqT K H' a xs := by
  rcases h with (h | ⟨o, h⟩) | h
  · exact .inl (.inl (e _ _ h))
  · exact .inl (.inr ⟨o, e _ _ h⟩)
  · exact .inr h
theorem sqL {K : PySem.W.Frag} {H : Hp} {a : Addr} {xs : List V} (h : H a = some (.lst xs)) : SqL K H a xs := .inl (.inl h)
theorem sqT {K : PySem.W.Frag} {H : Hp} {a : Addr} {xs : List V} (h : H a = some (.tup xs)) : SqT K H a xs := .inl (.inl h)
theorem size_of {n : Nat} (h : n ≤ 100000) : n ≤ sizeLine := Nat.le_trans h (by decide)
theorem size_lt {n : Nat} (h : n < 100000) : n < sizeLine := Nat.lt_of_lt_of_le h (by decide)
theorem at_nat {α : Type} {xs : List α} {i : Int} {v : α} (h0 : 0 ≤ i) (h : xs[i.toNat]? = some v) : atI xs i = some v := by
  have z := atI_nat h
  rwa [Int.toNat_of_nonneg h0] at z
theorem map_int_get {ns : List Int} {i : Nat} {y : V} (h : (ns.map V.int)[i]? = some y) : ∃ z, ns[i]? = some z ∧ y = .int z := by
  rw [List.getElem?_map] at h
  cases e : ns[i]? with
  | none => rw [e] at h; cases h
  | some z => rw [e] at h; exact ⟨z, rfl, (Option.some.inj h).symm⟩
/-! what the top has written, in packs -/
structure FnP (K : PySem.W.Frag) (mg : Str → Option Value) (x qual : Str) (st : Stmt) (ps : List Str) where
  f : Addr
  fd : FuncData
  F : Fun K x qual st f fd
  b : Binds K fd ps []
  g : mg x = some (.ref f)
structure MtP (K : PySem.W.Frag) (x qual : Str) (st : Stmt) (ps : List Str) (C : Addr) where
  f : Addr
  fd : FuncData
  F : Fun K x qual st f fd
  b : Binds K fd ps []
  me : Meth K C x f
structure InP (K : PySem.W.Frag) (x qual : Str) (st : Stmt) (ps : List Str) (C : Addr) where
  f : Addr
  fd : FuncData
  F : Fun K x qual st f fd
  b : Binds K fd ps []
  M : Mk K C f
structure ClP (K : PySem.W.Frag) (mg : Str → Option Value) (x : Str) where
  a : Addr
  g : mg x = some (.ref a)
  cl : Cls K a
end R
end
section
/-! nested data: == is equality where no truth stands in it -/
namespace D
open PySem
mutual
def nb : PyData → Bool
  | .none => true
  | .int _ => true
  | .str _ => true
  | .bool _ => false
  | .dict _ => false
  | .list xs => nbAll xs
  | .tuple xs => nbAll xs
def nbAll : List PyData → Bool
  | [] => true
  | x :: xs => nb x && nbAll xs
end
mutual
theorem eqv_nb : ∀ d e : PyData, nb d = true → nb e = true → (PyData.eqv d e = true ↔ d = e)
  | .none, e, _, he => by cases e <;> simp [PyData.eqv, nb] at he ⊢
  | .int i, e, _, he => by cases e <;> simp [PyData.eqv, nb] at he ⊢
  | .str i, e, _, he => by cases e <;> simp [PyData.eqv, nb] at he ⊢
  | .bool _, _, hd, _ => by simp [nb] at hd
  | .dict _, _, hd, _ => by simp [nb] at hd
  | .list xs, e, hd, he => by
    cases e with
    | list ys =>
      have z := eqvAll_nb xs ys (by simpa [nb] using hd) (by simpa [nb] using he)
      rw [PyData.eqv, z]
      exact ⟨fun h => by rw [h], fun h => by injection h⟩
    | _ => simp [PyData.eqv, nb] at he ⊢
  | .tuple xs, e, hd, he => by
    cases e with
    | tuple ys =>
      have z := eqvAll_nb xs ys (by simpa [nb] using hd) (by simpa [nb] using he)
      rw [PyData.eqv, z]
      exact ⟨fun h => by rw [h], fun h => by injection h⟩
    | _ => simp [PyData.eqv, nb] at he ⊢
theorem eqvAll_nb : ∀ xs ys : List PyData, nbAll xs = true → nbAll ys = true → (PyData.eqvAll xs ys = true ↔ xs = ys)
  | [], ys, _, _ => by cases ys <;> simp [PyData.eqvAll]
  | x :: xs, [], _, _ => by simp [PyData.eqvAll]
  | x :: xs, y :: ys, hx, hy => by
    simp only [nbAll, Bool.and_eq_true] at hx hy
    rw [PyData.eqvAll, Bool.and_eq_true, eqv_nb x y hx.1 hy.1, eqvAll_nb xs ys hx.2 hy.2]
    exact ⟨fun h => by rw [h.1, h.2], fun h => by injection h with a b; exact ⟨a, b⟩⟩
end
theorem eqv_dec {d e : PyData} {p : Prop} [Decidable p] (hd : nb d = true) (he : nb e = true) (h : d = e ↔ p) : PyData.eqv d e = decide p := by
  rw [Bool.eq_iff_iff, eqv_nb d e hd he, h, decide_eq_true_iff]
theorem nbAll_of {xs : List PyData} (h : ∀ x ∈ xs, nb x = true) : nbAll xs = true := by
  induction xs with
  | nil => rfl
  | cons x xs ih =>
    rw [nbAll, Bool.and_eq_true]
    exact ⟨h x List.mem_cons_self, ih fun y hy => h y (List.mem_cons_of_mem _ hy)⟩
/-- it may be compared; its depth is at most k -/
structure Sh (k : Nat) (d : PyData) : Prop where
  n : nb d = true
  c : d.canLay0 = true
  d : d.depth ≤ k
theorem Sh.shaped {k : Nat} {d : PyData} (h : Sh k d) (hk : k ≤ 64) : SeqAt.shaped d = true := by
  unfold SeqAt.shaped
  rw [h.c, decide_eq_true (Nat.le_trans h.d hk)]
  rfl
theorem Sh.int {k : Nat} (i : Int) : Sh k (.int i) := ⟨rfl, rfl, Nat.zero_le _⟩
theorem Sh.str {k : Nat} {x : Str} (h : PyData.strOk x = true) : Sh k (.str x) := ⟨rfl, by rw [PyData.canLay0]; exact h, Nat.zero_le _⟩
theorem lay_of {xs : List PyData} (h : ∀ x ∈ xs, x.canLay0 = true) : PyData.canLayAll0 xs = true := by
  induction xs with
  | nil => rfl
  | cons x xs ih =>
    rw [PyData.canLayAll0, Bool.and_eq_true]
    exact ⟨h x List.mem_cons_self, ih fun y hy => h y (List.mem_cons_of_mem _ hy)⟩
theorem depth_of {xs : List PyData} {k : Nat} (h : ∀ x ∈ xs, x.depth ≤ k) : PyData.depthAll xs ≤ k := by
  induction xs with
  | nil => exact Nat.zero_le _
  | cons x xs ih =>
    rw [PyData.depthAll]
    exact Nat.max_le.mpr ⟨h x List.mem_cons_self, ih fun y hy => h y (List.mem_cons_of_mem _ hy)⟩
theorem Sh.tup {k : Nat} {xs : List PyData} (h : ∀ x ∈ xs, Sh k x) : Sh (k + 1) (.tuple xs) :=
  ⟨by rw [nb]; exact nbAll_of fun x hx => (h x hx).n, by rw [PyData.canLay0]; exact lay_of fun x hx => (h x hx).c, by rw [PyData.depth]; exact Nat.succ_le_succ (depth_of fun x hx => (h x hx).d)⟩
theorem Sh.lst {k : Nat} {xs : List PyData} (h : ∀ x ∈ xs, Sh k x) : Sh (k + 1) (.list xs) :=
  ⟨by rw [nb]; exact nbAll_of fun x hx => (h x hx).n, by rw [PyData.canLay0]; exact lay_of fun x hx => (h x hx).c, by rw [PyData.depth]; exact Nat.succ_le_succ (depth_of fun x hx => (h x hx).d)⟩
theorem Sh.mono {j k : Nat} {d : PyData} (h : Sh j d) (hk : j ≤ k) : Sh k d := ⟨h.n, h.c, Nat.le_trans h.d hk⟩
theorem Sh.cons {k : Nat} {x : PyData} {xs : List PyData} (h : Sh k x) (t : ∀ y ∈ xs, Sh k y) : ∀ y ∈ x :: xs, Sh k y := fun y hy => by
  rcases List.mem_cons.mp hy with e | e
  · rw [e]; exact h
  · exact t y e
theorem Sh.nil {k : Nat} : ∀ y ∈ ([] : List PyData), Sh k y := fun _ h => nomatch h
theorem Sh.ints {k : Nat} {l : List Int} : ∀ y ∈ l.map PyData.int, Sh k y := fun y hy => by
  obtain ⟨i, _, e⟩ := List.mem_map.mp hy
  rw [← e]
  exact .int i
open L2
/-- what stands at the values -/
theorem all_map {K : PySem.W.Frag} {H : Hp} {α : Type} {f : α → V} {g : α → PyData} {xs : List α} (h : ∀ x ∈ xs, Dp K H (f x) (g x)) : DpAll K H (xs.map f) (xs.map g) := by
  induction xs with
  | nil => exact .nil
  | cons x xs ih => exact .cons (h x List.mem_cons_self) (ih fun y hy => h y (List.mem_cons_of_mem _ hy))
theorem all_ints {K : PySem.W.Frag} {H : Hp} {l : List Int} : DpAll K H (l.map V.int) (l.map PyData.int) := all_map fun x _ => .int x
mutual
theorem dp_same {K : PySem.W.Frag} {H H' : Hp} (s : Same H H') : ∀ (v : V) (d : PyData), Dp K H v d → Dp K H' v d
  | _, _, .non => .non
  | _, _, .bl b => .bl b
  | _, _, .int b => .int b
  | _, _, .str b => .str b
  | _, _, .lst q h => .lst (s.seq q) (dpAll_same s _ _ h)
  | _, _, .tup q h => .tup (R.Same.sqt s q) (dpAll_same s _ _ h)
theorem dpAll_same {K : PySem.W.Frag} {H H' : Hp} (s : Same H H') : ∀ (v : List V) (d : List PyData), DpAll K H v d → DpAll K H' v d
  | _, _, .nil => .nil
  | _, _, .cons a b => .cons (dp_same s _ _ a) (dpAll_same s _ _ b)
end
/-- a == b, a != b of data without truths -/
theorem r_eqD {K : PySem.W.Frag} {H : Hp} {Q : VK} {x y : V} {d e : PyData} {k j : Nat} {p : Prop} [Decidable p] (hx : Dp K H x d) (hy : Dp K H y e) (sd : Sh k d) (se : Sh j e) (hk : k ≤ 64) (hj : j ≤ 64) (h : d = e ↔ p) (q : Q (.bl (decide p)) H) : rEqD K x y H Q :=
  ⟨d, e, hx, hy, sd.shaped hk, se.shaped hj, by rw [eqv_dec sd.n se.n h]; exact q⟩
theorem r_neD {K : PySem.W.Frag} {H : Hp} {Q : VK} {x y : V} {d e : PyData} {k j : Nat} {p : Prop} [Decidable p] (hx : Dp K H x d) (hy : Dp K H y e) (sd : Sh k d) (se : Sh j e) (hk : k ≤ 64) (hj : j ≤ 64) (h : d = e ↔ p) (q : Q (.bl (!decide p)) H) : rNeD K x y H Q :=
  ⟨d, e, hx, hy, sd.shaped hk, se.shaped hj, by rw [eqv_dec sd.n se.n h]; exact q⟩
end D
end
section
/-! the machine: its state as plain data, and what of it stands in the heap -/
namespace MM
open PySem PySem.Spec PyProof.Rows L2
/-! ### plain data -/
inductive Cond where
  | ready | running (c : Nat) | sleeping (c : Nat) (u : Int) | asking | waiting (t : Int) | ended (k : Int)
def condV : Cond → List V
  | .ready => [.str "ready"]
  | .running c => [.str "running", .int (c : Int)]
  | .sleeping c u => [.str "sleeping", .int (c : Int), .int u]
  | .asking => [.str "asking"]
  | .waiting t => [.str "waiting", .int t]
  | .ended k => [.str "ended", .int k]
structure Vw where
  kind : Str
  cpu : Int
  time : Int
  pid : Int
  tid : Int
  at' : Int
  args : List Int
  regs : List Int
  mem : List Int
structure Th where
  pid : Nat
  pc : Int
  regs : List Int
  cond : Cond
  call : Int
  callAt : Int
structure Mm where
  cells : List Int
  kept : List (Int × Int)
structure MS where
  mem : List Mm
  rates : List Int
  ths : List Th
  ready : List Nat
  times : List Int
  run : List Int
  dev : Int
  reqs : List (Nat × Int × Int)
  cpu : Nat
  views : List Vw
/-! ### places -/
inductive Tg where
  | brd | thsL | memL | rdyL | timL | runL | reqL | vwsL | thr (i : Nat) | rgs (i : Nat) | mem (i : Nat) | cls (i : Nat) | kpt (i : Nat)
  deriving DecidableEq
def dom (kd : Bool) (nt nm : Nat) : Tg → Prop
  | .thr i => i < nt
  | .rgs i => i < nt
  | .mem i => i < nm
  | .cls i => i < nm
  | .kpt i => kd = true ∧ i < nm
  | _ => True
theorem dom.mono {kd : Bool} {nt nt' nm : Nat} {t : Tg} (h : nt ≤ nt') (d : dom kd nt nm t) : dom kd nt' nm t := by
  cases t <;> first | exact d | exact Nat.lt_of_lt_of_le d h
/-- what the fields and lists hold beside the plain data -/
structure Gh where
  dB : Addr
  dT : Nat → Addr
  dM : Nat → Addr
  cv : Nat → Addr
  rq : List Addr
  vw : List Addr
  rt : Addr
structure Cl where
  kd : Bool
  CB : Addr
  CT : Addr
  CM : Addr
def fsB (ad : Tg → Addr) (rt : Addr) (dev : Int) (cpu : Nat) : List (Str × V) :=
  [("memories", .ref (ad .memL)), ("rates", .ref rt), ("threads", .ref (ad .thsL)), ("ready", .ref (ad .rdyL)), ("times", .ref (ad .timL)), ("running", .ref (ad .runL)), ("device_value", .int dev), ("requests", .ref (ad .reqL)), ("cpu", .int (cpu : Int)), ("views", .ref (ad .vwsL))]
def fsT (rg : Addr) (c : Addr) (t : Th) : List (Str × V) :=
  [("pid", .int (t.pid : Int)), ("pc", .int t.pc), ("regs", .ref rg), ("condition", .ref c), ("call", .int t.call), ("call_at", .int t.callAt)]
def fsM (kd : Bool) (cl kp : Addr) : List (Str × V) := if kd then [("cells", .ref cl), ("kept", .ref kp)] else [("cells", .ref cl)]
def keptV (k : List (Int × Int)) : List (Key × V) := k.map fun p => (.inl p.1, .int p.2)
def cont (c : Cl) (ad : Tg → Addr) (g : Gh) (S : MS) : Tg → Option HO
  | .brd => some (.ins c.CB g.dB (fsB ad g.rt S.dev S.cpu))
  | .thsL => some (.lst ((List.range S.ths.length).map fun i => .ref (ad (.thr i))))
  | .memL => some (.lst ((List.range S.mem.length).map fun i => .ref (ad (.mem i))))
  | .rdyL => some (.lst (S.ready.map fun i : Nat => V.int (i : Int)))
  | .timL => some (.lst (S.times.map V.int))
  | .runL => some (.lst (S.run.map V.int))
  | .reqL => some (.lst (g.rq.map V.ref))
  | .vwsL => some (.lst (g.vw.map V.ref))
  | .thr i => S.ths[i]?.map fun t => .ins c.CT (g.dT i) (fsT (ad (.rgs i)) (g.cv i) t)
  | .rgs i => S.ths[i]?.map fun t => .lst (t.regs.map V.int)
  | .mem i => S.mem[i]?.map fun _ => .ins c.CM (g.dM i) (fsM c.kd (ad (.cls i)) (ad (.kpt i)))
  | .cls i => S.mem[i]?.map fun m => .lst (m.cells.map V.int)
  | .kpt i => if c.kd then S.mem[i]?.map fun m => .dK (keptV m.kept) else none
/-- a view's tuples -/
def VwAt (H : Hp) (a : Addr) (w : Vw) : Prop := ∃ e r m g, H a = some (.tup [.ref e, .ref r, .ref m]) ∧ H e = some (.tup [.str w.kind, .int w.cpu, .int w.time, .int w.pid, .int w.tid, .int w.at', .ref g]) ∧
  H g = some (.tup (w.args.map V.int)) ∧ H r = some (.tup (w.regs.map V.int)) ∧ H m = some (.tup (w.mem.map V.int))
def RqAt (H : Hp) (a : Addr) (q : Nat × Int × Int) : Prop := H a = some (.tup [.int (q.1 : Int), .int q.2.1, .int q.2.2])
/-- pairwise -/
inductive All2 {α β : Type} (R : α → β → Prop) : List α → List β → Prop
  | nil : All2 R [] []
  | cons {a b as bs} : R a b → All2 R as bs → All2 R (a :: as) (b :: bs)
theorem All2.length {α β : Type} {R : α → β → Prop} : ∀ {as : List α} {bs : List β}, All2 R as bs → as.length = bs.length
  | _, _, .nil => rfl
  | _, _, .cons _ t => congrArg (· + 1) t.length
theorem All2.imp {α β : Type} {R R' : α → β → Prop} (h : ∀ a b, R a b → R' a b) : ∀ {as : List α} {bs : List β}, All2 R as bs → All2 R' as bs
  | _, _, .nil => .nil
  | _, _, .cons r t => .cons (h _ _ r) (t.imp h)
theorem All2.snoc {α β : Type} {R : α → β → Prop} {a : α} {b : β} (r : R a b) : ∀ {as : List α} {bs : List β}, All2 R as bs → All2 R (as ++ [a]) (bs ++ [b])
  | _, _, .nil => .cons r .nil
  | _, _, .cons r1 t => .cons r1 (t.snoc r)
theorem All2.get {α β : Type} {R : α → β → Prop} : ∀ {as : List α} {bs : List β} {i : Nat} {b : β}, All2 R as bs → bs[i]? = some b → ∃ a, as[i]? = some a ∧ R a b
  | _, _, 0, _, .cons r _, h => ⟨_, rfl, by rw [← Option.some.inj h]; exact r⟩
  | _, _, i + 1, b, .cons _ t, h => t.get (i := i) h
theorem All2.app {α β : Type} {R : α → β → Prop} : ∀ {as as' : List α} {bs bs' : List β}, All2 R as bs → All2 R as' bs' → All2 R (as ++ as') (bs ++ bs')
  | _, _, _, _, .nil, h => h
  | _, _, _, _, .cons r t, h => .cons r (t.app h)
/-- tuples stay -/
def KeepT (H H' : Hp) : Prop := ∀ b xs, H b = some (.tup xs) → H' b = some (.tup xs)
theorem KeepT.refl (H : Hp) : KeepT H H := fun _ _ h => h
theorem KeepT.trans {H H1 H2 : Hp} (a : KeepT H H1) (b : KeepT H1 H2) : KeepT H H2 := fun c xs h => b c xs (a c xs h)
theorem KeepT.of {H H' : Hp} (s : Same H H') : KeepT H H' := fun b _ h => s b _ h
theorem KeepT.upd {H : Hp} {a : Addr} {o o' : HO} (h : H a = some o) (ht : ∀ xs, o ≠ .tup xs) : KeepT H (upd H a o') := fun b xs e => by
  rw [upd_ne (fun z => by rw [z, h] at e; exact ht xs (Option.some.inj e))]
  exact e
theorem VwAt.keep {H H' : Hp} (k : KeepT H H') {a : Addr} {w : Vw} (h : VwAt H a w) : VwAt H' a w := by
  obtain ⟨e, r, m, g, h1, h2, h3, h4, h5⟩ := h
  exact ⟨e, r, m, g, k _ _ h1, k _ _ h2, k _ _ h3, k _ _ h4, k _ _ h5⟩
/-- the state S stands in H at the places ad -/
structure Bd (c : Cl) (ad : Tg → Addr) (S : MS) (H : Hp) : Prop where
  ex : ∃ g : Gh, (∀ t o, cont c ad g S t = some o → H (ad t) = some o) ∧ (∀ i t, S.ths[i]? = some t → H (g.cv i) = some (.tup (condV t.cond))) ∧
    All2 (RqAt H) g.rq S.reqs ∧ All2 (VwAt H) g.vw S.views ∧ H g.rt = some (.tup (S.rates.map V.int))
  inj : ∀ t u, dom c.kd S.ths.length S.mem.length t → dom c.kd S.ths.length S.mem.length u → ad t = ad u → t = u
  out : ∀ t, ¬ dom c.kd S.ths.length S.mem.length t → ad t = ad .brd
theorem dom_some {c : Cl} {ad : Tg → Addr} {g : Gh} {S : MS} {t : Tg} {o : HO} (h : cont c ad g S t = some o) : dom c.kd S.ths.length S.mem.length t := by
  cases t with
  | thr i =>
    cases e : S.ths[i]? with
    | none => simp [cont, e] at h
    | some x => exact (List.getElem?_eq_some_iff.mp e).1
  | rgs i =>
    cases e : S.ths[i]? with
    | none => simp [cont, e] at h
    | some x => exact (List.getElem?_eq_some_iff.mp e).1
  | mem i =>
    cases e : S.mem[i]? with
    | none => simp [cont, e] at h
    | some x => exact (List.getElem?_eq_some_iff.mp e).1
  | cls i =>
    cases e : S.mem[i]? with
    | none => simp [cont, e] at h
    | some x => exact (List.getElem?_eq_some_iff.mp e).1
  | kpt i =>
    cases hk : c.kd with
    | false => simp [cont, hk] at h
    | true =>
      cases e : S.mem[i]? with
      | none => simp [cont, e] at h
      | some x => exact ⟨rfl, (List.getElem?_eq_some_iff.mp e).1⟩
  | _ => trivial
theorem not_tup {c : Cl} {ad : Tg → Addr} {g : Gh} {S : MS} {t : Tg} {o : HO} (h : cont c ad g S t = some o) : ∀ xs, o ≠ .tup xs := by
  intro xs e
  subst e
  cases t <;> simp [cont] at h
/-- how a step moves the places and the heap -/
structure Mvd (kd : Bool) (nt nm : Nat) (ad ad' : Tg → Addr) (H H' : Hp) : Prop where
  fr : ∀ b o, H b = some o → (∀ t, ad t ≠ b) → H' b = some o
  nw : ∀ t, (∃ u, ad u = ad' t) ∨ H (ad' t) = none
  kt : KeepT H H'
  ag : ∀ t, t ≠ .vwsL → dom kd nt nm t → ad' t = ad t
theorem Mvd.refl {kd : Bool} {nt nm : Nat} {ad : Tg → Addr} {H : Hp} : Mvd kd nt nm ad ad H H := ⟨fun _ _ h _ => h, fun t => .inl ⟨t, rfl⟩, KeepT.refl H, fun _ _ _ => rfl⟩
theorem Mvd.of {kd : Bool} {nt nm : Nat} {ad : Tg → Addr} {H H' : Hp} (s : Same H H') : Mvd kd nt nm ad ad H H' := ⟨fun b o h _ => s b o h, fun t => .inl ⟨t, rfl⟩, KeepT.of s, fun _ _ _ => rfl⟩
theorem Mvd.out {kd : Bool} {nt nm : Nat} {ad ad' : Tg → Addr} {H H' : Hp} (m : Mvd kd nt nm ad ad' H H') {b : Addr} {o : HO} (h : H b = some o) (hb : ∀ t, ad t ≠ b) : ∀ t, ad' t ≠ b := fun t e => by
  rcases m.nw t with ⟨u, hu⟩ | hn
  · exact hb u (hu.trans e)
  · rw [e, h] at hn
    cases hn
theorem Mvd.trans {kd : Bool} {nt nt' nm : Nat} {a1 a2 a3 : Tg → Addr} {H H1 H2 : Hp} (hn : nt ≤ nt') (m : Mvd kd nt nm a1 a2 H H1) (m' : Mvd kd nt' nm a2 a3 H1 H2) : Mvd kd nt nm a1 a3 H H2 where
  fr b o h hb := m'.fr b o (m.fr b o h hb) (m.out h hb)
  nw t := by
    rcases m'.nw t with ⟨u, hu⟩ | hn
    · rcases m.nw u with ⟨u', hu'⟩ | hn
      · exact .inl ⟨u', hu'.trans hu⟩
      · exact .inr (hu ▸ hn)
    · by_cases z : ∃ u, a1 u = a3 t
      · exact .inl z
      · refine .inr ?_
        cases e : H (a3 t) with
        | none => rfl
        | some o =>
          rw [m.fr _ _ e (fun u hu => z ⟨u, hu⟩)] at hn
          cases hn
  kt := m.kt.trans m'.kt
  ag t ht d := (m'.ag t ht (d.mono hn)).trans (m.ag t ht d)
section
variable {c : Cl} {ad : Tg → Addr} {S : MS} {H H' : Hp} {K : PySem.W.Frag}
theorem Bd.same (B : Bd c ad S H) (s : Same H H') : Bd c ad S H' := by
  obtain ⟨⟨g, h1, h2, h3, h4, h5⟩, inj, od⟩ := B
  exact ⟨⟨g, fun t o e => s _ _ (h1 t o e), fun i t e => s _ _ (h2 i t e), h3.imp fun _ _ z => s _ _ z, h4.imp fun _ _ z => z.keep (KeepT.of s), s _ _ h5⟩, inj, od⟩
/-- one place gets another thing -/
theorem Bd.put {g g' : Gh} {S' : MS} {t : Tg} {o o' : HO} (h1 : ∀ t o, cont c ad g S t = some o → H (ad t) = some o) (inj : ∀ t u, dom c.kd S.ths.length S.mem.length t → dom c.kd S.ths.length S.mem.length u → ad t = ad u → t = u)
    (ht : cont c ad g S t = some o) (e1 : cont c ad g' S' t = some o') (e2 : ∀ u, u ≠ t → cont c ad g' S' u = cont c ad g S u) : ∀ u o, cont c ad g' S' u = some o → upd H (ad t) o' (ad u) = some o := by
  intro u ou hu
  by_cases z : u = t
  · subst z
    rw [upd_same, ← e1, hu]
  · rw [e2 u z] at hu
    rw [upd_ne fun q => z (inj _ _ (dom_some hu) (dom_some ht) q)]
    exact h1 u ou hu
theorem Mvd.put {nt : Nat} {nm : Nat} {t : Tg} {o o' : HO} (h : H (ad t) = some o) (hn : ∀ xs, o ≠ .tup xs) : Mvd c.kd nt nm ad ad H (upd H (ad t) o') :=
  ⟨fun b u hb q => by rw [upd_ne (q t).symm]; exact hb, fun t => .inl ⟨t, rfl⟩, KeepT.upd h hn, fun _ _ _ => rfl⟩
/-! ### one place changed -/
def MS.setTh (S : MS) (i : Nat) (t : Th) : MS := { S with ths := S.ths.set i t }
def MS.setMm (S : MS) (i : Nat) (m : Mm) : MS := { S with mem := S.mem.set i m }
theorem Bd.thr (B : Bd c ad S H) {i : Nat} {t : Th} (ht : S.ths[i]? = some t) : ∃ dx c0, H (ad (.thr i)) = some (.ins c.CT dx (fsT (ad (.rgs i)) c0 t)) ∧ H c0 = some (.tup (condV t.cond)) ∧
    ∀ (t' : Th) (c1 : Addr), t'.regs = t.regs → H c1 = some (.tup (condV t'.cond)) → Bd c ad (S.setTh i t') (upd H (ad (.thr i)) (.ins c.CT dx (fsT (ad (.rgs i)) c1 t'))) := by
  obtain ⟨⟨g, h1, h2, h3, h4, h5⟩, inj, od⟩ := B
  have e1 : cont c ad g S (.thr i) = some (.ins c.CT (g.dT i) (fsT (ad (.rgs i)) (g.cv i) t)) := by simp [cont, ht]
  refine ⟨g.dT i, g.cv i, h1 _ _ e1, h2 i t ht, fun t' c1 hr hc => ?_⟩
  have hi : i < S.ths.length := (List.getElem?_eq_some_iff.mp ht).1
  have kt : KeepT H (upd H (ad (.thr i)) (.ins c.CT (g.dT i) (fsT (ad (.rgs i)) c1 t'))) := KeepT.upd (h1 _ _ e1) (not_tup e1)
  refine ⟨⟨{ g with cv := fun j => if j = i then c1 else g.cv j }, ?_, ?_, h3.imp fun _ _ z => kt _ _ z, h4.imp fun _ _ z => z.keep kt, kt _ _ h5⟩, ?_, ?_⟩
  · refine Bd.put (g' := { g with cv := fun j => if j = i then c1 else g.cv j }) h1 inj e1 ?_ ?_
    · show (((S.ths.set i t')[i]?).map fun t => HO.ins c.CT (g.dT i) (fsT (ad (.rgs i)) (if i = i then c1 else g.cv i) t)) = _
      rw [List.getElem?_set_self hi, if_pos rfl]
      rfl
    · intro u hu
      cases u with
      | thr j =>
        have hj : i ≠ j := fun z => hu (by rw [z])
        show (((S.ths.set i t')[j]?).map fun t => HO.ins c.CT (g.dT j) (fsT (ad (.rgs j)) (if j = i then c1 else g.cv j) t)) = _
        rw [List.getElem?_set_ne hj, if_neg hj.symm]
        rfl
      | rgs j =>
        show (((S.ths.set i t')[j]?).map fun t => HO.lst (t.regs.map V.int)) = ((S.ths[j]?).map fun t => HO.lst (t.regs.map V.int))
        by_cases hj : i = j
        · subst hj
          rw [List.getElem?_set_self hi, ht]
          show some (HO.lst (t'.regs.map V.int)) = some (HO.lst (t.regs.map V.int))
          rw [hr]
        · rw [List.getElem?_set_ne hj]
      | thsL =>
        show some (HO.lst ((List.range (S.ths.set i t').length).map fun i => V.ref (ad (.thr i)))) = _
        rw [List.length_set]
        rfl
      | _ => rfl
  · intro j x hx
    by_cases hj : i = j
    · subst hj
      have hx : (S.ths.set i t')[i]? = some x := hx
      rw [List.getElem?_set_self hi] at hx
      rw [← Option.some.inj hx]
      show upd H _ _ (if i = i then c1 else g.cv i) = _
      rw [if_pos rfl]
      exact kt _ _ hc
    · have hx : (S.ths.set i t')[j]? = some x := hx
      rw [List.getElem?_set_ne hj] at hx
      show upd H _ _ (if j = i then c1 else g.cv j) = _
      rw [if_neg (fun z => hj z.symm)]
      exact kt _ _ (h2 j x hx)
  · show ∀ t u, dom c.kd (S.ths.set i t').length S.mem.length t → dom c.kd (S.ths.set i t').length S.mem.length u → _
    rw [List.length_set]
    exact inj
  · show ∀ t, ¬ dom c.kd (S.ths.set i t').length S.mem.length t → _
    rw [List.length_set]
    exact od
theorem Bd.rgs (B : Bd c ad S H) {i : Nat} {t : Th} (ht : S.ths[i]? = some t) : H (ad (.rgs i)) = some (.lst (t.regs.map V.int)) ∧
    ∀ rs : List Int, Bd c ad (S.setTh i { t with regs := rs }) (upd H (ad (.rgs i)) (.lst (rs.map V.int))) := by
  obtain ⟨⟨g, h1, h2, h3, h4, h5⟩, inj, od⟩ := B
  have e1 : cont c ad g S (.rgs i) = some (.lst (t.regs.map V.int)) := by simp [cont, ht]
  refine ⟨h1 _ _ e1, fun rs => ?_⟩
  have hi : i < S.ths.length := (List.getElem?_eq_some_iff.mp ht).1
  have kt : KeepT H (upd H (ad (.rgs i)) (.lst (rs.map V.int))) := KeepT.upd (h1 _ _ e1) (not_tup e1)
  refine ⟨⟨g, ?_, ?_, h3.imp fun _ _ z => kt _ _ z, h4.imp fun _ _ z => z.keep kt, kt _ _ h5⟩, ?_, ?_⟩
  · refine Bd.put (g' := g) h1 inj e1 ?_ ?_
    · show (((S.ths.set i { t with regs := rs })[i]?).map fun t => HO.lst (t.regs.map V.int)) = _
      rw [List.getElem?_set_self hi]
      rfl
    · intro u hu
      cases u with
      | rgs j =>
        have hj : i ≠ j := fun z => hu (by rw [z])
        show (((S.ths.set i { t with regs := rs })[j]?).map fun t => HO.lst (t.regs.map V.int)) = _
        rw [List.getElem?_set_ne hj]
        rfl
      | thr j =>
        show (((S.ths.set i { t with regs := rs })[j]?).map fun t => HO.ins c.CT (g.dT j) (fsT (ad (.rgs j)) (g.cv j) t)) = ((S.ths[j]?).map fun t => HO.ins c.CT (g.dT j) (fsT (ad (.rgs j)) (g.cv j) t))
        by_cases hj : i = j
        · subst hj
          rw [List.getElem?_set_self hi, ht]
          rfl
        · rw [List.getElem?_set_ne hj]
      | thsL =>
        show some (HO.lst ((List.range (S.ths.set i { t with regs := rs }).length).map fun i => V.ref (ad (.thr i)))) = _
        rw [List.length_set]
        rfl
      | _ => rfl
  · intro j x hx
    by_cases hj : i = j
    · subst hj
      have hx : (S.ths.set i { t with regs := rs })[i]? = some x := hx
      rw [List.getElem?_set_self hi] at hx
      rw [← Option.some.inj hx]
      exact kt _ _ (h2 i t ht)
    · have hx : (S.ths.set i { t with regs := rs })[j]? = some x := hx
      rw [List.getElem?_set_ne hj] at hx
      exact kt _ _ (h2 j x hx)
  · show ∀ a b, dom c.kd (S.ths.set i { t with regs := rs }).length S.mem.length a → dom c.kd (S.ths.set i { t with regs := rs }).length S.mem.length b → _
    rw [List.length_set]
    exact inj
  · show ∀ a, ¬ dom c.kd (S.ths.set i { t with regs := rs }).length S.mem.length a → _
    rw [List.length_set]
    exact od
theorem Bd.cls (B : Bd c ad S H) {i : Nat} {m : Mm} (hm : S.mem[i]? = some m) : H (ad (.cls i)) = some (.lst (m.cells.map V.int)) ∧
    ∀ rs : List Int, Bd c ad (S.setMm i { m with cells := rs }) (upd H (ad (.cls i)) (.lst (rs.map V.int))) := by
  obtain ⟨⟨g, h1, h2, h3, h4, h5⟩, inj, od⟩ := B
  have e1 : cont c ad g S (.cls i) = some (.lst (m.cells.map V.int)) := by simp [cont, hm]
  refine ⟨h1 _ _ e1, fun rs => ?_⟩
  have hi : i < S.mem.length := (List.getElem?_eq_some_iff.mp hm).1
  have kt : KeepT H (upd H (ad (.cls i)) (.lst (rs.map V.int))) := KeepT.upd (h1 _ _ e1) (not_tup e1)
  refine ⟨⟨g, ?_, fun j x hx => kt _ _ (h2 j x hx), h3.imp fun _ _ z => kt _ _ z, h4.imp fun _ _ z => z.keep kt, kt _ _ h5⟩, ?_, ?_⟩
  · refine Bd.put (g' := g) h1 inj e1 ?_ ?_
    · show (((S.mem.set i { m with cells := rs })[i]?).map fun m => HO.lst (m.cells.map V.int)) = _
      rw [List.getElem?_set_self hi]
      rfl
    · intro u hu
      cases u with
      | cls j =>
        have hj : i ≠ j := fun z => hu (by rw [z])
        show (((S.mem.set i { m with cells := rs })[j]?).map fun m => HO.lst (m.cells.map V.int)) = _
        rw [List.getElem?_set_ne hj]
        rfl
      | mem j =>
        show (((S.mem.set i { m with cells := rs })[j]?).map fun _ => HO.ins c.CM (g.dM j) (fsM c.kd (ad (.cls j)) (ad (.kpt j)))) = ((S.mem[j]?).map fun _ => HO.ins c.CM (g.dM j) (fsM c.kd (ad (.cls j)) (ad (.kpt j))))
        by_cases hj : i = j
        · subst hj
          rw [List.getElem?_set_self hi, hm]
          rfl
        · rw [List.getElem?_set_ne hj]
      | kpt j =>
        show (if c.kd then ((S.mem.set i { m with cells := rs })[j]?).map fun m => HO.dK (keptV m.kept) else none) = (if c.kd then (S.mem[j]?).map fun m => HO.dK (keptV m.kept) else none)
        by_cases hj : i = j
        · subst hj
          rw [List.getElem?_set_self hi, hm]
          rfl
        · rw [List.getElem?_set_ne hj]
      | memL =>
        show some (HO.lst ((List.range (S.mem.set i { m with cells := rs }).length).map fun i => V.ref (ad (.mem i)))) = _
        rw [List.length_set]
        rfl
      | _ => rfl
  · show ∀ t u, dom c.kd S.ths.length (S.mem.set i { m with cells := rs }).length t → dom c.kd S.ths.length (S.mem.set i { m with cells := rs }).length u → _
    rw [List.length_set]
    exact inj
  · show ∀ t, ¬ dom c.kd S.ths.length (S.mem.set i { m with cells := rs }).length t → _
    rw [List.length_set]
    exact od
/-- the board's own fields and lists -/
theorem Bd.brd (B : Bd c ad S H) : ∃ dx rt, H (ad .brd) = some (.ins c.CB dx (fsB ad rt S.dev S.cpu)) ∧ H rt = some (.tup (S.rates.map V.int)) ∧
    ∀ (d : Int) (k : Nat), Bd c ad { S with dev := d, cpu := k } (upd H (ad .brd) (.ins c.CB dx (fsB ad rt d k))) := by
  obtain ⟨⟨g, h1, h2, h3, h4, h5⟩, inj, od⟩ := B
  have e1 : cont c ad g S .brd = some (.ins c.CB g.dB (fsB ad g.rt S.dev S.cpu)) := rfl
  refine ⟨g.dB, g.rt, h1 _ _ e1, h5, fun d k => ?_⟩
  have kt : KeepT H (upd H (ad .brd) (.ins c.CB g.dB (fsB ad g.rt d k))) := KeepT.upd (h1 _ _ e1) (not_tup e1)
  refine ⟨⟨g, Bd.put (g' := g) (S' := { S with dev := d, cpu := k }) h1 inj e1 rfl ?_, fun j x hx => kt _ _ (h2 j x hx), h3.imp fun _ _ z => kt _ _ z, h4.imp fun _ _ z => z.keep kt, kt _ _ h5⟩, inj, od⟩
  intro u hu
  cases u <;> first | rfl | exact absurd rfl hu
theorem Bd.rdy (B : Bd c ad S H) : H (ad .rdyL) = some (.lst (S.ready.map fun i : Nat => V.int (i : Int))) ∧ ∀ l : List Nat, Bd c ad { S with ready := l } (upd H (ad .rdyL) (.lst (l.map fun i : Nat => V.int (i : Int)))) := by
  obtain ⟨⟨g, h1, h2, h3, h4, h5⟩, inj, od⟩ := B
  have e1 : cont c ad g S .rdyL = some (.lst (S.ready.map fun i : Nat => V.int (i : Int))) := rfl
  refine ⟨h1 _ _ e1, fun l => ?_⟩
  have kt : KeepT H (upd H (ad .rdyL) (.lst (l.map fun i : Nat => V.int (i : Int)))) := KeepT.upd (h1 _ _ e1) (not_tup e1)
  refine ⟨⟨g, Bd.put (g' := g) (S' := { S with ready := l }) h1 inj e1 rfl ?_, fun j x hx => kt _ _ (h2 j x hx), h3.imp fun _ _ z => kt _ _ z, h4.imp fun _ _ z => z.keep kt, kt _ _ h5⟩, inj, od⟩
  intro u hu
  cases u <;> first | rfl | exact absurd rfl hu
theorem Bd.tim (B : Bd c ad S H) : H (ad .timL) = some (.lst (S.times.map V.int)) ∧ ∀ l : List Int, Bd c ad { S with times := l } (upd H (ad .timL) (.lst (l.map V.int))) := by
  obtain ⟨⟨g, h1, h2, h3, h4, h5⟩, inj, od⟩ := B
  have e1 : cont c ad g S .timL = some (.lst (S.times.map V.int)) := rfl
  refine ⟨h1 _ _ e1, fun l => ?_⟩
  have kt : KeepT H (upd H (ad .timL) (.lst (l.map V.int))) := KeepT.upd (h1 _ _ e1) (not_tup e1)
  refine ⟨⟨g, Bd.put (g' := g) (S' := { S with times := l }) h1 inj e1 rfl ?_, fun j x hx => kt _ _ (h2 j x hx), h3.imp fun _ _ z => kt _ _ z, h4.imp fun _ _ z => z.keep kt, kt _ _ h5⟩, inj, od⟩
  intro u hu
  cases u <;> first | rfl | exact absurd rfl hu
theorem Bd.rn (B : Bd c ad S H) : H (ad .runL) = some (.lst (S.run.map V.int)) ∧ ∀ l : List Int, Bd c ad { S with run := l } (upd H (ad .runL) (.lst (l.map V.int))) := by
  obtain ⟨⟨g, h1, h2, h3, h4, h5⟩, inj, od⟩ := B
  have e1 : cont c ad g S .runL = some (.lst (S.run.map V.int)) := rfl
  refine ⟨h1 _ _ e1, fun l => ?_⟩
  have kt : KeepT H (upd H (ad .runL) (.lst (l.map V.int))) := KeepT.upd (h1 _ _ e1) (not_tup e1)
  refine ⟨⟨g, Bd.put (g' := g) (S' := { S with run := l }) h1 inj e1 rfl ?_, fun j x hx => kt _ _ (h2 j x hx), h3.imp fun _ _ z => kt _ _ z, h4.imp fun _ _ z => z.keep kt, kt _ _ h5⟩, inj, od⟩
  intro u hu
  cases u <;> first | rfl | exact absurd rfl hu
theorem Bd.req (B : Bd c ad S H) : ∃ rq, H (ad .reqL) = some (.lst (rq.map V.ref)) ∧ All2 (RqAt H) rq S.reqs ∧ ∀ (l : List Addr) (qs : List (Nat × Int × Int)), All2 (RqAt H) l qs → Bd c ad { S with reqs := qs } (upd H (ad .reqL) (.lst (l.map V.ref))) := by
  obtain ⟨⟨g, h1, h2, h3, h4, h5⟩, inj, od⟩ := B
  have e1 : cont c ad g S .reqL = some (.lst (g.rq.map V.ref)) := rfl
  refine ⟨g.rq, h1 _ _ e1, h3, fun l qs h3' => ?_⟩
  have kt : KeepT H (upd H (ad .reqL) (.lst (l.map V.ref))) := KeepT.upd (h1 _ _ e1) (not_tup e1)
  refine ⟨⟨{ g with rq := l }, Bd.put (g' := { g with rq := l }) (S' := { S with reqs := qs }) h1 inj e1 rfl ?_, fun j x hx => kt _ _ (h2 j x hx), h3'.imp fun _ _ z => kt _ _ z, h4.imp fun _ _ z => z.keep kt, kt _ _ h5⟩, inj, od⟩
  intro u hu
  cases u <;> first | rfl | exact absurd rfl hu
theorem Bd.vws (B : Bd c ad S H) : ∃ vw, H (ad .vwsL) = some (.lst (vw.map V.ref)) ∧ All2 (VwAt H) vw S.views ∧ ∀ (l : List Addr) (vs : List Vw), All2 (VwAt H) l vs → Bd c ad { S with views := vs } (upd H (ad .vwsL) (.lst (l.map V.ref))) := by
  obtain ⟨⟨g, h1, h2, h3, h4, h5⟩, inj, od⟩ := B
  have e1 : cont c ad g S .vwsL = some (.lst (g.vw.map V.ref)) := rfl
  refine ⟨g.vw, h1 _ _ e1, h4, fun l vs h4' => ?_⟩
  have kt : KeepT H (upd H (ad .vwsL) (.lst (l.map V.ref))) := KeepT.upd (h1 _ _ e1) (not_tup e1)
  refine ⟨⟨{ g with vw := l }, Bd.put (g' := { g with vw := l }) (S' := { S with views := vs }) h1 inj e1 rfl ?_, fun j x hx => kt _ _ (h2 j x hx), h3.imp fun _ _ z => kt _ _ z, h4'.imp fun _ _ z => z.keep kt, kt _ _ h5⟩, inj, od⟩
  intro u hu
  cases u <;> first | rfl | exact absurd rfl hu
theorem Bd.thsAt (B : Bd c ad S H) : H (ad .thsL) = some (.lst ((List.range S.ths.length).map fun i => V.ref (ad (.thr i)))) := by
  obtain ⟨g, h1, _⟩ := B.ex
  exact h1 .thsL _ rfl
theorem Bd.memAt (B : Bd c ad S H) : H (ad .memL) = some (.lst ((List.range S.mem.length).map fun i => V.ref (ad (.mem i)))) := by
  obtain ⟨⟨g, h1, _⟩, _, _⟩ := B
  exact h1 .memL _ rfl
theorem Bd.memI (B : Bd c ad S H) {i : Nat} {m : Mm} (hm : S.mem[i]? = some m) : ∃ dx, H (ad (.mem i)) = some (.ins c.CM dx (fsM c.kd (ad (.cls i)) (ad (.kpt i)))) := by
  obtain ⟨⟨g, h1, _⟩, _, _⟩ := B
  exact ⟨g.dM i, h1 (.mem i) _ (by simp [cont, hm])⟩
end
end MM
end
section
/-! the machine: what its defs do, over plain data; readings over its state -/
namespace MM
open PySem PySem.Spec PyProof.Rows L2
/-! ### rules by value -/
def rGetL (K : PySem.W.Frag) : V → V → Hp → VK → Prop := fun o i H Q => ∃ p xs k v, o = .ref p ∧ i = .int k ∧ SqL K H p xs ∧ 0 ≤ k ∧ xs[k.toNat]? = some v ∧ Q v H
theorem get_list {X : Cx} : PGet X (rGetL X.K) := by
  intro pins s σ H o i ov iv Q I ro ri h
  obtain ⟨p, xs, k, v, rfl, rfl, hq, h0, hv, q⟩ := h
  cases ro
  obtain ⟨t, rfl⟩ := ri
  obtain ⟨its, r, pl, hz⟩ := I.list hq
  obtain ⟨w, ew, rw'⟩ := r.get hv
  have hl := r.length
  have hk : k.toNat < xs.length := (List.getElem?_eq_some_iff.mp hv).1
  have hn : sizeLine < 2 ^ 63 := by decide
  exact wpAny_getItem_list pl.isList h0 (by omega) (by simpa using ew) ⟨v, H, I, rw', q⟩
def rListOf (K : PySem.W.Frag) : List V → Hp → VK → Prop := fun xs H Q => ∃ p ys, xs = [.ref p] ∧ (SqL K H p ys ∨ SqT K H p ys) ∧ ∀ l, H l = none → Q (.ref l) (upd H l (.lst ys))
theorem cListOf {X : Cx} : CallR X (.type "list") (rListOf X.K) := call_list_of
def rTupOf (K : PySem.W.Frag) : List V → Hp → VK → Prop := fun xs H Q => ∃ p ys, xs = [.ref p] ∧ ((SqL K H p ys ∧ ∀ l, H l = none → Q (.ref l) (upd H l (.tup ys))) ∨ (SqT K H p ys ∧ Q (.ref p) H))
theorem cTupOf {X : Cx} : CallR X (.type "tuple") (rTupOf X.K) := call_tuple_of
/-! ### the defs over plain data -/
def dTh : Th := ⟨0, 0, [], .ready, 0, 0⟩
def dMm : Mm := ⟨[], []⟩
def MS.th (S : MS) (i : Nat) : Th := S.ths.getD i dTh
def MS.mm (S : MS) (i : Nat) : Mm := S.mem.getD i dMm
def MS.up (S : MS) (i : Nat) (f : Th → Th) : MS := S.setTh i (f (S.th i))
def Mm.load (m : Mm) (a : Int) : Int := match m.kept.lookup (a % 256) with
  | some b => b
  | none => m.cells.getD (a % 256).toNat 0
def Mm.store (m : Mm) (a b : Int) : Mm := if (m.kept.lookup (a % 256)).isSome then { m with kept := m.kept.map fun p => if p.1 = a % 256 then (p.1, b) else p } else { m with cells := m.cells.set (a % 256).toNat b }
def Mm.img (m : Mm) : List Int := m.kept.foldl (fun cs p => cs.set p.1.toNat p.2) m.cells
def Mm.tells (kd : Bool) (m : Mm) (a : Int) : Bool := if kd then (m.kept.lookup a).isSome else true
def MS.now (S : MS) : Int := S.times.getD S.cpu 0
def tell (S : MS) (kind : Str) (tid : Nat) (at' : Int) (args : List Int) : MS :=
  { S with views := S.views ++ [⟨kind, S.cpu, S.now, (S.th tid).pid, tid, at', args, (S.th tid).regs, (S.mm (S.th tid).pid).img⟩] }
def tellTick (S : MS) : MS := { S with views := S.views ++ [⟨"tick", S.cpu, S.now, -1, -1, -1, [], [0, 0, 0, 0], []⟩] }
def setCond (S : MS) (tid : Nat) (cd : Cond) : MS := S.up tid fun t => { t with cond := cd }
def setReg (S : MS) (tid : Nat) (j : Nat) (v : Int) : MS := S.up tid fun t => { t with regs := t.regs.set j v }
def makeReady (S : MS) (tid : Nat) : MS := { setCond S tid .ready with ready := S.ready ++ [tid] }
def isRun : Cond → Bool
  | .running _ => true
  | _ => false
def isWait (tid : Int) : Cond → Bool
  | .waiting t => decide (t = tid)
  | _ => false
def returnCall (S : MS) (tid : Nat) (res : Int) : MS :=
  let S1 := setReg S tid 0 res
  let S2 := tell S1 "return" tid (S1.th tid).callAt [(S1.th tid).call, res]
  if isRun (S.th tid).cond then S2 else makeReady S2 tid
def endRun (S : MS) (tid : Nat) (cd : Cond) : MS := { setCond S tid cd with run := S.run.set S.cpu (-1) }
def wakeOne (tid : Nat) (code : Int) (S : MS) (o : Nat) : MS := if isWait tid (S.th o).cond then returnCall S o code else S
def endThread (S : MS) (tid : Nat) (at' code : Int) : MS :=
  (List.range S.ths.length).foldl (wakeOne tid code) (endRun (tell S "end" tid at' [code]) tid (.ended code))
def leave (S : MS) (tid : Nat) (cd : Cond) (reason : Int) : MS :=
  let S1 := endRun S tid cd
  tell S1 "off" tid (S1.th tid).pc [reason]
def goLast (S : MS) (tid : Nat) (reason : Int) : MS :=
  let S1 := leave S tid .ready reason
  { S1 with ready := S1.ready ++ [tid] }
def addThread (S : MS) (pid : Nat) (pc first : Int) : MS :=
  { S with ths := S.ths ++ [⟨pid, pc, [first, 0, 0, 0], .ready, 0, 0⟩], ready := S.ready ++ [S.ths.length] }
def condEnded : Cond → Option Int
  | .ended k => some k
  | _ => none
def waitFor (S : MS) (tid : Nat) (wanted : Int) : MS :=
  if wanted ≥ S.ths.length ∨ wanted = tid then returnCall S tid 65535 else
  match condEnded (S.th wanted.toNat).cond with
  | some k => returnCall S tid k
  | none => leave S tid (.waiting wanted) 5
def reg (S : MS) (tid j : Nat) : Int := (S.th tid).regs.getD j 0
def doCall (S0 : MS) (tid : Nat) (number at' : Int) : MS :=
  let S1 := S0.up tid fun t => { t with call := number, callAt := at' }
  let S := tell S1 "entry" tid at' [number, reg S1 tid 0, reg S1 tid 1]
  if number = 0 then endThread S tid at' (reg S tid 0) else
  if number = 1 then goLast (returnCall S tid 0) tid 2 else
  if number = 2 then leave S tid (.sleeping S.cpu (S.now + reg S tid 0)) 3 else
  if number = 3 ∨ number = 4 then leave { S with reqs := S.reqs ++ [(tid, number, reg S tid 0)] } tid .asking 4 else
  if number = 5 then (if 8 ≤ S.ths.length then returnCall S tid 65535 else returnCall (addThread S (S.th tid).pid (reg S tid 0 % 256) (reg S tid 1)) tid S.ths.length) else
  if number = 6 then waitFor S tid (reg S tid 0) else returnCall S tid 65535
def lens : List Int := [1, 3, 2, 2, 2, 2, 2, 2, 3, 3, 2, 2, 1]
def nextPc (rs : List Int) (code x y behind : Int) : Int :=
  if code = 7 ∨ code = 11 then x else
  if code = 12 then rs.getD 3 0 % 256 else
  if (code = 8 ∧ rs.getD (x % 4).toNat 0 = 0) ∨ (code = 9 ∧ rs.getD (x % 4).toNat 0 ≠ 0) then y else behind
def move (S : MS) (tid : Nat) (code x y : Int) : MS :=
  let a := (x / 4 % 4).toNat
  let b := (x % 4).toNat
  let p := (S.th tid).pid
  if code = 1 then setReg S tid b y else
  if code = 2 then setReg S tid a ((reg S tid a + reg S tid b) % 65536) else
  if code = 3 then setReg S tid a ((reg S tid a - reg S tid b) % 65536) else
  if code = 4 then setReg S tid a (reg S tid b) else
  if code = 5 then setReg S tid a ((S.mm p).load (reg S tid b)) else
  if code = 6 then S.setMm p ((S.mm p).store (reg S tid b) (reg S tid a % 256)) else S
def doInsn (kd : Bool) (S0 : MS) (tid : Nat) : MS :=
  let m := S0.mm (S0.th tid).pid
  let at' := (S0.th tid).pc
  let code := m.load at'
  let S := if m.tells kd at' then tell S0 "insn" tid at' [code] else S0
  if 13 ≤ code then endThread (tell S "fault" tid at' [code]) tid at' 65535 else
  let x := m.load (at' + 1)
  let y := m.load (at' + 2)
  let behind := (at' + lens.getD code.toNat 0) % 256
  let S1 := S.up tid fun t => { t with pc := nextPc (S.th tid).regs code x y behind }
  if code = 0 then endThread S1 tid at' 0 else
  if code = 10 then doCall S1 tid x at' else
  if code = 11 then setReg S1 tid 3 behind else move S1 tid code x y
def sleepsTo (cpu : Nat) (now : Int) : Cond → Bool
  | .sleeping c u => decide (c = cpu) && decide (u ≤ now)
  | _ => false
def wakeIf (S : MS) (i : Nat) : MS := if sleepsTo S.cpu S.now (S.th i).cond then returnCall S i 0 else S
def wake (S : MS) : MS := (List.range S.ths.length).foldl wakeIf S
def beginRun (S : MS) (tid : Nat) : MS :=
  let S1 := { setCond S tid (.running S.cpu) with run := S.run.set S.cpu tid }
  tell S1 "on" tid (S1.th tid).pc []
def runs (S : MS) : Int := S.run.getD S.cpu 0
def doStep (kd : Bool) (S : MS) : MS :=
  if 0 ≤ runs S then doInsn kd S (runs S).toNat else
  match S.ready with
  | [] => S
  | t :: r => beginRun { S with ready := r } t
def doTimer (S : MS) : MS :=
  let S1 := tellTick S
  if 0 ≤ runs S1 then goLast S1 (runs S1).toNat 1 else S1
def doRequest (S : MS) : MS :=
  match S.reqs with
  | [] => S
  | (tid, call, number) :: r =>
    let S1 := { S with reqs := r }
    let S2 := if call = 3 then { S1 with dev := number } else S1
    returnCall (tell S2 "done" tid (S2.th tid).callAt [call]) tid (if call = 3 then 0 else S1.dev)
def begin' (S : MS) (cpu : Nat) : MS := { S with cpu := cpu, times := S.times.set cpu (S.times.getD cpu 0 + S.rates.getD cpu 0) }
def doPick (kd : Bool) (S : MS) (cpu : Nat) (what : Str) : MS :=
  let S1 := wake (begin' S cpu)
  if what = "step" then doStep kd S1 else if what = "timer" then doTimer S1 else if what = "device" then doRequest S1 else S1
/-! ### what holds of the data -/
def condOk : Cond → Prop
  | .ended k => 0 ≤ k
  | _ => True
structure ThOk (nm : Nat) (t : Th) : Prop where
  pid : t.pid < nm
  len : t.regs.length = 4
  pos : ∀ r ∈ t.regs, 0 ≤ r
  cond : condOk t.cond
structure MmOk (m : Mm) : Prop where
  len : m.cells.length = 256
  pos : ∀ b ∈ m.cells, 0 ≤ b
  kpos : ∀ p ∈ m.kept, 0 ≤ p.1 ∧ p.1 < 256 ∧ 0 ≤ p.2
  knd : (m.kept.map (·.1)).Nodup
structure WF (S : MS) (k : Nat) : Prop where
  nt : S.ths.length ≤ 8
  nm : S.mem.length ≤ 8
  nr : S.rates.length ≤ 8
  tim : S.times.length = S.rates.length
  rn : S.run.length = S.rates.length
  cpu : S.cpu < S.rates.length
  th : ∀ t ∈ S.ths, ThOk S.mem.length t
  mm : ∀ m ∈ S.mem, MmOk m
  rd : ∀ i ∈ S.ready, i < S.ths.length
  rdl : S.ready.length ≤ k
  rnl : ∀ r ∈ S.run, r < (S.ths.length : Int)
  rq : ∀ q ∈ S.reqs, q.1 < S.ths.length ∧ 0 ≤ q.2.2
  rql : S.reqs.length ≤ k
  vw : S.views.length ≤ k
  dev : 0 ≤ S.dev
end MM
end
section
/-! the machine: its data stays well formed -/
namespace MM
open PySem PySem.Spec PyProof.Rows L2
theorem th_get {S : MS} {i : Nat} (h : i < S.ths.length) : S.ths[i]? = some (S.th i) := by
  unfold MS.th
  rw [List.getD_eq_getElem?_getD, List.getElem?_eq_getElem h]
  rfl
theorem mm_get {S : MS} {i : Nat} (h : i < S.mem.length) : S.mem[i]? = some (S.mm i) := by
  unfold MS.mm
  rw [List.getD_eq_getElem?_getD, List.getElem?_eq_getElem h]
  rfl
theorem th_mem {S : MS} {i : Nat} (h : i < S.ths.length) : S.th i ∈ S.ths := List.mem_of_getElem? (th_get h)
theorem mm_mem {S : MS} {i : Nat} (h : i < S.mem.length) : S.mm i ∈ S.mem := List.mem_of_getElem? (mm_get h)
theorem up_th {S : MS} {i : Nat} {f : Th → Th} (h : i < S.ths.length) : (S.up i f).th i = f (S.th i) := by
  show (S.ths.set i (f (S.th i))).getD i dTh = _
  rw [List.getD_eq_getElem?_getD, List.getElem?_set_self h]
  rfl
theorem up_ne {S : MS} {i j : Nat} {f : Th → Th} (h : i ≠ j) : (S.up i f).th j = S.th j := by
  show (S.ths.set i (f (S.th i))).getD j dTh = S.ths.getD j dTh
  rw [List.getD_eq_getElem?_getD, List.getElem?_set_ne h, ← List.getD_eq_getElem?_getD]
/-- what no def changes; threads only become more -/
structure Sm (S S' : MS) : Prop where
  nt : S.ths.length ≤ S'.ths.length
  km : (S'.mem.map fun m => m.kept.map (·.1)) = S.mem.map fun m => m.kept.map (·.1)
  rt : S'.rates = S.rates
  cp : S'.cpu = S.cpu
theorem Sm.nm {S S' : MS} (s : Sm S S') : S'.mem.length = S.mem.length := by
  have h := congrArg List.length s.km
  rw [List.length_map, List.length_map] at h
  exact h
theorem Sm.refl (S : MS) : Sm S S := ⟨Nat.le_refl _, rfl, rfl, rfl⟩
theorem Sm.trans {a b d : MS} (x : Sm a b) (y : Sm b d) : Sm a d := ⟨Nat.le_trans x.nt y.nt, y.km.trans x.km, y.rt.trans x.rt, y.cp.trans x.cp⟩
theorem up_len {S : MS} {i : Nat} {f : Th → Th} : (S.up i f).ths.length = S.ths.length := List.length_set
theorem Sm.up {S : MS} {i : Nat} {f : Th → Th} : Sm S (S.up i f) := ⟨Nat.le_of_eq up_len.symm, rfl, rfl, rfl⟩
theorem Sm.tell {S : MS} {kd : Str} {t : Nat} {a : Int} {r : List Int} : Sm S (tell S kd t a r) := ⟨Nat.le_refl _, rfl, rfl, rfl⟩
variable {S : MS} {k : Nat}
theorem WF.mono {k' : Nat} (w : WF S k) (h : k ≤ k') : WF S k' :=
  { w with rdl := Nat.le_trans w.rdl h, rql := Nat.le_trans w.rql h, vw := Nat.le_trans w.vw h }
theorem WF.up {i : Nat} {f : Th → Th} (w : WF S k) (hf : ThOk S.mem.length (f (S.th i))) : WF (S.up i f) k where
  nt := by rw [up_len]; exact w.nt
  nm := w.nm
  nr := w.nr
  tim := w.tim
  rn := w.rn
  cpu := w.cpu
  th t ht := by
    rcases List.mem_or_eq_of_mem_set (show t ∈ S.ths.set i (f (S.th i)) from ht) with h | h
    · exact w.th t h
    · rw [h]; exact hf
  mm := w.mm
  rd j hj := by rw [up_len]; exact w.rd j hj
  rdl := w.rdl
  rnl r hr := by rw [up_len]; exact w.rnl r hr
  rq q hq := by rw [up_len]; exact w.rq q hq
  rql := w.rql
  vw := w.vw
  dev := w.dev
theorem WF.tell {kd : Str} {t : Nat} {a : Int} {r : List Int} (w : WF S k) : WF (tell S kd t a r) (k + 1) :=
  { w.mono (Nat.le_succ k) with vw := by show (S.views ++ [_]).length ≤ k + 1; rw [List.length_append]; exact Nat.succ_le_succ w.vw }
theorem WF.tellTick (w : WF S k) : WF (tellTick S) (k + 1) :=
  { w.mono (Nat.le_succ k) with vw := by show (S.views ++ [_]).length ≤ k + 1; rw [List.length_append]; exact Nat.succ_le_succ w.vw }
theorem WF.tok {i : Nat} (w : WF S k) (h : i < S.ths.length) : ThOk S.mem.length (S.th i) := w.th _ (th_mem h)
theorem mem_set_pos {l : List Int} {j : Nat} {v : Int} (h : ∀ r ∈ l, 0 ≤ r) (hv : 0 ≤ v) : ∀ r ∈ l.set j v, 0 ≤ r := fun r hr => by
  rcases List.mem_or_eq_of_mem_set hr with z | z
  · exact h r z
  · rw [z]; exact hv
theorem WF.setReg {i j : Nat} {v : Int} (w : WF S k) (h : i < S.ths.length) (hv : 0 ≤ v) : WF (setReg S i j v) k :=
  w.up { w.tok h with len := by rw [List.length_set]; exact (w.tok h).len, pos := mem_set_pos (w.tok h).pos hv }
theorem WF.setCond {i : Nat} {cd : Cond} (w : WF S k) (h : i < S.ths.length) (hv : condOk cd) : WF (setCond S i cd) k := w.up { w.tok h with cond := hv }
theorem WF.ready {t : Nat} (w : WF S k) (h : t < S.ths.length) : WF { S with ready := S.ready ++ [t] } (k + 1) :=
  { w.mono (Nat.le_succ k) with
    rd := fun j hj => by
      rcases List.mem_append.mp hj with z | z
      · exact w.rd j z
      · rw [List.mem_singleton.mp z]; exact h
    rdl := by show (S.ready ++ [t]).length ≤ k + 1; rw [List.length_append]; exact Nat.succ_le_succ w.rdl }
theorem WF.run {l : List Int} (w : WF S k) (hl : l.length = S.run.length) (h : ∀ r ∈ l, r < (S.ths.length : Int)) : WF { S with run := l } k :=
  { w with rn := hl.trans w.rn, rnl := h }
theorem WF.runSet {j : Nat} {v : Int} (w : WF S k) (h : v < (S.ths.length : Int)) : WF { S with run := S.run.set j v } k :=
  w.run List.length_set fun r hr => by
    rcases List.mem_or_eq_of_mem_set hr with z | z
    · exact w.rnl r z
    · rw [z]; exact h
theorem len_makeReady {t : Nat} : (makeReady S t).ths.length = S.ths.length := by simp [makeReady, setCond, MS.up, MS.setTh]
theorem len_setReg {t j : Nat} {v : Int} : (setReg S t j v).ths.length = S.ths.length := by simp [setReg, MS.up, MS.setTh]
theorem len_tell {kd : Str} {t : Nat} {a : Int} {r : List Int} : (tell S kd t a r).ths.length = S.ths.length := rfl
theorem len_endRun {t : Nat} {cd : Cond} : (endRun S t cd).ths.length = S.ths.length := by simp [endRun, setCond, MS.up, MS.setTh]
theorem Sm.makeReady {t : Nat} : Sm S (makeReady S t) := ⟨Nat.le_of_eq len_makeReady.symm, rfl, rfl, rfl⟩
theorem WF.makeReady {t : Nat} (w : WF S k) (h : t < S.ths.length) : WF (makeReady S t) (k + 1) := by
  have z := (w.setCond (cd := .ready) h trivial).ready (t := t) (by show t < (S.up t _).ths.length; rw [up_len]; exact h)
  exact z
theorem Sm.returnCall {t : Nat} {r : Int} : Sm S (returnCall S t r) := by
  unfold MM.returnCall
  split
  · exact Sm.up.trans Sm.tell
  · exact (Sm.up.trans Sm.tell).trans Sm.makeReady
theorem len_returnCall {t : Nat} {r : Int} : (returnCall S t r).ths.length = S.ths.length := by
  unfold MM.returnCall
  split
  · exact (len_tell).trans len_setReg
  · exact len_makeReady.trans ((len_tell).trans len_setReg)
theorem WF.vrdy {t : Nat} (w : WF S k) (h : t < S.ths.length) {kd : Str} {u : Nat} {a : Int} {r : List Int} : WF (MM.makeReady (MM.tell S kd u a r) t) (k + 1) :=
  { (w.tell (kd := kd) (t := u) (a := a) (r := r)).makeReady (t := t) h |>.mono (Nat.le_refl _) with
    rdl := by show (S.ready ++ [t]).length ≤ k + 1; rw [List.length_append]; exact Nat.succ_le_succ w.rdl
    rql := Nat.le_trans w.rql (Nat.le_succ k)
    vw := by show (S.views ++ [_]).length ≤ k + 1; rw [List.length_append]; exact Nat.succ_le_succ w.vw }
theorem WF.returnCall {t : Nat} {r : Int} (w : WF S k) (h : t < S.ths.length) (hr : 0 ≤ r) : WF (returnCall S t r) (k + 1) := by
  have w1 := w.setReg (j := 0) h hr
  have h1 : t < (MM.setReg S t 0 r).ths.length := by show t < (S.up t _).ths.length; rw [up_len]; exact h
  unfold MM.returnCall
  split
  · exact w1.tell
  · exact w1.vrdy h1
theorem Sm.endRun {t : Nat} {cd : Cond} : Sm S (endRun S t cd) := ⟨Nat.le_of_eq len_endRun.symm, rfl, rfl, rfl⟩
theorem WF.endRun {t : Nat} {cd : Cond} (w : WF S k) (h : t < S.ths.length) (hc : condOk cd) : WF (endRun S t cd) k :=
  (w.setCond h hc).runSet (by omega)
theorem len_wakeOne {t : Nat} {cd : Int} {o : Nat} : (wakeOne t cd S o).ths.length = S.ths.length := by
  unfold MM.wakeOne
  split
  · exact len_returnCall
  · rfl
theorem Sm.wakeOne {t : Nat} {cd : Int} {o : Nat} : Sm S (wakeOne t cd S o) := by
  unfold MM.wakeOne
  split
  · exact Sm.returnCall
  · exact Sm.refl S
theorem WF.wakeOne {t : Nat} {cd : Int} {o : Nat} (w : WF S k) (h : o < S.ths.length) (hr : 0 ≤ cd) : WF (wakeOne t cd S o) (k + 1) := by
  unfold MM.wakeOne
  split
  · exact w.returnCall h hr
  · exact w.mono (Nat.le_succ k)
/-- the first i turns of a loop over the threads -/
def turns (f : MS → Nat → MS) (S : MS) (i : Nat) : MS := (List.range i).foldl f S
theorem turns_succ {f : MS → Nat → MS} {i : Nat} : turns f S (i + 1) = f (turns f S i) i := by
  unfold turns
  rw [List.range_succ, List.foldl_append]
  rfl
theorem turns_ok {f : MS → Nat → MS} (hl : ∀ S o, (f S o).ths.length = S.ths.length) (hs : ∀ S o, Sm S (f S o)) (hw : ∀ S k o, WF S k → o < S.ths.length → WF (f S o) (k + 1)) (w : WF S k) :
    ∀ i, i ≤ S.ths.length → (turns f S i).ths.length = S.ths.length ∧ Sm S (turns f S i) ∧ WF (turns f S i) (k + i)
  | 0, _ => ⟨rfl, Sm.refl S, w⟩
  | i + 1, h => by
    obtain ⟨a, b, d⟩ := turns_ok hl hs hw w i (by omega)
    rw [turns_succ]
    exact ⟨(hl _ _).trans a, b.trans (hs _ _), hw _ _ _ d (by omega)⟩
theorem end_turns {t : Nat} {a cd : Int} : endThread S t a cd = turns (wakeOne t cd) (endRun (tell S "end" t a [cd]) t (.ended cd)) S.ths.length := rfl
theorem end_ok {t : Nat} {a cd : Int} (w : WF S k) (h : t < S.ths.length) (hc : 0 ≤ cd) : (endThread S t a cd).ths.length = S.ths.length ∧ Sm S (endThread S t a cd) ∧ WF (endThread S t a cd) (k + 9) := by
  have w1 : WF (endRun (tell S "end" t a [cd]) t (.ended cd)) (k + 1) := w.tell.endRun h hc
  have l1 : (endRun (tell S "end" t a [cd]) t (.ended cd)).ths.length = S.ths.length := len_endRun.trans len_tell
  obtain ⟨x, y, z⟩ := turns_ok (f := wakeOne t cd) (fun _ _ => len_wakeOne) (fun _ _ => Sm.wakeOne) (fun _ _ _ w h => w.wakeOne h hc) w1 S.ths.length (by rw [l1]; exact Nat.le_refl _)
  rw [end_turns]
  have hn := w.nt
  exact ⟨x.trans l1, (Sm.tell.trans Sm.endRun).trans y, z.mono (by omega)⟩
theorem leave_ok {t : Nat} {cd : Cond} {r : Int} (w : WF S k) (h : t < S.ths.length) (hc : condOk cd) : (leave S t cd r).ths.length = S.ths.length ∧ Sm S (leave S t cd r) ∧ WF (leave S t cd r) (k + 1) :=
  ⟨len_tell.trans len_endRun, Sm.endRun.trans Sm.tell, (w.endRun h hc).tell⟩
theorem goLast_ok {t : Nat} {r : Int} (w : WF S k) (h : t < S.ths.length) : (goLast S t r).ths.length = S.ths.length ∧ Sm S (goLast S t r) ∧ WF (goLast S t r) (k + 1) := by
  have w1 := (w.endRun (cd := .ready) h trivial)
  have l1 : (MM.endRun S t .ready).ths.length = S.ths.length := len_endRun
  refine ⟨l1, ⟨Nat.le_of_eq l1.symm, rfl, rfl, rfl⟩, ?_⟩
  have w2 := w1.tell (kd := "off") (t := t) (a := ((MM.endRun S t .ready).th t).pc) (r := [r])
  exact { w2 with
    rd := fun j hj => by
      rcases List.mem_append.mp hj with z | z
      · exact w2.rd j z
      · rw [List.mem_singleton.mp z]
        show t < (MM.endRun S t .ready).ths.length
        rw [l1]; exact h
    rdl := by show (S.ready ++ [t]).length ≤ k + 1; rw [List.length_append]; exact Nat.succ_le_succ w.rdl }
theorem addThread_ok {p : Nat} {pc f : Int} (w : WF S k) (h : S.ths.length < 8) (hp : p < S.mem.length) (hf : 0 ≤ f) : (addThread S p pc f).ths.length = S.ths.length + 1 ∧ Sm S (addThread S p pc f) ∧ WF (addThread S p pc f) (k + 1) := by
  have l1 : (addThread S p pc f).ths.length = S.ths.length + 1 := by show (S.ths ++ [_]).length = _; rw [List.length_append]; rfl
  refine ⟨l1, ⟨by omega, rfl, rfl, rfl⟩, ?_⟩
  exact { w.mono (Nat.le_succ k) with
    nt := by rw [l1]; omega
    th := fun t ht => by
      rcases List.mem_append.mp (show t ∈ S.ths ++ [_] from ht) with z | z
      · exact w.th t z
      · rw [List.mem_singleton.mp z]
        exact ⟨hp, rfl, by simpa using hf, trivial⟩
    rd := fun j hj => by
      rw [l1]
      rcases List.mem_append.mp (show j ∈ S.ready ++ [_] from hj) with z | z
      · have := w.rd j z
        omega
      · rw [List.mem_singleton.mp z]
        omega
    rdl := by show (S.ready ++ [_]).length ≤ k + 1; rw [List.length_append]; exact Nat.succ_le_succ w.rdl
    rnl := fun r hr => by
      have := w.rnl r hr
      rw [l1]
      omega
    rq := fun q hq => by
      have := w.rq q hq
      rw [l1]
      exact ⟨by omega, this.2⟩ }
theorem reg_pos {t j : Nat} (w : WF S k) (h : t < S.ths.length) : 0 ≤ reg S t j := by
  unfold reg
  rw [List.getD_eq_getElem?_getD]
  cases e : (S.th t).regs[j]? with
  | none => exact Int.le_refl _
  | some r => exact (w.tok h).pos r (List.mem_of_getElem? e)
theorem waitFor_ok {t : Nat} {x : Int} (w : WF S k) (h : t < S.ths.length) (hx : 0 ≤ x) : (waitFor S t x).ths.length = S.ths.length ∧ Sm S (waitFor S t x) ∧ WF (waitFor S t x) (k + 1) := by
  unfold waitFor
  split
  · exact ⟨len_returnCall, Sm.returnCall, w.returnCall h (by decide)⟩
  · rename_i hn
    have hl : x.toNat < S.ths.length := by omega
    have hc := (w.tok hl).cond
    split
    · rename_i kk hk
      refine ⟨len_returnCall, Sm.returnCall, w.returnCall h ?_⟩
      cases hcc : (S.th x.toNat).cond with
      | ended q =>
        rw [hcc] at hk hc
        rw [← Option.some.inj hk]
        exact hc
      | _ =>
        rw [hcc] at hk
        cases hk
    · exact leave_ok w h trivial
theorem emod_pos {a b : Int} (h : 0 < b) : 0 ≤ a % b := Int.emod_nonneg _ (by omega)
theorem doCall_ok {t : Nat} {n a : Int} (w : WF S k) (h : t < S.ths.length) : Sm S (doCall S t n a) ∧ WF (doCall S t n a) (k + 10) := by
  have w1 : WF (S.up t fun t => { t with call := n, callAt := a }) k := w.up { w.tok h with }
  generalize hS1 : (S.up t fun t => { t with call := n, callAt := a }) = S1 at w1
  have l1 : S1.ths.length = S.ths.length := by rw [← hS1]; exact up_len
  have s1 : Sm S S1 := by rw [← hS1]; exact Sm.up
  have w2 := w1.tell (kd := "entry") (t := t) (a := a) (r := [n, reg S1 t 0, reg S1 t 1])
  have e : doCall S t n a = (let S := MM.tell S1 "entry" t a [n, reg S1 t 0, reg S1 t 1]
    if n = 0 then endThread S t a (reg S t 0) else
    if n = 1 then goLast (MM.returnCall S t 0) t 2 else
    if n = 2 then leave S t (.sleeping S.cpu (S.now + reg S t 0)) 3 else
    if n = 3 ∨ n = 4 then leave { S with reqs := S.reqs ++ [(t, n, reg S t 0)] } t .asking 4 else
    if n = 5 then (if 8 ≤ S.ths.length then MM.returnCall S t 65535 else MM.returnCall (addThread S (S.th t).pid (reg S t 0 % 256) (reg S t 1)) t S.ths.length) else
    if n = 6 then waitFor S t (reg S t 0) else MM.returnCall S t 65535) := by rw [← hS1]; rfl
  rw [e]
  have s2 : Sm S (MM.tell S1 "entry" t a [n, reg S1 t 0, reg S1 t 1]) := s1.trans Sm.tell
  have l2 : (MM.tell S1 "entry" t a [n, reg S1 t 0, reg S1 t 1]).ths.length = S.ths.length := l1
  generalize MM.tell S1 "entry" t a [n, reg S1 t 0, reg S1 t 1] = S2 at w2 s2 l2 ⊢
  have h2 : t < S2.ths.length := by rw [l2]; exact h
  show Sm S (if n = 0 then _ else _) ∧ WF (if n = 0 then _ else _) (k + 10)
  split
  · obtain ⟨_, x, y⟩ := end_ok (t := t) (a := a) w2 h2 (reg_pos w2 h2 (j := 0))
    exact ⟨s2.trans x, y.mono (by omega)⟩
  split
  · have w3 := w2.returnCall (r := 0) h2 (by decide)
    obtain ⟨_, x, y⟩ := goLast_ok (t := t) (r := 2) w3 (by rw [len_returnCall]; exact h2)
    exact ⟨(s2.trans Sm.returnCall).trans x, y.mono (by omega)⟩
  split
  · obtain ⟨_, x, y⟩ := leave_ok (t := t) (cd := .sleeping S2.cpu (S2.now + reg S2 t 0)) (r := 3) w2 h2 trivial
    exact ⟨s2.trans x, y.mono (by omega)⟩
  split
  · have w3 : WF { S2 with reqs := S2.reqs ++ [(t, n, reg S2 t 0)] } (k + 1 + 1) := { w2.mono (Nat.le_succ _) with
      rq := fun q hq => by
        rcases List.mem_append.mp hq with z | z
        · exact w2.rq q z
        · rw [List.mem_singleton.mp z]
          exact ⟨h2, reg_pos w2 h2⟩
      rql := by show (S2.reqs ++ [_]).length ≤ k + 1 + 1; rw [List.length_append]; exact Nat.succ_le_succ w2.rql }
    obtain ⟨_, x, y⟩ := leave_ok (t := t) (cd := .asking) (r := 4) w3 h2 trivial
    exact ⟨(s2.trans (⟨Nat.le_refl _, rfl, rfl, rfl⟩ : Sm S2 { S2 with reqs := S2.reqs ++ [(t, n, reg S2 t 0)] })).trans x, y.mono (by omega)⟩
  split
  · split
    · exact ⟨s2.trans Sm.returnCall, (w2.returnCall h2 (by decide)).mono (by omega)⟩
    · obtain ⟨a1, a2, a3⟩ := addThread_ok (p := (S2.th t).pid) (pc := reg S2 t 0 % 256) (f := reg S2 t 1) w2 (by omega) (w2.tok h2).pid (reg_pos w2 h2)
      exact ⟨s2.trans (a2.trans Sm.returnCall), (a3.returnCall (by omega) (by omega)).mono (by omega)⟩
  split
  · obtain ⟨_, x, y⟩ := waitFor_ok (t := t) (x := reg S2 t 0) w2 h2 (reg_pos w2 h2)
    exact ⟨s2.trans x, y.mono (by omega)⟩
  · exact ⟨s2.trans Sm.returnCall, (w2.returnCall h2 (by decide)).mono (by omega)⟩
theorem WF.setMm {i : Nat} {m : Mm} (w : WF S k) (hm : MmOk m) : WF (S.setMm i m) k :=
  { w with
    nm := by show (S.mem.set i m).length ≤ 8; rw [List.length_set]; exact w.nm
    th := fun t ht => by
      have := w.th t ht
      exact { this with pid := by show t.pid < (S.mem.set i m).length; rw [List.length_set]; exact this.pid }
    mm := fun x hx => by
      rcases List.mem_or_eq_of_mem_set (show x ∈ S.mem.set i m from hx) with z | z
      · exact w.mm x z
      · rw [z]; exact hm }
theorem lookup_some {l : List (Int × Int)} {a b : Int} (h : l.lookup a = some b) : (a, b) ∈ l := by
  induction l with
  | nil => cases h
  | cons p r ih =>
    rw [List.lookup_cons] at h
    split at h
    · rename_i e
      have e1 := eq_of_beq e
      rw [e1, ← Option.some.inj h]
      exact List.mem_cons_self
    · exact List.mem_cons_of_mem _ (ih h)
theorem load_pos {m : Mm} (h : MmOk m) (a : Int) : 0 ≤ m.load a := by
  unfold Mm.load
  split
  · rename_i b hb
    exact (h.kpos _ (lookup_some hb)).2.2
  · rw [List.getD_eq_getElem?_getD]
    cases e : m.cells[(a % 256).toNat]? with
    | none => exact Int.le_refl _
    | some r => exact h.pos r (List.mem_of_getElem? e)
theorem store_ok {m : Mm} (h : MmOk m) (a : Int) {b : Int} (hb : 0 ≤ b) : MmOk (m.store a b) := by
  unfold Mm.store
  split
  · refine ⟨h.len, h.pos, fun p hp => ?_, ?_⟩
    · obtain ⟨q, hq, e⟩ := List.mem_map.mp hp
      have z := h.kpos q hq
      split at e
      · rw [← e]; exact ⟨z.1, z.2.1, hb⟩
      · rw [← e]; exact z
    · have e : ((m.kept.map fun p => if p.1 = a % 256 then (p.1, b) else p).map (·.1)) = m.kept.map (·.1) := by
        rw [List.map_map]
        refine List.map_congr_left fun p _ => ?_
        show (if p.1 = a % 256 then (p.1, b) else p).1 = p.1
        split <;> rfl
      rw [e]
      exact h.knd
  · exact ⟨by rw [List.length_set]; exact h.len, mem_set_pos h.pos hb, h.kpos, h.knd⟩
theorem store_keys (S : MS) (p : Nat) (a b : Int) : ((S.setMm p ((S.mm p).store a b)).mem.map fun m => m.kept.map (·.1)) = S.mem.map fun m => m.kept.map (·.1) := by
  show ((S.mem.set p _).map _) = _
  rw [List.map_set]
  have e : ((S.mm p).store a b).kept.map (·.1) = (S.mm p).kept.map (·.1) := by
    unfold Mm.store
    split
    · show ((S.mm p).kept.map fun q => if q.1 = a % 256 then (q.1, b) else q).map (·.1) = _
      rw [List.map_map]
      refine List.map_congr_left fun q _ => ?_
      show (if q.1 = a % 256 then (q.1, b) else q).1 = q.1
      split <;> rfl
    · rfl
  rw [e]
  by_cases h : p < S.mem.length
  · refine List.ext_getElem? fun j => ?_
    rw [List.getElem?_set]
    split
    · rename_i hj
      rw [← hj, List.length_map, if_pos h, List.getElem?_map, mm_get h]
      rfl
    · rfl
  · rw [List.set_eq_of_length_le (by rw [List.length_map]; omega)]
theorem move_ok {t : Nat} {cd x y : Int} (w : WF S k) (h : t < S.ths.length) (hy : 0 ≤ y) : (move S t cd x y).ths.length = S.ths.length ∧ Sm S (move S t cd x y) ∧ WF (move S t cd x y) k := by
  have R : ∀ j v, 0 ≤ v → (setReg S t j v).ths.length = S.ths.length ∧ Sm S (setReg S t j v) ∧ WF (setReg S t j v) k := fun j v hv => ⟨len_setReg, Sm.up, w.setReg h hv⟩
  have hm := w.mm _ (mm_mem (w.tok h).pid)
  unfold move
  show (if cd = 1 then _ else _ : MS).ths.length = _ ∧ Sm S (if cd = 1 then _ else _) ∧ WF (if cd = 1 then _ else _) k
  split
  · exact R _ _ hy
  split
  · exact R _ _ (emod_pos (by decide))
  split
  · exact R _ _ (emod_pos (by decide))
  split
  · exact R _ _ (reg_pos w h)
  split
  · exact R _ _ (load_pos hm _)
  split
  · exact ⟨rfl, ⟨Nat.le_refl _, store_keys _ _ _ _, rfl, rfl⟩, w.setMm (store_ok hm _ (emod_pos (by decide)))⟩
  · exact ⟨rfl, Sm.refl S, w⟩
theorem doInsn_ok {kd : Bool} {t : Nat} (w : WF S k) (h : t < S.ths.length) : Sm S (doInsn kd S t) ∧ WF (doInsn kd S t) (k + 12) := by
  unfold doInsn
  have hm := w.mm _ (mm_mem (w.tok h).pid)
  generalize S.mm (S.th t).pid = m at hm ⊢
  generalize (S.th t).pc = a
  have h1 : ∀ S', S' = (if m.tells kd a then MM.tell S "insn" t a [m.load a] else S) → Sm S S' ∧ WF S' (k + 1) ∧ S'.ths.length = S.ths.length := by
    intro S' e
    rw [e]
    split
    · exact ⟨Sm.tell, w.tell, rfl⟩
    · exact ⟨Sm.refl S, w.mono (Nat.le_succ k), rfl⟩
  obtain ⟨s1, w1, l1⟩ := h1 _ rfl
  show Sm S (if 13 ≤ m.load a then _ else _) ∧ WF (if 13 ≤ m.load a then _ else _) (k + 12)
  generalize (if m.tells kd a then MM.tell S "insn" t a [m.load a] else S) = S1 at s1 w1 l1 ⊢
  have ht : t < S1.ths.length := by rw [l1]; exact h
  split
  · have w2 := w1.tell (kd := "fault") (t := t) (a := a) (r := [m.load a])
    obtain ⟨_, x, y⟩ := end_ok (t := t) (a := a) (cd := 65535) w2 ht (by decide)
    exact ⟨s1.trans (Sm.tell.trans x), y.mono (by omega)⟩
  · have w2 : WF (S1.up t fun q => { q with pc := nextPc (S1.th t).regs (m.load a) (m.load (a + 1)) (m.load (a + 2)) ((a + lens.getD (m.load a).toNat 0) % 256) }) (k + 1) := w1.up { w1.tok ht with }
    have l2 : (S1.up t fun q => { q with pc := nextPc (S1.th t).regs (m.load a) (m.load (a + 1)) (m.load (a + 2)) ((a + lens.getD (m.load a).toNat 0) % 256) }).ths.length = S1.ths.length := up_len
    have s2 : Sm S1 (S1.up t fun q => { q with pc := nextPc (S1.th t).regs (m.load a) (m.load (a + 1)) (m.load (a + 2)) ((a + lens.getD (m.load a).toNat 0) % 256) }) := Sm.up
    dsimp only
    generalize (S1.up t fun q => { q with pc := nextPc (S1.th t).regs (m.load a) (m.load (a + 1)) (m.load (a + 2)) ((a + lens.getD (m.load a).toNat 0) % 256) }) = S2 at w2 l2 s2 ⊢
    have ht2 : t < S2.ths.length := by rw [l2]; exact ht
    show Sm S (if m.load a = 0 then _ else _) ∧ WF (if m.load a = 0 then _ else _) (k + 12)
    split
    · obtain ⟨_, x, y⟩ := end_ok (t := t) (a := a) (cd := 0) w2 ht2 (by decide)
      exact ⟨(s1.trans s2).trans x, y.mono (by omega)⟩
    split
    · obtain ⟨x, y⟩ := doCall_ok (t := t) (n := m.load (a + 1)) (a := a) w2 ht2
      exact ⟨(s1.trans s2).trans x, y.mono (by omega)⟩
    split
    · exact ⟨(s1.trans s2).trans Sm.up, (w2.setReg ht2 (emod_pos (by decide))).mono (by omega)⟩
    · obtain ⟨_, x, y⟩ := move_ok (t := t) (cd := m.load a) (x := m.load (a + 1)) (y := m.load (a + 2)) w2 ht2 (load_pos hm _)
      exact ⟨(s1.trans s2).trans x, y.mono (by omega)⟩
theorem wakeIf_ok : (∀ S i, (wakeIf S i).ths.length = S.ths.length) ∧ (∀ S i, Sm S (wakeIf S i)) ∧ (∀ S k i, WF S k → i < S.ths.length → WF (wakeIf S i) (k + 1)) := by
  refine ⟨fun S i => ?_, fun S i => ?_, fun S k i w h => ?_⟩
  all_goals
    unfold wakeIf
    split
  · exact len_returnCall
  · rfl
  · exact Sm.returnCall
  · exact Sm.refl S
  · exact w.returnCall h (by decide)
  · exact w.mono (Nat.le_succ k)
theorem wake_turns : wake S = turns wakeIf S S.ths.length := rfl
theorem wake_ok (w : WF S k) : (wake S).ths.length = S.ths.length ∧ Sm S (wake S) ∧ WF (wake S) (k + 8) := by
  obtain ⟨a, b, d⟩ := turns_ok (f := wakeIf) wakeIf_ok.1 wakeIf_ok.2.1 wakeIf_ok.2.2 w S.ths.length (Nat.le_refl _)
  rw [wake_turns]
  have := w.nt
  exact ⟨a, b, d.mono (by omega)⟩
theorem runs_lt (w : WF S k) : runs S < (S.ths.length : Int) := by
  unfold runs
  have hc : S.cpu < S.run.length := by rw [w.rn]; exact w.cpu
  rw [List.getD_eq_getElem?_getD, List.getElem?_eq_getElem hc]
  exact w.rnl _ (List.getElem_mem hc)
theorem doStep_ok {kd : Bool} (w : WF S k) : Sm S (doStep kd S) ∧ WF (doStep kd S) (k + 12) := by
  have hr := runs_lt w
  unfold doStep
  split
  · exact doInsn_ok w (by omega)
  · split
    · exact ⟨Sm.refl S, w.mono (by omega)⟩
    · rename_i t r e
      have ht : t < S.ths.length := w.rd t (by rw [e]; exact List.mem_cons_self)
      have w1 : WF { S with ready := r } k := { w with
        rd := fun j hj => w.rd j (by rw [e]; exact List.mem_cons_of_mem _ hj)
        rdl := by have := w.rdl; rw [e, List.length_cons] at this; show r.length ≤ k; omega }
      have w2 : WF { setCond { S with ready := r } t (.running S.cpu) with run := S.run.set S.cpu t } k := (w1.setCond (cd := .running S.cpu) (i := t) ht trivial).runSet (by
        show (t : Int) < ((MS.up { S with ready := r } t _).ths.length : Int)
        rw [up_len]
        exact Int.ofNat_lt.mpr ht)
      exact ⟨⟨Nat.le_of_eq (by simp [beginRun, MM.tell, setCond, MS.up, MS.setTh]), rfl, rfl, rfl⟩, (w2.tell).mono (by omega)⟩
theorem doTimer_ok (w : WF S k) : Sm S (doTimer S) ∧ WF (doTimer S) (k + 2) := by
  have w1 := w.tellTick
  have hr := runs_lt w1
  unfold doTimer
  show Sm S (if 0 ≤ runs (MM.tellTick S) then _ else _) ∧ WF (if 0 ≤ runs (MM.tellTick S) then _ else _) (k + 2)
  have s1 : Sm S (MM.tellTick S) := ⟨Nat.le_refl _, rfl, rfl, rfl⟩
  split
  · obtain ⟨_, x, y⟩ := goLast_ok (t := (runs (MM.tellTick S)).toNat) (r := 1) w1 (by omega)
    exact ⟨s1.trans x, y⟩
  · exact ⟨s1, w1.mono (by omega)⟩
theorem doRequest_ok (w : WF S k) : Sm S (doRequest S) ∧ WF (doRequest S) (k + 2) := by
  unfold doRequest
  split
  · exact ⟨Sm.refl S, w.mono (by omega)⟩
  · rename_i tid call number r e
    have hq := w.rq (tid, call, number) (by rw [e]; exact List.mem_cons_self)
    have w1 : WF { S with reqs := r } k := { w with
      rq := fun q hq => w.rq q (by rw [e]; exact List.mem_cons_of_mem _ hq)
      rql := by have := w.rql; rw [e, List.length_cons] at this; show r.length ≤ k; omega }
    have h1 : ∀ S', S' = (if call = 3 then { S with reqs := r, dev := number } else { S with reqs := r } : MS) → Sm S S' ∧ WF S' k ∧ S'.ths.length = S.ths.length := by
      intro S' e
      rw [e]
      split
      · exact ⟨⟨Nat.le_refl _, rfl, rfl, rfl⟩, { w1 with dev := hq.2 }, rfl⟩
      · exact ⟨⟨Nat.le_refl _, rfl, rfl, rfl⟩, w1, rfl⟩
    obtain ⟨s1, w2, l1⟩ := h1 _ rfl
    show Sm S (MM.returnCall (MM.tell (if call = 3 then { S with reqs := r, dev := number } else { S with reqs := r } : MS) "done" tid _ [call]) tid _) ∧ WF (MM.returnCall (MM.tell (if call = 3 then { S with reqs := r, dev := number } else { S with reqs := r } : MS) "done" tid _ [call]) tid _) (k + 2)
    generalize (if call = 3 then { S with reqs := r, dev := number } else { S with reqs := r } : MS) = S2 at s1 w2 l1 ⊢
    have hv : 0 ≤ (if call = 3 then (0 : Int) else S.dev) := by
      split
      · decide
      · exact w.dev
    exact ⟨s1.trans (Sm.tell.trans Sm.returnCall), (w2.tell.returnCall (by show tid < S2.ths.length; rw [l1]; exact hq.1) hv)⟩
theorem begin_ok {cpu : Nat} (w : WF S k) (h : cpu < S.rates.length) : WF (begin' S cpu) k := { w with
  tim := by show (S.times.set _ _).length = _; rw [List.length_set]; exact w.tim
  cpu := h }
theorem doPick_ok {kd : Bool} {cpu : Nat} {what : Str} (w : WF S k) (h : cpu < S.rates.length) : S.ths.length ≤ (doPick kd S cpu what).ths.length ∧ ((doPick kd S cpu what).mem.map fun m => m.kept.map (·.1)) = (S.mem.map fun m => m.kept.map (·.1)) ∧ (doPick kd S cpu what).rates = S.rates ∧ WF (doPick kd S cpu what) (k + 20) := by
  obtain ⟨l1, s1, w1⟩ := wake_ok (begin_ok w h)
  have b1 : (begin' S cpu).ths.length = S.ths.length := rfl
  have fin : ∀ S', Sm (wake (begin' S cpu)) S' → WF S' (k + 8 + 12) → S.ths.length ≤ S'.ths.length ∧ (S'.mem.map fun m => m.kept.map (·.1)) = (S.mem.map fun m => m.kept.map (·.1)) ∧ S'.rates = S.rates ∧ WF S' (k + 20) := fun S' a b =>
    ⟨by have := a.nt; rw [l1, b1] at this; exact this, a.km.trans s1.km, a.rt.trans s1.rt, b⟩
  show S.ths.length ≤ (if what = "step" then _ else _ : MS).ths.length ∧ ((if what = "step" then _ else _ : MS).mem.map fun m => m.kept.map (·.1)) = _ ∧ (if what = "step" then _ else _ : MS).rates = _ ∧ WF (if what = "step" then _ else _) _
  split
  · obtain ⟨x, y⟩ := doStep_ok (kd := kd) w1
    exact fin _ x y
  split
  · obtain ⟨x, y⟩ := doTimer_ok w1
    exact fin _ x (y.mono (by omega))
  split
  · obtain ⟨x, y⟩ := doRequest_ok w1
    exact fin _ x (y.mono (by omega))
  · exact fin _ (Sm.refl _) (w1.mono (by omega))
end MM
end
section
/-! the machine: readings over its state -/
namespace MM
open PySem PySem.Spec PyProof.Rows L2
theorem alloc {H : Hp} {o : HO} {G : Addr → Hp → Prop} (h : ∀ p H', H p = none → Same H H' → H' p = some o → G p H') : ∀ p, H p = none → G p (upd H p o) := fun p hp => h p _ hp (R.same_new hp) upd_same
/-- what the top has written of the machine's classes -/
structure BdC (K : PySem.W.Frag) (c : Cl) : Prop where
  cB : Cls K c.CB
  cT : Cls K c.CT
  cM : Cls K c.CM
  nMemories : NoAttr K c.CB "memories"
  nRates : NoAttr K c.CB "rates"
  nThreads : NoAttr K c.CB "threads"
  nReady : NoAttr K c.CB "ready"
  nTimes : NoAttr K c.CB "times"
  nRunning : NoAttr K c.CB "running"
  nDev : NoAttr K c.CB "device_value"
  nReqs : NoAttr K c.CB "requests"
  nCpu : NoAttr K c.CB "cpu"
  nViews : NoAttr K c.CB "views"
  nPid : NoAttr K c.CT "pid"
  nPc : NoAttr K c.CT "pc"
  nRegs : NoAttr K c.CT "regs"
  nCond : NoAttr K c.CT "condition"
  nCall : NoAttr K c.CT "call"
  nCallAt : NoAttr K c.CT "call_at"
  nCells : NoAttr K c.CM "cells"
section
variable {c : Cl} {ad : Tg → Addr} {S : MS} {H : Hp} {K : PySem.W.Frag} {P : V → Prop} {i : Nat} {Q : VK} {k : Nat} {G : Hp → Prop}
/-! fields of the board -/
theorem q_memories (C : BdC K c) (B : Bd c ad S H) (h : P (.ref (ad .memL))) : ∃ a C' dx fs v, V.ref (ad .brd) = .ref a ∧ H a = some (.ins C' dx fs) ∧ Cls K C' ∧ NoAttr K C' "memories" ∧ fs.lookup ("memories" : Str) = some v ∧ P v := by
  obtain ⟨dx, rt, e, _⟩ := B.brd
  exact ⟨_, _, dx, _, _, rfl, e, C.cB, C.nMemories, rfl, h⟩
theorem q_threads (C : BdC K c) (B : Bd c ad S H) (h : P (.ref (ad .thsL))) : ∃ a C' dx fs v, V.ref (ad .brd) = .ref a ∧ H a = some (.ins C' dx fs) ∧ Cls K C' ∧ NoAttr K C' "threads" ∧ fs.lookup ("threads" : Str) = some v ∧ P v := by
  obtain ⟨dx, rt, e, _⟩ := B.brd
  exact ⟨_, _, dx, _, _, rfl, e, C.cB, C.nThreads, rfl, h⟩
theorem q_ready (C : BdC K c) (B : Bd c ad S H) (h : P (.ref (ad .rdyL))) : ∃ a C' dx fs v, V.ref (ad .brd) = .ref a ∧ H a = some (.ins C' dx fs) ∧ Cls K C' ∧ NoAttr K C' "ready" ∧ fs.lookup ("ready" : Str) = some v ∧ P v := by
  obtain ⟨dx, rt, e, _⟩ := B.brd
  exact ⟨_, _, dx, _, _, rfl, e, C.cB, C.nReady, rfl, h⟩
theorem q_times (C : BdC K c) (B : Bd c ad S H) (h : P (.ref (ad .timL))) : ∃ a C' dx fs v, V.ref (ad .brd) = .ref a ∧ H a = some (.ins C' dx fs) ∧ Cls K C' ∧ NoAttr K C' "times" ∧ fs.lookup ("times" : Str) = some v ∧ P v := by
  obtain ⟨dx, rt, e, _⟩ := B.brd
  exact ⟨_, _, dx, _, _, rfl, e, C.cB, C.nTimes, rfl, h⟩
theorem q_running (C : BdC K c) (B : Bd c ad S H) (h : P (.ref (ad .runL))) : ∃ a C' dx fs v, V.ref (ad .brd) = .ref a ∧ H a = some (.ins C' dx fs) ∧ Cls K C' ∧ NoAttr K C' "running" ∧ fs.lookup ("running" : Str) = some v ∧ P v := by
  obtain ⟨dx, rt, e, _⟩ := B.brd
  exact ⟨_, _, dx, _, _, rfl, e, C.cB, C.nRunning, rfl, h⟩
theorem q_dev (C : BdC K c) (B : Bd c ad S H) (h : P (.int S.dev)) : ∃ a C' dx fs v, V.ref (ad .brd) = .ref a ∧ H a = some (.ins C' dx fs) ∧ Cls K C' ∧ NoAttr K C' "device_value" ∧ fs.lookup ("device_value" : Str) = some v ∧ P v := by
  obtain ⟨dx, rt, e, _⟩ := B.brd
  exact ⟨_, _, dx, _, _, rfl, e, C.cB, C.nDev, rfl, h⟩
theorem q_requests (C : BdC K c) (B : Bd c ad S H) (h : P (.ref (ad .reqL))) : ∃ a C' dx fs v, V.ref (ad .brd) = .ref a ∧ H a = some (.ins C' dx fs) ∧ Cls K C' ∧ NoAttr K C' "requests" ∧ fs.lookup ("requests" : Str) = some v ∧ P v := by
  obtain ⟨dx, rt, e, _⟩ := B.brd
  exact ⟨_, _, dx, _, _, rfl, e, C.cB, C.nReqs, rfl, h⟩
theorem q_cpu (C : BdC K c) (B : Bd c ad S H) (h : P (.int (S.cpu : Int))) : ∃ a C' dx fs v, V.ref (ad .brd) = .ref a ∧ H a = some (.ins C' dx fs) ∧ Cls K C' ∧ NoAttr K C' "cpu" ∧ fs.lookup ("cpu" : Str) = some v ∧ P v := by
  obtain ⟨dx, rt, e, _⟩ := B.brd
  exact ⟨_, _, dx, _, _, rfl, e, C.cB, C.nCpu, rfl, h⟩
theorem q_views (C : BdC K c) (B : Bd c ad S H) (h : P (.ref (ad .vwsL))) : ∃ a C' dx fs v, V.ref (ad .brd) = .ref a ∧ H a = some (.ins C' dx fs) ∧ Cls K C' ∧ NoAttr K C' "views" ∧ fs.lookup ("views" : Str) = some v ∧ P v := by
  obtain ⟨dx, rt, e, _⟩ := B.brd
  exact ⟨_, _, dx, _, _, rfl, e, C.cB, C.nViews, rfl, h⟩
theorem q_rates (C : BdC K c) (B : Bd c ad S H) (h : ∀ rt, H rt = some (.tup (S.rates.map V.int)) → P (.ref rt)) : ∃ a C' dx fs v, V.ref (ad .brd) = .ref a ∧ H a = some (.ins C' dx fs) ∧ Cls K C' ∧ NoAttr K C' "rates" ∧ fs.lookup ("rates" : Str) = some v ∧ P v := by
  obtain ⟨dx, rt, e, er, _⟩ := B.brd
  exact ⟨_, _, dx, _, _, rfl, e, C.cB, C.nRates, rfl, h rt er⟩
/-! fields of a thread -/
theorem q_pid (C : BdC K c) (B : Bd c ad S H) (hi : i < S.ths.length) (h : P (.int ((S.th i).pid : Int))) : ∃ a C' dx fs v, V.ref (ad (.thr i)) = .ref a ∧ H a = some (.ins C' dx fs) ∧ Cls K C' ∧ NoAttr K C' "pid" ∧ fs.lookup ("pid" : Str) = some v ∧ P v := by
  obtain ⟨dx, c0, e, _⟩ := B.thr (th_get hi)
  exact ⟨_, _, dx, _, _, rfl, e, C.cT, C.nPid, rfl, h⟩
theorem q_pc (C : BdC K c) (B : Bd c ad S H) (hi : i < S.ths.length) (h : P (.int (S.th i).pc)) : ∃ a C' dx fs v, V.ref (ad (.thr i)) = .ref a ∧ H a = some (.ins C' dx fs) ∧ Cls K C' ∧ NoAttr K C' "pc" ∧ fs.lookup ("pc" : Str) = some v ∧ P v := by
  obtain ⟨dx, c0, e, _⟩ := B.thr (th_get hi)
  exact ⟨_, _, dx, _, _, rfl, e, C.cT, C.nPc, rfl, h⟩
theorem q_regs (C : BdC K c) (B : Bd c ad S H) (hi : i < S.ths.length) (h : P (.ref (ad (.rgs i)))) : ∃ a C' dx fs v, V.ref (ad (.thr i)) = .ref a ∧ H a = some (.ins C' dx fs) ∧ Cls K C' ∧ NoAttr K C' "regs" ∧ fs.lookup ("regs" : Str) = some v ∧ P v := by
  obtain ⟨dx, c0, e, _⟩ := B.thr (th_get hi)
  exact ⟨_, _, dx, _, _, rfl, e, C.cT, C.nRegs, rfl, h⟩
theorem q_cond (C : BdC K c) (B : Bd c ad S H) (hi : i < S.ths.length) (h : ∀ c0, H c0 = some (.tup (condV (S.th i).cond)) → P (.ref c0)) : ∃ a C' dx fs v, V.ref (ad (.thr i)) = .ref a ∧ H a = some (.ins C' dx fs) ∧ Cls K C' ∧ NoAttr K C' "condition" ∧ fs.lookup ("condition" : Str) = some v ∧ P v := by
  obtain ⟨dx, c0, e, e2, _⟩ := B.thr (th_get hi)
  exact ⟨_, _, dx, _, _, rfl, e, C.cT, C.nCond, rfl, h c0 e2⟩
theorem q_call (C : BdC K c) (B : Bd c ad S H) (hi : i < S.ths.length) (h : P (.int (S.th i).call)) : ∃ a C' dx fs v, V.ref (ad (.thr i)) = .ref a ∧ H a = some (.ins C' dx fs) ∧ Cls K C' ∧ NoAttr K C' "call" ∧ fs.lookup ("call" : Str) = some v ∧ P v := by
  obtain ⟨dx, c0, e, _⟩ := B.thr (th_get hi)
  exact ⟨_, _, dx, _, _, rfl, e, C.cT, C.nCall, rfl, h⟩
theorem q_callAt (C : BdC K c) (B : Bd c ad S H) (hi : i < S.ths.length) (h : P (.int (S.th i).callAt)) : ∃ a C' dx fs v, V.ref (ad (.thr i)) = .ref a ∧ H a = some (.ins C' dx fs) ∧ Cls K C' ∧ NoAttr K C' "call_at" ∧ fs.lookup ("call_at" : Str) = some v ∧ P v := by
  obtain ⟨dx, c0, e, _⟩ := B.thr (th_get hi)
  exact ⟨_, _, dx, _, _, rfl, e, C.cT, C.nCallAt, rfl, h⟩
/-! items -/
theorem q_ixThs (B : Bd c ad S H) (hi : i < S.ths.length) (h : Q (.ref (ad (.thr i))) H) : rIxL K (.ref (ad .thsL)) (.int (i : Int)) H Q :=
  R.r_ixL (R.sqL B.thsAt) (atI_nat (by rw [List.getElem?_map, List.getElem?_range hi]; rfl)) h
theorem q_ixThsI {x : Int} (B : Bd c ad S H) (h0 : 0 ≤ x) (hi : x.toNat < S.ths.length) (h : Q (.ref (ad (.thr x.toNat))) H) : rIxL K (.ref (ad .thsL)) (.int x) H Q :=
  R.r_ixL (R.sqL B.thsAt) (R.at_nat h0 (by rw [List.getElem?_map, List.getElem?_range hi]; rfl)) h
theorem q_ixMem (B : Bd c ad S H) (hi : i < S.mem.length) (h : Q (.ref (ad (.mem i))) H) : rIxL K (.ref (ad .memL)) (.int (i : Int)) H Q :=
  R.r_ixL (R.sqL B.memAt) (atI_nat (by rw [List.getElem?_map, List.getElem?_range hi]; rfl)) h
theorem getD_get {l : List Int} {j : Nat} (h : j < l.length) : (l.map V.int)[j]? = some (.int (l.getD j 0)) := by
  rw [List.getElem?_map, List.getD_eq_getElem?_getD, List.getElem?_eq_getElem h]
  rfl
theorem q_ixTim (B : Bd c ad S H) (hi : i < S.times.length) (h : Q (.int (S.times.getD i 0)) H) : rIxL K (.ref (ad .timL)) (.int (i : Int)) H Q := R.r_ixL (R.sqL B.tim.1) (atI_nat (getD_get hi)) h
theorem q_ixRun (B : Bd c ad S H) (hi : i < S.run.length) (h : Q (.int (S.run.getD i 0)) H) : rIxL K (.ref (ad .runL)) (.int (i : Int)) H Q := R.r_ixL (R.sqL B.rn.1) (atI_nat (getD_get hi)) h
theorem q_ixRgs {j : Int} (B : Bd c ad S H) (W : WF S k) (hi : i < S.ths.length) (h0 : 0 ≤ j) (h4 : j < 4) (h : Q (.int (reg S i j.toNat)) H) : rIxL K (.ref (ad (.rgs i))) (.int j) H Q :=
  R.r_ixL (R.sqL (B.rgs (th_get hi)).1) (R.at_nat h0 (getD_get (by rw [(W.tok hi).len]; omega))) h
theorem q_ixCls {j : Int} {m : Mm} (B : Bd c ad S H) (hm : S.mem[i]? = some m) (h0 : 0 ≤ j) (h4 : j.toNat < m.cells.length) (h : Q (.int (m.cells.getD j.toNat 0)) H) : rIxL K (.ref (ad (.cls i))) (.int j) H Q :=
  R.r_ixL (R.sqL (B.cls hm).1) (R.at_nat h0 (getD_get h4)) h
/-! lists are lists -/
theorem ty_rdy (B : Bd c ad S H) : tyV K "list" (.ref (ad .rdyL)) H := .inl ⟨rfl, _, R.sqL B.rdy.1⟩
theorem ty_ths (B : Bd c ad S H) : tyV K "list" (.ref (ad .thsL)) H := .inl ⟨rfl, _, R.sqL B.thsAt⟩
theorem ty_req (B : Bd c ad S H) : tyV K "list" (.ref (ad .reqL)) H := by
  obtain ⟨rq, e, _⟩ := B.req
  exact .inl ⟨rfl, _, R.sqL e⟩
theorem ty_vws (B : Bd c ad S H) : tyV K "list" (.ref (ad .vwsL)) H := by
  obtain ⟨rq, e, _⟩ := B.vws
  exact .inl ⟨rfl, _, R.sqL e⟩
/-! stores -/
abbrev Mv1 (c : Cl) (S : MS) (ad : Tg → Addr) (H H' : Hp) : Prop := Mvd c.kd S.ths.length S.mem.length ad ad H H'
theorem mv_put {t : Tg} {o o' : HO} (h : H (ad t) = some o) (hn : ∀ xs, o ≠ .tup xs) : Mv1 c S ad H (upd H (ad t) o') := Mvd.put h hn
theorem q_stCond {c1 : Addr} {cd : Cond} (C : BdC K c) (B : Bd c ad S H) (hi : i < S.ths.length) (hc : H c1 = some (.tup (condV cd))) (h : ∀ H', Bd c ad (setCond S i cd) H' → Mv1 c S ad H H' → G H') :
    ∃ a C' dx fs, V.ref (ad (.thr i)) = .ref a ∧ H a = some (.ins C' dx fs) ∧ Cls K C' ∧ NoAttr K C' "condition" ∧ fs.length < 1000 ∧ G (upd H a (.ins C' dx (putF "condition" (.ref c1) fs))) := by
  obtain ⟨dx, c0, e, _, z⟩ := B.thr (th_get hi)
  exact ⟨_, _, dx, _, rfl, e, C.cT, C.nCond, Nat.lt_of_sub_eq_succ rfl, h _ (z { S.th i with cond := cd } c1 rfl hc) (mv_put e (fun _ => nofun))⟩
theorem q_stPc {v : Int} (C : BdC K c) (B : Bd c ad S H) (hi : i < S.ths.length) (h : ∀ H', Bd c ad (S.up i fun t => { t with pc := v }) H' → Mv1 c S ad H H' → G H') :
    ∃ a C' dx fs, V.ref (ad (.thr i)) = .ref a ∧ H a = some (.ins C' dx fs) ∧ Cls K C' ∧ NoAttr K C' "pc" ∧ fs.length < 1000 ∧ G (upd H a (.ins C' dx (putF "pc" (.int v) fs))) := by
  obtain ⟨dx, c0, e, e2, z⟩ := B.thr (th_get hi)
  exact ⟨_, _, dx, _, rfl, e, C.cT, C.nPc, Nat.lt_of_sub_eq_succ rfl, h _ (z { S.th i with pc := v } c0 rfl e2) (mv_put e (fun _ => nofun))⟩
theorem q_stCall {v : Int} (C : BdC K c) (B : Bd c ad S H) (hi : i < S.ths.length) (h : ∀ H', Bd c ad (S.up i fun t => { t with call := v }) H' → Mv1 c S ad H H' → G H') :
    ∃ a C' dx fs, V.ref (ad (.thr i)) = .ref a ∧ H a = some (.ins C' dx fs) ∧ Cls K C' ∧ NoAttr K C' "call" ∧ fs.length < 1000 ∧ G (upd H a (.ins C' dx (putF "call" (.int v) fs))) := by
  obtain ⟨dx, c0, e, e2, z⟩ := B.thr (th_get hi)
  exact ⟨_, _, dx, _, rfl, e, C.cT, C.nCall, Nat.lt_of_sub_eq_succ rfl, h _ (z { S.th i with call := v } c0 rfl e2) (mv_put e (fun _ => nofun))⟩
theorem q_stCallAt {v : Int} (C : BdC K c) (B : Bd c ad S H) (hi : i < S.ths.length) (h : ∀ H', Bd c ad (S.up i fun t => { t with callAt := v }) H' → Mv1 c S ad H H' → G H') :
    ∃ a C' dx fs, V.ref (ad (.thr i)) = .ref a ∧ H a = some (.ins C' dx fs) ∧ Cls K C' ∧ NoAttr K C' "call_at" ∧ fs.length < 1000 ∧ G (upd H a (.ins C' dx (putF "call_at" (.int v) fs))) := by
  obtain ⟨dx, c0, e, e2, z⟩ := B.thr (th_get hi)
  exact ⟨_, _, dx, _, rfl, e, C.cT, C.nCallAt, Nat.lt_of_sub_eq_succ rfl, h _ (z { S.th i with callAt := v } c0 rfl e2) (mv_put e (fun _ => nofun))⟩
theorem q_stCpu {n : Nat} (C : BdC K c) (B : Bd c ad S H) (h : ∀ H', Bd c ad { S with cpu := n } H' → Mv1 c S ad H H' → G H') :
    ∃ a C' dx fs, V.ref (ad .brd) = .ref a ∧ H a = some (.ins C' dx fs) ∧ Cls K C' ∧ NoAttr K C' "cpu" ∧ fs.length < 1000 ∧ G (upd H a (.ins C' dx (putF "cpu" (.int (n : Int)) fs))) := by
  obtain ⟨dx, rt, e, e2, z⟩ := B.brd
  exact ⟨_, _, dx, _, rfl, e, C.cB, C.nCpu, Nat.lt_of_sub_eq_succ rfl, h _ (z S.dev n) (mv_put e (fun _ => nofun))⟩
theorem q_stDev {v : Int} (C : BdC K c) (B : Bd c ad S H) (h : ∀ H', Bd c ad { S with dev := v } H' → Mv1 c S ad H H' → G H') :
    ∃ a C' dx fs, V.ref (ad .brd) = .ref a ∧ H a = some (.ins C' dx fs) ∧ Cls K C' ∧ NoAttr K C' "device_value" ∧ fs.length < 1000 ∧ G (upd H a (.ins C' dx (putF "device_value" (.int v) fs))) := by
  obtain ⟨dx, rt, e, e2, z⟩ := B.brd
  exact ⟨_, _, dx, _, rfl, e, C.cB, C.nDev, Nat.lt_of_sub_eq_succ rfl, h _ (z v S.cpu) (mv_put e (fun _ => nofun))⟩
theorem map_set_int {l : List Int} {j : Nat} {v : Int} : (l.map V.int).set j (.int v) = (l.set j v).map V.int := by rw [List.map_set]
theorem q_setRgs {j v : Int} (B : Bd c ad S H) (W : WF S k) (hi : i < S.ths.length) (h0 : 0 ≤ j) (h4 : j < 4) (h : ∀ H', Bd c ad (setReg S i j.toNat v) H' → Mv1 c S ad H H' → G H') : rSetL (.ref (ad (.rgs i))) (.int j) (.int v) H G := by
  obtain ⟨e, z⟩ := B.rgs (th_get hi)
  refine ⟨_, _, j, j.toNat, rfl, rfl, e, ?_, ?_⟩
  · unfold ixN
    rw [if_pos h0, if_pos (by rw [List.length_map, (W.tok hi).len]; omega)]
  · have z1 := h _ (z ((S.th i).regs.set j.toNat v)) (mv_put e (fun _ => nofun))
    rw [map_set_int]
    exact z1
theorem q_setRun {v : Int} (B : Bd c ad S H) (hi : i < S.run.length) (h : ∀ H', Bd c ad { S with run := S.run.set i v } H' → Mv1 c S ad H H' → G H') : rSetL (.ref (ad .runL)) (.int (i : Int)) (.int v) H G := by
  obtain ⟨e, z⟩ := B.rn
  refine ⟨_, _, (i : Int), i, rfl, rfl, e, ?_, ?_⟩
  · unfold ixN
    rw [if_pos (by omega), if_pos (by rw [List.length_map]; omega)]
    rfl
  · have z1 := h _ (z (S.run.set i v)) (mv_put e (fun _ => nofun))
    rw [map_set_int]
    exact z1
theorem q_setTim {v : Int} (B : Bd c ad S H) (hi : i < S.times.length) (h : ∀ H', Bd c ad { S with times := S.times.set i v } H' → Mv1 c S ad H H' → G H') : rSetL (.ref (ad .timL)) (.int (i : Int)) (.int v) H G := by
  obtain ⟨e, z⟩ := B.tim
  refine ⟨_, _, (i : Int), i, rfl, rfl, e, ?_, ?_⟩
  · unfold ixN
    rw [if_pos (by omega), if_pos (by rw [List.length_map]; omega)]
    rfl
  · have z1 := h _ (z (S.times.set i v)) (mv_put e (fun _ => nofun))
    rw [map_set_int]
    exact z1
theorem q_setCls {j v : Int} {m : Mm} (B : Bd c ad S H) (hm : S.mem[i]? = some m) (h0 : 0 ≤ j) (h4 : j.toNat < m.cells.length) (h : ∀ H', Bd c ad (S.setMm i { m with cells := m.cells.set j.toNat v }) H' → Mv1 c S ad H H' → G H') : rSetL (.ref (ad (.cls i))) (.int j) (.int v) H G := by
  obtain ⟨e, z⟩ := B.cls hm
  refine ⟨_, _, j, j.toNat, rfl, rfl, e, ?_, ?_⟩
  · unfold ixN
    rw [if_pos h0, if_pos (by rw [List.length_map]; omega)]
  · have z1 := h _ (z (m.cells.set j.toNat v)) (mv_put e (fun _ => nofun))
    rw [map_set_int]
    exact z1
theorem q_getTim (B : Bd c ad S H) (hi : i < S.times.length) (h : Q (.int (S.times.getD i 0)) H) : rGetL K (.ref (ad .timL)) (.int (i : Int)) H Q :=
  ⟨_, _, _, _, rfl, rfl, R.sqL B.tim.1, by omega, getD_get (by show i < _; exact hi), h⟩
/-! what is added -/
theorem q_appRdy {t : Nat} (B : Bd c ad S H) (hl : S.ready.length < 100000) (h : ∀ H', Bd c ad { S with ready := S.ready ++ [t] } H' → Mv1 c S ad H H' → Q .non H') : rAppend (.ref (ad .rdyL)) [.int (t : Int)] H Q := by
  obtain ⟨e, z⟩ := B.rdy
  refine ⟨_, _, _, rfl, rfl, e, R.size_lt (by rw [List.length_map]; exact hl), ?_⟩
  have z1 := h _ (z (S.ready ++ [t])) (mv_put e (fun _ => nofun))
  rw [List.map_append] at z1
  exact z1
theorem q_appVws {a : Addr} {w : Vw} (B : Bd c ad S H) (hl : S.views.length < 100000) (hv : VwAt H a w) (h : ∀ H', Bd c ad { S with views := S.views ++ [w] } H' → Mv1 c S ad H H' → Q .non H') : rAppend (.ref (ad .vwsL)) [.ref a] H Q := by
  obtain ⟨vw, e, al, z⟩ := B.vws
  refine ⟨_, _, _, rfl, rfl, e, R.size_lt (by rw [List.length_map, al.length]; exact hl), ?_⟩
  have z1 := h _ (z (vw ++ [a]) (S.views ++ [w]) (al.snoc hv)) (mv_put e (fun _ => nofun))
  rw [List.map_append] at z1
  exact z1
theorem q_appReq {a : Addr} {q : Nat × Int × Int} (B : Bd c ad S H) (hl : S.reqs.length < 100000) (hv : RqAt H a q) (h : ∀ H', Bd c ad { S with reqs := S.reqs ++ [q] } H' → Mv1 c S ad H H' → Q .non H') : rAppend (.ref (ad .reqL)) [.ref a] H Q := by
  obtain ⟨vw, e, al, z⟩ := B.req
  refine ⟨_, _, _, rfl, rfl, e, R.size_lt (by rw [List.length_map, al.length]; exact hl), ?_⟩
  have z1 := h _ (z (vw ++ [a]) (S.reqs ++ [q]) (al.snoc hv)) (mv_put e (fun _ => nofun))
  rw [List.map_append] at z1
  exact z1
/-! lengths -/
theorem q_lenThs (B : Bd c ad S H) (h : Q (.int (S.ths.length : Int)) H) : R.rLenS K [.ref (ad .thsL)] H Q := by
  refine R.r_lenL (R.sqL B.thsAt) ?_
  rw [List.length_map, List.length_range]
  exact h
end
end MM
end
section
/-! the machine: the defs' promises -/
namespace MM
open PySem PySem.Spec PyProof.Rows L2
def Pl (c : Cl) (S : MS) : Prop := c.kd = false → ∀ ks ∈ S.mem.map (fun m => m.kept.map (·.1)), ks = []
theorem Pl.sm {c : Cl} {S S' : MS} (p : Pl c S) (s : Sm S S') : Pl c S' := fun h => by rw [s.km]; exact p h
theorem Pl.nil {c : Cl} {S : MS} (p : Pl c S) (h : c.kd = false) {m : Mm} (hm : m ∈ S.mem) : m.kept = [] := List.map_eq_nil_iff.mp (p h _ (List.mem_map.mpr ⟨m, hm, rfl⟩))
structure Ok (c : Cl) (ad : Tg → Addr) (S : MS) (H : Hp) (k : Nat) : Prop where
  B : Bd c ad S H
  W : WF S k
  hk : k ≤ 60000
  pl : Pl c S
theorem Ok.same {c : Cl} {ad : Tg → Addr} {S : MS} {H H' : Hp} {k : Nat} (o : Ok c ad S H k) (s : Same H H') : Ok c ad S H' k := ⟨o.B.same s, o.W, o.hk, o.pl⟩
theorem Ok.to {c : Cl} {ad ad' : Tg → Addr} {S S' : MS} {H H' : Hp} {k k' : Nat} (o : Ok c ad S H k) (b : Bd c ad' S' H') (w : WF S' k') (hk : k' ≤ 60000) (s : Sm S S') : Ok c ad' S' H' k' := ⟨b, w, hk, o.pl.sm s⟩
def spLoad (c : Cl) : Sp := fun vs H Q _ => ∃ ad S k i a, vs = [.ref (ad (.mem i)), .int a] ∧ Ok c ad S H k ∧ i < S.mem.length ∧ Q (.int ((S.mm i).load a)) H
def spStore (c : Cl) : Sp := fun vs H Q _ => ∃ ad S k i a b, vs = [.ref (ad (.mem i)), .int a, .int b] ∧ Ok c ad S H k ∧ i < S.mem.length ∧ ∀ H', Bd c ad (S.setMm i ((S.mm i).store a b)) H' → Mv1 c S ad H H' → Q .non H'
def spImage (c : Cl) : Sp := fun vs H Q _ => ∃ ad S k i, vs = [.ref (ad (.mem i))] ∧ Ok c ad S H k ∧ i < S.mem.length ∧ ∀ p H', H p = none → Same H H' → H' p = some (.tup ((S.mm i).img.map V.int)) → Q (.ref p) H'
def spTells (c : Cl) : Sp := fun vs H Q _ => ∃ ad S k i a, vs = [.ref (ad (.mem i)), .int a] ∧ Ok c ad S H k ∧ i < S.mem.length ∧ Q (.bl ((S.mm i).tells c.kd a)) H
def spNow (c : Cl) : Sp := fun vs H Q _ => ∃ ad S k, vs = [.ref (ad .brd)] ∧ Ok c ad S H k ∧ Q (.int S.now) H
def spTell (c : Cl) : Sp := fun vs H Q _ => ∃ ad S k kind tid at' args g, vs = [.ref (ad .brd), .str kind, .int ((tid : Nat) : Int), .int at', .ref g] ∧ H g = some (.tup (args.map V.int)) ∧ Ok c ad S H k ∧ tid < S.ths.length ∧
  ∀ H', Bd c ad (tell S kind tid at' args) H' → Mv1 c S ad H H' → Q .non H'
def spTellTick (c : Cl) : Sp := fun vs H Q _ => ∃ ad S k, vs = [.ref (ad .brd)] ∧ Ok c ad S H k ∧ ∀ H', Bd c ad (tellTick S) H' → Mv1 c S ad H H' → Q .non H'
def spEndRun (c : Cl) : Sp := fun vs H Q _ => ∃ ad S k tid cd c1, vs = [.ref (ad .brd), .int ((tid : Nat) : Int), .ref c1] ∧ H c1 = some (.tup (condV cd)) ∧ Ok c ad S H k ∧ tid < S.ths.length ∧ ∀ H', Bd c ad (endRun S tid cd) H' → Mv1 c S ad H H' → Q .non H'
def spMakeReady (c : Cl) : Sp := fun vs H Q _ => ∃ ad S k tid, vs = [.ref (ad .brd), .int ((tid : Nat) : Int)] ∧ Ok c ad S H k ∧ tid < S.ths.length ∧ ∀ H', Bd c ad (makeReady S tid) H' → Mv1 c S ad H H' → Q .non H'
def spBeginRun (c : Cl) : Sp := fun vs H Q _ => ∃ ad S k tid, vs = [.ref (ad .brd), .int ((tid : Nat) : Int)] ∧ Ok c ad S H k ∧ tid < S.ths.length ∧ ∀ H', Bd c ad (beginRun S tid) H' → Mv1 c S ad H H' → Q .non H'
def spBeginPick (c : Cl) : Sp := fun vs H Q _ => ∃ ad S k cpu, vs = [.ref (ad .brd), .int ((cpu : Nat) : Int)] ∧ Ok c ad S H k ∧ cpu < S.rates.length ∧ ∀ H', Bd c ad (begin' S cpu) H' → Mv1 c S ad H H' → Q .non H'
def spReturnCall (c : Cl) : Sp := fun vs H Q _ => ∃ ad S k tid res, vs = [.ref (ad .brd), .int ((tid : Nat) : Int), .int res] ∧ 0 ≤ res ∧ Ok c ad S H k ∧ k ≤ 58000 ∧ tid < S.ths.length ∧ ∀ H', Bd c ad (returnCall S tid res) H' → Mv1 c S ad H H' → Q .non H'
def spEndThread (c : Cl) : Sp := fun vs H Q _ => ∃ ad S k tid at' code, vs = [.ref (ad .brd), .int ((tid : Nat) : Int), .int at', .int code] ∧ 0 ≤ code ∧ Ok c ad S H k ∧ k ≤ 57000 ∧ tid < S.ths.length ∧ ∀ H', Bd c ad (endThread S tid at' code) H' → Mv1 c S ad H H' → Q .non H'
def spLeave (c : Cl) : Sp := fun vs H Q _ => ∃ ad S k tid cd c1 r, vs = [.ref (ad .brd), .int ((tid : Nat) : Int), .ref c1, .int r] ∧ H c1 = some (.tup (condV cd)) ∧ condOk cd ∧ Ok c ad S H k ∧ tid < S.ths.length ∧ ∀ H', Bd c ad (leave S tid cd r) H' → Mv1 c S ad H H' → Q .non H'
def spGoLast (c : Cl) : Sp := fun vs H Q _ => ∃ ad S k tid r, vs = [.ref (ad .brd), .int ((tid : Nat) : Int), .int r] ∧ Ok c ad S H k ∧ k ≤ 58000 ∧ tid < S.ths.length ∧ ∀ H', Bd c ad (goLast S tid r) H' → Mv1 c S ad H H' → Q .non H'
abbrev Mv2 (c : Cl) (S : MS) (ad ad' : Tg → Addr) (H H' : Hp) : Prop := Mvd c.kd S.ths.length S.mem.length ad ad' H H'
def spAddThread (c : Cl) : Sp := fun vs H Q _ => ∃ ad S k pid pc first, vs = [.ref (ad .brd), .int ((pid : Nat) : Int), .int pc, .int first] ∧ Ok c ad S H k ∧ ∀ ad' H', Bd c ad' (addThread S pid pc first) H' → Mv2 c S ad ad' H H' → Q (.int (S.ths.length : Int)) H'
def spBeginThread (c : Cl) : Sp := fun vs H Q _ => ∃ ad S k t, vs = [.ref (ad .brd), .ref (ad (.thr t))] ∧ Ok c ad S H k ∧ t < S.ths.length ∧
  (8 ≤ S.ths.length → Q (.int 65535) H) ∧ (¬ 8 ≤ S.ths.length → ∀ ad' H', Bd c ad' (addThread S (S.th t).pid (reg S t 0 % 256) (reg S t 1)) H' → Mv2 c S ad ad' H H' → Q (.int (S.ths.length : Int)) H')
def spWaitFor (c : Cl) : Sp := fun vs H Q _ => ∃ ad S k tid x, vs = [.ref (ad .brd), .int ((tid : Nat) : Int), .int x] ∧ 0 ≤ x ∧ Ok c ad S H k ∧ k ≤ 57000 ∧ tid < S.ths.length ∧ ∀ H', Bd c ad (waitFor S tid x) H' → Mv1 c S ad H H' → Q .non H'
def spDoCall (c : Cl) : Sp := fun vs H Q _ => ∃ ad S k tid n a, vs = [.ref (ad .brd), .int ((tid : Nat) : Int), .int n, .int a] ∧ Ok c ad S H k ∧ k ≤ 49900 ∧ tid < S.ths.length ∧ ∀ ad' H', Bd c ad' (doCall S tid n a) H' → Mv2 c S ad ad' H H' → Q .non H'
def spMove (c : Cl) : Sp := fun vs H Q _ => ∃ ad S k tid code x y, vs = [.ref (ad (.rgs tid)), .ref (ad (.mem (S.th tid).pid)), .int code, .int x, .int y] ∧ Ok c ad S H k ∧ tid < S.ths.length ∧ ∀ H', Bd c ad (move S tid code x y) H' → Mv1 c S ad H H' → Q .non H'
def spNextPc (c : Cl) : Sp := fun vs H Q _ => ∃ ad S k tid code x y z, vs = [.ref (ad (.rgs tid)), .int code, .int x, .int y, .int z] ∧ Ok c ad S H k ∧ tid < S.ths.length ∧ ∀ H', Same H H' → Q (.int (nextPc (S.th tid).regs code x y z)) H'
def spDoInsn (c : Cl) : Sp := fun vs H Q _ => ∃ ad S k tid, vs = [.ref (ad .brd), .int ((tid : Nat) : Int)] ∧ Ok c ad S H k ∧ k ≤ 49800 ∧ tid < S.ths.length ∧ ∀ ad' H', Bd c ad' (doInsn c.kd S tid) H' → Mv2 c S ad ad' H H' → Q .non H'
def spWake (c : Cl) : Sp := fun vs H Q _ => ∃ ad S k, vs = [.ref (ad .brd)] ∧ Ok c ad S H k ∧ k ≤ 49900 ∧ ∀ H', Bd c ad (wake S) H' → Mv1 c S ad H H' → Q .non H'
def spDoStep (c : Cl) : Sp := fun vs H Q _ => ∃ ad S k, vs = [.ref (ad .brd)] ∧ Ok c ad S H k ∧ k ≤ 49700 ∧ ∀ ad' H', Bd c ad' (doStep c.kd S) H' → Mv2 c S ad ad' H H' → Q .non H'
def spDoTimer (c : Cl) : Sp := fun vs H Q _ => ∃ ad S k, vs = [.ref (ad .brd)] ∧ Ok c ad S H k ∧ k ≤ 49700 ∧ ∀ H', Bd c ad (doTimer S) H' → Mv1 c S ad H H' → Q .non H'
def spDoRequest (c : Cl) : Sp := fun vs H Q _ => ∃ ad S k, vs = [.ref (ad .brd)] ∧ Ok c ad S H k ∧ k ≤ 49700 ∧ ∀ H', Bd c ad (doRequest S) H' → Mv1 c S ad H H' → Q .non H'
/-- a pick: the views at a new list of the caller's -/
def spDoPick (c : Cl) : Sp := fun vs H Q _ => ∃ ad S k p cpu what, vs = [.ref (ad .brd), .ref p] ∧ H p = some (.tup [.int ((cpu : Nat) : Int), .str what]) ∧ Ok c ad S H k ∧ k ≤ 49000 ∧ cpu < S.rates.length ∧ S.views = [] ∧
  ∀ ad' H' v vw, Bd c ad' { doPick c.kd S cpu what with views := [] } H' → Mv2 c S ad ad' H H' → H' v = some (.lst (vw.map V.ref)) → All2 (VwAt H') vw (doPick c.kd S cpu what).views → (∀ t, ad' t ≠ v) → (∀ o, H v = some o → ∃ t, ad t = v) → Q (.ref v) H'
/-- the memories' own methods, plain or with stops -/
structure MemI (P : Program) (w : World) (K : PySem.W.Frag) (mg : Str → Option Value) (base : Heap) (c : Cl) where
  cc : Cls K c.CM
  nCells : NoAttr K c.CM "cells"
  f_load : Addr
  d_load : FuncData
  m_load : Meth K c.CM "load" f_load
  ok_load : FnOk P w K mg base CX0 1 f_load d_load ["self", "at"] (spLoad c)
  b_load : Binds K d_load ["self", "at"] []
  f_store : Addr
  d_store : FuncData
  m_store : Meth K c.CM "store" f_store
  ok_store : FnOk P w K mg base CX0 1 f_store d_store ["self", "at", "byte"] (spStore c)
  b_store : Binds K d_store ["self", "at", "byte"] []
  f_image : Addr
  d_image : FuncData
  m_image : Meth K c.CM "image" f_image
  ok_image : FnOk P w K mg base CX0 1 f_image d_image ["self"] (spImage c)
  b_image : Binds K d_image ["self"] []
  ps_tells : List Str
  f_tells : Addr
  d_tells : FuncData
  m_tells : Meth K c.CM "tells" f_tells
  ok_tells : FnOk P w K mg base CX0 1 f_tells d_tells ps_tells (spTells c)
  b_tells : Binds K d_tells ps_tells []
section
variable {c : Cl} {ad : Tg → Addr} {S : MS} {H : Hp} {K : PySem.W.Frag} {G : Prop} {i : Nat} {m : Str} {Q : VK} {σ : L2.St} {ta tv : TE} {tr : TA} {sp : Sp} {E : XK} {C : Addr} {dvs : List V} {nx bk ct : L2.St → Hp → Prop} {rt : V → Hp → Prop} {f : Str} {to ti te : TE}
theorem r_meth (h : ta σ H fun x H1 => ∃ a dx fs, x = .ref a ∧ H1 a = some (.ins C dx fs) ∧ fs.lookup m = none ∧ tr σ H1 fun vs H2 => sp (x :: (vs ++ dvs)) H2 Q E) : tMeth C m sp dvs E ta tr σ H Q := h
theorem r_sfld (h : tv σ H fun y H1 => ta σ H1 fun x H2 => ∃ a C dx fs, x = .ref a ∧ H2 a = some (.ins C dx fs) ∧ Cls K C ∧ NoAttr K C f ∧ fs.length < 1000 ∧ nx σ (upd H2 a (.ins C dx (putF f y fs)))) : sFld K ta tv f ⟨nx, rt, bk, ct⟩ σ H := h
theorem r_gsub {x : V} {t : TSet} {N : L2.St → Hp → Prop} (h : to σ H fun o H1 => ti σ H1 fun i H2 => t o i x H2 fun H3 => N σ H3) : gSub to ti t x σ H N := h
theorem r_augS {tget : V → V → Hp → VK → Prop} {tip : TIp} {tset : TSet} (h : to σ H fun o H1 => ti σ H1 fun i H2 => tget o i H2 fun x H3 => te σ H3 fun y H4 => tip x y H4 fun z H5 => tset o i z H5 fun H6 => nx σ H6) : tAugS to ti te tget tip tset ⟨nx, rt, bk, ct⟩ σ H := h
theorem r_ip {g : Int → Int → Int} {i j : Int} (h : Q (.int (g i j)) H) : ipI g (.int i) (.int j) H Q := ⟨i, j, rfl, rfl, h⟩
theorem q_mBrd (B : Bd c ad S H) (hl : ∀ ad rt dev cpu, (fsB ad rt dev cpu).lookup m = none) (h : G) : ∃ a dx fs, V.ref (ad .brd) = .ref a ∧ H a = some (.ins c.CB dx fs) ∧ fs.lookup m = none ∧ G := by
  obtain ⟨dx, rt, e, _⟩ := B.brd
  exact ⟨_, dx, _, rfl, e, hl _ _ _ _, h⟩
theorem q_mMem (B : Bd c ad S H) (hi : i < S.mem.length) (hl : ∀ a b kd, (fsM kd a b).lookup m = none) (h : G) : ∃ a dx fs, V.ref (ad (.mem i)) = .ref a ∧ H a = some (.ins c.CM dx fs) ∧ fs.lookup m = none ∧ G := by
  obtain ⟨dx, e⟩ := B.memI (mm_get hi)
  exact ⟨_, dx, _, rfl, e, hl _ _ _, h⟩
end
section
variable {K : PySem.W.Frag} {C dx : Addr} {kd : Bool} {a b : Addr} {H : Hp} {P : V → Prop}
theorem q_fldM {m : Addr} (hC : Cls K C) (hn : NoAttr K C "cells") (e : H m = some (.ins C dx (fsM kd a b))) (h : P (.ref a)) : ∃ a' C' dx' fs v, V.ref m = .ref a' ∧ H a' = some (.ins C' dx' fs) ∧ Cls K C' ∧ NoAttr K C' "cells" ∧ fs.lookup ("cells" : Str) = some v ∧ P v := by
  refine ⟨_, _, _, _, _, rfl, e, hC, hn, ?_, h⟩
  unfold fsM
  cases kd <;> rfl
end
end MM
end
section
/-! the machine: more readings; a new thread; what is taken away -/
namespace MM
open PySem PySem.Spec PyProof.Rows L2
theorem new2 {H H' : Hp} {p : Addr} {o : HO} (h : upd H p o = H') (hp : H p = none) : Same H H' ∧ H' p = some o := by
  subst h
  exact ⟨R.same_new hp, upd_same⟩
section
variable {c : Cl} {ad : Tg → Addr} {S : MS} {H : Hp} {K : PySem.W.Frag} {P : V → Prop} {i : Nat} {Q : VK} {k : Nat} {G : Hp → Prop}
def adTh (ad : Tg → Addr) (n : Nat) (x rg : Addr) : Tg → Addr := fun u => if u = .thr n then x else if u = .rgs n then rg else ad u
theorem adTh_ne {n : Nat} {x rg : Addr} {u : Tg} (h1 : u ≠ .thr n) (h2 : u ≠ .rgs n) : adTh ad n x rg u = ad u := by
  unfold adTh
  rw [if_neg h1, if_neg h2]
theorem Bd.there (B : Bd c ad S H) {t : Tg} (d : dom c.kd S.ths.length S.mem.length t) : ∃ o, H (ad t) = some o := by
  obtain ⟨⟨g, h1, _⟩, _, _⟩ := B
  have : ∃ o, cont c ad g S t = some o := by
    cases t with
    | thr i => exact ⟨_, by show (S.ths[i]?.map _) = _; rw [List.getElem?_eq_getElem d]; rfl⟩
    | rgs i => exact ⟨_, by show (S.ths[i]?.map _) = _; rw [List.getElem?_eq_getElem d]; rfl⟩
    | mem i => exact ⟨_, by show (S.mem[i]?.map _) = _; rw [List.getElem?_eq_getElem d]; rfl⟩
    | cls i => exact ⟨_, by show (S.mem[i]?.map _) = _; rw [List.getElem?_eq_getElem d]; rfl⟩
    | kpt i => exact ⟨_, by show (if c.kd then (S.mem[i]?.map _) else none) = _; rw [if_pos d.1, List.getElem?_eq_getElem d.2]; rfl⟩
    | _ => exact ⟨_, rfl⟩
  obtain ⟨o, e⟩ := this
  exact ⟨o, h1 t o e⟩
theorem Bd.newTh {x dx rg cv : Addr} {t : Th} {H' : Hp} (B : Bd c ad S H) (sm : Same H H') (hx : H x = none) (hr : H rg = none) (hxr : x ≠ rg)
    (ex : H' x = some (.ins c.CT dx (fsT rg cv t))) (er : H' rg = some (.lst (t.regs.map V.int))) (ec : H' cv = some (.tup (condV t.cond))) :
    Bd c (adTh ad S.ths.length x rg) { S with ths := S.ths ++ [t] } (upd H' (ad .thsL) (.lst (((List.range S.ths.length).map fun i => V.ref (ad (.thr i))) ++ [.ref x]))) ∧
    Mvd c.kd S.ths.length S.mem.length ad (adTh ad S.ths.length x rg) H (upd H' (ad .thsL) (.lst (((List.range S.ths.length).map fun i => V.ref (ad (.thr i))) ++ [.ref x]))) := by
  have old : ∀ u, dom c.kd S.ths.length S.mem.length u → adTh ad S.ths.length x rg u = ad u := fun u d => by
    refine adTh_ne (fun e => ?_) (fun e => ?_)
    · rw [e] at d; exact Nat.lt_irrefl _ d
    · rw [e] at d; exact Nat.lt_irrefl _ d
  have eT := sm _ _ B.thsAt
  have out : ∀ u, dom c.kd S.ths.length S.mem.length u → ad u ≠ x ∧ ad u ≠ rg := fun u d => by
    obtain ⟨o, e⟩ := B.there d
    exact ⟨ne_of_none e hx, ne_of_none e hr⟩
  have n1 : x ≠ ad .thsL := fun e => (out .thsL trivial).1 e.symm
  have n2 : rg ≠ ad .thsL := fun e => (out .thsL trivial).2 e.symm
  have kt : KeepT H' (upd H' (ad .thsL) (.lst (((List.range S.ths.length).map fun i => V.ref (ad (.thr i))) ++ [.ref x]))) := KeepT.upd eT (fun _ => nofun)
  have kt0 : KeepT H (upd H' (ad .thsL) (.lst (((List.range S.ths.length).map fun i => V.ref (ad (.thr i))) ++ [.ref x]))) := (KeepT.of sm).trans kt
  have inj0 := B.inj
  obtain ⟨⟨g, h1, h2, h3, h4, h5⟩, inj, od⟩ := B
  have dn : ∀ u, dom c.kd (S.ths ++ [t]).length S.mem.length u → dom c.kd S.ths.length S.mem.length u ∨ u = .thr S.ths.length ∨ u = .rgs S.ths.length := fun u d => by
    rw [List.length_append] at d
    cases u with
    | thr i => 
      have d : i < S.ths.length + 1 := d
      by_cases e : i = S.ths.length
      · exact .inr (.inl (by rw [e]))
      · exact .inl (show i < S.ths.length by omega)
    | rgs i =>
      have d : i < S.ths.length + 1 := d
      by_cases e : i = S.ths.length
      · exact .inr (.inr (by rw [e]))
      · exact .inl (show i < S.ths.length by omega)
    | _ => exact .inl d
  have aT : adTh ad S.ths.length x rg (.thr S.ths.length) = x := if_pos rfl
  have aR : adTh ad S.ths.length x rg (.rgs S.ths.length) = rg := by
    unfold adTh
    rw [if_neg (by intro e; cases e), if_pos rfl]
  refine ⟨⟨⟨{ g with dT := fun j => if j = S.ths.length then dx else g.dT j, cv := fun j => if j = S.ths.length then cv else g.cv j }, ?_, ?_, h3.imp fun _ _ z => kt0 _ _ z, h4.imp fun _ _ z => z.keep kt0, kt0 _ _ h5⟩, ?_, ?_⟩, ?_⟩
  · intro u o hu
    have du := dom_some hu
    rcases dn u du with d | e | e
    · rw [old u d]
      by_cases z : u = .thsL
      · subst z
        rw [upd_same, ← hu]
        show some (HO.lst _) = some (HO.lst ((List.range (S.ths ++ [t]).length).map fun i => V.ref (adTh ad S.ths.length x rg (.thr i))))
        rw [List.length_append]
        show _ = some (HO.lst ((List.range (S.ths.length + 1)).map _))
        rw [List.range_succ, List.map_append, List.map_singleton, aT]
        refine congrArg (fun z => some (HO.lst (z ++ [V.ref x]))) (List.map_congr_left fun i hi => ?_)
        rw [old (.thr i) (List.mem_range.mp hi)]
      · have q : ad u ≠ ad .thsL := fun e => z (inj u .thsL d trivial e)
        rw [upd_ne q]
        refine sm _ _ (h1 u o ?_)
        rw [← hu]
        cases u with
        | thr j =>
          have hj : j < S.ths.length := d
          show (S.ths[j]?.map fun t => HO.ins c.CT (g.dT j) (fsT (ad (.rgs j)) (g.cv j) t)) = (((S.ths ++ [t])[j]?).map fun t => HO.ins c.CT (if j = S.ths.length then dx else g.dT j) (fsT (adTh ad S.ths.length x rg (.rgs j)) (if j = S.ths.length then cv else g.cv j) t))
          rw [List.getElem?_append_left hj, if_neg (by omega), if_neg (by omega), old (.rgs j) hj]
        | rgs j =>
          have hj : j < S.ths.length := d
          show (S.ths[j]?.map fun t => HO.lst (t.regs.map V.int)) = (((S.ths ++ [t])[j]?).map fun t => HO.lst (t.regs.map V.int))
          rw [List.getElem?_append_left hj]
        | brd =>
          show some (HO.ins c.CB g.dB (fsB ad g.rt S.dev S.cpu)) = some (HO.ins c.CB g.dB (fsB (adTh ad S.ths.length x rg) g.rt S.dev S.cpu))
          rfl
        | memL => rfl
        | mem j => rfl
        | kpt j => rfl
        | thsL => exact absurd rfl z
        | _ => rfl
    · subst e
      rw [aT, upd_ne n1, ex, ← hu]
      show some _ = (((S.ths ++ [t])[S.ths.length]?).map fun t => HO.ins c.CT (if S.ths.length = S.ths.length then dx else g.dT S.ths.length) (fsT (adTh ad S.ths.length x rg (.rgs S.ths.length)) (if S.ths.length = S.ths.length then cv else g.cv S.ths.length) t))
      rw [List.getElem?_append_right (Nat.le_refl _), Nat.sub_self, if_pos rfl, if_pos rfl, aR]
      rfl
    · subst e
      rw [aR, upd_ne n2, er, ← hu]
      show some _ = (((S.ths ++ [t])[S.ths.length]?).map fun t => HO.lst (t.regs.map V.int))
      rw [List.getElem?_append_right (Nat.le_refl _), Nat.sub_self]
      rfl
  · intro j y hy
    show upd H' _ _ (if j = S.ths.length then cv else g.cv j) = _
    have hl : j < (S.ths ++ [t]).length := (List.getElem?_eq_some_iff.mp hy).1
    rw [List.length_append] at hl
    have hl : j < S.ths.length + 1 := hl
    have hy : (S.ths ++ [t])[j]? = some y := hy
    by_cases e : j = S.ths.length
    · rw [if_pos e]
      rw [e, List.getElem?_append_right (Nat.le_refl _), Nat.sub_self] at hy
      have hy : some t = some y := hy
      rw [← Option.some.inj hy]
      exact kt _ _ ec
    · rw [if_neg e]
      rw [List.getElem?_append_left (by omega)] at hy
      exact kt0 _ _ (h2 j y hy)
  · intro u v du dv e
    rcases dn u du with d | d | d
    · rcases dn v dv with d' | d' | d'
      · rw [old u d, old v d'] at e
        exact inj u v d d' e
      · rw [old u d, d', aT] at e
        exact absurd e (out u d).1
      · rw [old u d, d', aR] at e
        exact absurd e (out u d).2
    · rcases dn v dv with d' | d' | d'
      · rw [d, aT, old v d'] at e
        exact absurd e.symm (out v d').1
      · rw [d, d']
      · rw [d, d', aT, aR] at e
        exact absurd e hxr
    · rcases dn v dv with d' | d' | d'
      · rw [d, aR, old v d'] at e
        exact absurd e.symm (out v d').2
      · rw [d, d', aT, aR] at e
        exact absurd e.symm hxr
      · rw [d, d']
  · intro u nd
    have nd : ¬ dom c.kd (S.ths ++ [t]).length S.mem.length u := nd
    rw [List.length_append] at nd
    have b0 : adTh ad S.ths.length x rg .brd = ad .brd := adTh_ne (by intro e; cases e) (by intro e; cases e)
    rw [b0, ← od u (fun d => nd (d.mono (Nat.le_add_right _ _)))]
    refine adTh_ne (fun e => nd ?_) (fun e => nd ?_)
    · rw [e]; exact Nat.lt_succ_self _
    · rw [e]; exact Nat.lt_succ_self _
  · refine ⟨fun b o hb q => ?_, fun u => ?_, kt0, fun u hu d => old u d⟩
    · rw [upd_ne (q .thsL).symm]
      exact sm _ _ hb
    · unfold adTh
      split
      · exact .inr hx
      split
      · exact .inr hr
      · exact .inl ⟨u, rfl⟩
/-- the first one of the ready row is taken -/
theorem q_popRdy {t : Nat} {r : List Nat} (B : Bd c ad S H) (e : S.ready = t :: r) (h : ∀ H', Bd c ad { S with ready := r } H' → Mv1 c S ad H H' → Q (.int (t : Int)) H') : rPopAt (.ref (ad .rdyL)) [.int 0] H Q := by
  obtain ⟨e1, z⟩ := B.rdy
  refine ⟨_, _, 0, 0, .int (t : Int), rfl, rfl, e1, by decide, by decide, ?_, ?_, ?_⟩
  · rw [e]
    exact PyProof.Rows.seqIndex?_zero (by rw [List.length_map]; exact Nat.succ_pos _)
  · rw [e]; rfl
  · have z1 := h _ (z r) (mv_put e1 (fun _ => nofun))
    rw [e]
    exact z1
theorem q_popReq {q : Nat × Int × Int} {r : List (Nat × Int × Int)} (B : Bd c ad S H) (e : S.reqs = q :: r) (h : ∀ a H', RqAt H' a q → Bd c ad { S with reqs := r } H' → Mv1 c S ad H H' → Q (.ref a) H') : rPopAt (.ref (ad .reqL)) [.int 0] H Q := by
  obtain ⟨rq, e1, al, z⟩ := B.req
  rw [e] at al
  cases al with
  | cons r1 al =>
    rename_i a as
    refine ⟨_, _, 0, 0, .ref a, rfl, rfl, e1, by decide, by decide, PyProof.Rows.seqIndex?_zero (by rw [List.length_map]; exact Nat.succ_pos _), rfl, ?_⟩
    exact h _ _ ((KeepT.upd e1 (fun _ => nofun)) _ _ r1) (z as r al) (mv_put e1 (fun _ => nofun))
/-- the views are given away, a new list stands in their place -/
def adV (ad : Tg → Addr) (p : Addr) : Tg → Addr := fun u => if u = .vwsL then p else ad u
theorem adV_ne {p : Addr} {u : Tg} (h : u ≠ .vwsL) : adV ad p u = ad u := if_neg h
theorem Bd.newVws {p : Addr} (B : Bd c ad S H) (hp : H p = none) : ∃ dx rt, H (ad .brd) = some (.ins c.CB dx (fsB ad rt S.dev S.cpu)) ∧
    Bd c (adV ad p) { S with views := [] } (upd (upd H p (.lst [])) (ad .brd) (.ins c.CB dx (fsB (adV ad p) rt S.dev S.cpu))) ∧
    Mvd c.kd S.ths.length S.mem.length ad (adV ad p) H (upd (upd H p (.lst [])) (ad .brd) (.ins c.CB dx (fsB (adV ad p) rt S.dev S.cpu))) := by
  have out : ∀ u, dom c.kd S.ths.length S.mem.length u → ad u ≠ p := fun u d => by
    obtain ⟨o, e⟩ := B.there d
    exact ne_of_none e hp
  obtain ⟨⟨g, h1, h2, h3, h4, h5⟩, inj, od⟩ := B
  have e1 := h1 .brd _ rfl
  refine ⟨g.dB, g.rt, e1, ?_⟩
  have nb : p ≠ ad .brd := fun e => out .brd trivial e.symm
  have kt : KeepT H (upd (upd H p (.lst [])) (ad .brd) (.ins c.CB g.dB (fsB (adV ad p) g.rt S.dev S.cpu))) :=
    (KeepT.of (R.same_new hp)).trans (KeepT.upd (R.same_new hp _ _ e1) (fun _ => nofun))
  have av : adV ad p .vwsL = p := if_pos rfl
  refine ⟨⟨⟨{ g with vw := [] }, ?_, fun i t e => kt _ _ (h2 i t e), h3.imp fun _ _ z => kt _ _ z, .nil, kt _ _ h5⟩, ?_, ?_⟩, ?_⟩
  · intro u o hu
    by_cases z : u = .vwsL
    · subst z
      rw [av, upd_ne nb, upd_same, ← hu]
      rfl
    · rw [adV_ne z]
      by_cases y : u = .brd
      · subst y
        rw [upd_same, ← hu]
        rfl
      · have du := dom_some hu
        have q : ad u ≠ ad .brd := fun e => y (inj u .brd du trivial e)
        rw [upd_ne q, upd_ne (out u du)]
        refine h1 u o ?_
        rw [← hu]
        cases u <;> first | rfl | exact absurd rfl z | exact absurd rfl y
  · intro u v du dv e
    by_cases z : u = .vwsL
    · by_cases y : v = .vwsL
      · rw [z, y]
      · rw [z, av, adV_ne y] at e
        exact absurd e.symm (out v dv)
    · by_cases y : v = .vwsL
      · rw [y, av, adV_ne z] at e
        exact absurd e (out u du)
      · rw [adV_ne z, adV_ne y] at e
        exact inj u v du dv e
  · intro u nd
    have b0 : adV ad p .brd = ad .brd := adV_ne (by intro e; cases e)
    rw [b0, ← od u nd]
    exact adV_ne (fun e => nd (by rw [e]; trivial))
  · refine ⟨fun b o hb q => ?_, fun u => ?_, kt, fun u hu d => adV_ne hu⟩
    · rw [upd_ne (q .brd).symm, upd_ne (ne_of_none hb hp)]
      exact hb
    · by_cases z : u = .vwsL
      · rw [z, av]; exact .inr hp
      · rw [adV_ne z]; exact .inl ⟨u, rfl⟩
/-- the kept bytes -/
theorem Bd.kpt (B : Bd c ad S H) (hk : c.kd = true) {i : Nat} {m : Mm} (hm : S.mem[i]? = some m) : H (ad (.kpt i)) = some (.dK (keptV m.kept)) ∧
    ∀ ks : List (Int × Int), Bd c ad (S.setMm i { m with kept := ks }) (upd H (ad (.kpt i)) (.dK (keptV ks))) := by
  obtain ⟨⟨g, h1, h2, h3, h4, h5⟩, inj, od⟩ := B
  have e1 : cont c ad g S (.kpt i) = some (.dK (keptV m.kept)) := by simp [cont, hk, hm]
  refine ⟨h1 _ _ e1, fun ks => ?_⟩
  have hi : i < S.mem.length := (List.getElem?_eq_some_iff.mp hm).1
  have kt : KeepT H (upd H (ad (.kpt i)) (.dK (keptV ks))) := KeepT.upd (h1 _ _ e1) (not_tup e1)
  refine ⟨⟨g, ?_, fun j x hx => kt _ _ (h2 j x hx), h3.imp fun _ _ z => kt _ _ z, h4.imp fun _ _ z => z.keep kt, kt _ _ h5⟩, ?_, ?_⟩
  · refine Bd.put (g' := g) h1 inj e1 ?_ ?_
    · show (if c.kd then ((S.mem.set i { m with kept := ks })[i]?).map fun m => HO.dK (keptV m.kept) else none) = _
      rw [if_pos hk, List.getElem?_set_self hi]
      rfl
    · intro u hu
      cases u with
      | kpt j =>
        have hj : i ≠ j := fun z => hu (by rw [z])
        show (if c.kd then ((S.mem.set i { m with kept := ks })[j]?).map fun m => HO.dK (keptV m.kept) else none) = _
        rw [List.getElem?_set_ne hj]
        rfl
      | mem j =>
        show (((S.mem.set i { m with kept := ks })[j]?).map fun _ => HO.ins c.CM (g.dM j) (fsM c.kd (ad (.cls j)) (ad (.kpt j)))) = ((S.mem[j]?).map fun _ => HO.ins c.CM (g.dM j) (fsM c.kd (ad (.cls j)) (ad (.kpt j))))
        by_cases hj : i = j
        · subst hj
          rw [List.getElem?_set_self hi, hm]
          rfl
        · rw [List.getElem?_set_ne hj]
      | cls j =>
        show (((S.mem.set i { m with kept := ks })[j]?).map fun m => HO.lst (m.cells.map V.int)) = ((S.mem[j]?).map fun m => HO.lst (m.cells.map V.int))
        by_cases hj : i = j
        · subst hj
          rw [List.getElem?_set_self hi, hm]
          rfl
        · rw [List.getElem?_set_ne hj]
      | memL =>
        show some (HO.lst ((List.range (S.mem.set i { m with kept := ks }).length).map fun i => V.ref (ad (.mem i)))) = _
        rw [List.length_set]
        rfl
      | _ => rfl
  · show ∀ t u, dom c.kd S.ths.length (S.mem.set i { m with kept := ks }).length t → dom c.kd S.ths.length (S.mem.set i { m with kept := ks }).length u → _
    rw [List.length_set]
    exact inj
  · show ∀ t, ¬ dom c.kd S.ths.length (S.mem.set i { m with kept := ks }).length t → _
    rw [List.length_set]
    exact od
end
end MM
namespace MM
open PySem PySem.Spec PyProof.Rows L2
theorem st2 {H H' : Hp} {p : PySem.Addr} {o : HO} (h : upd H p o = H') : R.Mv p H H' ∧ H' p = some o := by
  subst h
  exact ⟨R.Mv.upd, upd_same⟩
end MM
namespace MM
open PySem PySem.Spec PyProof.Rows L2
theorem r_make {C : PySem.Addr} {sp : Sp} {dvs : List V} {E : XK} {tr : TA} {σ : L2.St} {H : Hp} {Q : VK} (h : tr σ H fun vs H1 => ∀ x dx, H1 x = none → H1 dx = none → dx ≠ x → sp (.ref x :: (vs ++ dvs)) (upd (upd H1 dx (.own x)) x (.ins C dx [])) (fun v H2 => v = .non ∧ Q (.ref x) H2) E) : tMake C sp dvs E tr σ H Q := h
end MM
end
section
/-! the machine: loops over its threads; conditions -/
namespace MM
open PySem PySem.Spec PyProof.Rows L2
def condName : Cond → Str
  | .ready => "ready"
  | .running _ => "running"
  | .sleeping _ _ => "sleeping"
  | .asking => "asking"
  | .waiting _ => "waiting"
  | .ended _ => "ended"
theorem cond_0 (cd : Cond) : atI (condV cd) 0 = some (.str (condName cd)) := by cases cd <;> rfl
theorem name_run (cd : Cond) : condName cd = "running" ↔ isRun cd = true := by
  cases cd with
  | ready => exact ⟨fun h => absurd h (show ("ready" : Str) ≠ "running" by decide +kernel), nofun⟩
  | running c => exact ⟨fun _ => rfl, fun _ => rfl⟩
  | sleeping c u => exact ⟨fun h => absurd h (show ("sleeping" : Str) ≠ "running" by decide +kernel), nofun⟩
  | asking => exact ⟨fun h => absurd h (show ("asking" : Str) ≠ "running" by decide +kernel), nofun⟩
  | waiting t => exact ⟨fun h => absurd h (show ("waiting" : Str) ≠ "running" by decide +kernel), nofun⟩
  | ended k => exact ⟨fun h => absurd h (show ("ended" : Str) ≠ "running" by decide +kernel), nofun⟩
def condD : Cond → PyData
  | .ready => .tuple [.str "ready"]
  | .running c => .tuple [.str "running", .int (c : Int)]
  | .sleeping c u => .tuple [.str "sleeping", .int (c : Int), .int u]
  | .asking => .tuple [.str "asking"]
  | .waiting t => .tuple [.str "waiting", .int t]
  | .ended k => .tuple [.str "ended", .int k]
theorem dp_cond {K : PySem.W.Frag} {H : Hp} {a : PySem.Addr} {cd : Cond} (h : H a = some (.tup (condV cd))) : Dp K H (.ref a) (condD cd) := by
  cases cd <;> first
    | exact .tup (R.sqT h) (.cons (.str _) .nil)
    | exact .tup (R.sqT h) (.cons (.str _) (.cons (.int _) .nil))
    | exact .tup (R.sqT h) (.cons (.str _) (.cons (.int _) (.cons (.int _) .nil)))
theorem sh_cond (cd : Cond) : D.Sh 1 (condD cd) := by
  cases cd <;> first
    | exact .tup (.cons (.str (by decide +kernel)) .nil)
    | exact .tup (.cons (.str (by decide +kernel)) (.cons (.int _) .nil))
    | exact .tup (.cons (.str (by decide +kernel)) (.cons (.int _) (.cons (.int _) .nil)))
theorem cond_wait {cd : Cond} {t : Int} : condD cd = .tuple [.str "waiting", .int t] ↔ isWait t cd = true := by
  cases cd with
  | waiting u => simp [condD, isWait]
  | ready => simp [condD, isWait]
  | asking => simp [condD, isWait]
  | running c => simp [condD, isWait]; exact fun h => absurd h (by decide +kernel)
  | sleeping c u => simp [condD, isWait]
  | ended c => simp [condD, isWait]; exact fun h => absurd h (by decide +kernel)
section
variable {c : Cl} {ad : Tg → Addr} {S : MS} {H : Hp} {K : PySem.W.Frag} {P : V → Prop} {i : Nat} {Q : VK} {k : Nat} {G : Hp → Prop}
theorem r_enum {tr : TA} {g : TG} {tb : TS} {D : Ends} {σ : L2.St} (h : tr σ H fun vs H1 => ∃ a xs, vs = [.ref a] ∧ SqL K H1 a xs ∧ ∃ W : Nat → Nat → L2.St → Hp → Prop, (∃ m, W 0 m σ H1) ∧ ∀ i m σ H, W i m σ H →
  ((Ite K a).stop i H ∧ D.nx σ H) ∨ ((Ite K a).go i H ∧ ∃ N : L2.St → Hp → Prop, (∀ σ' H', N σ' H' → ∃ m', m' < m ∧ W (i + 1) m' σ' H') ∧ ∀ x H', (Ite K a).yld i H x H' → g x σ H' fun σ2 H2 => tb { D with nx := N, ct := N, bk := D.nx } σ2 H2)) : tFor (iEnum K tr) g tb D σ H := h
/-- for j1, j2 in enumerate(the threads): the list stands all the while -/
theorem for_ths {tb : TS} {nx bk ct : L2.St → Hp → Prop} {rt : V → Hp → Prop} {σ : L2.St} {j1 j2 : Nat} (n : Nat) (a : PySem.Addr) (Pv : Nat → L2.St → Hp → Prop) (h0 : Pv 0 σ H)
    (hG : ∀ i σ H, i ≤ n → Pv i σ H → H a = some (.lst ((List.range n).map fun i => V.ref (ad (.thr i))))) (hP : ∀ i σ H H', Pv i σ H → Same H H' → Pv i σ H')
    (hs : ∀ i σ H, i < n → Pv i σ H → tb ⟨Pv (i + 1), rt, nx, Pv (i + 1)⟩ ((σ.set j1 (some (.int (i : Nat)))).set j2 (some (.ref (ad (.thr i))))) H) (hd : ∀ σ H, Pv n σ H → nx σ H) :
    ∃ W : Nat → Nat → L2.St → Hp → Prop, (∃ m, W 0 m σ H) ∧ ∀ i m σ H, W i m σ H →
      ((Ite K a).stop i H ∧ nx σ H) ∨ ((Ite K a).go i H ∧ ∃ N : L2.St → Hp → Prop, (∀ σ' H', N σ' H' → ∃ m', m' < m ∧ W (i + 1) m' σ' H') ∧ ∀ x H', (Ite K a).yld i H x H' → gTup K 2 (gCons (gName j1) (gCons (gName j2) gNil)) x σ H' fun σ2 H2 => tb ⟨N, rt, nx, N⟩ σ2 H2) := by
  generalize hxs : ((List.range n).map fun i => V.ref (ad (.thr i))) = xs at hG
  have hl : xs.length = n := by rw [← hxs, List.length_map, List.length_range]
  have wk : Walk (Ite K a) n (fun H => SqL K H a xs) (YPair (fun i => some (.int (i : Nat))) (fun i => xs[i]?)) := hl ▸ walk_enum
  refine for_it (D := ⟨nx, rt, bk, ct⟩) wk Pv h0 (fun i σ H hi p => R.sqL (hG i σ H hi p)) (fun i x σ H H' hi p y => ?_) hd
  obtain ⟨T, x1, x2, rfl, hT, rfl, e1, e2⟩ := y
  have e1 : x1 = .int (i : Nat) := (Option.some.inj e1).symm
  have e2 : xs[i]? = some x2 := e2
  rw [← hxs, List.getElem?_map, List.getElem?_range hi] at e2
  have e2 : x2 = .ref (ad (.thr i)) := (Option.some.inj e2).symm
  subst e1 e2
  refine ⟨T, _, rfl, R.sqT upd_same, rfl, _, _, rfl, _, _, rfl, rfl, ?_⟩
  exact hs i σ _ hi (hP _ _ _ _ p (R.same_new hT))
/-- steps one behind the other -/
theorem Mvd.after {S S' : MS} {a1 a2 a3 : Tg → Addr} {H H1 H2 : Hp} (s : Sm S S') (m : Mv2 c S a1 a2 H H1) (m' : Mv2 c S' a2 a3 H1 H2) : Mv2 c S a1 a3 H H2 := by
  have m' : Mvd c.kd S'.ths.length S'.mem.length a2 a3 H1 H2 := m'
  rw [s.nm] at m'
  exact m.trans s.nt m'
theorem sm_of {S' : MS} (h1 : S'.ths.length = S.ths.length) (h2 : S'.mem = S.mem) (h3 : S'.rates = S.rates) (h4 : S'.cpu = S.cpu) : Sm S S' := ⟨Nat.le_of_eq h1.symm, by rw [h2], h3, h4⟩
end
end MM
namespace MM
open PySem PySem.Spec PyProof.Rows L2
theorem tell_th {S : MS} {kd : Str} {t i : Nat} {a : Int} {r : List Int} : (tell S kd t a r).th i = S.th i := rfl
theorem Ok.tell {c : Cl} {ad ad' : Tg → PySem.Addr} {S : MS} {H H' : Hp} {k : Nat} {kd : Str} {t : Nat} {a : Int} {r : List Int} (o : Ok c ad S H k) (b : Bd c ad' (tell S kd t a r) H') (hk : k + 1 ≤ 60000) : Ok c ad' (tell S kd t a r) H' (k + 1) := o.to b o.W.tell hk Sm.tell
theorem mv_pre {c : Cl} {S : MS} {a1 a2 : Tg → PySem.Addr} {H H1 H2 : Hp} (s : Same H H1) (m : Mv2 c S a1 a2 H1 H2) : Mv2 c S a1 a2 H H2 := Mvd.after (Sm.refl S) (Mvd.of s) m
theorem mv_end {c : Cl} {S : MS} {a1 a2 : Tg → PySem.Addr} {H H1 H2 : Hp} (m : Mv2 c S a1 a2 H H1) (s : Same H1 H2) : Mv2 c S a1 a2 H H2 := Mvd.after (Sm.refl S) m (Mvd.of s)
end MM
namespace MM
open PySem PySem.Spec PyProof.Rows L2
theorem eqI {s a : Int} : eqV (.int a) (.int s) = decide (s = a) := by
  show (a == s) = decide (s = a)
  by_cases h : s = a
  · subst h
    rw [decide_eq_true rfl, beq_self_eq_true]
  · rw [decide_eq_false h]
    exact beq_eq_false_iff_ne.mpr fun z => h z.symm
theorem in2I {s a b : Int} : inV (.int s) [.int a, .int b] = decide (s = a ∨ s = b) := by
  unfold inV
  rw [List.any_cons, List.any_cons, List.any_nil, Bool.or_false, eqI, eqI]
  by_cases h1 : s = a <;> by_cases h2 : s = b <;> simp [h1, h2]
theorem cond_ended {cd : Cond} : condName cd = "ended" ↔ ∃ k, cd = .ended k := by
  cases cd with
  | ready => exact ⟨fun h => absurd h (show ("ready" : Str) ≠ "ended" by decide +kernel), nofun⟩
  | running c => exact ⟨fun h => absurd h (show ("running" : Str) ≠ "ended" by decide +kernel), nofun⟩
  | sleeping c u => exact ⟨fun h => absurd h (show ("sleeping" : Str) ≠ "ended" by decide +kernel), nofun⟩
  | asking => exact ⟨fun h => absurd h (show ("asking" : Str) ≠ "ended" by decide +kernel), nofun⟩
  | waiting t => exact ⟨fun h => absurd h (show ("waiting" : Str) ≠ "ended" by decide +kernel), nofun⟩
  | ended k => exact ⟨fun _ => ⟨k, rfl⟩, fun _ => rfl⟩
theorem cond_sleeps {cd : Cond} : condName cd = "sleeping" ↔ ∃ c u, cd = .sleeping c u := by
  cases cd with
  | ready => exact ⟨fun h => absurd h (show ("ready" : Str) ≠ "sleeping" by decide +kernel), nofun⟩
  | running c => exact ⟨fun h => absurd h (show ("running" : Str) ≠ "sleeping" by decide +kernel), nofun⟩
  | sleeping c u => exact ⟨fun _ => ⟨c, u, rfl⟩, fun _ => rfl⟩
  | asking => exact ⟨fun h => absurd h (show ("asking" : Str) ≠ "sleeping" by decide +kernel), nofun⟩
  | waiting t => exact ⟨fun h => absurd h (show ("waiting" : Str) ≠ "sleeping" by decide +kernel), nofun⟩
  | ended k => exact ⟨fun h => absurd h (show ("ended" : Str) ≠ "sleeping" by decide +kernel), nofun⟩
end MM
end
section
/-! the memories: dicts of kept bytes -/
namespace MM
open PySem PySem.Spec PyProof.Rows L2
theorem nodup_lt : ∀ (n : Nat) (l : List Nat), l.Nodup → (∀ x ∈ l, x < n) → l.length ≤ n
  | 0, l, _, h => by
    cases l with
    | nil => exact Nat.le_refl _
    | cons a _ => exact absurd (h a List.mem_cons_self) (Nat.not_lt_zero _)
  | n + 1, l, hn, h => by
    by_cases hm : n ∈ l
    · have z := nodup_lt n (l.erase n) (hn.erase n) (fun x hx => by
        have h1 := h x (List.mem_of_mem_erase hx)
        have h2 : x ≠ n := fun e => by
          rw [e] at hx
          exact (List.Nodup.mem_erase_iff hn).mp hx |>.1 rfl
        omega)
      rw [List.length_erase_of_mem hm] at z
      omega
    · have z := nodup_lt n l hn (fun x hx => by
        have h1 := h x hx
        have h2 : x ≠ n := fun e => hm (e ▸ hx)
        omega)
      omega
theorem kept_len {m : Mm} (h : MmOk m) : m.kept.length ≤ 256 := by
  have z := nodup_lt 256 (m.kept.map fun p => p.1.toNat) ?_ ?_
  · rwa [List.length_map] at z
  · have e : (m.kept.map fun p => p.1.toNat) = (m.kept.map (·.1)).map Int.toNat := by rw [List.map_map]; rfl
    rw [e]
    unfold List.Nodup
    rw [List.pairwise_map]
    refine List.Pairwise.imp_of_mem ?_ h.knd
    intro a b ha hb hab e
    obtain ⟨p, hp, rfl⟩ := List.mem_map.mp ha
    obtain ⟨q, hq, rfl⟩ := List.mem_map.mp hb
    have h1 := h.kpos p hp
    have h2 := h.kpos q hq
    omega
  · intro x hx
    obtain ⟨p, hp, rfl⟩ := List.mem_map.mp hx
    have h1 := h.kpos p hp
    omega
theorem val_kept (ks : List (Int × Int)) (a : Int) : valV (keptV ks) (Sum.inl a : Key) = (ks.lookup a).map V.int := by
  induction ks with
  | nil => rfl
  | cons p r ih =>
    show valV ((Sum.inl p.1, V.int p.2) :: keptV r) (Sum.inl a : Key) = _
    rw [List.lookup_cons]
    by_cases e : p.1 = a
    · rw [valV_pos (by rw [e]), e, beq_self_eq_true]
      rfl
    · rw [valV_neg (fun z => e (Sum.inl.inj z)), ih, show (a == p.1) = false from beq_eq_false_iff_ne.mpr fun z => e z.symm]
theorem put_there {ks : List (Int × Int)} {a b : Int} (h : (ks.lookup a).isSome = true) : putK (keptV ks) (Sum.inl a : Key) (.int b) = keptV (ks.map fun p => if p.1 = a then (p.1, b) else p) := by
  unfold putK
  rw [if_pos (by rw [valV_any, val_kept, Option.isSome_map]; exact h)]
  unfold keptV
  rw [List.map_map, List.map_map]
  refine List.map_congr_left fun p _ => ?_
  show (if (Sum.inl p.1 : Key) = Sum.inl a then ((Sum.inl p.1 : Key), V.int b) else (Sum.inl p.1, V.int p.2)) = ((Sum.inl (if p.1 = a then (p.1, b) else p).1 : Key), V.int (if p.1 = a then (p.1, b) else p).2)
  by_cases e : p.1 = a
  · rw [if_pos e, if_pos (by rw [e])]
  · rw [if_neg e, if_neg (fun z => e (Sum.inl.inj z))]
theorem put_new {ks : List (Int × Int)} {a b : Int} (h : ks.lookup a = none) : putK (keptV ks) (Sum.inl a : Key) (.int b) = keptV (ks ++ [(a, b)]) := by
  unfold putK
  rw [if_neg (by rw [valV_any, val_kept, h]; exact Bool.false_ne_true)]
  unfold keptV
  rw [List.map_append]
  rfl
theorem drop_kept {ks : List (Int × Int)} {a : Int} : dropK (keptV ks) (Sum.inl a : Key) = keptV (ks.filter fun p => decide (p.1 ≠ a)) := by
  unfold dropK keptV
  rw [List.filter_map]
  refine congrArg _ (List.filter_congr fun p _ => ?_)
  exact decide_eq_decide.mpr ⟨fun h e => h (congrArg Sum.inl e), fun h e => h (Sum.inl.inj e)⟩
section
variable {K : PySem.W.Frag} {C dx : PySem.Addr} {kd : Bool} {a b : PySem.Addr} {H : Hp} {P : V → Prop} {m : PySem.Addr}
theorem q_fldK (hC : Cls K C) (hn : NoAttr K C "kept") (e : H m = some (.ins C dx (fsM true a b))) (h : P (.ref b)) : ∃ a' C' dx' fs v, V.ref m = .ref a' ∧ H a' = some (.ins C' dx' fs) ∧ Cls K C' ∧ NoAttr K C' "kept" ∧ fs.lookup ("kept" : Str) = some v ∧ P v :=
  ⟨_, _, _, _, _, rfl, e, hC, hn, rfl, h⟩
end
end MM
namespace MM
theorem lookup_nodup {ks : List (Int × Int)} (h : (ks.map (·.1)).Nodup) {p : Int × Int} (hp : p ∈ ks) : ks.lookup p.1 = some p.2 := by
  induction ks with
  | nil => cases hp
  | cons q r ih =>
    rw [List.map_cons, List.nodup_cons] at h
    rw [List.lookup_cons]
    rcases List.mem_cons.mp hp with e | e
    · rw [e, beq_self_eq_true]
    · have : (p.1 == q.1) = false := beq_eq_false_iff_ne.mpr fun z => h.1 (by rw [← z]; exact List.mem_map.mpr ⟨p, e, rfl⟩)
      rw [this]
      exact ih h.2 e
end MM
namespace MM
open PySem PySem.Spec PyProof.Rows L2
section
variable {σ : L2.St} {H : Hp} {ta tb tc : TE} {Q : VK}
theorem r_din (h : ta σ H fun y H1 => tb σ H1 fun x H2 => ∃ a o, x = .ref a ∧ DGet H2 a y o ∧ Q (.bl o.isSome) H2) : tDIn ta tb σ H Q := h
theorem r_dnotin (h : ta σ H fun y H1 => tb σ H1 fun x H2 => ∃ a o, x = .ref a ∧ DGet H2 a y o ∧ Q (.bl (!o.isSome)) H2) : tDNotIn ta tb σ H Q := h
theorem r_dget2 (h : ta σ H fun x H1 => ∃ a, x = .ref a ∧ IsD H1 a ∧ tb σ H1 fun y H2 => tc σ H2 fun z H3 => ∃ o, DGet H3 a y o ∧ Q (o.getD z) H3) : tDGet2 ta tb tc σ H Q := h
theorem r_dpop1 (h : ta σ H fun x H1 => ∃ a, x = .ref a ∧ IsD H1 a ∧ tb σ H1 fun y H2 => ∃ kvs k v, H2 a = some (.dK kvs) ∧ y = kV k ∧ valV kvs k = some v ∧ Q v (upd H2 a (.dK (dropK kvs k)))) : tDPop1 ta tb σ H Q := h
end
end MM
namespace MM
open PySem PySem.Spec PyProof.Rows L2
section
variable {td : TE} {tb : TS} {σ : L2.St} {H : Hp} {nx bk ct : L2.St → Hp → Prop} {rt : V → Hp → Prop} {j : Nat}
/-- the loop's own part of a for's reading -/
def FW (J : It) (g : TG) (tb : TS) (nx : L2.St → Hp → Prop) (rt : V → Hp → Prop) (σ : L2.St) (H1 : Hp) : Prop := ∃ W : Nat → Nat → L2.St → Hp → Prop, (∃ m, W 0 m σ H1) ∧ ∀ i m σ H, W i m σ H →
      (J.stop i H ∧ nx σ H) ∨ (J.go i H ∧ ∃ N : L2.St → Hp → Prop, (∀ σ' H', N σ' H' → ∃ m', m' < m ∧ W (i + 1) m' σ' H') ∧ ∀ x H', J.yld i H x H' → g x σ H' fun σ2 H2 => tb ⟨N, rt, nx, N⟩ σ2 H2)
theorem r_keys {g : TG} (h : td σ H fun x H1 => ∃ d o, x = .ref d ∧ ((∃ kvs, H1 d = some (.frz o (.dK kvs)) ∧ FW (Itk d o kvs) g tb nx rt σ H1) ∨ ∃ kvs, H1 d = some (.frz o (.dT kvs)) ∧ FW (Itkt d o kvs) g tb nx rt σ H1)) : tFor (iKeys td) g tb ⟨nx, rt, bk, ct⟩ σ H := h
theorem for_keys {d : PySem.Addr} {o : Obj} {kvs : List (Key × V)} (Pv : Nat → L2.St → Hp → Prop) (h0 : Pv 0 σ H) (hG : ∀ i σ H, Pv i σ H → H d = some (.frz o (.dK kvs)))
    (hs : ∀ i k v σ H, kvs[i]? = some (k, v) → Pv i σ H → tb ⟨Pv (i + 1), rt, nx, Pv (i + 1)⟩ (σ.set j (some (kV k))) H) (hd : ∀ σ H, Pv kvs.length σ H → nx σ H) :
    FW (Itk d o kvs) (gName j) tb nx rt σ H := by
  refine for_it (D := ⟨nx, rt, fun _ _ => False, fun _ _ => False⟩) walk_keys Pv h0 (fun i σ H _ p => hG i σ H p) (fun i x σ H H' hi p y => ?_) hd
  obtain ⟨rfl, k, v, e, rfl⟩ := y
  exact hs i k v σ _ e p
end
end MM
end
section
/-! comprehensions by a walk; the machine's data for comparisons -/
namespace MM
open PySem PySem.Spec PyProof.Rows L2
/-- the loop's own part of a comprehension's reading -/
def LW (J : It) (g : TG) (tt : TT) (te : TE) (vs : List Nat) (σ : L2.St) (Q : VK) (H1 : Hp) : Prop := ∀ D, H1 D = none → ∃ W : Nat → Nat → Hp → Prop, (∃ m, W 0 m (upd H1 D (.lst []))) ∧ ∀ i m H, W i m H →
  (J.stop i H ∧ Q (.ref D) H) ∨ (J.go i H ∧ ∃ Nx : Hp → Prop, (∀ H', Nx H' → ∃ m', m' < m ∧ W (i + 1) m' H') ∧ ∀ x H', J.yld i H x H' → g x (wipe σ vs) H' fun σ2 H2 => wipe σ2 vs = wipe σ vs ∧ tt σ2 H2 fun b H3 =>
    if b = true then te σ2 H3 fun y H4 => ∃ acc, H4 D = some (.lst acc) ∧ acc.length < sizeLine ∧ Nx (upd H4 D (.lst (acc ++ [y]))) else Nx H3)
section
variable {g : TG} {tt : TT} {te tl : TE} {vs : List Nat} {σ : L2.St} {Q : VK} {H H1 : Hp} {K : PySem.W.Frag} {tr : TA}
theorem lc_go {J : It} {n : Nat} {G : Hp → Prop} {Y : Nat → Hp → V → Hp → Prop} (wk : Walk J n G Y) (Pv : PySem.Addr → Nat → Hp → Prop) (h0 : ∀ D, H1 D = none → Pv D 0 (upd H1 D (.lst [])))
    (hG : ∀ D i H, H1 D = none → Pv D i H → G H)
    (hs : ∀ D i x H H', H1 D = none → i < n → Pv D i H → Y i H x H' → g x (wipe σ vs) H' fun σ2 H2 => wipe σ2 vs = wipe σ vs ∧ tt σ2 H2 fun b H3 =>
      if b = true then te σ2 H3 fun y H4 => ∃ acc, H4 D = some (.lst acc) ∧ acc.length < sizeLine ∧ Pv D (i + 1) (upd H4 D (.lst (acc ++ [y]))) else Pv D (i + 1) H3)
    (hd : ∀ D H, H1 D = none → Pv D n H → Q (.ref D) H) : LW J g tt te vs σ Q H1 := fun D hD =>
  lc_it wk (Pv D) (h0 D hD) (fun i H _ p => hG D i H hD p) (fun i x H H' hi p y => hs D i x H H' hD hi p y) (fun H p => hd D H hD p)
theorem r_lcL (h : tl σ H fun x H1 => ∃ a, x = .ref a ∧ (∃ xs, SqL K H1 a xs) ∧ LW (Itl K a) g tt te vs σ Q H1) : tLc (iList K tl) g tt te vs σ H Q := h
theorem r_lcT (h : tl σ H fun x H1 => ∃ a, x = .ref a ∧ (∃ xs, SqT K H1 a xs) ∧ LW (Itt K a) g tt te vs σ Q H1) : tLc (iTup K tl) g tt te vs σ H Q := h
theorem r_lcZ (h : tr σ H fun vs' H1 => ∃ a b xs ys, vs' = [.ref a, .ref b] ∧ SqL K H1 a xs ∧ SqL K H1 b ys ∧ LW (Itz K a b) g tt te vs σ Q H1) : tLc (iZip K tr) g tt te vs σ H Q := h
theorem r_lcR1 (h : tr σ H fun vs' H1 => ∃ n : Int, vs' = [.int n] ∧ -(2 ^ 62) ≤ n ∧ n < 2 ^ 62 ∧ LW (Itr 0 n.toNat) g tt te vs σ Q H1) : tLc (iRng1 tr) g tt te vs σ H Q := h
end
/-- what a state looks like -/
def imgD (m : Mm) : PyData := .tuple (m.img.map PyData.int)
def thD (t : Th) : PyData := .tuple [.int (t.pid : Int), .int t.pc, .tuple (t.regs.map PyData.int), condD t.cond]
def rqD (q : Nat × Int × Int) : PyData := .tuple [.int (q.1 : Int), .int q.2.1, .int q.2.2]
def stD (S : MS) : PyData := .tuple [.tuple (S.mem.map imgD), .tuple (S.ths.map thD), .tuple (S.ready.map fun i : Nat => PyData.int (i : Int)), .tuple ((S.times.zip S.run).map fun p => .tuple [.int p.1, .int p.2]), .tuple [.int S.dev, .tuple (S.reqs.map rqD)]]
def vwD (w : Vw) : PyData := .tuple [.tuple [.str w.kind, .int w.cpu, .int w.time, .int w.pid, .int w.tid, .int w.at', .tuple (w.args.map PyData.int)], .tuple (w.regs.map PyData.int), .tuple (w.mem.map PyData.int)]
theorem sh_img (m : Mm) : D.Sh 1 (imgD m) := .tup D.Sh.ints
theorem sh_th (t : Th) : D.Sh 2 (thD t) := .tup (.cons (.int _) (.cons (.int _) (.cons (.tup D.Sh.ints) (.cons (sh_cond _) .nil))))
theorem sh_st (S : MS) : D.Sh 4 (stD S) := by
  refine .tup (.cons (.tup fun y hy => ?_) (.cons (.tup fun y hy => ?_) (.cons (.tup fun y hy => ?_) (.cons (.tup fun y hy => ?_) (.cons (.tup (.cons (.int _) (.cons (.tup fun y hy => ?_) .nil))) .nil)))))
  · obtain ⟨m, _, e⟩ := List.mem_map.mp hy
    rw [← e]; exact (sh_img m).mono (by decide)
  · obtain ⟨m, _, e⟩ := List.mem_map.mp hy
    rw [← e]; exact sh_th m
  · obtain ⟨m, _, e⟩ := List.mem_map.mp hy
    rw [← e]; exact .int _
  · obtain ⟨m, _, e⟩ := List.mem_map.mp hy
    rw [← e]; exact (D.Sh.tup (.cons (.int _) (.cons (.int _) .nil)) : D.Sh (1 + 1) _)
  · obtain ⟨m, _, e⟩ := List.mem_map.mp hy
    rw [← e]; exact (D.Sh.tup (.cons (.int _) (.cons (.int _) (.cons (.int _) .nil))) : D.Sh (0 + 1) _)
theorem sh_vw {w : Vw} (h : PyData.strOk w.kind = true) : D.Sh 3 (vwD w) :=
  .tup (.cons (.tup (.cons (.str h) (.cons (.int _) (.cons (.int _) (.cons (.int _) (.cons (.int _) (.cons (.int _) (.cons (.tup D.Sh.ints) .nil)))))))) (.cons ((D.Sh.tup D.Sh.ints : D.Sh (1 + 1) _)) (.cons ((D.Sh.tup D.Sh.ints : D.Sh (1 + 1) _)) .nil)))
theorem dp_vw {K : PySem.W.Frag} {H : Hp} {a : PySem.Addr} {w : Vw} (h : VwAt H a w) : Dp K H (.ref a) (vwD w) := by
  obtain ⟨e, r, m, g, h1, h2, h3, h4, h5⟩ := h
  exact .tup (R.sqT h1) (.cons (.tup (R.sqT h2) (.cons (.str _) (.cons (.int _) (.cons (.int _) (.cons (.int _) (.cons (.int _) (.cons (.int _) (.cons (.tup (R.sqT h3) D.all_ints) .nil)))))))) (.cons (.tup (R.sqT h4) D.all_ints) (.cons (.tup (R.sqT h5) D.all_ints) .nil)))
theorem dp_all2 {K : PySem.W.Frag} {H : Hp} {α : Type} {R : PySem.Addr → α → Prop} {f : α → PyData} (h : ∀ a x, R a x → Dp K H (.ref a) (f x)) {as : List PySem.Addr} {xs : List α} (r : All2 R as xs) : DpAll K H (as.map V.ref) (xs.map f) := by
  induction r with
  | nil => exact .nil
  | cons r _ ih => exact .cons (h _ _ r) ih
theorem inj_int {l l' : List Int} : l.map PyData.int = l'.map PyData.int ↔ l = l' := ⟨fun h => List.map_inj_right (fun _ _ e => PyData.int.inj e) |>.mp h, fun h => by rw [h]⟩
theorem inj_vw {a b : Vw} : vwD a = vwD b ↔ a = b := by
  constructor
  · intro h
    obtain ⟨a1, a2, a3, a4, a5, a6, a7, a8, a9⟩ := a
    obtain ⟨b1, b2, b3, b4, b5, b6, b7, b8, b9⟩ := b
    simp only [vwD, PyData.tuple.injEq, List.cons.injEq, PyData.str.injEq, PyData.int.injEq, inj_int, and_true] at h
    obtain ⟨⟨rfl, rfl, rfl, rfl, rfl, rfl, rfl⟩, rfl, rfl⟩ := h
    rfl
  · intro h; rw [h]
theorem inj_vws {l l' : List Vw} : PyData.list (l.map vwD) = .list (l'.map vwD) ↔ l = l' :=
  ⟨fun h => List.map_inj_right (fun _ _ e => inj_vw.mp e) |>.mp (PyData.list.inj h), fun h => by rw [h]⟩
/-- a stop -/
def Mm.setStop (m : Mm) (a : Int) : Mm := if (m.kept.lookup a).isSome then m else { cells := m.cells.set a.toNat 255, kept := m.kept ++ [(a, m.cells.getD a.toNat 0)] }
def Mm.clearStop (m : Mm) (a : Int) : Mm := match m.kept.lookup a with
  | some b => { cells := m.cells.set a.toNat b, kept := m.kept.filter fun p => decide (p.1 ≠ a) }
  | none => m
theorem setMm_2 {S : MS} {i : Nat} {m m' : Mm} : (S.setMm i m).setMm i m' = S.setMm i m' := by
  unfold MS.setMm
  show ({ S with mem := (S.mem.set i m).set i m' } : MS) = _
  rw [List.set_set]
theorem setMm_get {S : MS} {i : Nat} {m : Mm} (h : i < S.mem.length) : (S.setMm i m).mem[i]? = some m := List.getElem?_set_self h
theorem setMm_len {S : MS} {i : Nat} {m : Mm} : (S.setMm i m).mem.length = S.mem.length := List.length_set
theorem setMm_me {S : MS} {i : Nat} (h : i < S.mem.length) : S.setMm i (S.mm i) = S := by
  have e : S.mem.set i (S.mm i) = S.mem := by
    refine List.ext_getElem? fun j => ?_
    by_cases z : i = j
    · subst z
      rw [List.getElem?_set_self h, mm_get h]
    · rw [List.getElem?_set_ne z]
  unfold MS.setMm
  rw [e]
end MM
namespace MM
open PySem PySem.Spec PyProof.Rows L2
def ImAt (H : Hp) (a : PySem.Addr) (m : Mm) : Prop := H a = some (.tup (m.img.map V.int))
def ThAt (H : Hp) (a : PySem.Addr) (t : Th) : Prop := ∃ r c, H a = some (.tup [.int (t.pid : Int), .int t.pc, .ref r, .ref c]) ∧ H r = some (.tup (t.regs.map V.int)) ∧ H c = some (.tup (condV t.cond))
def PrAt (H : Hp) (a : PySem.Addr) (p : Int × Int) : Prop := H a = some (.tup [.int p.1, .int p.2])
theorem ThAt.same {H H' : Hp} (s : Same H H') {a : PySem.Addr} {t : Th} (h : ThAt H a t) : ThAt H' a t := by
  obtain ⟨r, c, h1, h2, h3⟩ := h
  exact ⟨r, c, s _ _ h1, s _ _ h2, s _ _ h3⟩
theorem dp_im {K : PySem.W.Frag} {H : Hp} {a : PySem.Addr} {m : Mm} (h : ImAt H a m) : Dp K H (.ref a) (imgD m) := .tup (R.sqT h) D.all_ints
theorem dp_th {K : PySem.W.Frag} {H : Hp} {a : PySem.Addr} {t : Th} (h : ThAt H a t) : Dp K H (.ref a) (thD t) := by
  obtain ⟨r, c, h1, h2, h3⟩ := h
  exact .tup (R.sqT h1) (.cons (.int _) (.cons (.int _) (.cons (.tup (R.sqT h2) D.all_ints) (.cons (dp_cond h3) .nil))))
theorem dp_pr {K : PySem.W.Frag} {H : Hp} {a : PySem.Addr} {t : Int × Int} (h : PrAt H a t) : Dp K H (.ref a) (.tuple [.int t.1, .int t.2]) := .tup (R.sqT h) (.cons (.int _) (.cons (.int _) .nil))
theorem dp_rq {K : PySem.W.Frag} {H : Hp} {a : PySem.Addr} {q : Nat × Int × Int} (h : RqAt H a q) : Dp K H (.ref a) (rqD q) := .tup (R.sqT h) (.cons (.int _) (.cons (.int _) (.cons (.int _) .nil)))
theorem take_snoc {α : Type} {l : List α} {i : Nat} {x : α} (h : l[i]? = some x) : l.take (i + 1) = l.take i ++ [x] := by rw [List.take_succ, h]; rfl
theorem ThAt.keep {H H' : Hp} {a : PySem.Addr} {t : Th} (h : ThAt H a t) (s : KeepT H H') : ThAt H' a t := by
  obtain ⟨r, c, h1, h2, h3⟩ := h
  exact ⟨r, c, s _ _ h1, s _ _ h2, s _ _ h3⟩
theorem getD_some {l : List Int} {j : Nat} (h : j < l.length) : l[j]? = some (l.getD j 0) := by
  rw [List.getD_eq_getElem?_getD, List.getElem?_eq_getElem h]
  rfl
def spThImage (c : Cl) : Sp := fun vs H Q _ => ∃ ad S k i, vs = [.ref (ad (.thr i))] ∧ Ok c ad S H k ∧ i < S.ths.length ∧ ∀ p H', Same H H' → ThAt H' p (S.th i) → Q (.ref p) H'
def spState (K : PySem.W.Frag) (c : Cl) : Sp := fun vs H Q _ => ∃ ad S k, vs = [.ref (ad .brd)] ∧ Ok c ad S H k ∧
  ∀ p pm ims rest H', Same H H' → H' p = some (.tup (.ref pm :: rest)) → H' pm = some (.tup (ims.map V.ref)) → All2 (ImAt H') ims S.mem → Dp K H' (.ref p) (stD S) → Q (.ref p) H'
end MM
end
section
/-! the machine at its beginning -/
namespace MM
open PySem PySem.Spec PyProof.Rows L2
def fill (p : List Int) : List Int := p ++ List.replicate (256 - p.length) 0
/-- all these stand, all at different places -/
structure Occ (H : Hp) (L : List PySem.Addr) : Prop where
  nd : L.Nodup
  oc : ∀ a ∈ L, ∃ o, H a = some o
theorem Occ.add {H H' : Hp} {L : List PySem.Addr} {p : PySem.Addr} (h : Occ H L) (hp : H p = none) (k : ∀ b o, H b = some o → ∃ o', H' b = some o') (hq : ∃ o, H' p = some o) : Occ H' (p :: L) :=
  ⟨List.nodup_cons.mpr ⟨fun hm => (by obtain ⟨o, e⟩ := h.oc p hm; rw [hp] at e; cases e), h.nd⟩, fun a ha => by
    rcases List.mem_cons.mp ha with e | e
    · rw [e]; exact hq
    · obtain ⟨o, z⟩ := h.oc a e
      exact k a o z⟩
theorem Occ.mono {H H' : Hp} {L : List PySem.Addr} (h : Occ H L) (k : ∀ b o, H b = some o → ∃ o', H' b = some o') : Occ H' L := ⟨h.nd, fun a ha => by obtain ⟨o, z⟩ := h.oc a ha; exact k a o z⟩
theorem Occ.perm {H : Hp} {L L' : List PySem.Addr} (h : Occ H L) (p : L.Perm L') : Occ H L' := ⟨p.nodup_iff.mp h.nd, fun a ha => h.oc a (p.mem_iff.mpr ha)⟩
theorem there_same {H H' : Hp} (s : Same H H') : ∀ b o, H b = some o → ∃ o', H' b = some o' := fun b o e => ⟨o, s b o e⟩
theorem there_upd {H : Hp} {p : PySem.Addr} {o : HO} : ∀ b u, H b = some u → ∃ o', upd H p o b = some o' := fun b u e => by
  by_cases z : b = p
  · exact ⟨o, by rw [z, upd_same]⟩
  · exact ⟨u, by rw [upd_ne z]; exact e⟩
theorem there_mv {H H' : Hp} {x : PySem.Addr} (m : R.Mv x H H') (hx : ∃ o, H' x = some o) : ∀ b o, H b = some o → ∃ o', H' b = some o' := fun b o e => by
  by_cases z : b = x
  · rw [z]; exact hx
  · exact ⟨o, m b o e z⟩
def adOf (b mL tL rL tiL ruL rqL vL : PySem.Addr) (ts rs ms cs ks : List PySem.Addr) : Tg → PySem.Addr
  | .brd => b
  | .memL => mL
  | .thsL => tL
  | .rdyL => rL
  | .timL => tiL
  | .runL => ruL
  | .reqL => rqL
  | .vwsL => vL
  | .thr i => ts.getD i b
  | .rgs i => rs.getD i b
  | .mem i => ms.getD i b
  | .cls i => cs.getD i b
  | .kpt i => ks.getD i b
def idx (nt nm : Nat) : Tg → Nat
  | .brd => 0
  | .memL => 1
  | .thsL => 2
  | .rdyL => 3
  | .timL => 4
  | .runL => 5
  | .reqL => 6
  | .vwsL => 7
  | .thr i => 8 + i
  | .rgs i => 8 + nt + i
  | .mem i => 8 + nt + nt + i
  | .cls i => 8 + nt + nt + nm + i
  | .kpt i => 8 + nt + nt + nm + nm + i
theorem idx_inj {kd : Bool} {nt nm : Nat} {t u : Tg} (d : dom kd nt nm t) (d' : dom kd nt nm u) (h : idx nt nm t = idx nt nm u) : t = u := by
  cases t <;> cases u <;> simp only [idx, dom] at h d d' <;> first | rfl | (exfalso; omega) | (congr 1; omega)
theorem get_r {α : Type} {a b : List α} {i n : Nat} {x : α} (hn : a.length = n) (h : b[i]? = some x) : (a ++ b)[n + i]? = some x := by
  rw [List.getElem?_append_right (by omega), show n + i - a.length = i by omega]; exact h
theorem get_l {α : Type} {a b : List α} {i : Nat} {x : α} (h : a[i]? = some x) : (a ++ b)[i]? = some x := by
  rw [List.getElem?_append_left (List.getElem?_eq_some_iff.mp h).1]; exact h
theorem getD_at {l : List PySem.Addr} {i : Nat} {b : PySem.Addr} (h : i < l.length) : l[i]? = some (l.getD i b) := by
  rw [List.getD_eq_getElem?_getD, List.getElem?_eq_getElem h]; rfl
theorem idx_at {b mL tL rL tiL ruL rqL vL : PySem.Addr} {ts rs ms cs ks : List PySem.Addr} {kd : Bool} (h1 : rs.length = ts.length) (h2 : cs.length = ms.length) (h3 : kd = true → ks.length = ms.length) {t : Tg} (d : dom kd ts.length ms.length t) :
    ([b, mL, tL, rL, tiL, ruL, rqL, vL] ++ ts ++ rs ++ ms ++ cs ++ ks)[idx ts.length ms.length t]? = some (adOf b mL tL rL tiL ruL rqL vL ts rs ms cs ks t) := by
  have l1 : ([b, mL, tL, rL, tiL, ruL, rqL, vL] ++ ts).length = 8 + ts.length := by rw [List.length_append]; rfl
  have l2 : ([b, mL, tL, rL, tiL, ruL, rqL, vL] ++ ts ++ rs).length = 8 + ts.length + ts.length := by rw [List.length_append, l1, h1]
  have l3 : ([b, mL, tL, rL, tiL, ruL, rqL, vL] ++ ts ++ rs ++ ms).length = 8 + ts.length + ts.length + ms.length := by rw [List.length_append, l2]
  have l4 : ([b, mL, tL, rL, tiL, ruL, rqL, vL] ++ ts ++ rs ++ ms ++ cs).length = 8 + ts.length + ts.length + ms.length + ms.length := by rw [List.length_append, l3, h2]
  cases t with
  | thr i => exact get_l (get_l (get_l (get_l (get_r rfl (getD_at d)))))
  | rgs i => exact get_l (get_l (get_l (get_r l1 (getD_at (by rw [h1]; exact d)))))
  | mem i => exact get_l (get_l (get_r l2 (getD_at d)))
  | cls i => exact get_l (get_r l3 (getD_at (by rw [h2]; exact d)))
  | kpt i => exact get_r l4 (getD_at (by rw [h3 d.1]; exact d.2))
  | _ => exact get_l (get_l (get_l (get_l (get_l rfl))))
theorem ad_inj {H : Hp} {b mL tL rL tiL ruL rqL vL : PySem.Addr} {ts rs ms cs ks : List PySem.Addr} {kd : Bool} (h1 : rs.length = ts.length) (h2 : cs.length = ms.length) (h3 : kd = true → ks.length = ms.length)
    (o : Occ H ([b, mL, tL, rL, tiL, ruL, rqL, vL] ++ ts ++ rs ++ ms ++ cs ++ ks)) : ∀ t u, dom kd ts.length ms.length t → dom kd ts.length ms.length u →
    adOf b mL tL rL tiL ruL rqL vL ts rs ms cs ks t = adOf b mL tL rL tiL ruL rqL vL ts rs ms cs ks u → t = u := fun t u d d' e => by
  have e1 := idx_at (b := b) (mL := mL) (tL := tL) (rL := rL) (tiL := tiL) (ruL := ruL) (rqL := rqL) (vL := vL) h1 h2 h3 d
  have e2 := idx_at (b := b) (mL := mL) (tL := tL) (rL := rL) (tiL := tiL) (ruL := ruL) (rqL := rqL) (vL := vL) h1 h2 h3 d'
  rw [← e] at e2
  have q := (List.getElem?_inj (List.getElem?_eq_some_iff.mp e1).1 o.nd).mp (e1.trans e2.symm)
  exact idx_inj d d' q
theorem ad_out {b mL tL rL tiL ruL rqL vL : PySem.Addr} {ts rs ms cs ks : List PySem.Addr} {kd : Bool} (h1 : rs.length = ts.length) (h2 : cs.length = ms.length) (h3 : kd = true → ks.length = ms.length) (h4 : kd = false → ks = []) (t : Tg) (d : ¬ dom kd ts.length ms.length t) :
    adOf b mL tL rL tiL ruL rqL vL ts rs ms cs ks t = b := by
  have o : ∀ (l : List PySem.Addr) (i : Nat), ¬ i < l.length → l.getD i b = b := fun l i h => by
    rw [List.getD_eq_getElem?_getD, List.getElem?_eq_none (by omega)]; rfl
  cases t with
  | thr i => exact o _ _ d
  | rgs i => exact o _ _ (by rw [h1]; exact d)
  | mem i => exact o _ _ d
  | cls i => exact o _ _ (by rw [h2]; exact d)
  | kpt i =>
    cases kd with
    | false => show ks.getD i b = b; rw [h4 rfl]; rfl
    | true => exact o _ _ (by rw [h3 rfl]; exact fun z => d ⟨rfl, z⟩)
  | _ => exact absurd trivial d
theorem ad_in {b mL tL rL tiL ruL rqL vL : PySem.Addr} {ts rs ms cs ks : List PySem.Addr} (t : Tg) : adOf b mL tL rL tiL ruL rqL vL ts rs ms cs ks t ∈ ([b, mL, tL, rL, tiL, ruL, rqL, vL] ++ ts ++ rs ++ ms ++ cs ++ ks) := by
  have o : ∀ (l : List PySem.Addr) (i : Nat), l.getD i b ∈ l ∨ l.getD i b = b := fun l i => by
    rw [List.getD_eq_getElem?_getD]
    cases e : l[i]? with
    | none => exact .inr rfl
    | some x => exact .inl (List.mem_of_getElem? e)
  cases t with
  | thr i =>
    have h := o ts i
    show ts.getD i b ∈ _
    generalize ts.getD i b = z at h ⊢
    rcases h with h | h <;> simp [h]
  | rgs i =>
    have h := o rs i
    show rs.getD i b ∈ _
    generalize rs.getD i b = z at h ⊢
    rcases h with h | h <;> simp [h]
  | mem i =>
    have h := o ms i
    show ms.getD i b ∈ _
    generalize ms.getD i b = z at h ⊢
    rcases h with h | h <;> simp [h]
  | cls i =>
    have h := o cs i
    show cs.getD i b ∈ _
    generalize cs.getD i b = z at h ⊢
    rcases h with h | h <;> simp [h]
  | kpt i =>
    have h := o ks i
    show ks.getD i b ∈ _
    generalize ks.getD i b = z at h ⊢
    rcases h with h | h <;> simp [h]
  | _ => simp [adOf]
theorem refs_getD (b : PySem.Addr) (l : List PySem.Addr) : l.map V.ref = (List.range l.length).map fun i => V.ref (l.getD i b) := by
  refine List.ext_getElem? fun i => ?_
  rw [List.getElem?_map, List.getElem?_map]
  by_cases hi : i < l.length
  · rw [List.getElem?_range hi, getD_at (b := b) hi]; rfl
  · rw [List.getElem?_eq_none (by omega), List.getElem?_eq_none (by rw [List.length_range]; omega)]; rfl
/-- a thread, a memory as they stand when they are new -/
structure TR where
  x : PySem.Addr
  dx : PySem.Addr
  rg : PySem.Addr
  cv : PySem.Addr
structure MR where
  x : PySem.Addr
  dx : PySem.Addr
  cl : PySem.Addr
  kp : PySem.Addr
def th0 (i : Nat) : Th := ⟨i, 0, [0, 0, 0, 0], .ready, 0, 0⟩
def TrOk (CT : PySem.Addr) (H : Hp) (i : Nat) (r : TR) : Prop := H r.x = some (.ins CT r.dx (fsT r.rg r.cv (th0 i))) ∧ H r.rg = some (.lst (([0, 0, 0, 0] : List Int).map V.int)) ∧ H r.cv = some (.tup (condV .ready))
def MrOk (kd : Bool) (CM : PySem.Addr) (H : Hp) (p : List Int) (r : MR) : Prop := H r.x = some (.ins CM r.dx (fsM kd r.cl r.kp)) ∧ H r.cl = some (.lst ((fill p).map V.int)) ∧ (kd = true → H r.kp = some (.dK []))
theorem TrOk.same {CT : PySem.Addr} {H H' : Hp} {i : Nat} {r : TR} (s : Same H H') (h : TrOk CT H i r) : TrOk CT H' i r := ⟨s _ _ h.1, s _ _ h.2.1, s _ _ h.2.2⟩
theorem MrOk.same {kd : Bool} {CM : PySem.Addr} {H H' : Hp} {p : List Int} {r : MR} (s : Same H H') (h : MrOk kd CM H p r) : MrOk kd CM H' p r := ⟨s _ _ h.1, s _ _ h.2.1, fun k => s _ _ (h.2.2 k)⟩
def S0 (progs : List (List Int)) (rates : List Int) : MS where
  mem := progs.map fun p => ⟨fill p, []⟩
  rates := rates
  ths := (List.range progs.length).map th0
  ready := List.range progs.length
  times := List.replicate rates.length 0
  run := List.replicate rates.length (-1)
  dev := 0
  reqs := []
  cpu := 0
  views := []
theorem bd_start {c : Cl} {H : Hp} {dB rt b mL tL rL tiL ruL rqL vL : PySem.Addr} {trs : List TR} {mrs : List MR} {progs : List (List Int)} {rates : List Int}
    (ht : trs.length = progs.length) (hT : ∀ i r, trs[i]? = some r → TrOk c.CT H i r) (hM : All2 (MrOk c.kd c.CM H) progs mrs)
    (eb : H b = some (.ins c.CB dB (fsB (adOf b mL tL rL tiL ruL rqL vL (trs.map (·.x)) (trs.map (·.rg)) (mrs.map (·.x)) (mrs.map (·.cl)) (if c.kd then mrs.map (·.kp) else [])) rt 0 0)))
    (ert : H rt = some (.tup (rates.map V.int))) (emL : H mL = some (.lst ((mrs.map (·.x)).map V.ref))) (etL : H tL = some (.lst ((trs.map (·.x)).map V.ref))) (erL : H rL = some (.lst ((List.range progs.length).map fun i : Nat => V.int (i : Int))))
    (eti : H tiL = some (.lst ((List.replicate rates.length (0 : Int)).map V.int))) (eru : H ruL = some (.lst ((List.replicate rates.length (-1 : Int)).map V.int))) (erq : H rqL = some (.lst [])) (evL : H vL = some (.lst []))
    (oc : Occ H ([b, mL, tL, rL, tiL, ruL, rqL, vL] ++ trs.map (·.x) ++ trs.map (·.rg) ++ mrs.map (·.x) ++ mrs.map (·.cl) ++ (if c.kd then mrs.map (·.kp) else []))) :
    Bd c (adOf b mL tL rL tiL ruL rqL vL (trs.map (·.x)) (trs.map (·.rg)) (mrs.map (·.x)) (mrs.map (·.cl)) (if c.kd then mrs.map (·.kp) else [])) (S0 progs rates) H := by
  have hm := hM.length
  have l1 : (trs.map (·.rg)).length = (trs.map (·.x)).length := by rw [List.length_map, List.length_map]
  have l2 : (mrs.map (·.cl)).length = (mrs.map (·.x)).length := by rw [List.length_map, List.length_map]
  have l3 : c.kd = true → (if c.kd then mrs.map (·.kp) else []).length = (mrs.map (·.x)).length := fun h => by rw [if_pos h, List.length_map, List.length_map]
  have l4 : c.kd = false → (if c.kd then mrs.map (·.kp) else []) = [] := fun h => by rw [h]; rfl
  have n1 : (trs.map (·.x)).length = (S0 progs rates).ths.length := by show _ = ((List.range progs.length).map th0).length; rw [List.length_map, List.length_map, List.length_range, ht]
  have n2 : (mrs.map (·.x)).length = (S0 progs rates).mem.length := by show _ = (progs.map _).length; rw [List.length_map, List.length_map, hm]
  have inj := ad_inj l1 l2 l3 oc
  have od := ad_out (b := b) (mL := mL) (tL := tL) (rL := rL) (tiL := tiL) (ruL := ruL) (rqL := rqL) (vL := vL) l1 l2 l3 l4
  rw [n1, n2] at inj od
  refine ⟨⟨⟨dB, fun i => (trs.map (·.dx)).getD i 0, fun i => (mrs.map (·.dx)).getD i 0, fun i => (trs.map (·.cv)).getD i 0, [], [], rt⟩, ?_, ?_, .nil, .nil, ert⟩, inj, od⟩
  · have getm : ∀ {α : Type} {l : List α} {f : α → PySem.Addr} {i : Nat} {r : α} {d : PySem.Addr}, l[i]? = some r → (l.map f).getD i d = f r := fun {α l f i r d} h => by
      rw [List.getD_eq_getElem?_getD, List.getElem?_map, h]; rfl
    have gt : ∀ (i : Nat) (t : Th), (S0 progs rates).ths[i]? = some t → ∃ r, trs[i]? = some r ∧ t = th0 i := fun i t h => by
      have h : ((List.range progs.length).map th0)[i]? = some t := h
      have hi : i < progs.length := by have := (List.getElem?_eq_some_iff.mp h).1; rwa [List.length_map, List.length_range] at this
      rw [List.getElem?_map, List.getElem?_range hi] at h
      exact ⟨trs[i], List.getElem?_eq_getElem (by omega), (Option.some.inj h).symm⟩
    have gm : ∀ (i : Nat) (m : Mm), (S0 progs rates).mem[i]? = some m → ∃ r p, mrs[i]? = some r ∧ m = (⟨fill p, []⟩ : Mm) ∧ MrOk c.kd c.CM H p r := fun i m h => by
      have h : (progs.map fun p => (⟨fill p, []⟩ : Mm))[i]? = some m := h
      rw [List.getElem?_map] at h
      cases e : progs[i]? with
      | none => rw [e] at h; cases h
      | some p =>
        rw [e] at h
        have hi := (List.getElem?_eq_some_iff.mp e).1
        have er : mrs[i]? = some (mrs[i]'(by omega)) := List.getElem?_eq_getElem (by omega)
        obtain ⟨p', ep, ok⟩ := hM.get er
        rw [e] at ep
        obtain rfl := Option.some.inj ep
        exact ⟨_, p, er, (Option.some.inj h).symm, ok⟩
    intro t o h
    cases t with
    | brd => rw [← h]; exact eb
    | memL =>
      rw [← h]
      show H mL = some (HO.lst ((List.range (S0 progs rates).mem.length).map fun i => V.ref ((mrs.map (·.x)).getD i b)))
      rw [emL, ← n2, refs_getD b]
    | thsL =>
      rw [← h]
      show H tL = some (HO.lst ((List.range (S0 progs rates).ths.length).map fun i => V.ref ((trs.map (·.x)).getD i b)))
      rw [etL, ← n1, refs_getD b]
    | rdyL => rw [← h]; exact erL
    | timL => rw [← h]; exact eti
    | runL => rw [← h]; exact eru
    | reqL => rw [← h]; exact erq
    | vwsL => rw [← h]; exact evL
    | thr i =>
      have h : ((S0 progs rates).ths[i]?.map fun t => HO.ins c.CT ((trs.map (·.dx)).getD i 0) (fsT ((trs.map (·.rg)).getD i b) ((trs.map (·.cv)).getD i 0) t)) = some o := h
      cases e : (S0 progs rates).ths[i]? with
      | none => rw [e] at h; cases h
      | some t =>
        rw [e] at h
        obtain ⟨r, er, rfl⟩ := gt i t e
        rw [← h]
        show H ((trs.map (·.x)).getD i b) = some (HO.ins c.CT _ (fsT ((trs.map (·.rg)).getD i b) _ (th0 i)))
        rw [getm er, getm er, getm er, getm er]
        exact (hT i r er).1
    | rgs i =>
      have h : ((S0 progs rates).ths[i]?.map fun t => HO.lst (t.regs.map V.int)) = some o := h
      cases e : (S0 progs rates).ths[i]? with
      | none => rw [e] at h; cases h
      | some t =>
        rw [e] at h
        obtain ⟨r, er, rfl⟩ := gt i t e
        rw [← h]
        show H ((trs.map (·.rg)).getD i b) = _
        rw [getm er]
        exact (hT i r er).2.1
    | mem i =>
      have h : ((S0 progs rates).mem[i]?.map fun _ => HO.ins c.CM ((mrs.map (·.dx)).getD i 0) (fsM c.kd ((mrs.map (·.cl)).getD i b) ((if c.kd then mrs.map (·.kp) else []).getD i b))) = some o := h
      cases e : (S0 progs rates).mem[i]? with
      | none => rw [e] at h; cases h
      | some m =>
        rw [e] at h
        obtain ⟨r, p, er, rfl, ok⟩ := gm i m e
        rw [← h]
        show H ((mrs.map (·.x)).getD i b) = some (HO.ins c.CM _ (fsM c.kd ((mrs.map (·.cl)).getD i b) ((if c.kd then mrs.map (·.kp) else []).getD i b)))
        rw [getm er, getm er, getm er, ok.1]
        cases hk : c.kd with
        | false => rfl
        | true => rw [if_pos rfl, getm er]
    | cls i =>
      have h : ((S0 progs rates).mem[i]?.map fun m => HO.lst (m.cells.map V.int)) = some o := h
      cases e : (S0 progs rates).mem[i]? with
      | none => rw [e] at h; cases h
      | some m =>
        rw [e] at h
        obtain ⟨r, p, er, rfl, ok⟩ := gm i m e
        rw [← h]
        show H ((mrs.map (·.cl)).getD i b) = _
        rw [getm er]
        exact ok.2.1
    | kpt i =>
      have h : (if c.kd then (S0 progs rates).mem[i]?.map fun m => HO.dK (keptV m.kept) else none) = some o := h
      cases hk : c.kd with
      | false => rw [hk] at h; cases h
      | true =>
        rw [hk, if_pos rfl] at h
        cases e : (S0 progs rates).mem[i]? with
        | none => rw [e] at h; cases h
        | some m =>
          rw [e] at h
          obtain ⟨r, p, er, rfl, ok⟩ := gm i m e
          rw [← h]
          show H ((if true = true then mrs.map (·.kp) else []).getD i b) = _
          rw [if_pos rfl, getm er]
          exact ok.2.2 hk
  · intro i t h
    have h : ((List.range progs.length).map th0)[i]? = some t := h
    have hi : i < progs.length := by have := (List.getElem?_eq_some_iff.mp h).1; rwa [List.length_map, List.length_range] at this
    rw [List.getElem?_map, List.getElem?_range hi] at h
    obtain rfl := Option.some.inj h
    have er : trs[i]? = some (trs[i]'(by omega)) := List.getElem?_eq_getElem (by omega)
    show H ((trs.map (·.cv)).getD i 0) = _
    rw [List.getD_eq_getElem?_getD, List.getElem?_map, er]
    exact (hT i _ er).2.2
theorem wf_start {progs : List (List Int)} {rates : List Int} (h1 : progs.length ≤ 4) (h2 : rates.length ≤ 4) (h3 : 0 < rates.length) (hp : ∀ p ∈ progs, p.length ≤ 256 ∧ ∀ b ∈ p, 0 ≤ b) : WF (S0 progs rates) 8 where
  nt := by show ((List.range progs.length).map th0).length ≤ 8; rw [List.length_map, List.length_range]; omega
  nm := by show (progs.map _).length ≤ 8; rw [List.length_map]; omega
  nr := by show rates.length ≤ 8; omega
  tim := List.length_replicate
  rn := List.length_replicate
  cpu := h3
  th t ht := by
    obtain ⟨i, hi, e⟩ := List.mem_map.mp (show t ∈ (List.range progs.length).map th0 from ht)
    have hi := List.mem_range.mp hi
    rw [← e]
    refine ⟨?_, rfl, ?_, trivial⟩
    · show i < (progs.map _).length; rw [List.length_map]; exact hi
    · intro r hr
      have hr : r ∈ ([0, 0, 0, 0] : List Int) := hr
      simp at hr
      omega
  mm m hm := by
    obtain ⟨p, h, e⟩ := List.mem_map.mp (show m ∈ progs.map (fun p => (⟨fill p, []⟩ : Mm)) from hm)
    obtain ⟨hl, hb⟩ := hp p h
    rw [← e]
    refine ⟨?_, ?_, (fun p hp => nomatch hp), List.nodup_nil⟩
    · show (fill p).length = 256
      unfold fill
      rw [List.length_append, List.length_replicate]
      omega
    · intro b hbm
      have hbm : b ∈ fill p := hbm
      unfold fill at hbm
      rcases List.mem_append.mp hbm with z | z
      · exact hb b z
      · rw [List.eq_of_mem_replicate z]
        exact Int.le_refl _
  rd i hi := by
    have hi : i ∈ List.range progs.length := hi
    show i < ((List.range progs.length).map th0).length
    rw [List.length_map, List.length_range]
    exact List.mem_range.mp hi
  rdl := by show (List.range progs.length).length ≤ 8; rw [List.length_range]; omega
  rnl r hr := by
    have hr : r ∈ List.replicate rates.length (-1 : Int) := hr
    rw [List.eq_of_mem_replicate hr]
    omega
  rq q hq := nomatch hq
  rql := Nat.zero_le _
  vw := Nat.zero_le _
  dev := Int.le_refl _
end MM
end
section
/-! the machine's making: what loops keep -/
namespace MM
open PySem PySem.Spec PyProof.Rows L2
theorem cut256 {xs : List V} (h : xs.length ≤ 256) : cutV xs none (some 256) = xs := by
  unfold cutV
  rw [HT.sIx_none, List.drop_zero, show HT.sIx xs.length xs.length (some 256) = min 256 xs.length from HT.sIx_nat _ _ 256, Nat.min_eq_right h, Nat.sub_zero, List.take_length]
theorem flat_rep {k : Nat} {v : V} : (List.replicate k [v]).flatten = List.replicate k v := by
  induction k with
  | zero => rfl
  | succ k ih => rw [List.replicate_succ, List.flatten_cons, ih]; rfl
def mL (kd : Bool) (mrs : List MR) : List PySem.Addr := mrs.map (·.x) ++ mrs.map (·.cl) ++ (if kd then mrs.map (·.kp) else [])
/-- the memories made so far -/
def ML (kd : Bool) (CM : PySem.Addr) (H : Hp) (D : PySem.Addr) (ps : List (List Int)) (H' : Hp) : Prop := ∃ mrs : List MR, H' D = some (.lst ((mrs.map (·.x)).map V.ref)) ∧ Same H H' ∧ All2 (MrOk kd CM H') ps mrs ∧ Occ H' (D :: mL kd mrs) ∧ ∀ a ∈ D :: mL kd mrs, H a = none
theorem ML.start {kd : Bool} {CM D : PySem.Addr} {H : Hp} (hD : H D = none) : ML kd CM H D [] (upd H D (.lst [])) := by
  refine ⟨[], upd_same, R.same_new hD, .nil, ?_, ?_⟩
  · have : mL kd [] = [] := by cases kd <;> rfl
    rw [this]
    exact ⟨List.nodup_cons.mpr ⟨(fun h => nomatch h), List.nodup_nil⟩, fun a ha => by rw [List.mem_singleton.mp ha]; exact ⟨_, upd_same⟩⟩
  · have : mL kd [] = [] := by cases kd <;> rfl
    rw [this]
    intro a ha
    rw [List.mem_singleton.mp ha]
    exact hD
theorem ML.step {kd : Bool} {CM D x dx : PySem.Addr} {H H1 H2 : Hp} {ps : List (List Int)} {p : List Int} {r : MR} (hD : H D = none) (m : ML kd CM H D ps H1) (hx : H1 x = none) (hdx : H1 dx = none) (hne : dx ≠ x) (e1 : r.x = x)
    (mv : R.Mv x (upd (upd H1 dx (.own x)) x (.ins CM dx [])) H2) (hcl : upd (upd H1 dx (.own x)) x (.ins CM dx []) r.cl = none) (hkp : kd = true → upd (upd H1 dx (.own x)) x (.ins CM dx []) r.kp = none ∧ r.kp ≠ r.cl) (ok : MrOk kd CM H2 p r) :
    ∃ acc, H2 D = some (.lst acc) ∧ acc.length = ps.length ∧ ML kd CM H D (ps ++ [p]) (upd H2 D (.lst (acc ++ [.ref x]))) := by
  obtain ⟨mrs, eD, sm, al, oc, fr⟩ := m
  have s2 : Same H1 H2 := fun b o hb => mv b o (by rw [upd_ne (ne_of_none hb hx), upd_ne (ne_of_none hb hdx)]; exact hb) (ne_of_none hb hx)
  have eD2 := s2 _ _ eD
  have clx : r.cl ≠ x := fun z => by rw [z, upd_same] at hcl; cases hcl
  have cld : r.cl ≠ dx := fun z => by rw [z, upd_ne hne, upd_same] at hcl; cases hcl
  have hcl1 : H1 r.cl = none := by rw [upd_ne clx, upd_ne cld] at hcl; exact hcl
  have hkp1 : kd = true → H1 r.kp = none ∧ r.kp ≠ r.cl ∧ r.kp ≠ x := fun k => by
    obtain ⟨h, n⟩ := hkp k
    have kx : r.kp ≠ x := fun z => by rw [z, upd_same] at h; cases h
    have kdx : r.kp ≠ dx := fun z => by rw [z, upd_ne hne, upd_same] at h; cases h
    rw [upd_ne kx, upd_ne kdx] at h
    exact ⟨h, n, kx⟩
  have nD : ∀ {a : PySem.Addr}, H1 a = none → a ≠ D := fun {a} h => fun z => by rw [z, eD] at h; cases h
  have kt : ∀ b o, b ≠ D → H2 b = some o → upd H2 D (.lst (((mrs.map (·.x)).map V.ref) ++ [.ref x])) b = some o := fun b o h e => by rw [upd_ne h]; exact e
  have h0 : ∀ {a : PySem.Addr}, H1 a = none → H a = none := fun {a} h => sm.free h
  refine ⟨_, eD2, by rw [List.length_map, List.length_map]; exact al.length.symm, mrs ++ [r], ?_, ?_, ?_, ?_, ?_⟩
  · rw [upd_same, List.map_append, List.map_append]
    show some (HO.lst _) = some (HO.lst (_ ++ [V.ref r.x]))
    rw [e1]
  · intro b o hb
    rw [upd_ne (ne_of_none hb hD)]
    exact s2 _ _ (sm _ _ hb)
  · have al2 : All2 (MrOk kd CM (upd H2 D (.lst (((mrs.map (·.x)).map V.ref) ++ [.ref x])))) ps mrs := by
      have key : ∀ {ps : List (List Int)} {ms : List MR}, All2 (MrOk kd CM H1) ps ms → (∀ m ∈ ms, m.x ≠ D ∧ m.cl ≠ D ∧ (kd = true → m.kp ≠ D)) → All2 (MrOk kd CM (upd H2 D (.lst (((mrs.map (·.x)).map V.ref) ++ [.ref x])))) ps ms := fun a => by
        induction a with
        | nil => intro _; exact .nil
        | cons r1 _ ih =>
          intro h
          obtain ⟨n1, n2, n3⟩ := h _ List.mem_cons_self
          exact .cons ⟨kt _ _ n1 (s2 _ _ r1.1), kt _ _ n2 (s2 _ _ r1.2.1), fun k => kt _ _ (n3 k) (s2 _ _ (r1.2.2 k))⟩ (ih fun m hm => h m (List.mem_cons_of_mem _ hm))
      refine key al fun m hm => ?_
      have hd := (List.nodup_cons.mp oc.nd).1
      refine ⟨fun z => hd ?_, fun z => hd ?_, fun k z => hd ?_⟩
      · rw [← z]; exact List.mem_append_left _ (List.mem_append_left _ (List.mem_map_of_mem hm))
      · rw [← z]; exact List.mem_append_left _ (List.mem_append_right _ (List.mem_map_of_mem hm))
      · rw [← z]; exact List.mem_append_right _ (by rw [if_pos k]; exact List.mem_map_of_mem hm)
    refine All2.snoc ⟨?_, ?_, fun k => ?_⟩ al2
    · exact kt _ _ (by rw [e1]; exact nD hx) ok.1
    · exact kt _ _ (nD hcl1) ok.2.1
    · exact kt _ _ (nD (hkp1 k).1) (ok.2.2 k)
  · have th : ∀ b o, H2 b = some o → ∃ o', upd H2 D (.lst (((mrs.map (·.x)).map V.ref) ++ [.ref x])) b = some o' := there_upd
    have o2 : Occ H2 (D :: mL kd mrs) := oc.mono (there_same s2)
    have oX : Occ H2 (r.cl :: x :: D :: mL kd mrs) := by
      have a1 := oc.add (H' := upd H1 x (.ins CM dx [])) hx there_upd ⟨_, upd_same⟩
      refine (a1.add (H' := H2) (p := r.cl) (by rw [upd_ne clx]; exact hcl1) (fun b o hb => ?_) ⟨_, ok.2.1⟩)
      by_cases z : b = x
      · rw [z, ← e1]; exact ⟨_, ok.1⟩
      · rw [upd_ne z] at hb; exact ⟨o, s2 _ _ hb⟩
    cases kd with
    | false =>
      refine (oX.mono th).perm ?_
      rw [List.perm_iff_count]
      intro a
      simp only [mL, List.map_append, List.map_cons, List.map_nil, e1, List.count_cons, List.count_append, List.count_nil, Bool.false_eq_true, if_false]
      omega
    | true =>
      obtain ⟨k1, k2, k3⟩ := hkp1 rfl
      have oK : Occ H2 (r.kp :: r.cl :: x :: D :: mL true mrs) := by
        refine ⟨List.nodup_cons.mpr ⟨fun h => ?_, oX.nd⟩, fun a ha => ?_⟩
        · rcases List.mem_cons.mp h with z | z
          · exact k2 z
          rcases List.mem_cons.mp z with z | z
          · exact k3 z
          · obtain ⟨o, ho⟩ := oc.oc _ z
            rw [k1] at ho; cases ho
        · rcases List.mem_cons.mp ha with z | z
          · rw [z]; exact ⟨_, ok.2.2 rfl⟩
          · exact oX.oc a z
      refine (oK.mono th).perm ?_
      rw [List.perm_iff_count]
      intro a
      simp only [mL, List.map_append, List.map_cons, List.map_nil, e1, List.count_cons, List.count_append, List.count_nil, if_true]
      omega
  · intro a ha
    have : a = x ∨ a = r.cl ∨ (kd = true ∧ a = r.kp) ∨ a ∈ D :: mL kd mrs := by
      rcases List.mem_cons.mp ha with z | z
      · exact .inr (.inr (.inr (by rw [z]; exact List.mem_cons_self)))
      · unfold mL at z
        rcases List.mem_append.mp z with z | z
        · rcases List.mem_append.mp z with z | z
          · rw [List.map_append] at z
            rcases List.mem_append.mp z with z | z
            · exact .inr (.inr (.inr (List.mem_cons_of_mem _ (List.mem_append_left _ (List.mem_append_left _ z)))))
            · exact .inl ((List.mem_singleton.mp z).trans e1)
          · rw [List.map_append] at z
            rcases List.mem_append.mp z with z | z
            · exact .inr (.inr (.inr (List.mem_cons_of_mem _ (List.mem_append_left _ (List.mem_append_right _ z)))))
            · exact .inr (.inl (List.mem_singleton.mp z))
        · cases kd with
          | false => cases z
          | true =>
            have z : a ∈ (mrs ++ [r]).map (·.kp) := z
            rw [List.map_append] at z
            rcases List.mem_append.mp z with z | z
            · exact .inr (.inr (.inr (List.mem_cons_of_mem _ (List.mem_append_right _ z))))
            · exact .inr (.inr (.inl ⟨rfl, List.mem_singleton.mp z⟩))
    rcases this with z | z | ⟨k, z⟩ | z
    · rw [z]; exact h0 hx
    · rw [z]; exact h0 hcl1
    · rw [z]; exact h0 (hkp1 k).1
    · exact fr a z
def tL (trs : List TR) : List PySem.Addr := trs.map (·.x) ++ trs.map (·.rg)
/-- the threads made so far, beside L -/
def TL (CT : PySem.Addr) (L : List PySem.Addr) (H : Hp) (D : PySem.Addr) (n : Nat) (H' : Hp) : Prop := ∃ trs : List TR, trs.length = n ∧ H' D = some (.lst ((trs.map (·.x)).map V.ref)) ∧ Same H H' ∧ (∀ i r, trs[i]? = some r → TrOk CT H' i r) ∧ Occ H' (D :: (tL trs ++ L)) ∧ ∀ a ∈ D :: tL trs, H a = none
theorem TL.start {CT D : PySem.Addr} {H : Hp} {L : List PySem.Addr} (hD : H D = none) (oc : Occ H L) : TL CT L H D 0 (upd H D (.lst [])) := by
  refine ⟨[], rfl, upd_same, R.same_new hD, (fun i r h => nomatch h), oc.add hD there_upd ⟨_, upd_same⟩, ?_⟩
  intro a ha
  rw [List.mem_singleton.mp ha]
  exact hD
theorem TL.step {CT D x dx : PySem.Addr} {H H1 H2 : Hp} {L : List PySem.Addr} {n : Nat} {rg cv : PySem.Addr} (hD : H D = none) (m : TL CT L H D n H1) (hx : H1 x = none) (hdx : H1 dx = none) (hne : dx ≠ x)
    (mv : R.Mv x (upd (upd H1 dx (.own x)) x (.ins CT dx [])) H2) (hrg : upd (upd H1 dx (.own x)) x (.ins CT dx []) rg = none)
    (e1 : H2 x = some (.ins CT dx (fsT rg cv (th0 n)))) (e2 : H2 rg = some (.lst (([0, 0, 0, 0] : List Int).map V.int))) (e3 : H2 cv = some (.tup (condV .ready))) :
    ∃ acc, H2 D = some (.lst acc) ∧ acc.length = n ∧ TL CT L H D (n + 1) (upd H2 D (.lst (acc ++ [.ref x]))) := by
  obtain ⟨trs, hl, eD, sm, al, oc, fr⟩ := m
  have s2 : Same H1 H2 := fun b o hb => mv b o (by rw [upd_ne (ne_of_none hb hx), upd_ne (ne_of_none hb hdx)]; exact hb) (ne_of_none hb hx)
  have eD2 := s2 _ _ eD
  have rx : rg ≠ x := fun z => by rw [z, upd_same] at hrg; cases hrg
  have rd : rg ≠ dx := fun z => by rw [z, upd_ne hne, upd_same] at hrg; cases hrg
  have hrg1 : H1 rg = none := by rw [upd_ne rx, upd_ne rd] at hrg; exact hrg
  have nD : ∀ {a : PySem.Addr}, H1 a = none → a ≠ D := fun {a} h => fun z => by rw [z, eD] at h; cases h
  have kt : ∀ b o, b ≠ D → H2 b = some o → upd H2 D (.lst (((trs.map (·.x)).map V.ref) ++ [.ref x])) b = some o := fun b o h e => by rw [upd_ne h]; exact e
  have h0 : ∀ {a : PySem.Addr}, H1 a = none → H a = none := fun {a} h => sm.free h
  have cD : cv ≠ D := fun z => by rw [z, eD2] at e3; cases e3
  refine ⟨_, eD2, by rw [List.length_map, List.length_map]; exact hl, trs ++ [⟨x, dx, rg, cv⟩], by rw [List.length_append, hl]; rfl, ?_, ?_, ?_, ?_, ?_⟩
  · rw [upd_same, List.map_append, List.map_append]
    rfl
  · intro b o hb
    rw [upd_ne (ne_of_none hb hD)]
    exact s2 _ _ (sm _ _ hb)
  · intro i r h
    by_cases hi : i < trs.length
    · rw [List.getElem?_append_left hi] at h
      obtain ⟨a1, a2, a3⟩ := al i r h
      have hm := List.mem_of_getElem? h
      have hd := (List.nodup_cons.mp oc.nd).1
      refine ⟨kt _ _ (fun z => hd ?_) (s2 _ _ a1), kt _ _ (fun z => hd ?_) (s2 _ _ a2), kt _ _ (fun z => ?_) (s2 _ _ a3)⟩
      · rw [← z]; exact List.mem_append_left _ (List.mem_append_left _ (List.mem_map_of_mem hm))
      · rw [← z]; exact List.mem_append_left _ (List.mem_append_right _ (List.mem_map_of_mem hm))
      · rw [z, eD] at a3; cases a3
    · have hi' : i < (trs ++ [(⟨x, dx, rg, cv⟩ : TR)]).length := (List.getElem?_eq_some_iff.mp h).1
      rw [List.length_append] at hi'
      have hi' : i < trs.length + 1 := hi'
      have ei : i = trs.length := by omega
      rw [ei, List.getElem?_append_right (Nat.le_refl _), Nat.sub_self] at h
      obtain rfl := Option.some.inj h
      rw [ei, hl]
      exact ⟨kt _ _ (nD hx) e1, kt _ _ (nD hrg1) e2, kt _ _ cD e3⟩
  · have oX : Occ H2 (rg :: x :: D :: (tL trs ++ L)) := by
      have a1 := oc.add (H' := upd H1 x (.ins CT dx [])) hx there_upd ⟨_, upd_same⟩
      refine (a1.add (H' := H2) (p := rg) (by rw [upd_ne rx]; exact hrg1) (fun b o hb => ?_) ⟨_, e2⟩)
      by_cases z : b = x
      · rw [z]; exact ⟨_, e1⟩
      · rw [upd_ne z] at hb; exact ⟨o, s2 _ _ hb⟩
    refine (oX.mono there_upd).perm ?_
    rw [List.perm_iff_count]
    intro a
    simp only [tL, List.map_append, List.map_cons, List.map_nil, List.count_cons, List.count_append, List.count_nil]
    omega
  · intro a ha
    rcases List.mem_cons.mp ha with z | z
    · rw [z]; exact hD
    · unfold tL at z
      rw [List.map_append, List.map_append] at z
      rcases List.mem_append.mp z with z | z
      · rcases List.mem_append.mp z with z | z
        · exact fr a (List.mem_cons_of_mem _ (List.mem_append_left _ z))
        · rw [List.mem_singleton.mp z]; exact h0 hx
      · rcases List.mem_append.mp z with z | z
        · exact fr a (List.mem_cons_of_mem _ (List.mem_append_right _ z))
        · rw [List.mem_singleton.mp z]; exact h0 hrg1
end MM
namespace MM
open PySem PySem.Spec PyProof.Rows L2
theorem r_LcR {te : TE} {g : TG} {ts : TT} {vs : List Nat} {σ : L2.St} {Q : VK} {H1 : Hp} {n : Nat} (hn : n ≤ 100000) (h : LW (Itr 0 n) g ts te vs σ Q H1) : R.LcR te g ts vs σ Q [.int (n : Int)] H1 :=
  ⟨(n : Int), rfl, by omega, by omega, by rw [Int.toNat_natCast]; exact h⟩
end MM
namespace MM
open PySem PySem.Spec PyProof.Rows L2
theorem r_lstRg {ta : TE} {σ : L2.St} {Q : VK} {H : Hp} (h : ta σ H fun x H1 => ∃ n, x = .int n ∧ RgOk 0 n ∧ ∀ q, H1 q = none → Q (.ref q) (upd H1 q (.lst (rgV 0 n)))) : tLstRg (tRg1 ta) σ H Q := h
end MM
namespace MM
theorem mv_back {H H' : L2.Hp} {x a : PySem.Addr} (m : R.Mv x H H') (h : H' a = none) (n : a ≠ x) : H a = none := by
  cases z : H a with
  | none => rfl
  | some o => rw [m a o z n] at h; cases h
end MM
end
section
/-! machines beside other things; the stops' list -/
namespace MM
open PySem PySem.Spec PyProof.Rows L2
/-- the state stands where its places do -/
theorem Bd.move {c : Cl} {ad : Tg → PySem.Addr} {S : MS} {H H' : Hp} (B : Bd c ad S H) (fr : ∀ t o, H (ad t) = some o → H' (ad t) = some o) (kt : KeepT H H') : Bd c ad S H' := by
  obtain ⟨⟨g, h1, h2, h3, h4, h5⟩, inj, od⟩ := B
  exact ⟨⟨g, fun t o e => fr t o (h1 t o e), fun i t e => kt _ _ (h2 i t e), h3.imp fun _ _ z => kt _ _ z, h4.imp fun _ _ z => z.keep kt, kt _ _ h5⟩, inj, od⟩
theorem Bd.mv {c : Cl} {ad : Tg → PySem.Addr} {S : MS} {H H' : Hp} {x : PySem.Addr} (B : Bd c ad S H) (m : R.Mv x H H') (hx : ∀ t, ad t ≠ x) (ht : ∀ xs, H x ≠ some (.tup xs)) : Bd c ad S H' :=
  B.move (fun t o e => m _ _ e (hx t)) (fun b xs e => m _ _ e (fun z => ht xs (by rw [← z]; exact e)))
/-- another machine's step -/
theorem Bd.beside {c c2 : Cl} {ad ad2 ad2' : Tg → PySem.Addr} {S : MS} {H H' : Hp} {nt nm : Nat} (B : Bd c ad S H) (m : Mvd c2.kd nt nm ad2 ad2' H H') (dj : ∀ t u, ad2 t ≠ ad u) : Bd c ad S H' ∧ ∀ t u, ad2' t ≠ ad u := by
  refine ⟨B.move (fun t o e => m.fr _ _ e fun u => dj u t) m.kt, fun t u => ?_⟩
  by_cases d : dom c.kd S.ths.length S.mem.length u
  · obtain ⟨o, e⟩ := B.there d
    exact m.out e (fun t => dj t u) t
  · obtain ⟨o, e⟩ := B.there (t := .brd) trivial
    rw [B.out u d]
    exact m.out e (fun t => dj t .brd) t
theorem mrs_mv {kd : Bool} {CM : PySem.Addr} {H H' : Hp} {x : PySem.Addr} {ps : List (List Int)} {ms : List MR} (m : R.Mv x H H') (al : All2 (MrOk kd CM H) ps ms) (h : ∀ a ∈ mL kd ms, a ≠ x) : All2 (MrOk kd CM H') ps ms := by
  have key : ∀ {ps : List (List Int)} {ms : List MR}, All2 (MrOk kd CM H) ps ms → (∀ m ∈ ms, m.x ≠ x ∧ m.cl ≠ x ∧ (kd = true → m.kp ≠ x)) → All2 (MrOk kd CM H') ps ms := fun a => by
    induction a with
    | nil => intro _; exact .nil
    | cons r1 _ ih =>
      intro h
      obtain ⟨n1, n2, n3⟩ := h _ List.mem_cons_self
      exact .cons ⟨m _ _ r1.1 n1, m _ _ r1.2.1 n2, fun k => m _ _ (r1.2.2 k) (n3 k)⟩ (ih fun m hm => h m (List.mem_cons_of_mem _ hm))
  exact key al fun m hm => ⟨h _ (List.mem_append_left _ (List.mem_append_left _ (List.mem_map_of_mem hm))), h _ (List.mem_append_left _ (List.mem_append_right _ (List.mem_map_of_mem hm))), fun k => h _ (List.mem_append_right _ (by rw [if_pos k]; exact List.mem_map_of_mem hm))⟩
/-- the programs' tuples -/
def PgAt (H : Hp) (pg : PySem.Addr) (progs : List (List Int)) : Prop := ∃ ps : List PySem.Addr, H pg = some (.tup (ps.map V.ref)) ∧ All2 (fun a (p : List Int) => H a = some (.tup (p.map V.int))) ps progs
theorem PgAt.keep {H H' : Hp} {pg : PySem.Addr} {progs : List (List Int)} (h : PgAt H pg progs) (k : KeepT H H') : PgAt H' pg progs := by
  obtain ⟨ps, e, al⟩ := h
  exact ⟨ps, k _ _ e, al.imp fun _ _ z => k _ _ z⟩
/-- the stops, ascending -/
def ltPr (p q : Int × Int) : Prop := p.1 < q.1 ∨ (p.1 = q.1 ∧ p.2 < q.2)
def keys (m : Mm) : List Int := m.kept.map (·.1)
def StopL (S : MS) (i : Nat) (L : List (Int × Int)) : Prop := L.Pairwise ltPr ∧ ∀ p a, (p, a) ∈ L ↔ ∃ j, j < i ∧ p = (j : Int) ∧ a ∈ keys (S.mm j)
theorem StopL.step {S : MS} {i : Nat} {L : List (Int × Int)} {ns : List Int} (h : StopL S i L) (hp : ns.Perm (keys (S.mm i))) (hs : ns.Pairwise (· ≤ ·)) (hn : (keys (S.mm i)).Nodup) : StopL S (i + 1) (L ++ ns.map fun a => ((i : Int), a)) := by
  have hnd : ns.Nodup := hp.nodup_iff.mpr hn
  have hst : ns.Pairwise (· < ·) := by
    have := hs.and hnd
    exact this.imp fun {a b} h => by
      have h1 := h.1
      have h2 : a ≠ b := h.2
      omega
  refine ⟨?_, fun p a => ?_⟩
  · rw [List.pairwise_append]
    refine ⟨h.1, ?_, ?_⟩
    · rw [List.pairwise_map]
      exact hst.imp fun {a b} h => .inr ⟨rfl, h⟩
    · intro x hx y hy
      obtain ⟨b, hb, rfl⟩ := List.mem_map.mp hy
      obtain ⟨j, hj, e, _⟩ := (h.2 x.1 x.2).mp hx
      exact .inl (by rw [e]; exact Int.ofNat_lt.mpr hj)
  · rw [List.mem_append, h.2]
    constructor
    · rintro (⟨j, hj, e, m⟩ | hm)
      · exact ⟨j, by omega, e, m⟩
      · obtain ⟨b, hb, e⟩ := List.mem_map.mp hm
        obtain ⟨rfl, rfl⟩ := Prod.mk.inj e
        exact ⟨i, by omega, rfl, hp.mem_iff.mp hb⟩
    · rintro ⟨j, hj, e, m⟩
      by_cases z : j = i
      · rw [z] at e m
        exact .inr (List.mem_map.mpr ⟨a, hp.mem_iff.mpr m, by rw [e]⟩)
      · exact .inl ⟨j, by omega, e, m⟩
section
variable {g g1 : TG} {tt tt1 : TT} {te tl : TE} {vs vs1 : List Nat} {σ : L2.St} {Q : VK} {H H1 : Hp} {K : PySem.W.Frag} {tr : TA} {wi1 : TI}
/-- two loops in a comprehension -/
def LW2 (J : It) (g : TG) (tt : TT) (wi1 : TI) (g1 : TG) (tt1 : TT) (te : TE) (vs vs1 : List Nat) (σ : L2.St) (Q : VK) (H1 : Hp) : Prop := ∀ D, H1 D = none → ∃ W : Nat → Nat → Hp → Prop, (∃ m, W 0 m (upd H1 D (.lst []))) ∧ ∀ i m H, W i m H →
  (J.stop i H ∧ Q (.ref D) H) ∨ (J.go i H ∧ ∃ Nx : Hp → Prop, (∀ H', Nx H' → ∃ m', m' < m ∧ W (i + 1) m' H') ∧ ∀ x H', J.yld i H x H' → g x (wipe σ vs) H' fun σ2 H2 => wipe σ2 vs = wipe σ vs ∧ tt σ2 H2 fun b H3 =>
    if b = true then wi1 σ2 H3 fun J1 H4 => ∃ W1 : Nat → Nat → Hp → Prop, (∃ m, W1 0 m H4) ∧ ∀ j k H, W1 j k H →
      (J1.stop j H ∧ Nx H) ∨ (J1.go j H ∧ ∃ Nx1 : Hp → Prop, (∀ H', Nx1 H' → ∃ k', k' < k ∧ W1 (j + 1) k' H') ∧ ∀ x H', J1.yld j H x H' → g1 x (wipe σ2 vs1) H' fun σ3 H5 => wipe σ3 vs1 = wipe σ2 vs1 ∧ tt1 σ3 H5 fun b H6 =>
        if b = true then te σ3 H6 fun y H7 => ∃ acc, H7 D = some (.lst acc) ∧ acc.length < sizeLine ∧ Nx1 (upd H7 D (.lst (acc ++ [y]))) else Nx1 H6)
    else Nx H3)
/-- the inner loop's part -/
def IW (J1 : It) (g1 : TG) (tt1 : TT) (te : TE) (vs1 : List Nat) (D : PySem.Addr) (σ2 : L2.St) (Nx : Hp → Prop) (H4 : Hp) : Prop := ∃ W1 : Nat → Nat → Hp → Prop, (∃ m, W1 0 m H4) ∧ ∀ j k H, W1 j k H →
      (J1.stop j H ∧ Nx H) ∨ (J1.go j H ∧ ∃ Nx1 : Hp → Prop, (∀ H', Nx1 H' → ∃ k', k' < k ∧ W1 (j + 1) k' H') ∧ ∀ x H', J1.yld j H x H' → g1 x (wipe σ2 vs1) H' fun σ3 H5 => wipe σ3 vs1 = wipe σ2 vs1 ∧ tt1 σ3 H5 fun b H6 =>
        if b = true then te σ3 H6 fun y H7 => ∃ acc, H7 D = some (.lst acc) ∧ acc.length < sizeLine ∧ Nx1 (upd H7 D (.lst (acc ++ [y]))) else Nx1 H6)
theorem lc2_go {J : It} {n : Nat} {G : Hp → Prop} {Y : Nat → Hp → V → Hp → Prop} (wk : Walk J n G Y) (Pv : PySem.Addr → Nat → Hp → Prop) (h0 : ∀ D, H1 D = none → Pv D 0 (upd H1 D (.lst [])))
    (hG : ∀ D i H, H1 D = none → Pv D i H → G H)
    (hs : ∀ D i x H H', H1 D = none → i < n → Pv D i H → Y i H x H' → g x (wipe σ vs) H' fun σ2 H2 => wipe σ2 vs = wipe σ vs ∧ tt σ2 H2 fun b H3 =>
      if b = true then wi1 σ2 H3 fun J1 H4 => IW J1 g1 tt1 te vs1 D σ2 (Pv D (i + 1)) H4 else Pv D (i + 1) H3)
    (hd : ∀ D H, H1 D = none → Pv D n H → Q (.ref D) H) : LW2 J g tt wi1 g1 tt1 te vs vs1 σ Q H1 := fun D hD => by
  refine ⟨fun i m H => m = n - i ∧ i ≤ n ∧ Pv D i H, ⟨n, by simp, Nat.zero_le _, h0 D hD⟩, ?_⟩
  rintro i m H ⟨rfl, hi, p⟩
  have q := hG D i H hD p
  by_cases hlt : i < n
  · exact .inr ⟨wk.goes i H hlt q, Pv D (i + 1), fun H' p' => ⟨n - (i + 1), by omega, rfl, hlt, p'⟩, fun x H' y => hs D i x H H' hD hlt p (wk.yields i H x H' hlt q y)⟩
  · have e : i = n := by omega
    subst e
    exact .inl ⟨wk.stops H q, hd D H hD p⟩
theorem iw_go {J1 : It} {n : Nat} {G : Hp → Prop} {Y : Nat → Hp → V → Hp → Prop} {D : PySem.Addr} {σ2 : L2.St} {Nx : Hp → Prop} {H4 : Hp} (wk : Walk J1 n G Y) (Pv : Nat → Hp → Prop) (h0 : Pv 0 H4) (hG : ∀ j H, Pv j H → G H)
    (hs : ∀ j x H H', j < n → Pv j H → Y j H x H' → g1 x (wipe σ2 vs1) H' fun σ3 H5 => wipe σ3 vs1 = wipe σ2 vs1 ∧ tt1 σ3 H5 fun b H6 =>
        if b = true then te σ3 H6 fun y H7 => ∃ acc, H7 D = some (.lst acc) ∧ acc.length < sizeLine ∧ Pv (j + 1) (upd H7 D (.lst (acc ++ [y]))) else Pv (j + 1) H6)
    (hd : ∀ H, Pv n H → Nx H) : IW J1 g1 tt1 te vs1 D σ2 Nx H4 := by
  refine ⟨fun i m H => m = n - i ∧ i ≤ n ∧ Pv i H, ⟨n, by simp, Nat.zero_le _, h0⟩, ?_⟩
  rintro i m H ⟨rfl, hi, p⟩
  have q := hG i H p
  by_cases hlt : i < n
  · exact .inr ⟨wk.goes i H hlt q, Pv (i + 1), fun H' p' => ⟨n - (i + 1), by omega, rfl, hlt, p'⟩, fun x H' y => hs i x H H' hlt p (wk.yields i H x H' hlt q y)⟩
  · have e : i = n := by omega
    subst e
    exact .inl ⟨wk.stops H q, hd H p⟩
theorem r_lc2E (h : tr σ H fun vs' H1 => ∃ a xs, vs' = [.ref a] ∧ SqL K H1 a xs ∧ LW2 (Ite K a) g tt wi1 g1 tt1 te vs vs1 σ Q H1) : tLc2 (iEnum K tr) g tt wi1 g1 tt1 te vs vs1 σ H Q := h
theorem r_iw {D : PySem.Addr} {σ2 : L2.St} {Nx : Hp → Prop} (h : tl σ2 H fun x H1 => ∃ a, x = .ref a ∧ (∃ xs, SqL K H1 a xs) ∧ IW (Itl K a) g1 tt1 te vs1 D σ2 Nx H1) : iList K tl σ2 H fun J1 H4 => IW J1 g1 tt1 te vs1 D σ2 Nx H4 := h
variable {r r' : R2} {ta tb tc : TE}
theorem r_chain (h : ta σ H fun x H1 => tb σ H1 fun y H2 => r x y H2 fun z H3 => ∃ k, z = .bl k ∧ (if k = true then tc σ H3 fun w' H4 => r' y w' H4 Q else Q (.bl false) H3)) : tChain r r' ta tb tc σ H Q := h
end
end MM
end
section
/-! a machine with stops and one without: the same but for what stands under the stops -/
namespace MM
open PySem PySem.Spec PyProof.Rows L2
def ask (pl : List (Int × Int)) (v : Vw) : Bool := decide (v.kind ≠ "insn") || decide ((v.pid, v.at') ∈ pl)
/-- what is kept stands in the other memory, 255 in its place -/
structure MmRel (m p : Mm) : Prop where
  kp : p.kept = []
  ml : m.cells.length = 256
  pl : p.cells.length = 256
  nd : (keys m).Nodup
  ks : ∀ q ∈ m.kept, 0 ≤ q.1 ∧ q.1 < 256
  at' : ∀ j : Nat, j < 256 → match m.kept.lookup (j : Int) with
    | some b => p.cells.getD j 0 = b ∧ m.cells.getD j 0 = 255
    | none => m.cells.getD j 0 = p.cells.getD j 0
theorem lookup_mem {l : List (Int × Int)} {a : Int} : (l.lookup a).isSome = true ↔ a ∈ l.map (·.1) := by
  induction l with
  | nil => simp
  | cons p r ih =>
    rw [List.lookup_cons, List.map_cons, List.mem_cons]
    by_cases e : a = p.1
    · rw [e, beq_self_eq_true]
      exact ⟨fun _ => .inl rfl, fun _ => rfl⟩
    · rw [beq_eq_false_iff_ne.mpr e, ih]
      exact ⟨fun h => .inr h, fun h => h.resolve_left e⟩
theorem MmRel.load {m p : Mm} (h : MmRel m p) (a : Int) : m.load a = p.load a := by
  have hj : ((a % 256).toNat : Int) = a % 256 := Int.toNat_of_nonneg (Int.emod_nonneg _ (by decide))
  have z := h.at' (a % 256).toNat (by omega)
  rw [hj] at z
  unfold Mm.load
  rw [h.kp]
  cases e : m.kept.lookup (a % 256) with
  | none => rw [e] at z; exact z
  | some b => rw [e] at z; exact z.1.symm
theorem fold_get : ∀ (ks : List (Int × Int)) (cs : List Int) (j : Nat), (ks.map (·.1)).Nodup → (∀ q ∈ ks, 0 ≤ q.1 ∧ q.1 < (cs.length : Int)) → (ks.foldl (fun cs p => cs.set p.1.toNat p.2) cs).length = cs.length ∧
    (ks.foldl (fun cs p => cs.set p.1.toNat p.2) cs).getD j 0 = (match ks.lookup (j : Int) with | some b => b | none => cs.getD j 0)
  | [], cs, j, _, _ => ⟨rfl, rfl⟩
  | q :: r, cs, j, hn, hk => by
    rw [List.map_cons, List.nodup_cons] at hn
    have hq := hk q List.mem_cons_self
    have hl : (cs.set q.1.toNat q.2).length = cs.length := List.length_set
    obtain ⟨i1, i2⟩ := fold_get r (cs.set q.1.toNat q.2) j hn.2 (fun x hx => by rw [hl]; exact hk x (List.mem_cons_of_mem _ hx))
    refine ⟨by rw [List.foldl_cons, i1, hl], ?_⟩
    rw [List.foldl_cons, i2, List.lookup_cons]
    by_cases e : (j : Int) = q.1
    · have hnone : r.lookup (j : Int) = none := by
        cases z : r.lookup (j : Int) with
        | none => rfl
        | some b =>
          have := lookup_mem.mp (show (r.lookup (j : Int)).isSome = true by rw [z]; rfl)
          rw [e] at this
          exact absurd this hn.1
      rw [hnone, e, beq_self_eq_true]
      have hjn : q.1.toNat = j := by omega
      show (cs.set q.1.toNat q.2).getD j 0 = q.2
      rw [hjn, List.getD_eq_getElem?_getD, List.getElem?_set_self (by omega)]
      rfl
    · rw [beq_eq_false_iff_ne.mpr e]
      cases z : r.lookup (j : Int) with
      | some b => rfl
      | none =>
        show (cs.set q.1.toNat q.2).getD j 0 = cs.getD j 0
        rw [List.getD_eq_getElem?_getD, List.getElem?_set_ne (by omega), ← List.getD_eq_getElem?_getD]
theorem ext_getD {a b : List Int} {n : Nat} (ha : a.length = n) (hb : b.length = n) (h : ∀ j, j < n → a.getD j 0 = b.getD j 0) : a = b := by
  refine List.ext_getElem (ha.trans hb.symm) fun j h1 h2 => ?_
  have := h j (by omega)
  rw [List.getD_eq_getElem?_getD, List.getD_eq_getElem?_getD, List.getElem?_eq_getElem h1, List.getElem?_eq_getElem h2] at this
  exact this
theorem MmRel.img {m p : Mm} (h : MmRel m p) : m.img = p.cells := by
  have z := fun j => fold_get m.kept m.cells j h.nd (fun q hq => by rw [h.ml]; exact h.ks q hq)
  refine ext_getD (n := 256) ((z 0).1.trans h.ml) h.pl fun j hj => ?_
  show (m.kept.foldl (fun cs p => cs.set p.1.toNat p.2) m.cells).getD j 0 = _
  rw [(z j).2]
  have q := h.at' j hj
  cases e : m.kept.lookup (j : Int) with
  | none => rw [e] at q; exact q
  | some b => rw [e] at q; exact q.1.symm
theorem MmRel.pimg {m p : Mm} (h : MmRel m p) : p.img = p.cells := by unfold Mm.img; rw [h.kp]; rfl
theorem store_keys1 {m : Mm} {a b : Int} : keys (m.store a b) = keys m := by
  unfold keys Mm.store
  split
  · show (m.kept.map fun p => if p.1 = a % 256 then (p.1, b) else p).map (·.1) = _
    rw [List.map_map]
    refine List.map_congr_left fun p _ => ?_
    show (if p.1 = a % 256 then (p.1, b) else p).1 = p.1
    split <;> rfl
  · rfl
theorem lookup_upd {ks : List (Int × Int)} {a b j : Int} : (ks.map fun p => if p.1 = a then (p.1, b) else p).lookup j = if j = a then (if (ks.lookup a).isSome then some b else none) else ks.lookup j := by
  induction ks with
  | nil => simp
  | cons q r ih =>
    rw [List.map_cons, List.lookup_cons]
    have e1 : (if q.1 = a then (q.1, b) else q).1 = q.1 := by split <;> rfl
    rw [e1, List.lookup_cons, List.lookup_cons]
    by_cases h : j = q.1
    · rw [h, beq_self_eq_true]
      by_cases z : q.1 = a
      · rw [if_pos z, if_pos z, z, beq_self_eq_true]; rfl
      · rw [if_neg z, if_neg z]
    · rw [beq_eq_false_iff_ne.mpr h]
      rw [ih]
      by_cases z : j = a
      · rw [if_pos z, if_pos z, beq_eq_false_iff_ne.mpr (fun y => h (z.trans y))]
      · rw [if_neg z, if_neg z]
theorem getD_set {l : List Int} {i j : Nat} {v : Int} (hi : i < l.length) : (l.set i v).getD j 0 = if i = j then v else l.getD j 0 := by
  rw [List.getD_eq_getElem?_getD, List.getD_eq_getElem?_getD]
  by_cases h : i = j
  · rw [if_pos h, ← h, List.getElem?_set_self hi]; rfl
  · rw [if_neg h, List.getElem?_set_ne h]
theorem MmRel.store {m p : Mm} (h : MmRel m p) (a b : Int) : MmRel (m.store a b) (p.store a b) := by
  have hj0 := Int.emod_nonneg a (show (256 : Int) ≠ 0 by decide)
  have hj1 := Int.emod_lt_of_pos a (show (0 : Int) < 256 by decide)
  have hj : ((a % 256).toNat : Int) = a % 256 := Int.toNat_of_nonneg hj0
  have ep : p.store a b = { p with cells := p.cells.set (a % 256).toNat b } := by
    unfold Mm.store
    rw [if_neg (by rw [h.kp]; exact Bool.false_ne_true)]
  rw [ep]
  have hn : (keys (m.store a b)).Nodup := by rw [store_keys1]; exact h.nd
  unfold Mm.store at hn ⊢
  by_cases e : (m.kept.lookup (a % 256)).isSome = true
  · rw [if_pos e] at hn ⊢
    refine ⟨h.kp, h.ml, by rw [List.length_set]; exact h.pl, hn, fun q hq => ?_, fun j hj' => ?_⟩
    · obtain ⟨x, hx, ex⟩ := List.mem_map.mp hq
      have := h.ks x hx
      rw [← ex]
      split <;> exact this
    · have z := h.at' j hj'
      show match (m.kept.map fun p => if p.1 = a % 256 then (p.1, b) else p).lookup (j : Int) with
        | some b' => (p.cells.set (a % 256).toNat b).getD j 0 = b' ∧ m.cells.getD j 0 = 255
        | none => m.cells.getD j 0 = (p.cells.set (a % 256).toNat b).getD j 0
      rw [lookup_upd, getD_set (by rw [h.pl]; omega)]
      by_cases c : (j : Int) = a % 256
      · rw [if_pos c, if_pos e, if_pos (by omega)]
        refine ⟨rfl, ?_⟩
        rw [c] at z
        cases y : m.kept.lookup (a % 256) with
        | none => rw [y] at e; exact absurd e Bool.false_ne_true
        | some b0 => rw [y] at z; exact z.2
      · rw [if_neg c, if_neg (by omega)]
        exact z
  · rw [if_neg e] at hn ⊢
    refine ⟨h.kp, by rw [List.length_set]; exact h.ml, by rw [List.length_set]; exact h.pl, h.nd, h.ks, fun j hj' => ?_⟩
    have z := h.at' j hj'
    show match m.kept.lookup (j : Int) with
      | some b' => (p.cells.set (a % 256).toNat b).getD j 0 = b' ∧ (m.cells.set (a % 256).toNat b).getD j 0 = 255
      | none => (m.cells.set (a % 256).toNat b).getD j 0 = (p.cells.set (a % 256).toNat b).getD j 0
    rw [getD_set (by rw [h.pl]; omega), getD_set (by rw [h.ml]; omega)]
    by_cases c : (j : Int) = a % 256
    · have hnone : m.kept.lookup (j : Int) = none := by
        rw [c]
        cases y : m.kept.lookup (a % 256) with
        | none => rfl
        | some b0 => rw [y] at e; exact absurd rfl e
      rw [hnone, if_pos (by omega), if_pos (by omega)]
    · rw [if_neg (by omega), if_neg (by omega)]
      exact z
theorem lookup_snoc {ks : List (Int × Int)} {a b j : Int} (h : ks.lookup a = none) : (ks ++ [(a, b)]).lookup j = if j = a then some b else ks.lookup j := by
  induction ks with
  | nil =>
    show List.lookup j [(a, b)] = _
    rw [List.lookup_cons]
    by_cases e : j = a
    · rw [e, beq_self_eq_true, if_pos rfl]
    · rw [beq_eq_false_iff_ne.mpr e, if_neg e]
  | cons q r ih =>
    rw [List.lookup_cons] at h
    have hne : (a == q.1) = false := by
      cases z : (a == q.1) with
      | false => rfl
      | true => rw [z] at h; cases h
    rw [hne] at h
    rw [List.cons_append, List.lookup_cons, List.lookup_cons]
    by_cases e : j = q.1
    · rw [e, beq_self_eq_true]
      rw [if_neg (fun z => by rw [z, beq_self_eq_true] at hne; cases hne)]
    · rw [beq_eq_false_iff_ne.mpr e, ih h]
theorem lookup_filter {ks : List (Int × Int)} {a j : Int} : (ks.filter fun p => decide (p.1 ≠ a)).lookup j = if j = a then none else ks.lookup j := by
  induction ks with
  | nil => simp
  | cons q r ih =>
    rw [List.filter_cons]
    by_cases e : q.1 = a
    · rw [if_neg (by rw [decide_eq_true_eq]; exact fun z => z e), ih]
      by_cases c : j = a
      · rw [if_pos c, if_pos c]
      · rw [if_neg c, if_neg c, List.lookup_cons, beq_eq_false_iff_ne.mpr (fun z => c (z.trans e))]
    · rw [if_pos (by rw [decide_eq_true_eq]; exact e), List.lookup_cons, ih, List.lookup_cons]
      by_cases c : j = q.1
      · rw [c, if_neg e]
        simp [e]
      · rw [beq_eq_false_iff_ne.mpr c]
theorem MmRel.setStop {m p : Mm} (h : MmRel m p) {a : Int} (h0 : 0 ≤ a) (h1 : a < 256) : MmRel (m.setStop a) p ∧ ∀ x, x ∈ keys (m.setStop a) ↔ x ∈ keys m ∨ x = a := by
  unfold Mm.setStop
  by_cases e : (m.kept.lookup a).isSome = true
  · rw [if_pos e]
    refine ⟨h, fun x => ⟨.inl, fun z => z.elim id fun z => ?_⟩⟩
    rw [z]
    exact lookup_mem.mp e
  · rw [if_neg e]
    have en : m.kept.lookup a = none := by
      cases y : m.kept.lookup a with
      | none => rfl
      | some b0 => rw [y] at e; exact absurd rfl e
    have hk : ∀ x, x ∈ (m.kept ++ [(a, m.cells.getD a.toNat 0)]).map (·.1) ↔ x ∈ keys m ∨ x = a := fun x => by
      rw [List.map_append, List.mem_append]
      exact ⟨fun z => z.elim .inl fun z => .inr (List.mem_singleton.mp z), fun z => z.elim .inl fun z => .inr (List.mem_singleton.mpr z)⟩
    refine ⟨⟨h.kp, by rw [List.length_set]; exact h.ml, h.pl, ?_, fun q hq => ?_, fun j hj => ?_⟩, hk⟩
    · show ((m.kept ++ [(a, m.cells.getD a.toNat 0)]).map (·.1)).Nodup
      rw [List.map_append, List.nodup_append]
      refine ⟨h.nd, List.nodup_cons.mpr ⟨(fun z => nomatch z), List.nodup_nil⟩, fun x hx y hy => ?_⟩
      have hy : y = a := List.mem_singleton.mp hy
      rintro rfl
      rw [hy] at hx
      exact e (lookup_mem.mpr hx)
    · rcases List.mem_append.mp hq with z | z
      · exact h.ks q z
      · rw [List.mem_singleton.mp z]
        exact ⟨h0, h1⟩
    · have z := h.at' j hj
      show match (m.kept ++ [(a, m.cells.getD a.toNat 0)]).lookup (j : Int) with
        | some b => p.cells.getD j 0 = b ∧ (m.cells.set a.toNat 255).getD j 0 = 255
        | none => (m.cells.set a.toNat 255).getD j 0 = p.cells.getD j 0
      rw [lookup_snoc en, getD_set (by rw [h.ml]; omega)]
      by_cases c : (j : Int) = a
      · rw [if_pos c, if_pos (by omega)]
        rw [c, en] at z
        have ej : a.toNat = j := by omega
        rw [ej]
        exact ⟨z.symm, rfl⟩
      · rw [if_neg c, if_neg (by omega)]
        exact z
theorem MmRel.clearStop {m p : Mm} (h : MmRel m p) {a : Int} (h0 : 0 ≤ a) (h1 : a < 256) : MmRel (m.clearStop a) p ∧ ∀ x, x ∈ keys (m.clearStop a) ↔ x ∈ keys m ∧ x ≠ a := by
  unfold Mm.clearStop
  cases y : m.kept.lookup a with
  | none =>
    refine ⟨h, fun x => ⟨fun z => ⟨z, fun e => ?_⟩, fun z => z.1⟩⟩
    rw [e] at z
    have := lookup_mem.mpr z
    rw [y] at this
    cases this
  | some b =>
    have hk : ∀ x, x ∈ (m.kept.filter fun p => decide (p.1 ≠ a)).map (·.1) ↔ x ∈ keys m ∧ x ≠ a := fun x => by
      constructor
      · intro z
        obtain ⟨q, hq, e⟩ := List.mem_map.mp z
        obtain ⟨h1, h2⟩ := List.mem_filter.mp hq
        exact ⟨List.mem_map.mpr ⟨q, h1, e⟩, by rw [← e]; exact of_decide_eq_true h2⟩
      · rintro ⟨z, n⟩
        obtain ⟨q, hq, e⟩ := List.mem_map.mp z
        exact List.mem_map.mpr ⟨q, List.mem_filter.mpr ⟨hq, decide_eq_true (by rw [e]; exact n)⟩, e⟩
    refine ⟨⟨h.kp, by rw [List.length_set]; exact h.ml, h.pl, ?_, fun q hq => h.ks q (List.mem_filter.mp hq).1, fun j hj => ?_⟩, hk⟩
    · exact List.Nodup.sublist (List.Sublist.map _ List.filter_sublist) h.nd
    · have z := h.at' j hj
      show match (m.kept.filter fun p => decide (p.1 ≠ a)).lookup (j : Int) with
        | some b' => p.cells.getD j 0 = b' ∧ (m.cells.set a.toNat b).getD j 0 = 255
        | none => (m.cells.set a.toNat b).getD j 0 = p.cells.getD j 0
      rw [lookup_filter, getD_set (by rw [h.ml]; omega)]
      by_cases c : (j : Int) = a
      · rw [if_pos c, if_pos (by omega)]
        rw [c, y] at z
        exact z.1.symm
      · rw [if_neg c, if_neg (by omega)]
        exact z
theorem MmRel.raw {m p : Mm} (h : MmRel m p) {j : Nat} (hj : j < 256) : m.cells.getD j 0 = if (j : Int) ∈ keys m then 255 else p.cells.getD j 0 := by
  have z := h.at' j hj
  cases y : m.kept.lookup (j : Int) with
  | none =>
    rw [y] at z
    rw [if_neg (show ¬ (j : Int) ∈ keys m from fun q => by have := lookup_mem.mpr q; rw [y] at this; cases this)]
    exact z
  | some b =>
    rw [y] at z
    rw [if_pos (show (j : Int) ∈ keys m from lookup_mem.mp (by rw [y]; rfl))]
    exact z.2
end MM
end
section
/-! the machine with stops does what the other does -/
namespace MM
open PySem PySem.Spec PyProof.Rows L2
def MemRel (pl : List (Int × Int)) (M N : List Mm) : Prop := M.length = N.length ∧ (∀ i, i < M.length → MmRel (M.getD i dMm) (N.getD i dMm)) ∧ ∀ (i : Nat) a, a ∈ keys (M.getD i dMm) ↔ ((i : Int), a) ∈ pl
def Sim (pl : List (Int × Int)) (S P : MS) : Prop := ∃ M V, S = { P with mem := M, views := V } ∧ MemRel pl M P.mem ∧ V = P.views.filter (ask pl)
section
variable {pl : List (Int × Int)} {M N : List Mm} {S P : MS}
theorem out_d {l : List Mm} {i : Nat} (h : ¬ i < l.length) : l.getD i dMm = dMm := by rw [List.getD_eq_getElem?_getD, List.getElem?_eq_none (by omega)]; rfl
theorem MemRel.img (h : MemRel pl M N) (i : Nat) : (M.getD i dMm).img = (N.getD i dMm).img := by
  by_cases hi : i < M.length
  · have z := h.2.1 i hi
    rw [z.img, z.pimg]
  · rw [out_d hi, out_d (by rw [← h.1]; exact hi)]
theorem MemRel.load (h : MemRel pl M N) (i : Nat) (a : Int) : (M.getD i dMm).load a = (N.getD i dMm).load a := by
  by_cases hi : i < M.length
  · exact (h.2.1 i hi).load a
  · rw [out_d hi, out_d (by rw [← h.1]; exact hi)]
theorem getD_setM {l : List Mm} {i j : Nat} {v : Mm} : (l.set i v).getD j dMm = if i = j ∧ i < l.length then v else l.getD j dMm := by
  rw [List.getD_eq_getElem?_getD, List.getD_eq_getElem?_getD]
  by_cases h : i = j
  · by_cases hi : i < l.length
    · rw [if_pos ⟨h, hi⟩, ← h, List.getElem?_set_self hi]; rfl
    · rw [if_neg (fun z => hi z.2), List.set_eq_of_length_le (by omega)]
  · rw [if_neg (fun z => h z.1), List.getElem?_set_ne h]
theorem MemRel.put (h : MemRel pl M N) {pl' : List (Int × Int)} {p : Nat} {m n : Mm} (hr : p < M.length → MmRel m n) (hk : ∀ (i : Nat) a, a ∈ keys ((M.set p m).getD i dMm) ↔ ((i : Int), a) ∈ pl') : MemRel pl' (M.set p m) (N.set p n) := by
  refine ⟨by rw [List.length_set, List.length_set]; exact h.1, fun i hi => ?_, hk⟩
  rw [List.length_set] at hi
  rw [getD_setM, getD_setM]
  by_cases e : p = i
  · rw [if_pos ⟨e, by omega⟩, if_pos ⟨e, by have := h.1; omega⟩]
    exact hr (by omega)
  · rw [if_neg (fun z => e z.1), if_neg (fun z => e z.1)]
    exact h.2.1 i hi
theorem MemRel.store (h : MemRel pl M N) (p : Nat) (a b : Int) : MemRel pl (M.set p ((M.getD p dMm).store a b)) (N.set p ((N.getD p dMm).store a b)) := by
  refine h.put (fun hp => (h.2.1 p hp).store a b) fun i x => ?_
  rw [getD_setM]
  by_cases e : p = i ∧ p < M.length
  · rw [if_pos e, store_keys1, e.1]
    exact h.2.2 i x
  · rw [if_neg e]
    exact h.2.2 i x
theorem Sim.up {t : Nat} {f : Th → Th} (h : Sim pl S P) : Sim pl (S.up t f) (P.up t f) := by
  obtain ⟨M, V, rfl, m, v⟩ := h
  exact ⟨M, V, rfl, m, v⟩
theorem Sim.tell {kd : Str} {t : Nat} {a : Int} {r : List Int} (h : Sim pl S P) (hk : kd ≠ "insn") : Sim pl (tell S kd t a r) (tell P kd t a r) := by
  obtain ⟨M, V, rfl, m, v⟩ := h
  refine ⟨M, V ++ [⟨kd, P.cpu, P.now, (P.th t).pid, t, a, r, (P.th t).regs, (P.mm (P.th t).pid).img⟩], ?_, m, ?_⟩
  · show MM.tell { P with mem := M, views := V } kd t a r = _
    unfold MM.tell
    show ({ P with mem := M, views := V ++ [⟨kd, P.cpu, P.now, (P.th t).pid, t, a, r, (P.th t).regs, (M.getD (P.th t).pid dMm).img⟩] } : MS) = _
    rw [m.img]
    rfl
  · show _ = (P.views ++ [_]).filter (ask pl)
    rw [List.filter_append, ← v]
    have : ask pl ⟨kd, P.cpu, P.now, (P.th t).pid, t, a, r, (P.th t).regs, (P.mm (P.th t).pid).img⟩ = true := by
      unfold ask
      rw [decide_eq_true (show kd ≠ "insn" from hk)]
      rfl
    rw [List.filter_cons, if_pos this]
    rfl
theorem Sim.tellTick (h : Sim pl S P) : Sim pl (tellTick S) (tellTick P) := by
  obtain ⟨M, V, rfl, m, v⟩ := h
  refine ⟨M, V ++ [⟨"tick", P.cpu, P.now, -1, -1, -1, [], [0, 0, 0, 0], []⟩], rfl, m, ?_⟩
  show _ = (P.views ++ [_]).filter (ask pl)
  rw [List.filter_append, ← v]
  have : ask pl ⟨"tick", P.cpu, P.now, -1, -1, -1, [], [0, 0, 0, 0], []⟩ = true := by
    unfold ask
    rw [decide_eq_true (show ("tick" : Str) ≠ "insn" by decide +kernel)]
    rfl
  rw [List.filter_cons, if_pos this]
  rfl
theorem Sim.th (h : Sim pl S P) (t : Nat) : S.th t = P.th t := by obtain ⟨M, V, rfl, _⟩ := h; rfl
theorem Sim.ths (h : Sim pl S P) : S.ths = P.ths := by obtain ⟨M, V, rfl, _⟩ := h; rfl
theorem Sim.reg (h : Sim pl S P) (t j : Nat) : reg S t j = reg P t j := by obtain ⟨M, V, rfl, _⟩ := h; rfl
theorem Sim.cpu (h : Sim pl S P) : S.cpu = P.cpu := by obtain ⟨M, V, rfl, _⟩ := h; rfl
theorem Sim.now (h : Sim pl S P) : S.now = P.now := by obtain ⟨M, V, rfl, _⟩ := h; rfl
theorem Sim.setReg {t j : Nat} {v : Int} (h : Sim pl S P) : Sim pl (setReg S t j v) (setReg P t j v) := h.up
theorem Sim.setCond {t : Nat} {c : Cond} (h : Sim pl S P) : Sim pl (setCond S t c) (setCond P t c) := h.up
theorem Sim.makeReady {t : Nat} (h : Sim pl S P) : Sim pl (makeReady S t) (makeReady P t) := by
  obtain ⟨M, V, rfl, m, v⟩ := h
  exact ⟨M, V, rfl, m, v⟩
theorem Sim.ready {l : MS → List Nat} (h : Sim pl S P) (e : l S = l P) : Sim pl { S with ready := l S } { P with ready := l P } := by
  rw [e]
  obtain ⟨M, V, rfl, m, v⟩ := h
  exact ⟨M, V, rfl, m, v⟩
theorem Sim.endRun {t : Nat} {c : Cond} (h : Sim pl S P) : Sim pl (endRun S t c) (endRun P t c) := by
  obtain ⟨M, V, rfl, m, v⟩ := h
  exact ⟨M, V, rfl, m, v⟩
theorem Sim.returnCall {t : Nat} {r : Int} (h : Sim pl S P) : Sim pl (returnCall S t r) (returnCall P t r) := by
  have h1 := (h.setReg (t := t) (j := 0) (v := r))
  have h2 : Sim pl (MM.tell (MM.setReg S t 0 r) "return" t ((MM.setReg S t 0 r).th t).callAt [((MM.setReg S t 0 r).th t).call, r]) (MM.tell (MM.setReg P t 0 r) "return" t ((MM.setReg P t 0 r).th t).callAt [((MM.setReg P t 0 r).th t).call, r]) := by
    rw [h1.th t]
    exact h1.tell (by decide +kernel)
  unfold MM.returnCall
  rw [h.th t]
  dsimp only
  split
  · exact h2
  · exact h2.makeReady
theorem Sim.fold {f : MS → Nat → MS} (hf : ∀ S P i, Sim pl S P → Sim pl (f S i) (f P i)) : ∀ (l : List Nat) (S P : MS), Sim pl S P → Sim pl (l.foldl f S) (l.foldl f P)
  | [], _, _, h => h
  | i :: l, _, _, h => Sim.fold hf l _ _ (hf _ _ i h)
theorem Sim.wakeOne {t o : Nat} {c : Int} (h : Sim pl S P) : Sim pl (wakeOne t c S o) (wakeOne t c P o) := by
  unfold MM.wakeOne
  rw [h.th o]
  split
  · exact h.returnCall
  · exact h
theorem Sim.endThread {t : Nat} {a c : Int} (h : Sim pl S P) : Sim pl (endThread S t a c) (endThread P t a c) := by
  unfold MM.endThread
  rw [h.ths]
  exact Sim.fold (f := MM.wakeOne t c) (fun _ _ _ z => z.wakeOne) _ _ _ ((h.tell (kd := "end") (by decide +kernel)).endRun)
theorem Sim.leave {t : Nat} {c : Cond} {r : Int} (h : Sim pl S P) : Sim pl (leave S t c r) (leave P t c r) := by
  have h1 := h.endRun (t := t) (c := c)
  unfold MM.leave
  dsimp only
  rw [h1.th t]
  exact h1.tell (by decide +kernel)
theorem Sim.goLast {t : Nat} {r : Int} (h : Sim pl S P) : Sim pl (goLast S t r) (goLast P t r) := by
  have h1 := h.leave (t := t) (c := .ready) (r := r)
  unfold MM.goLast
  dsimp only
  generalize MM.leave S t .ready r = S1 at h1 ⊢
  generalize MM.leave P t .ready r = P1 at h1 ⊢
  obtain ⟨M, V, rfl, m, v⟩ := h1
  exact ⟨M, V, rfl, m, v⟩
theorem Sim.addThread {p : Nat} {pc f : Int} (h : Sim pl S P) : Sim pl (addThread S p pc f) (addThread P p pc f) := by
  obtain ⟨M, V, rfl, m, v⟩ := h
  exact ⟨M, V, rfl, m, v⟩
theorem Sim.waitFor {t : Nat} {x : Int} (h : Sim pl S P) : Sim pl (waitFor S t x) (waitFor P t x) := by
  unfold MM.waitFor
  rw [h.ths, h.th x.toNat]
  split
  · exact h.returnCall
  · split
    · exact h.returnCall
    · exact h.leave
theorem Sim.doCall {t : Nat} {n a : Int} (h : Sim pl S P) : Sim pl (doCall S t n a) (doCall P t n a) := by
  unfold MM.doCall
  have h1 := h.up (t := t) (f := fun t => { t with call := n, callAt := a })
  generalize (S.up t fun t => { t with call := n, callAt := a }) = S1 at h1 ⊢
  generalize (P.up t fun t => { t with call := n, callAt := a }) = P1 at h1 ⊢
  have h2 : Sim pl (MM.tell S1 "entry" t a [n, MM.reg S1 t 0, MM.reg S1 t 1]) (MM.tell P1 "entry" t a [n, MM.reg P1 t 0, MM.reg P1 t 1]) := by
    rw [h1.reg, h1.reg]
    exact h1.tell (by decide +kernel)
  dsimp only
  generalize MM.tell S1 "entry" t a [n, MM.reg S1 t 0, MM.reg S1 t 1] = S2 at h2 ⊢
  generalize MM.tell P1 "entry" t a [n, MM.reg P1 t 0, MM.reg P1 t 1] = P2 at h2 ⊢
  rw [h2.reg, h2.reg, h2.cpu, h2.now, h2.ths, h2.th t]
  split
  · exact h2.endThread
  split
  · exact h2.returnCall.goLast
  split
  · exact h2.leave
  split
  · refine Sim.leave ?_
    obtain ⟨M, V, rfl, m, v⟩ := h2
    exact ⟨M, V, rfl, m, v⟩
  split
  · split
    · exact h2.returnCall
    · exact h2.addThread.returnCall
  split
  · exact h2.waitFor
  · exact h2.returnCall
theorem Sim.move {t : Nat} {c x y : Int} (h : Sim pl S P) : Sim pl (move S t c x y) (move P t c x y) := by
  unfold MM.move
  dsimp only
  rw [h.reg, h.reg, h.th t]
  split
  · exact h.setReg
  split
  · exact h.setReg
  split
  · exact h.setReg
  split
  · exact h.setReg
  split
  · have e : ∀ i a, (S.mm i).load a = (P.mm i).load a := fun i a => by
      obtain ⟨M, V, rfl, m, v⟩ := h
      exact m.load i a
    rw [e]
    exact h.setReg
  split
  · obtain ⟨M, V, rfl, m, v⟩ := h
    exact ⟨_, V, rfl, m.store _ _ _, v⟩
  · exact h
theorem Sim.doInsn {t : Nat} (h : Sim pl S P) : Sim pl (doInsn true S t) (doInsn false P t) := by
  unfold MM.doInsn
  have el : ∀ i a, (S.mm i).load a = (P.mm i).load a := fun i a => by
    obtain ⟨M, V, rfl, m, v⟩ := h
    exact m.load i a
  have h1 : Sim pl (if (S.mm (S.th t).pid).tells true (S.th t).pc then MM.tell S "insn" t (S.th t).pc [(S.mm (S.th t).pid).load (S.th t).pc] else S) (if (P.mm (P.th t).pid).tells false (P.th t).pc then MM.tell P "insn" t (P.th t).pc [(P.mm (P.th t).pid).load (P.th t).pc] else P) := by
    rw [el]
    obtain ⟨M, V, rfl, m, v⟩ := h
    show Sim pl (if (M.getD (P.th t).pid dMm).tells true (P.th t).pc then MM.tell { P with mem := M, views := V } "insn" t (P.th t).pc [(P.mm (P.th t).pid).load (P.th t).pc] else { P with mem := M, views := V }) (MM.tell P "insn" t (P.th t).pc [(P.mm (P.th t).pid).load (P.th t).pc])
    have hk : (M.getD (P.th t).pid dMm).tells true (P.th t).pc = true ↔ (((P.th t).pid : Int), (P.th t).pc) ∈ pl := by
      rw [← m.2.2]
      exact lookup_mem
    generalize (P.mm (P.th t).pid).load (P.th t).pc = co
    by_cases e : (M.getD (P.th t).pid dMm).tells true (P.th t).pc = true
    · rw [if_pos e]
      refine ⟨M, V ++ [⟨"insn", P.cpu, P.now, (P.th t).pid, t, (P.th t).pc, [co], (P.th t).regs, (P.mm (P.th t).pid).img⟩], ?_, m, ?_⟩
      · unfold MM.tell
        show ({ P with mem := M, views := V ++ [⟨"insn", P.cpu, P.now, (P.th t).pid, t, (P.th t).pc, [co], (P.th t).regs, (M.getD (P.th t).pid dMm).img⟩] } : MS) = _
        rw [m.img]
        rfl
      · show _ = (P.views ++ [_]).filter (ask pl)
        rw [List.filter_append, ← v]
        have : ask pl ⟨"insn", P.cpu, P.now, (P.th t).pid, t, (P.th t).pc, [co], (P.th t).regs, (P.mm (P.th t).pid).img⟩ = true := by
          unfold ask
          rw [decide_eq_true (hk.mp e), Bool.or_true]
        rw [List.filter_cons, if_pos this]
        rfl
    · rw [if_neg e]
      refine ⟨M, V, rfl, m, ?_⟩
      show _ = (P.views ++ [_]).filter (ask pl)
      rw [List.filter_append, ← v]
      have : ask pl ⟨"insn", P.cpu, P.now, (P.th t).pid, t, (P.th t).pc, [co], (P.th t).regs, (P.mm (P.th t).pid).img⟩ = false := by
        unfold ask
        rw [decide_eq_false (fun z => e (hk.mpr z)), Bool.or_false]
        exact decide_eq_false (fun z => z rfl)
      rw [List.filter_cons, if_neg (by rw [this]; exact Bool.false_ne_true), List.filter_nil, List.append_nil]
  dsimp only
  simp only [el, h.th t] at h1 ⊢
  generalize (if (S.mm (P.th t).pid).tells true (P.th t).pc then MM.tell S "insn" t (P.th t).pc [(P.mm (P.th t).pid).load (P.th t).pc] else S) = S1 at h1 ⊢
  generalize (if (P.mm (P.th t).pid).tells false (P.th t).pc then MM.tell P "insn" t (P.th t).pc [(P.mm (P.th t).pid).load (P.th t).pc] else P) = P1 at h1 ⊢
  rw [h1.th t]
  split
  · exact (h1.tell (by decide +kernel)).endThread
  split
  · exact h1.up.endThread
  split
  · exact h1.up.doCall
  split
  · exact h1.up.setReg
  · exact h1.up.move
theorem Sim.wake (h : Sim pl S P) : Sim pl (wake S) (wake P) := by
  unfold MM.wake
  rw [h.ths]
  refine Sim.fold (fun S P i z => ?_) _ _ _ h
  unfold wakeIf
  rw [z.th i, z.cpu, z.now]
  split
  · exact z.returnCall
  · exact z
theorem Sim.runs (h : Sim pl S P) : runs S = runs P := by obtain ⟨M, V, rfl, _⟩ := h; rfl
theorem Sim.beginRun {t : Nat} (h : Sim pl S P) : Sim pl (beginRun S t) (beginRun P t) := by
  unfold MM.beginRun
  have h1 : Sim pl { MM.setCond S t (.running S.cpu) with run := S.run.set S.cpu t } { MM.setCond P t (.running P.cpu) with run := P.run.set P.cpu t } := by
    obtain ⟨M, V, rfl, m, v⟩ := h
    exact ⟨M, V, rfl, m, v⟩
  generalize ({ MM.setCond S t (.running S.cpu) with run := S.run.set S.cpu t } : MS) = S1 at h1 ⊢
  generalize ({ MM.setCond P t (.running P.cpu) with run := P.run.set P.cpu t } : MS) = P1 at h1 ⊢
  dsimp only
  rw [h1.th t]
  exact h1.tell (by decide +kernel)
theorem Sim.doStep (h : Sim pl S P) : Sim pl (doStep true S) (doStep false P) := by
  unfold MM.doStep
  rw [h.runs]
  split
  · exact h.doInsn
  · have e : S.ready = P.ready := by obtain ⟨M, V, rfl, _⟩ := h; rfl
    rw [e]
    split
    · exact h
    · refine Sim.beginRun ?_
      obtain ⟨M, V, rfl, m, v⟩ := h
      exact ⟨M, V, rfl, m, v⟩
theorem Sim.doTimer (h : Sim pl S P) : Sim pl (doTimer S) (doTimer P) := by
  unfold MM.doTimer
  have h1 := h.tellTick
  dsimp only
  rw [h1.runs]
  split
  · exact h1.goLast
  · exact h1
theorem Sim.doRequest (h : Sim pl S P) : Sim pl (doRequest S) (doRequest P) := by
  unfold MM.doRequest
  have e : S.reqs = P.reqs := by obtain ⟨M, V, rfl, _⟩ := h; rfl
  have ed : S.dev = P.dev := by obtain ⟨M, V, rfl, _⟩ := h; rfl
  rw [e]
  split
  · exact h
  · rename_i tid call number r _
    dsimp only
    have h2 : Sim pl (if call = 3 then { S with reqs := r, dev := number } else { S with reqs := r } : MS) (if call = 3 then { P with reqs := r, dev := number } else { P with reqs := r } : MS) := by
      obtain ⟨M, V, rfl, m, v⟩ := h
      split
      · exact ⟨M, V, rfl, m, v⟩
      · exact ⟨M, V, rfl, m, v⟩
    generalize (if call = 3 then { S with reqs := r, dev := number } else { S with reqs := r } : MS) = S1 at h2 ⊢
    generalize (if call = 3 then { P with reqs := r, dev := number } else { P with reqs := r } : MS) = P1 at h2 ⊢
    rw [h2.th tid, ed]
    exact (h2.tell (by decide +kernel)).returnCall
theorem Sim.doPick {cpu : Nat} {what : Str} (h : Sim pl S P) : Sim pl (doPick true S cpu what) (doPick false P cpu what) := by
  unfold MM.doPick
  dsimp only
  have h0 : Sim pl (begin' S cpu) (begin' P cpu) := by
    obtain ⟨M, V, rfl, m, v⟩ := h
    exact ⟨M, V, rfl, m, v⟩
  have h1 := h0.wake
  split
  · exact h1.doStep
  split
  · exact h1.doTimer
  split
  · exact h1.doRequest
  · exact h1
/-- behind a pick the views are taken away -/
theorem Sim.clear (h : Sim pl S P) : Sim pl { S with views := [] } { P with views := [] } := by
  obtain ⟨M, V, rfl, m, v⟩ := h
  exact ⟨M, [], rfl, m, rfl⟩
theorem Sim.views (h : Sim pl S P) : S.views = P.views.filter (ask pl) := by obtain ⟨M, V, rfl, m, v⟩ := h; exact v
theorem Sim.stD (h : Sim pl S P) : stD S = stD P := by
  obtain ⟨M, V, rfl, m, v⟩ := h
  have e : M.map imgD = P.mem.map imgD := by
    refine List.ext_getElem? fun i => ?_
    rw [List.getElem?_map, List.getElem?_map]
    by_cases hi : i < M.length
    · have hi2 : i < P.mem.length := by rw [← m.1]; exact hi
      have z := m.img i
      rw [List.getD_eq_getElem?_getD, List.getD_eq_getElem?_getD, List.getElem?_eq_getElem hi, List.getElem?_eq_getElem hi2] at z
      rw [List.getElem?_eq_getElem hi, List.getElem?_eq_getElem hi2]
      show some (imgD M[i]) = some (imgD P.mem[i])
      unfold imgD
      rw [show M[i].img = P.mem[i].img from z]
    · rw [List.getElem?_eq_none (by omega), List.getElem?_eq_none (by rw [← m.1]; omega)]
  unfold MM.stD
  dsimp only
  rw [e]
end
end MM
end
section
/-! the laws' draws -/
namespace MM
open PySem PySem.Spec PyProof.Rows L2
section
variable {td ty tv : TE} {rd : V → V → Hp → VK → Prop} {nx bk ct : L2.St → Hp → Prop} {rt : V → Hp → Prop} {σ : L2.St} {H : Hp} {Q : VK}
theorem r_daug (h : td σ H fun x H1 => ty σ H1 fun y H2 => ∃ a v, x = .ref a ∧ DGet H2 a y (some v) ∧ tv σ H2 fun y2 H3 => rd v y2 H3 fun z H4 => ∃ H5, DPut H4 a y z H5 ∧ nx σ H5) : sDAug td ty tv rd ⟨nx, rt, bk, ct⟩ σ H := h
theorem r_add {i j : Int} (h : Q (.int (i + j)) H) : rAdd (.int i) (.int j) H Q := ⟨i, j, rfl, rfl, h⟩
end
/-- the drawing's dict and its row -/
def wdD (dl : PySem.Addr) (at' : Int) : List (Key × V) := [(.inr "draws", .ref dl), (.inr "at", .int at')]
def Wd (H : Hp) (pw dl : PySem.Addr) : Prop := ∃ (at' : Int) (ds : List Int), H pw = some (.dK (wdD dl at')) ∧ H dl = some (.lst (ds.map V.int)) ∧ 0 ≤ at' ∧ ds.length ≤ 1000
theorem Wd.same {H H' : Hp} {pw dl : PySem.Addr} (s : Same H H') (d : Wd H pw dl) : Wd H' pw dl := by
  obtain ⟨a, ds, e1, e2, h⟩ := d
  exact ⟨a, ds, s _ _ e1, s _ _ e2, h⟩
theorem Wd.mv {H H' : Hp} {pw dl x : PySem.Addr} (m : R.Mv x H H') (d : Wd H pw dl) (h1 : pw ≠ x) (h2 : dl ≠ x) : Wd H' pw dl := by
  obtain ⟨a, ds, e1, e2, h⟩ := d
  exact ⟨a, ds, m _ _ e1 h1, m _ _ e2 h2, h⟩
/-- pw's drawing goes on, all else stands -/
def Gw (pw dl : PySem.Addr) (H H' : Hp) : Prop := R.Mv pw H H' ∧ Wd H' pw dl
theorem Gw.trans {pw dl : PySem.Addr} {H H1 H2 : Hp} (a : Gw pw dl H H1) (b : Gw pw dl H1 H2) : Gw pw dl H H2 := ⟨a.1.trans b.1, b.2⟩
theorem Gw.sm {pw dl : PySem.Addr} {H H1 H2 : Hp} (a : Gw pw dl H H1) (s : Same H1 H2) : Gw pw dl H H2 := ⟨a.1.trans (R.Mv.of s), a.2.same s⟩
theorem Gw.refl {pw dl : PySem.Addr} {H : Hp} (d : Wd H pw dl) : Gw pw dl H H := ⟨R.Mv.refl, d⟩
theorem Wd.ne {H : Hp} {pw dl b : PySem.Addr} (d : Wd H pw dl) (h : H b = none) : b ≠ pw ∧ b ≠ dl := by
  obtain ⟨a, ds, e1, e2, _⟩ := d
  exact ⟨(ne_of_none e1 h).symm, (ne_of_none e2 h).symm⟩
def spDraws (K : PySem.W.Frag) : Sp := fun vs H Q _ => ∃ (a : PySem.Addr) (ns : List Int) (many : Int), vs = [.ref a, .int many] ∧ SqL K H a (ns.map V.int) ∧ ns.length ≤ 63 ∧ 0 ≤ many ∧ many ≤ 1000 ∧
  ∀ p (ds : List Int) H', Same H H' → H p = none → H' p = some (.lst (ds.map V.int)) → ds.length ≤ 1000 → Q (.ref p) H'
def spNext : Sp := fun vs H Q _ => ∃ (pw dl : PySem.Addr) (many : Int), vs = [.ref pw, .int many] ∧ 0 < many ∧ Wd H pw dl ∧ ∀ H' v, 0 ≤ v → v < many → Gw pw dl H H' → Q (.int v) H'
def spProg : Sp := fun vs H Q _ => ∃ (pw dl : PySem.Addr), vs = [.ref pw] ∧ Wd H pw dl ∧ ∀ H' p (ns : List Int), Gw pw dl H H' → H' p = some (.tup (ns.map V.int)) → ns.length ≤ 256 → (∀ b ∈ ns, 0 ≤ b) → Q (.ref p) H'
def Pks : List Str := ["step", "step", "step", "step", "step", "step", "timer", "device"]
def spPick : Sp := fun vs H Q _ => ∃ (pw dl : PySem.Addr) (cpus : Int), vs = [.ref pw, .int cpus] ∧ 0 < cpus ∧ Wd H pw dl ∧ ∀ H' p (c : Int) what, Gw pw dl H H' → H' p = some (.tup [.int c, .str what]) → 0 ≤ c → c < cpus → Q (.ref p) H'
theorem cut_pre {ds : List Int} {many : Int} (h0 : 0 ≤ many) (h1 : many ≤ 1000) : ∃ ds' : List Int, cutV (ds.map V.int) none (some many) = ds'.map V.int ∧ ds'.length ≤ 1000 := by
  obtain ⟨m, rfl⟩ := Int.eq_ofNat_of_zero_le h0
  refine ⟨ds.take (min m ds.length), ?_, ?_⟩
  · unfold cutV
    rw [HT.sIx_none, List.drop_zero, HT.sIx_nat, List.length_map, Nat.sub_zero, List.map_take]
  · rw [List.length_take]
    omega
end MM
namespace MM
open PySem PySem.Spec PyProof.Rows L2
theorem pickV {α : Type} {f : α → V} {xs : List α} {i : Int} (h0 : 0 ≤ i) (h1 : i < xs.length) : ∃ v ∈ xs, atI (xs.map f) i = some (f v) := by
  have h : i.toNat < xs.length := by omega
  exact ⟨xs[i.toNat], List.getElem_mem h, R.at_nat h0 (by rw [List.getElem?_map, List.getElem?_eq_getElem h]; rfl)⟩
/-- a row of numbers at a list of its own -/
structure Rw (pw dl : PySem.Addr) (H : Hp) (rl : PySem.Addr) (n : Nat) (H' : Hp) : Prop where
  g : Gw pw dl H H'
  r : ∃ ns : List Int, H' rl = some (.lst (ns.map V.int)) ∧ ns.length ≤ n ∧ ∀ b ∈ ns, 0 ≤ b
theorem Rw.ne {pw dl : PySem.Addr} {H : Hp} {rl : PySem.Addr} {n : Nat} {H' : Hp} (w : Rw pw dl H rl n H') : rl ≠ pw := fun z => by
  obtain ⟨ns, e, _⟩ := w.r
  obtain ⟨a, ds, e1, _⟩ := w.g.2
  rw [z, e1] at e
  cases e
theorem Rw.go {pw dl : PySem.Addr} {H H1 H2 : Hp} {rl : PySem.Addr} {n : Nat} (w : Rw pw dl H rl n H1) (g : Gw pw dl H1 H2) : Rw pw dl H rl n H2 := by
  have ne := w.ne
  obtain ⟨ns, e, l, b⟩ := w.r
  exact ⟨w.g.trans g, ns, g.1 _ _ e ne, l, b⟩
theorem Rw.sm {pw dl : PySem.Addr} {H H1 H2 : Hp} {rl : PySem.Addr} {n : Nat} (w : Rw pw dl H rl n H1) (s : Same H1 H2) : Rw pw dl H rl n H2 := by
  obtain ⟨ns, e, l, b⟩ := w.r
  exact ⟨w.g.sm s, ns, s _ _ e, l, b⟩
theorem Rw.mono {pw dl : PySem.Addr} {H H1 : Hp} {rl : PySem.Addr} {n m : Nat} (w : Rw pw dl H rl n H1) (h : n ≤ m) : Rw pw dl H rl m H1 := by
  obtain ⟨ns, e, l, b⟩ := w.r
  exact ⟨w.g, ns, e, Nat.le_trans l h, b⟩
/-- row + [..], a new row -/
theorem Rw.cat {pw dl : PySem.Addr} {H H1 : Hp} {rl : PySem.Addr} {n m : Nat} {Q : VK} (w : Rw pw dl H rl n H1) {b : PySem.Addr} {zs : List Int} (e : H1 b = some (.lst (zs.map V.int))) (hz : ∀ x ∈ zs, 0 ≤ x) (hm : n + zs.length ≤ m) (h1000 : m ≤ 1000)
    (h : ∀ p H2, Rw pw dl H p m H2 → Q (.ref p) H2) : rCat (.ref rl) (.ref b) H1 Q := by
  obtain ⟨ns, er, l, bb⟩ := w.r
  refine ⟨_, _, _, _, rfl, rfl, er, e, R.size_of (by rw [List.length_map, List.length_map]; omega), fun p hp => h p _ ⟨w.g.sm (R.same_new hp), ns ++ zs, ?_, ?_, ?_⟩⟩
  · rw [upd_same, List.map_append]
  · rw [List.length_append]; omega
  · intro x hx
    rcases List.mem_append.mp hx with z | z
    · exact bb x z
    · exact hz x z
end MM
end
section
/-! the law: kinds of views, places in a list -/
namespace MM
open PySem PySem.Spec PyProof.Rows L2
def KOk (S : MS) : Prop := ∀ w ∈ S.views, PyData.strOk w.kind = true
section
variable {S S' : MS}
theorem KOk.vw (h : KOk S) (e : S'.views = S.views) : KOk S' := fun w hw => h w (by rw [← e]; exact hw)
theorem KOk.tell {kd : Str} {t : Nat} {a : Int} {r : List Int} (h : KOk S) (hk : PyData.strOk kd = true) : KOk (tell S kd t a r) := fun w hw => by
  rcases List.mem_append.mp hw with z | z
  · exact h w z
  · rw [List.mem_singleton.mp z]; exact hk
theorem KOk.tellTick (h : KOk S) : KOk (tellTick S) := fun w hw => by
  rcases List.mem_append.mp hw with z | z
  · exact h w z
  · rw [List.mem_singleton.mp z]
    show PyData.strOk "tick" = true
    decide +kernel
theorem KOk.fold {f : MS → Nat → MS} (hf : ∀ S i, KOk S → KOk (f S i)) : ∀ (l : List Nat) (S : MS), KOk S → KOk (l.foldl f S)
  | [], _, h => h
  | i :: l, _, h => KOk.fold hf l _ (hf _ _ h)
theorem KOk.returnCall {t : Nat} {r : Int} (h : KOk S) : KOk (returnCall S t r) := by
  unfold MM.returnCall
  dsimp only
  have h1 : KOk (MM.tell (MM.setReg S t 0 r) "return" t ((MM.setReg S t 0 r).th t).callAt [((MM.setReg S t 0 r).th t).call, r]) := KOk.tell (h.vw rfl) (by decide +kernel)
  split
  · exact h1
  · exact h1.vw rfl
theorem KOk.wakeOne {t o : Nat} {c : Int} (h : KOk S) : KOk (wakeOne t c S o) := by
  unfold MM.wakeOne
  split
  · exact h.returnCall
  · exact h
theorem KOk.endThread {t : Nat} {a c : Int} (h : KOk S) : KOk (endThread S t a c) := by
  unfold MM.endThread
  have h1 : KOk (MM.tell S "end" t a [c]) := h.tell (by decide +kernel)
  exact KOk.fold (f := MM.wakeOne t c) (fun _ _ z => z.wakeOne) _ _ (h1.vw rfl)
theorem KOk.leave {t : Nat} {c : Cond} {r : Int} (h : KOk S) : KOk (leave S t c r) := by
  unfold MM.leave
  exact KOk.tell (h.vw rfl) (by decide +kernel)
theorem KOk.goLast {t : Nat} {r : Int} (h : KOk S) : KOk (goLast S t r) := by
  unfold MM.goLast
  exact (h.leave (t := t) (c := .ready) (r := r)).vw rfl
theorem KOk.waitFor {t : Nat} {x : Int} (h : KOk S) : KOk (waitFor S t x) := by
  unfold MM.waitFor
  split
  · exact h.returnCall
  · split
    · exact h.returnCall
    · exact h.leave
theorem KOk.doCall {t : Nat} {n a : Int} (h : KOk S) : KOk (doCall S t n a) := by
  unfold MM.doCall
  have h1 : KOk (S.up t fun t => { t with call := n, callAt := a }) := h.vw rfl
  generalize (S.up t fun t => { t with call := n, callAt := a }) = S1 at h1 ⊢
  have h2 : KOk (MM.tell S1 "entry" t a [n, MM.reg S1 t 0, MM.reg S1 t 1]) := h1.tell (by decide +kernel)
  dsimp only
  generalize MM.tell S1 "entry" t a [n, MM.reg S1 t 0, MM.reg S1 t 1] = S2 at h2 ⊢
  split
  · exact h2.endThread
  split
  · exact h2.returnCall.goLast
  split
  · exact h2.leave
  split
  · exact KOk.leave (h2.vw rfl)
  split
  · split
    · exact h2.returnCall
    · exact KOk.returnCall (h2.vw rfl)
  split
  · exact h2.waitFor
  · exact h2.returnCall
theorem KOk.move {t : Nat} {c x y : Int} (h : KOk S) : KOk (move S t c x y) := by
  unfold MM.move
  dsimp only
  repeat' split
  all_goals exact h.vw rfl
theorem KOk.doInsn {kd : Bool} {t : Nat} (h : KOk S) : KOk (doInsn kd S t) := by
  unfold MM.doInsn
  dsimp only
  have h1 : KOk (if (S.mm (S.th t).pid).tells kd (S.th t).pc then MM.tell S "insn" t (S.th t).pc [(S.mm (S.th t).pid).load (S.th t).pc] else S) := by
    split
    · exact h.tell (by decide +kernel)
    · exact h
  generalize (if (S.mm (S.th t).pid).tells kd (S.th t).pc then MM.tell S "insn" t (S.th t).pc [(S.mm (S.th t).pid).load (S.th t).pc] else S) = S1 at h1 ⊢
  split
  · exact (h1.tell (by decide +kernel)).endThread
  split
  · exact KOk.endThread (h1.vw rfl)
  split
  · exact KOk.doCall (h1.vw rfl)
  split
  · exact h1.vw rfl
  · exact KOk.move (h1.vw rfl)
theorem KOk.wake (h : KOk S) : KOk (wake S) := by
  unfold MM.wake
  refine KOk.fold (fun S i z => ?_) _ _ h
  unfold wakeIf
  split
  · exact z.returnCall
  · exact z
theorem KOk.beginRun {t : Nat} (h : KOk S) : KOk (beginRun S t) := by
  unfold MM.beginRun
  exact KOk.tell (h.vw rfl) (by decide +kernel)
theorem KOk.doStep {kd : Bool} (h : KOk S) : KOk (doStep kd S) := by
  unfold MM.doStep
  split
  · exact h.doInsn
  · split
    · exact h
    · exact KOk.beginRun (h.vw rfl)
theorem KOk.doTimer (h : KOk S) : KOk (doTimer S) := by
  unfold MM.doTimer
  have h1 := h.tellTick
  dsimp only
  split
  · exact h1.goLast
  · exact h1
theorem KOk.doRequest (h : KOk S) : KOk (doRequest S) := by
  unfold MM.doRequest
  split
  · exact h
  · rename_i tid call number r _
    dsimp only
    have h2 : KOk (if call = 3 then { S with reqs := r, dev := number } else { S with reqs := r } : MS) := by
      split
      · exact h.vw rfl
      · exact h.vw rfl
    exact (h2.tell (by decide +kernel)).returnCall
theorem KOk.doPick {kd : Bool} {cpu : Nat} {what : Str} (h : KOk S) : KOk (doPick kd S cpu what) := by
  unfold MM.doPick
  dsimp only
  have h1 : KOk (MM.wake (begin' S cpu)) := KOk.wake (h.vw rfl)
  split
  · exact h1.doStep
  split
  · exact h1.doTimer
  split
  · exact h1.doRequest
  · exact h1
theorem KOk.nil (h : S.views = []) : KOk S := fun w hw => by rw [h] at hw; cases hw
end
/-- places -/
def prD (p : Int × Int) : PyData := .tuple [.int p.1, .int p.2]
theorem sh_pr (p : Int × Int) : D.Sh 1 (prD p) := .tup (.cons (.int _) (.cons (.int _) .nil))
theorem sh_prs (l : List (Int × Int)) : D.Sh 2 (.list (l.map prD)) := .lst fun y hy => by
  obtain ⟨m, _, e⟩ := List.mem_map.mp hy
  rw [← e]; exact sh_pr m
theorem inj_pr {p q : Int × Int} : prD p = prD q ↔ p = q := by
  obtain ⟨a, b⟩ := p
  obtain ⟨c, d⟩ := q
  simp only [prD, PyData.tuple.injEq, List.cons.injEq, PyData.int.injEq, and_true, Prod.mk.injEq]
theorem any_pr {pl : List (Int × Int)} {p : Int × Int} : ((pl.map prD).any fun z => PyData.eqv z (prD p)) = decide (p ∈ pl) := by
  rw [Bool.eq_iff_iff, List.any_eq_true, decide_eq_true_iff]
  constructor
  · rintro ⟨z, hz, e⟩
    obtain ⟨q, hq, rfl⟩ := List.mem_map.mp hz
    rw [D.eqv_nb _ _ (sh_pr q).n (sh_pr p).n, inj_pr] at e
    rw [← e]; exact hq
  · intro h
    exact ⟨prD p, List.mem_map_of_mem h, (D.eqv_nb _ _ (sh_pr p).n (sh_pr p).n).mpr rfl⟩
/-- a list of places -/
def PlAt (H : Hp) (l : PySem.Addr) (pl : List (Int × Int)) : Prop := ∃ ps : List PySem.Addr, H l = some (.lst (ps.map V.ref)) ∧ All2 (PrAt H) ps pl
theorem PlAt.same {H H' : Hp} (s : Same H H') {l : PySem.Addr} {pl : List (Int × Int)} (h : PlAt H l pl) : PlAt H' l pl := by
  obtain ⟨ps, e, al⟩ := h
  exact ⟨ps, s _ _ e, al.imp fun _ _ z => s _ _ z⟩
theorem PlAt.dp {K : PySem.W.Frag} {H : Hp} {l : PySem.Addr} {pl : List (Int × Int)} (h : PlAt H l pl) : Dp K H (.ref l) (.list (pl.map prD)) := by
  obtain ⟨ps, e, al⟩ := h
  exact .lst (R.sqL e) (dp_all2 (fun _ _ z => dp_pr z) al)
theorem r_inPr {K : PySem.W.Frag} {H : Hp} {Q : VK} {l x : PySem.Addr} {pl : List (Int × Int)} {p : Int × Int} (h : PlAt H l pl) (hx : H x = some (.tup [.int p.1, .int p.2])) (q : Q (.bl (decide (p ∈ pl))) H) : rInD K (.ref x) (.ref l) H Q :=
  ⟨prD p, pl.map prD, dp_pr hx, h.dp, (sh_pr p).shaped (by decide), (sh_prs pl).shaped (by decide), by rw [any_pr]; exact q⟩
theorem r_ninPr {K : PySem.W.Frag} {H : Hp} {Q : VK} {l x : PySem.Addr} {pl : List (Int × Int)} {p : Int × Int} (h : PlAt H l pl) (hx : H x = some (.tup [.int p.1, .int p.2])) (q : Q (.bl (!decide (p ∈ pl))) H) : rNotInD K (.ref x) (.ref l) H Q :=
  ⟨prD p, pl.map prD, dp_pr hx, h.dp, (sh_pr p).shaped (by decide), (sh_prs pl).shaped (by decide), by rw [any_pr]; exact q⟩
/-- the views asked for -/
def spAsked : Sp := fun vs H Q _ => ∃ (v l : PySem.Addr) (vw : List PySem.Addr) (ws : List Vw) (pl : List (Int × Int)), vs = [.ref v, .ref l] ∧ H v = some (.lst (vw.map V.ref)) ∧ All2 (VwAt H) vw ws ∧ ws.length ≤ 70000 ∧ PlAt H l pl ∧
  ∀ D vw' H', Same H H' → H D = none → H' D = some (.lst (vw'.map V.ref)) → All2 (VwAt H') vw' (ws.filter (ask pl)) → Q (.ref D) H'
theorem take_filter {α : Type} {l : List α} {i : Nat} {x : α} {f : α → Bool} (h : l[i]? = some x) : (l.take (i + 1)).filter f = (l.take i).filter f ++ (if f x = true then [x] else []) := by
  rw [take_snoc h, List.filter_append, List.filter_cons, List.filter_nil]
theorem vw_same {H H' : Hp} (s : Same H H') {a : PySem.Addr} {w : Vw} (h : VwAt H a w) : VwAt H' a w := h.keep fun b xs e => s _ _ e
section
variable {tl : TE} {tb : TS} {g : TG} {σ : L2.St} {H : Hp} {nx bk ct : L2.St → Hp → Prop} {rt : V → Hp → Prop} {j : Nat} {K : PySem.W.Frag}
theorem r_forL (h : tl σ H fun x H1 => ∃ a, x = .ref a ∧ (∃ xs, SqL K H1 a xs) ∧ FW (Itl K a) g tb nx rt σ H1) : tFor (iList K tl) g tb ⟨nx, rt, bk, ct⟩ σ H := h
theorem for_list {a : PySem.Addr} {xs : List V} (Pv : Nat → L2.St → Hp → Prop) (h0 : Pv 0 σ H) (hG : ∀ i σ H, Pv i σ H → SqL K H a xs)
    (hs : ∀ i v σ H, xs[i]? = some v → Pv i σ H → tb ⟨Pv (i + 1), rt, nx, Pv (i + 1)⟩ (σ.set j (some v)) H) (hd : ∀ σ H, Pv xs.length σ H → nx σ H) :
    FW (Itl K a) (gName j) tb nx rt σ H := by
  refine for_it (D := ⟨nx, rt, fun _ _ => False, fun _ _ => False⟩) (walk_list (xs := xs)) Pv h0 (fun i σ H _ p => hG i σ H p) (fun i x σ H H' hi p y => ?_) hd
  obtain ⟨rfl, e⟩ := y
  exact hs i x σ _ e p
end
end MM
end
section
namespace MM
open PySem PySem.Spec PyProof.Rows L2
theorem Sim.raw {pl : List (Int × Int)} {S P : MS} (h : Sim pl S P) {i : Nat} (hi : i < P.mem.length) : i < S.mem.length ∧ (S.mm i).cells.length = 256 ∧ (P.mm i).img.length = 256 ∧
    ∀ j : Nat, j < 256 → (S.mm i).cells.getD j 0 = if ((i : Int), (j : Int)) ∈ pl then 255 else (P.mm i).img.getD j 0 := by
  obtain ⟨M, V, rfl, m, v⟩ := h
  have hi' : i < M.length := by rw [m.1]; exact hi
  have r := m.2.1 i hi'
  have ep : (P.mm i).img = (P.mm i).cells := r.pimg
  refine ⟨hi', r.ml, by rw [ep]; exact r.pl, fun j hj => ?_⟩
  rw [ep]
  have z := r.raw hj
  have k := m.2.2 i (j : Int)
  show (M.getD i dMm).cells.getD j 0 = _
  rw [z]
  by_cases e : ((i : Int), (j : Int)) ∈ pl
  · rw [if_pos e, if_pos (k.mpr e)]
  · rw [if_neg e, if_neg (fun q => e (k.mp q))]
    rfl
theorem ints_at {l : List Int} {n j : Nat} (hl : l.length = n) (hj : j < n) : atI (l.map V.int) (j : Int) = some (.int (l.getD j 0)) := by
  refine atI_nat ?_
  rw [List.getElem?_map, getD_some (by omega)]
  rfl
end MM
theorem op_eqDK {X : L2.Cx} {K0 : PySem.W.Frag} (hK : X.K = K0) (hu : X.A.units + 64 < PySem.cLine) : L2.OpR X (PySem.compareOp .Eq) (L2.rEqD K0) := hK ▸ L2.op_eqD hu
theorem op_neDK {X : L2.Cx} {K0 : PySem.W.Frag} (hK : X.K = K0) (hu : X.A.units + 64 < PySem.cLine) : L2.OpR X (PySem.compareOp .NotEq) (L2.rNeD K0) := hK ▸ L2.op_neD hu
end
section
/-! the law's state: two machines, the draws, the places -/
namespace MM
open PySem PySem.Spec PyProof.Rows L2
theorem MmOk.setStop {m : Mm} (h : MmOk m) {a : Int} (h0 : 0 ≤ a) (h1 : a < 256) : MmOk (m.setStop a) := by
  unfold Mm.setStop
  by_cases e : (m.kept.lookup a).isSome = true
  · rw [if_pos e]; exact h
  · rw [if_neg e]
    refine ⟨by rw [List.length_set]; exact h.len, fun b hb => ?_, fun p hp => ?_, ?_⟩
    · rcases List.mem_or_eq_of_mem_set hb with z | z
      · exact h.pos b z
      · rw [z]; decide
    · rcases List.mem_append.mp hp with z | z
      · exact h.kpos p z
      · rw [List.mem_singleton.mp z]
        refine ⟨h0, h1, ?_⟩
        show 0 ≤ m.cells.getD a.toNat 0
        by_cases c : a.toNat < m.cells.length
        · have z := getD_some c
          exact h.pos _ (List.mem_of_getElem? z)
        · rw [List.getD_eq_getElem?_getD, List.getElem?_eq_none (by omega)]
          decide
    · show ((m.kept ++ [(a, m.cells.getD a.toNat 0)]).map (·.1)).Nodup
      rw [List.map_append, List.nodup_append]
      refine ⟨h.knd, List.nodup_cons.mpr ⟨(fun z => nomatch z), List.nodup_nil⟩, fun x hx y hy => ?_⟩
      have hy : y = a := List.mem_singleton.mp hy
      rintro rfl
      rw [hy] at hx
      exact e (lookup_mem.mpr hx)
theorem lookup_in {l : List (Int × Int)} {a b : Int} (h : l.lookup a = some b) : (a, b) ∈ l := by
  induction l with
  | nil => cases h
  | cons p r ih =>
    rw [List.lookup_cons] at h
    by_cases e : a = p.1
    · rw [e, beq_self_eq_true] at h
      obtain rfl := Option.some.inj h
      rw [e]
      exact List.mem_cons_self
    · rw [beq_eq_false_iff_ne.mpr e] at h
      exact List.mem_cons_of_mem _ (ih h)
theorem MmOk.clearStop {m : Mm} (h : MmOk m) {a : Int} : MmOk (m.clearStop a) := by
  unfold Mm.clearStop
  cases y : m.kept.lookup a with
  | none => exact h
  | some b =>
    have hb := h.kpos _ (lookup_in y)
    refine ⟨by rw [List.length_set]; exact h.len, fun c hc => ?_, fun p hp => h.kpos p (List.mem_filter.mp hp).1, ?_⟩
    · rcases List.mem_or_eq_of_mem_set hc with z | z
      · exact h.pos c z
      · rw [z]; exact hb.2.2
    · exact List.Nodup.sublist (List.Sublist.map _ List.filter_sublist) h.knd
theorem set_me {N : List Mm} {i : Nat} : N.set i (N.getD i dMm) = N := by
  refine List.ext_getElem? fun j => ?_
  by_cases e : i = j
  · subst e
    by_cases hi : i < N.length
    · rw [List.getElem?_set_self hi, List.getD_eq_getElem?_getD, List.getElem?_eq_getElem hi]; rfl
    · rw [List.getElem?_eq_none (by rw [List.length_set]; omega), List.getElem?_eq_none (by omega)]
  · rw [List.getElem?_set_ne e]
theorem Sim.put {pl pl' : List (Int × Int)} {S P : MS} {f : Mm → Mm} {i : Nat} (h : Sim pl S P) (hv : P.views = []) (hi : i < P.mem.length) (hr : ∀ m, MmRel m (P.mm i) → MmRel (f m) (P.mm i)) (hk : ∀ m, MmRel m (P.mm i) → ∀ a, (a ∈ keys m ↔ ((i : Int), a) ∈ pl) → (a ∈ keys (f m) ↔ ((i : Int), a) ∈ pl'))
    (ho : ∀ j : Nat, j ≠ i → ∀ a, ((j : Int), a) ∈ pl ↔ ((j : Int), a) ∈ pl') : Sim pl' (S.setMm i (f (S.mm i))) P := by
  obtain ⟨M, V, rfl, m, v⟩ := h
  have hi' : i < M.length := by rw [m.1]; exact hi
  have r : MmRel (M.getD i dMm) (P.mm i) := m.2.1 i hi'
  have z := m.put (pl' := pl') (p := i) (m := f (M.getD i dMm)) (n := P.mm i) (fun _ => hr _ r) (fun j a => by
    rw [getD_setM]
    by_cases e : i = j
    · subst e
      rw [if_pos ⟨rfl, hi'⟩]
      exact hk _ r a (m.2.2 i a)
    · rw [if_neg (fun q => e q.1), m.2.2 j a]
      exact ho j (fun q => e q.symm) a)
  refine ⟨M.set i (f (M.getD i dMm)), V, rfl, ?_, ?_⟩
  · rwa [show P.mem.set i (P.mm i) = P.mem from set_me] at z
  · rw [v, hv]; rfl
theorem Sim.setStop {pl pl' : List (Int × Int)} {S P : MS} {i : Nat} {a : Int} (h : Sim pl S P) (hv : P.views = []) (hi : i < P.mem.length) (h0 : 0 ≤ a) (h1 : a < 256) (hp : ∀ q, q ∈ pl' ↔ q ∈ pl ∨ q = ((i : Int), a)) : Sim pl' (S.setMm i ((S.mm i).setStop a)) P :=
  h.put (f := fun m => m.setStop a) hv hi (fun m r => (r.setStop h0 h1).1) (fun m r x hx => by
    rw [(r.setStop h0 h1).2 x, hx, hp, Prod.mk.injEq]
    exact ⟨fun z => z.imp id fun e => ⟨rfl, e⟩, fun z => z.imp id fun e => e.2⟩) (fun j hj x => by
    rw [hp, Prod.mk.injEq]
    exact ⟨.inl, fun z => z.elim id fun e => absurd (Int.ofNat.inj e.1) hj⟩)
theorem Sim.clearStop {pl pl' : List (Int × Int)} {S P : MS} {i : Nat} {a : Int} (h : Sim pl S P) (hv : P.views = []) (hi : i < P.mem.length) (h0 : 0 ≤ a) (h1 : a < 256) (hp : ∀ q, q ∈ pl' ↔ q ∈ pl ∧ q ≠ ((i : Int), a)) : Sim pl' (S.setMm i ((S.mm i).clearStop a)) P :=
  h.put (f := fun m => m.clearStop a) hv hi (fun m r => (r.clearStop h0 h1).1) (fun m r x hx => by
    rw [(r.clearStop h0 h1).2 x, hx, hp]
    exact ⟨fun z => ⟨z.1, fun e => z.2 (Prod.mk.inj e).2⟩, fun z => ⟨z.1, fun e => z.2 (by rw [e])⟩⟩) (fun j hj x => by
    rw [hp]
    exact ⟨fun z => ⟨z, fun e => hj (Int.ofNat.inj (Prod.mk.inj e).1)⟩, fun z => z.1⟩)
structure LB (c1 c2 : Cl) (C1 C2 : PySem.Addr) (n r : Nat) (pw dl x1 x2 l : PySem.Addr) (ad1 ad2 : Tg → PySem.Addr) (S P : MS) (pl : List (Int × Int)) (k : Nat) (H : Hp) : Prop where
  wd : Wd H pw dl
  sm : ∃ dx, H x1 = some (.ins C1 dx [("memories", .ref (ad1 .memL)), ("board", .ref (ad1 .brd))])
  pm : ∃ dx, H x2 = some (.ins C2 dx [("board", .ref (ad2 .brd))])
  o1 : Ok c1 ad1 S H k
  o2 : Ok c2 ad2 P H k
  sv : S.views = []
  pv : P.views = []
  sn : S.mem.length = n
  nm : P.mem.length = n
  sr : S.rates.length = r
  nr : P.rates.length = r
  dj : ∀ t u, ad1 t ≠ ad2 u
  w1 : ∀ t, ad1 t ≠ pw ∧ ad1 t ≠ dl ∧ ad1 t ≠ x1 ∧ ad1 t ≠ x2 ∧ ad1 t ≠ l
  w2 : ∀ t, ad2 t ≠ pw ∧ ad2 t ≠ dl ∧ ad2 t ≠ x1 ∧ ad2 t ≠ x2 ∧ ad2 t ≠ l
  ld : dl ≠ l
  pt : PlAt H l pl
  nd : pl.Nodup
  pr : ∀ q ∈ pl, 0 ≤ q.1 ∧ q.1 < (n : Int) ∧ 0 ≤ q.2 ∧ q.2 < 256
  ln : pl.length ≤ k
section
variable {c1 c2 : Cl} {C1 C2 : PySem.Addr} {n r : Nat} {pw dl x1 x2 l : PySem.Addr} {ad1 ad2 : Tg → PySem.Addr} {S P : MS} {pl : List (Int × Int)} {k : Nat} {H H' : Hp}
theorem PlAt.mv {x : PySem.Addr} (h : PlAt H l pl) (m : R.Mv x H H') (hl : l ≠ x) (ht : ∀ xs, H x ≠ some (.tup xs)) : PlAt H' l pl := by
  obtain ⟨ps, e, al⟩ := h
  exact ⟨ps, m _ _ e hl, al.imp fun a b z => m _ _ z (fun y => ht _ (by rw [← y]; exact z))⟩
theorem LB.same (h : LB c1 c2 C1 C2 n r pw dl x1 x2 l ad1 ad2 S P pl k H) (s : Same H H') : LB c1 c2 C1 C2 n r pw dl x1 x2 l ad1 ad2 S P pl k H' :=
  { h with wd := h.wd.same s, sm := h.sm.imp fun _ z => s _ _ z, pm := h.pm.imp fun _ z => s _ _ z, o1 := h.o1.same s, o2 := h.o2.same s, pt := h.pt.same s }
theorem LB.gw (h : LB c1 c2 C1 C2 n r pw dl x1 x2 l ad1 ad2 S P pl k H) (g : Gw pw dl H H') : LB c1 c2 C1 C2 n r pw dl x1 x2 l ad1 ad2 S P pl k H' := by
  obtain ⟨at', ds, ew, _⟩ := h.wd
  obtain ⟨d1, e1⟩ := h.sm
  obtain ⟨d2, e2⟩ := h.pm
  have ht : ∀ xs, H pw ≠ some (.tup xs) := fun xs z => by rw [ew] at z; cases z
  obtain ⟨ps, el, _⟩ := h.pt
  exact { h with
    wd := g.2
    sm := ⟨d1, g.1 _ _ e1 fun z => by rw [z, ew] at e1; cases e1⟩
    pm := ⟨d2, g.1 _ _ e2 fun z => by rw [z, ew] at e2; cases e2⟩
    o1 := ⟨h.o1.B.mv g.1 (fun t => (h.w1 t).1) ht, h.o1.W, h.o1.hk, h.o1.pl⟩
    o2 := ⟨h.o2.B.mv g.1 (fun t => (h.w2 t).1) ht, h.o2.W, h.o2.hk, h.o2.pl⟩
    pt := h.pt.mv g.1 (fun z => by rw [z, ew] at el; cases el) ht }
theorem Bd.none {c : Cl} {ad : Tg → PySem.Addr} {S : MS} {a : PySem.Addr} (B : Bd c ad S H) (h : H a = Option.none) (t : Tg) : ad t ≠ a := by
  by_cases d : dom c.kd S.ths.length S.mem.length t
  · obtain ⟨o, e⟩ := B.there d
    exact ne_of_none e h
  · obtain ⟨o, e⟩ := B.there (t := .brd) trivial
    rw [B.out t d]
    exact ne_of_none e h
theorem LB.newl {l' : PySem.Addr} {pl' : List (Int × Int)} (h : LB c1 c2 C1 C2 n r pw dl x1 x2 l ad1 ad2 S P pl k H) (s : Same H H') (hl : H l' = none) (e : PlAt H' l' pl') (nd : pl'.Nodup) (pr : ∀ q ∈ pl', q ∈ pl) (ln : pl'.length ≤ pl.length) : LB c1 c2 C1 C2 n r pw dl x1 x2 l' ad1 ad2 S P pl' k H' :=
  { h.same s with
    w1 := fun t => ⟨(h.w1 t).1, (h.w1 t).2.1, (h.w1 t).2.2.1, (h.w1 t).2.2.2.1, h.o1.B.none hl t⟩
    w2 := fun t => ⟨(h.w2 t).1, (h.w2 t).2.1, (h.w2 t).2.2.1, (h.w2 t).2.2.2.1, h.o2.B.none hl t⟩
    ld := fun z => (h.wd.ne hl).2 z.symm
    pt := e
    nd := nd
    pr := fun q hq => h.pr q (pr q hq)
    ln := Nat.le_trans ln h.ln }
theorem LB.app {ps : List PySem.Addr} {a : PySem.Addr} {p : Int × Int} (h : LB c1 c2 C1 C2 n r pw dl x1 x2 l ad1 ad2 S P pl k H) (el : H l = some (.lst (ps.map V.ref))) (al : All2 (PrAt H) ps pl) (ha : PrAt H a p) (hn : p ∉ pl) (hp : 0 ≤ p.1 ∧ p.1 < (n : Int) ∧ 0 ≤ p.2 ∧ p.2 < 256) (hk : pl.length + 1 ≤ k) :
    LB c1 c2 C1 C2 n r pw dl x1 x2 l ad1 ad2 S P (pl ++ [p]) k (upd H l (.lst (ps.map V.ref ++ [.ref a]))) := by
  obtain ⟨at', ds, ew, ed, h3⟩ := h.wd
  obtain ⟨d1, e1⟩ := h.sm
  obtain ⟨d2, e2⟩ := h.pm
  have ht : ∀ xs, H l ≠ some (.tup xs) := fun xs z => by rw [el] at z; cases z
  have m : R.Mv l H (upd H l (.lst (ps.map V.ref ++ [.ref a]))) := R.Mv.upd
  exact { h with
    wd := ⟨at', ds, m _ _ ew (fun z => by rw [z, el] at ew; cases ew), m _ _ ed h.ld, h3⟩
    sm := ⟨d1, m _ _ e1 fun z => by rw [z, el] at e1; cases e1⟩
    pm := ⟨d2, m _ _ e2 fun z => by rw [z, el] at e2; cases e2⟩
    o1 := ⟨h.o1.B.mv m (fun t => (h.w1 t).2.2.2.2) ht, h.o1.W, h.o1.hk, h.o1.pl⟩
    o2 := ⟨h.o2.B.mv m (fun t => (h.w2 t).2.2.2.2) ht, h.o2.W, h.o2.hk, h.o2.pl⟩
    pt := ⟨ps ++ [a], by rw [upd_same, List.map_append]; rfl, All2.snoc (R := PrAt _) (m _ _ ha fun z => ht _ (by rw [← z]; exact ha)) (al.imp fun b q z => m _ _ z fun y => ht _ (by rw [← y]; exact z))⟩
    nd := by
      rw [List.nodup_append]
      refine ⟨h.nd, List.nodup_cons.mpr ⟨(fun z => nomatch z), List.nodup_nil⟩, fun x hx y hy => ?_⟩
      rw [List.mem_singleton.mp hy]
      rintro rfl
      exact hn hx
    pr := fun q hq => by
      rcases List.mem_append.mp hq with z | z
      · exact h.pr q z
      · rw [List.mem_singleton.mp z]; exact hp
    ln := by rw [List.length_append]; exact hk }
theorem LB.mono {k' : Nat} (h : LB c1 c2 C1 C2 n r pw dl x1 x2 l ad1 ad2 S P pl k H) (hk : k ≤ k') (h6 : k' ≤ 60000) : LB c1 c2 C1 C2 n r pw dl x1 x2 l ad1 ad2 S P pl k' H :=
  { h with o1 := ⟨h.o1.B, h.o1.W.mono hk, h6, h.o1.pl⟩, o2 := ⟨h.o2.B, h.o2.W.mono hk, h6, h.o2.pl⟩, ln := Nat.le_trans h.ln hk }
theorem LB.one {ad1' : Tg → PySem.Addr} {S' : MS} (h : LB c1 c2 C1 C2 n r pw dl x1 x2 l ad1 ad2 S P pl k H) (B : Bd c1 ad1' S' H') (m : Mv2 c1 S ad1 ad1' H H') (w : WF S' k) (p1 : Pl c1 S') (sv : S'.views = []) (sn : S'.mem.length = n) (sr : S'.rates.length = r) :
    LB c1 c2 C1 C2 n r pw dl x1 x2 l ad1' ad2 S' P pl k H' := by
  obtain ⟨at', ds, ew, ed, h3⟩ := h.wd
  obtain ⟨d1, e1⟩ := h.sm
  obtain ⟨d2, e2⟩ := h.pm
  obtain ⟨ps, el, al⟩ := h.pt
  obtain ⟨B2, dj⟩ := h.o2.B.beside m h.dj
  have g1 : ad1' .memL = ad1 .memL := m.ag _ (by nofun) trivial
  have g2 : ad1' .brd = ad1 .brd := m.ag _ (by nofun) trivial
  exact { h with
    wd := ⟨at', ds, m.fr _ _ ew fun t => (h.w1 t).1, m.fr _ _ ed fun t => (h.w1 t).2.1, h3⟩
    sm := ⟨d1, by rw [g1, g2]; exact m.fr _ _ e1 fun t => (h.w1 t).2.2.1⟩
    pm := ⟨d2, m.fr _ _ e2 fun t => (h.w1 t).2.2.2.1⟩
    o1 := ⟨B, w, h.o1.hk, p1⟩
    o2 := ⟨B2, h.o2.W, h.o2.hk, h.o2.pl⟩
    sv := sv
    sn := sn
    sr := sr
    dj := dj
    w1 := fun t => ⟨m.out ew (fun t => (h.w1 t).1) t, m.out ed (fun t => (h.w1 t).2.1) t, m.out e1 (fun t => (h.w1 t).2.2.1) t, m.out e2 (fun t => (h.w1 t).2.2.2.1) t, m.out el (fun t => (h.w1 t).2.2.2.2) t⟩
    pt := ⟨ps, m.fr _ _ el fun t => (h.w1 t).2.2.2.2, al.imp fun _ _ z => m.kt _ _ z⟩ }
theorem LB.two {ad2' : Tg → PySem.Addr} {P' : MS} (h : LB c1 c2 C1 C2 n r pw dl x1 x2 l ad1 ad2 S P pl k H) (B : Bd c2 ad2' P' H') (m : Mv2 c2 P ad2 ad2' H H') (w : WF P' k) (p2 : Pl c2 P') (pv : P'.views = []) (nm : P'.mem.length = n) (nr : P'.rates.length = r) :
    LB c1 c2 C1 C2 n r pw dl x1 x2 l ad1 ad2' S P' pl k H' := by
  obtain ⟨at', ds, ew, ed, h3⟩ := h.wd
  obtain ⟨d1, e1⟩ := h.sm
  obtain ⟨d2, e2⟩ := h.pm
  obtain ⟨ps, el, al⟩ := h.pt
  obtain ⟨B1, dj⟩ := h.o1.B.beside m fun t u z => h.dj u t z.symm
  have g2 : ad2' .brd = ad2 .brd := m.ag _ (by nofun) trivial
  exact { h with
    wd := ⟨at', ds, m.fr _ _ ew fun t => (h.w2 t).1, m.fr _ _ ed fun t => (h.w2 t).2.1, h3⟩
    sm := ⟨d1, m.fr _ _ e1 fun t => (h.w2 t).2.2.1⟩
    pm := ⟨d2, by rw [g2]; exact m.fr _ _ e2 fun t => (h.w2 t).2.2.2.1⟩
    o1 := ⟨B1, h.o1.W, h.o1.hk, h.o1.pl⟩
    o2 := ⟨B, w, h.o2.hk, p2⟩
    pv := pv
    nm := nm
    nr := nr
    dj := fun t u z => dj u t z.symm
    w2 := fun t => ⟨m.out ew (fun t => (h.w2 t).1) t, m.out ed (fun t => (h.w2 t).2.1) t, m.out e1 (fun t => (h.w2 t).2.2.1) t, m.out e2 (fun t => (h.w2 t).2.2.2.1) t, m.out el (fun t => (h.w2 t).2.2.2.2) t⟩
    pt := ⟨ps, m.fr _ _ el fun t => (h.w2 t).2.2.2.2, al.imp fun _ _ z => m.kt _ _ z⟩ }
end
end MM
end
section
/-! the law's comparisons -/
namespace MM
open PySem PySem.Spec PyProof.Rows L2
/-- what stands at an address of a pair -/
def prOf (H : Hp) (x : V) : Int × Int := match x with
  | .ref t => match H t with
    | some (.tup [.int a, .int b]) => (a, b)
    | _ => (0, 0)
  | _ => (0, 0)
theorem prOf_at {H : Hp} {a : PySem.Addr} {p : Int × Int} (h : PrAt H a p) : prOf H (.ref a) = p := by
  show (match H a with | some (.tup [.int a, .int b]) => (a, b) | _ => (0, 0)) = p
  rw [h]
theorem prs_of {H : Hp} {ps : List PySem.Addr} {pl : List (Int × Int)} (h : All2 (PrAt H) ps pl) : (ps.map V.ref).map (prOf H) = pl := by
  induction h with
  | nil => rfl
  | cons r _ ih => rw [List.map_cons, List.map_cons, prOf_at r, ih]
theorem lexB_not {p q : Int × Int} (h : SrtO.lexB q p = false) (n : p ≠ q) : ltPr p q := by
  have h' : ¬ (q.1 < p.1 ∨ (q.1 = p.1 ∧ q.2 < p.2)) := fun z => by
    rw [SrtO.lexB_iff.mpr z] at h
    cases h
  obtain ⟨a, b⟩ := p
  obtain ⟨c, d⟩ := q
  simp only [ne_eq, Prod.mk.injEq] at n h'
  show a < c ∨ (a = c ∧ b < d)
  omega
theorem ltPr_asymm {p q : Int × Int} (h : ltPr p q) (h2 : ltPr q p) : False := by
  unfold ltPr at h h2
  omega
theorem ltPr_nodup {L : List (Int × Int)} (h : L.Pairwise ltPr) : L.Nodup := h.imp fun {a b} z e => by
  rw [e] at z
  exact ltPr_asymm z z
theorem srt_uniq {L M : List (Int × Int)} (hL : L.Pairwise ltPr) (hM : M.Pairwise ltPr) (h : ∀ q, q ∈ L ↔ q ∈ M) : L = M := by
  have p : L.Perm M := (List.perm_ext_iff_of_nodup (ltPr_nodup hL) (ltPr_nodup hM)).mpr h
  exact p.eq_of_pairwise (fun a b _ _ x y => (ltPr_asymm x y).elim) hL hM
theorem r_sortPl {K : PySem.W.Frag} {H : Hp} {Q : VK} {l : PySem.Addr} {pl L : List (Int × Int)} (h : PlAt H l pl) (nd : pl.Nodup) (hL : L.Pairwise ltPr) (hm : ∀ q, q ∈ L ↔ q ∈ pl) (q : ∀ p H', Same H H' → Dp K H' (.ref p) (.list (L.map prD)) → Q (.ref p) H') : rSortedPO K [.ref l] H Q := by
  obtain ⟨ps, el, al⟩ := h
  refine ⟨l, ps.map V.ref, prOf H, rfl, R.sqL el, fun x hx => ?_, fun ys p hs hb hp => ?_⟩
  · obtain ⟨a, ha, rfl⟩ := List.mem_map.mp hx
    obtain ⟨i, hi, e⟩ := List.getElem_of_mem ha
    have hi2 : i < pl.length := by rw [← al.length]; exact hi
    obtain ⟨b, eb, z⟩ := al.get (List.getElem?_eq_getElem hi2)
    rw [List.getElem?_eq_getElem hi, e] at eb
    obtain rfl := Option.some.inj eb
    exact ⟨a, rfl, by rw [prOf_at z]; exact z⟩
  · have hp2 : (ys.map (prOf H)).Perm pl := by
      rw [← prs_of al]
      exact hb.perm.map _
    have hnd : (ys.map (prOf H)).Nodup := hp2.nodup_iff.mpr nd
    have hsm : (ys.map (prOf H)).Pairwise ltPr := by
      have h1 : (ys.map (prOf H)).Pairwise fun x y => SrtO.lexB y x = false := List.pairwise_map.mpr hs
      exact (h1.and hnd).imp fun {a b} z => lexB_not z.1 z.2
    have e : ys.map (prOf H) = L := srt_uniq hsm hL fun q => by rw [hm, hp2.mem_iff]
    have s : Same H (upd H p (.lst ys)) := R.same_new hp
    refine q p _ s (.lst (R.sqL upd_same) ?_)
    rw [← e, List.map_map]
    have key : ∀ x ∈ ys, Dp K (upd H p (.lst ys)) x (prD (prOf H x)) := fun x hx => by
      have hx' : x ∈ ps.map V.ref := hb.perm.mem_iff.mp hx
      obtain ⟨a, ha, rfl⟩ := List.mem_map.mp hx'
      obtain ⟨i, hi, e⟩ := List.getElem_of_mem ha
      have hi2 : i < pl.length := by rw [← al.length]; exact hi
      obtain ⟨b, eb, z⟩ := al.get (List.getElem?_eq_getElem hi2)
      rw [List.getElem?_eq_getElem hi, e] at eb
      obtain rfl := Option.some.inj eb
      rw [prOf_at z]
      exact dp_pr (s _ _ z)
    have z := D.all_map (f := id) (g := fun x => prD (prOf H x)) key
    rw [List.map_id] at z
    exact z
theorem stops_mem {S P : MS} {pl L : List (Int × Int)} {n : Nat} (h : Sim pl S P) (hs : StopL S S.mem.length L) (hn : S.mem.length = n) (pr : ∀ q ∈ pl, 0 ≤ q.1 ∧ q.1 < (n : Int) ∧ 0 ≤ q.2 ∧ q.2 < 256) : ∀ q, q ∈ L ↔ q ∈ pl := by
  obtain ⟨M, V, rfl, m, v⟩ := h
  rintro ⟨p, a⟩
  rw [hs.2]
  constructor
  · rintro ⟨j, hj, rfl, hk⟩
    exact (m.2.2 j a).mp hk
  · intro hq
    have z := pr _ hq
    have e : ((p.toNat : Nat) : Int) = p := Int.toNat_of_nonneg z.1
    refine ⟨p.toNat, ?_, e.symm, ?_⟩
    · rw [hn]
      have := z.2.1
      have : p < (n : Int) := this
      omega
    · refine (m.2.2 p.toNat a).mpr ?_
      rw [e]
      exact hq
theorem sim_start {progs : List (List Int)} {rates : List Int} (hp : ∀ p ∈ progs, p.length ≤ 256) : Sim [] (S0 progs rates) (S0 progs rates) := by
  refine ⟨(S0 progs rates).mem, [], rfl, ⟨rfl, fun i hi => ?_, fun i a => ?_⟩, rfl⟩
  · have hi : i < (progs.map fun p => (⟨fill p, []⟩ : Mm)).length := hi
    rw [List.length_map] at hi
    have e : ((progs.map fun p => (⟨fill p, []⟩ : Mm)).getD i dMm) = ⟨fill progs[i], []⟩ := by
      rw [List.getD_eq_getElem?_getD, List.getElem?_map, List.getElem?_eq_getElem hi]
      rfl
    show MmRel ((progs.map fun p => (⟨fill p, []⟩ : Mm)).getD i dMm) ((progs.map fun p => (⟨fill p, []⟩ : Mm)).getD i dMm)
    rw [e]
    have hl : (fill progs[i]).length = 256 := by
      unfold fill
      rw [List.length_append, List.length_replicate]
      have := hp _ (List.getElem_mem hi)
      omega
    exact ⟨rfl, hl, hl, List.nodup_nil, (fun _ h => nomatch h), fun j _ => rfl⟩
  · have e : keys ((progs.map fun p => (⟨fill p, []⟩ : Mm)).getD i dMm) = [] := by
      rw [List.getD_eq_getElem?_getD, List.getElem?_map]
      cases progs[i]? <;> rfl
    show a ∈ keys ((progs.map fun p => (⟨fill p, []⟩ : Mm)).getD i dMm) ↔ _
    rw [e]
    exact ⟨(fun h => nomatch h), (fun h => nomatch h)⟩
theorem pick_ok {c : Cl} {ad : Tg → PySem.Addr} {S : MS} {H : Hp} {k cpu : Nat} {what : Str} (o : Ok c ad S H k) (hc : cpu < S.rates.length) :
    WF { doPick c.kd S cpu what with views := [] } (k + 20) ∧ Pl c { doPick c.kd S cpu what with views := [] } ∧ (doPick c.kd S cpu what).mem.length = S.mem.length ∧ (doPick c.kd S cpu what).rates = S.rates ∧ (doPick c.kd S cpu what).views.length ≤ k + 20 := by
  obtain ⟨_, km, rt, w⟩ := doPick_ok (kd := c.kd) (what := what) o.W hc
  refine ⟨{ w with vw := Nat.zero_le _ }, fun h => ?_, ?_, rt, w.vw⟩
  · show ∀ ks ∈ (doPick c.kd S cpu what).mem.map (fun m => m.kept.map (·.1)), ks = []
    rw [km]
    exact o.pl h
  · have := congrArg List.length km
    rwa [List.length_map, List.length_map] at this
theorem sh_vws {vs : List Vw} (h : ∀ w ∈ vs, PyData.strOk w.kind = true) : D.Sh 4 (.list (vs.map vwD)) := .lst fun y hy => by
  obtain ⟨w, hw, e⟩ := List.mem_map.mp hy
  rw [← e]
  exact sh_vw (h w hw)
theorem dp_vws {K : PySem.W.Frag} {H : Hp} {v : PySem.Addr} {vw : List PySem.Addr} {vs : List Vw} (e : H v = some (.lst (vw.map V.ref))) (al : All2 (VwAt H) vw vs) : Dp K H (.ref v) (.list (vs.map vwD)) := .lst (R.sqL e) (dp_all2 (fun _ _ z => dp_vw z) al)
/-- v == v: the answer is no to != -/
theorem r_neSame {K : PySem.W.Frag} {H : Hp} {Q : VK} {x y : V} {d : PyData} {j : Nat} (hx : Dp K H x d) (hy : Dp K H y d) (s : D.Sh j d) (hj : j ≤ 64) (q : Q (.bl false) H) : rNeD K x y H Q :=
  D.r_neD (p := True) hx hy s s hj hj ⟨fun _ => trivial, fun _ => rfl⟩ (by simpa using q)
end MM
end
section
/-! the law's rows; what it makes at the start -/
namespace MM
open PySem PySem.Spec PyProof.Rows L2
/-- programs at a list, while they are made -/
structure Pgs (pw dl : PySem.Addr) (H : Hp) (D : PySem.Addr) (i : Nat) (H' : Hp) : Prop where
  g : Gw pw dl H H'
  e : ∃ (as : List PySem.Addr) (progs : List (List Int)), H' D = some (.lst (as.map V.ref)) ∧ All2 (fun a (p : List Int) => H' a = some (.tup (p.map V.int))) as progs ∧ progs.length = i ∧ ∀ p ∈ progs, p.length ≤ 256 ∧ ∀ b ∈ p, 0 ≤ b
theorem Gw.put {pw dl D : PySem.Addr} {H H' : Hp} {o : HO} (g : Gw pw dl H H') (hD : H D = none) (hd : D ≠ pw ∧ D ≠ dl) : Gw pw dl H (upd H' D o) := by
  refine ⟨fun b u e n => ?_, ?_⟩
  · rw [upd_ne (ne_of_none e hD)]
    exact g.1 _ _ e n
  · obtain ⟨a, ds, e1, e2, h⟩ := g.2
    exact ⟨a, ds, by rw [upd_ne hd.1.symm]; exact e1, by rw [upd_ne hd.2.symm]; exact e2, h⟩
theorem Pgs.start {pw dl D : PySem.Addr} {H : Hp} (w : Wd H pw dl) (hD : H D = none) : Pgs pw dl H D 0 (upd H D (.lst [])) :=
  ⟨(Gw.refl w).put hD (w.ne hD), [], [], upd_same, .nil, rfl, fun _ h => nomatch h⟩
theorem Pgs.step {pw dl D p : PySem.Addr} {H H1 H2 : Hp} {i : Nat} {ns : List Int} (w : Wd H pw dl) (hD : H D = none) (h : Pgs pw dl H D i H1) (g : Gw pw dl H1 H2) (e : H2 p = some (.tup (ns.map V.int))) (l : ns.length ≤ 256) (b : ∀ x ∈ ns, 0 ≤ x) (hi : i < 1000) :
    ∃ acc, H2 D = some (.lst acc) ∧ acc.length < sizeLine ∧ Pgs pw dl H D (i + 1) (upd H2 D (.lst (acc ++ [.ref p]))) := by
  obtain ⟨g0, as, progs, eD, al, hl, hb⟩ := h
  have nD := w.ne hD
  have eD2 := g.1 _ _ eD nD.1
  have key : ∀ a xs, H2 a = some (.tup xs) → upd H2 D (.lst (as.map V.ref ++ [.ref p])) a = some (.tup xs) := fun a xs z => by
    rw [upd_ne (fun y => by rw [y, eD2] at z; cases z)]
    exact z
  have npw : ∀ a xs, H1 a = some (.tup xs) → a ≠ pw := fun a xs z y => by
    obtain ⟨_, _, e1, _⟩ := g0.2
    rw [y, e1] at z
    cases z
  refine ⟨_, eD2, R.size_lt (by rw [List.length_map, al.length]; omega), (g0.trans g).put hD nD, as ++ [p], progs ++ [ns], by rw [upd_same, List.map_append]; rfl, ?_, by rw [List.length_append, hl]; rfl, ?_⟩
  · exact All2.snoc (R := fun a (q : List Int) => upd H2 D (.lst (as.map V.ref ++ [.ref p])) a = some (.tup (q.map V.int))) (key _ _ e) (al.imp fun a q z => key _ _ (g.1 _ _ z (npw _ _ z)))
  · intro q hq
    rcases List.mem_append.mp hq with z | z
    · exact hb q z
    · rw [List.mem_singleton.mp z]; exact ⟨l, b⟩
/-- numbers at a list, while they are made -/
structure Rts (pw dl : PySem.Addr) (H : Hp) (D : PySem.Addr) (i : Nat) (H' : Hp) : Prop where
  g : Gw pw dl H H'
  e : ∃ ns : List Int, H' D = some (.lst (ns.map V.int)) ∧ ns.length = i
theorem Rts.start {pw dl D : PySem.Addr} {H : Hp} (w : Wd H pw dl) (hD : H D = none) : Rts pw dl H D 0 (upd H D (.lst [])) :=
  ⟨(Gw.refl w).put hD (w.ne hD), [], upd_same, rfl⟩
theorem Rts.step {pw dl D : PySem.Addr} {H H1 H2 : Hp} {i : Nat} {v : Int} (w : Wd H pw dl) (hD : H D = none) (h : Rts pw dl H D i H1) (g : Gw pw dl H1 H2) (hi : i < 1000) :
    ∃ acc, H2 D = some (.lst acc) ∧ acc.length < sizeLine ∧ Rts pw dl H D (i + 1) (upd H2 D (.lst (acc ++ [.int v]))) := by
  obtain ⟨g0, ns, eD, hl⟩ := h
  have nD := w.ne hD
  have eD2 := g.1 _ _ eD nD.1
  exact ⟨_, eD2, R.size_lt (by rw [List.length_map]; omega), (g0.trans g).put hD nD, ns ++ [v], by rw [upd_same, List.map_append]; rfl, by rw [List.length_append, hl]; rfl⟩
theorem KeepT.gw {pw dl : PySem.Addr} {H H' : Hp} (w : Wd H pw dl) (g : Gw pw dl H H') : KeepT H H' := fun b xs e => g.1 _ _ e fun z => by
  obtain ⟨_, _, e1, _⟩ := w
  rw [z, e1] at e
  cases e
theorem KeepT.mv {x : PySem.Addr} {H H' : Hp} (m : R.Mv x H H') (h : ∀ xs, H x ≠ some (.tup xs)) : KeepT H H' := fun b xs e => m _ _ e fun z => h xs (by rw [← z]; exact e)
end MM
namespace MM
open PySem PySem.Spec PyProof.Rows L2
theorem pl_start {c : Cl} {progs : List (List Int)} {rates : List Int} : Pl c (S0 progs rates) := fun _ ks h => by
  obtain ⟨m, hm, rfl⟩ := List.mem_map.mp h
  have hm : m ∈ progs.map fun p => (⟨fill p, []⟩ : Mm) := hm
  obtain ⟨p, _, rfl⟩ := List.mem_map.mp hm
  rfl
theorem none_ne {H : Hp} {a b : PySem.Addr} {o : HO} (h : H a = none) (e : H b = some o) : a ≠ b := (ne_of_none e h).symm
theorem make_same {H : Hp} {x d C : PySem.Addr} (hx : H x = none) (hd : H d = none) : Same H (upd (upd H d (.own x)) x (.ins C d [])) := fun c o h => by
  rw [upd_ne (ne_of_none h hx), upd_ne (ne_of_none h hd)]
  exact h
end MM
end
section
namespace MM
open PySem PySem.Spec PyProof.Rows L2
structure LC (c1 c2 : Cl) (C1 C2 : PySem.Addr) (progs : List (List Int)) (rates : List Int) (pg rt pw dl x1 x2 l : PySem.Addr) (ad1 ad2 : Tg → PySem.Addr) (S P : MS) (pl : List (Int × Int)) (k : Nat) (H : Hp) : Prop where
  b : LB c1 c2 C1 C2 progs.length rates.length pw dl x1 x2 l ad1 ad2 S P pl k H
  pg : PgAt H pg progs
  rt : H rt = some (.tup (rates.map V.int))
section
variable {c1 c2 : Cl} {C1 C2 : PySem.Addr} {progs : List (List Int)} {rates : List Int} {pg rt pw dl x1 x2 l l' : PySem.Addr} {ad1 ad2 ad1' ad2' : Tg → PySem.Addr} {S P S' P' : MS} {pl pl' : List (Int × Int)} {k k' : Nat} {H H' : Hp}
theorem LC.to (h : LC c1 c2 C1 C2 progs rates pg rt pw dl x1 x2 l ad1 ad2 S P pl k H) (kt : KeepT H H') (b : LB c1 c2 C1 C2 progs.length rates.length pw dl x1 x2 l' ad1' ad2' S' P' pl' k' H') : LC c1 c2 C1 C2 progs rates pg rt pw dl x1 x2 l' ad1' ad2' S' P' pl' k' H' :=
  ⟨b, h.pg.keep kt, kt _ _ h.rt⟩
theorem LC.same (h : LC c1 c2 C1 C2 progs rates pg rt pw dl x1 x2 l ad1 ad2 S P pl k H) (s : Same H H') : LC c1 c2 C1 C2 progs rates pg rt pw dl x1 x2 l ad1 ad2 S P pl k H' := h.to (KeepT.of s) (h.b.same s)
theorem LC.gw (h : LC c1 c2 C1 C2 progs rates pg rt pw dl x1 x2 l ad1 ad2 S P pl k H) (g : Gw pw dl H H') : LC c1 c2 C1 C2 progs rates pg rt pw dl x1 x2 l ad1 ad2 S P pl k H' := h.to (KeepT.gw h.b.wd g) (h.b.gw g)
end
theorem pickI {i : Int} {ps : List PySem.Addr} {H : Hp} {pl : List (Int × Int)} (al : All2 (PrAt H) ps pl) (h0 : 0 ≤ i) (h1 : i < ps.length) : ∃ a p, atI (ps.map V.ref) i = some (.ref a) ∧ PrAt H a p ∧ p ∈ pl := by
  have h : i.toNat < ps.length := by omega
  have h2 : i.toNat < pl.length := by rw [← al.length]; exact h
  obtain ⟨a, ea, z⟩ := al.get (List.getElem?_eq_getElem h2)
  exact ⟨a, _, R.at_nat h0 (by rw [List.getElem?_map, ea]; rfl), z, List.getElem_mem h2⟩
end MM
end
section
/-! the law of the tracing that isn't felt -/
namespace MM
open PySem PySem.Spec PyProof.Rows L2
theorem LB.newg {c1 c2 : Cl} {C1 C2 : PySem.Addr} {n r : Nat} {pw dl x1 x2 l l' : PySem.Addr} {ad1 ad2 : Tg → PySem.Addr} {S P : MS} {pl pl' : List (Int × Int)} {k : Nat} {H H' : Hp} (h : LB c1 c2 C1 C2 n r pw dl x1 x2 l ad1 ad2 S P pl k H) (s : Same H H') (hl : H l' = none) (e : PlAt H' l' pl') (nd : pl'.Nodup)
    (pr : ∀ q ∈ pl', 0 ≤ q.1 ∧ q.1 < (n : Int) ∧ 0 ≤ q.2 ∧ q.2 < 256) (ln : pl'.length ≤ k) : LB c1 c2 C1 C2 n r pw dl x1 x2 l' ad1 ad2 S P pl' k H' :=
  { h.same s with
    w1 := fun t => ⟨(h.w1 t).1, (h.w1 t).2.1, (h.w1 t).2.2.1, (h.w1 t).2.2.2.1, h.o1.B.none hl t⟩
    w2 := fun t => ⟨(h.w2 t).1, (h.w2 t).2.1, (h.w2 t).2.2.1, (h.w2 t).2.2.2.1, h.o2.B.none hl t⟩
    ld := fun z => (h.wd.ne hl).2 z.symm
    pt := e
    nd := nd
    pr := pr
    ln := ln }
theorem nodup_snoc {α : Type} {l : List α} {p : α} (h : l.Nodup) (hn : p ∉ l) : (l ++ [p]).Nodup := by
  rw [List.nodup_append]
  refine ⟨h, List.nodup_cons.mpr ⟨(fun z => nomatch z), List.nodup_nil⟩, fun x hx y hy => ?_⟩
  rw [List.mem_singleton.mp hy]
  rintro rfl
  exact hn hx
theorem r_eqSame {K : PySem.W.Frag} {H : Hp} {Q : VK} {x y : V} {d : PyData} {j : Nat} (hx : Dp K H x d) (hy : Dp K H y d) (s : D.Sh j d) (hj : j ≤ 64) (q : Q (.bl true) H) : rEqD K x y H Q :=
  D.r_eqD (p := True) hx hy s s hj hj ⟨fun _ => trivial, fun _ => rfl⟩ (by simpa using q)
def celD (m : Mm) : PyData := .tuple (m.cells.map PyData.int)
theorem raw_eq {S P : MS} (h : Sim [] S P) : S.mem.map celD = P.mem.map imgD := by
  have hl : S.mem.length = P.mem.length := by
    obtain ⟨M, V, rfl, m, v⟩ := h
    exact m.1
  refine List.ext_getElem? fun i => ?_
  rw [List.getElem?_map, List.getElem?_map]
  by_cases hi : i < P.mem.length
  · obtain ⟨h1, h2, h3, h4⟩ := h.raw hi
    have e : (S.mm i).cells = (P.mm i).img := ext_getD (n := 256) h2 h3 fun j hj => by
      rw [h4 j hj, if_neg (fun z => nomatch z)]
    rw [mm_get h1, mm_get hi]
    show some (celD (S.mm i)) = some (imgD (P.mm i))
    unfold celD imgD
    rw [e]
  · rw [List.getElem?_eq_none (by omega), List.getElem?_eq_none (by omega)]
    rfl
theorem sh_imgs {l : List Mm} : D.Sh 2 (.tuple (l.map imgD)) := .tup fun y hy => by
  obtain ⟨m, _, e⟩ := List.mem_map.mp hy
  rw [← e]; exact sh_img m
def RwAt (H : Hp) (a : PySem.Addr) (m : Mm) : Prop := H a = some (.tup (m.cells.map V.int))
theorem dp_rw {K : PySem.W.Frag} {H : Hp} {a : PySem.Addr} {m : Mm} (h : RwAt H a m) : Dp K H (.ref a) (celD m) := .tup (R.sqT h) D.all_ints
theorem no_stops {S P : MS} {L : List (Int × Int)} (h : Sim [] S P) (hs : StopL S S.mem.length L) : L = [] := by
  cases L with
  | nil => rfl
  | cons q r =>
    obtain ⟨j, hj, e, hk⟩ := (hs.2 q.1 q.2).mp List.mem_cons_self
    obtain ⟨M, V, rfl, m, v⟩ := h
    cases (m.2.2 j q.2).mp hk
theorem drop_mem {pl : List (Int × Int)} {i : Nat} {p q : Int × Int} (hn : pl.Nodup) (e : pl[i]? = some p) : q ∈ pl.drop (i + 1) ↔ q ∈ pl.drop i ∧ q ≠ p := by
  have hi := (List.getElem?_eq_some_iff.mp e).1
  have ep := (List.getElem?_eq_some_iff.mp e).2
  have hd : pl.drop i = p :: pl.drop (i + 1) := by rw [← ep]; exact List.drop_eq_getElem_cons hi
  have nd : (pl.drop i).Nodup := List.Nodup.sublist (List.drop_sublist _ _) hn
  rw [hd, List.nodup_cons] at nd
  rw [hd, List.mem_cons]
  constructor
  · intro h
    exact ⟨.inr h, fun z => nd.1 (by rw [← z]; exact h)⟩
  · rintro ⟨h | h, n⟩
    · exact absurd h n
    · exact h
end MM
end
section
/-! things that stand each at a place of its own; the laws' own machine -/
namespace LM
open PySem PySem.Spec PyProof.Rows L2 MM
/-- ct's things stand at ad's places, each apart -/
structure Lay {T : Type} (ad : T → PySem.Addr) (ct : T → Option HO) (H : Hp) : Prop where
  at' : ∀ t o, ct t = some o → H (ad t) = some o
  inj : ∀ t u o o', ct t = some o → ct u = some o' → ad t = ad u → t = u
section
variable {T : Type} [DecidableEq T] {ad : T → PySem.Addr} {ct ct' : T → Option HO} {H H' : Hp}
theorem Lay.same (L : Lay ad ct H) (s : Same H H') : Lay ad ct H' := ⟨fun t o h => s _ _ (L.at' t o h), L.inj⟩
theorem Lay.congr (L : Lay ad ct H) (e : ∀ t, ct' t = ct t) : Lay ad ct' H := ⟨fun t o h => L.at' t o (by rw [← e]; exact h), fun t u o o' h h' => L.inj t u o o' (by rw [← e]; exact h) (by rw [← e]; exact h')⟩
theorem Lay.put (L : Lay ad ct H) {t : T} {o : HO} (h : ct t = some o) (o' : HO) : Lay ad (fun u => if u = t then some o' else ct u) (upd H (ad t) o') := by
  have dm : ∀ u x, (if u = t then some o' else ct u) = some x → ∃ y, ct u = some y := fun u x e => by
    by_cases z : u = t
    · exact ⟨o, by rw [z]; exact h⟩
    · rw [if_neg z] at e
      exact ⟨x, e⟩
  refine ⟨fun u x e => ?_, fun u v x y e e' q => ?_⟩
  · by_cases z : u = t
    · rw [if_pos z] at e
      rw [z, upd_same]
      exact e
    · rw [if_neg z] at e
      rw [upd_ne (fun q => z (L.inj _ _ _ _ e h q))]
      exact L.at' _ _ e
  · obtain ⟨x', ex⟩ := dm _ _ e
    obtain ⟨y', ey⟩ := dm _ _ e'
    exact L.inj _ _ _ _ ex ey q
/-- a thing at a new address -/
theorem Lay.new (L : Lay ad ct H) (t : T) {p : PySem.Addr} (hp : H p = none) (o' : HO) : Lay (fun u => if u = t then p else ad u) (fun u => if u = t then some o' else ct u) (upd H p o') := by
  refine ⟨fun u x e => ?_, fun u v x y e e' q => ?_⟩
  · by_cases z : u = t
    · rw [if_pos z] at e
      show upd H p o' (if u = t then p else ad u) = some x
      rw [if_pos z, upd_same]
      exact e
    · rw [if_neg z] at e
      show upd H p o' (if u = t then p else ad u) = some x
      have e1 := L.at' _ _ e
      rw [if_neg z, upd_ne (ne_of_none e1 hp)]
      exact e1
  · have q : (if u = t then p else ad u) = (if v = t then p else ad v) := q
    by_cases z : u = t
    · by_cases z' : v = t
      · rw [z, z']
      · rw [if_pos z, if_neg z'] at q
        rw [if_neg z'] at e'
        exact absurd q.symm (ne_of_none (L.at' _ _ e') hp)
    · rw [if_neg z] at q e
      by_cases z' : v = t
      · rw [if_pos z'] at q
        exact absurd q (ne_of_none (L.at' _ _ e) hp)
      · rw [if_neg z'] at q e'
        exact L.inj _ _ _ _ e e' q
end
inductive Tg
  | m | memL | thsL | rdyL | timL | runL | evL | devL | reqL
  | th (i : Nat) | rg (i : Nat) | me (i : Nat)
deriving DecidableEq
def dom (nt nm : Nat) : Tg → Prop
  | .th i => i < nt
  | .rg i => i < nt
  | .me i => i < nm
  | _ => True
/-- these never move -/
def fixed : Tg → Bool
  | .rdyL => false
  | .evL => false
  | .devL => false
  | .reqL => false
  | _ => true
structure Gh where
  cv : Nat → PySem.Addr
  cl : Nat → PySem.Addr
  vw : List PySem.Addr
  rq : List PySem.Addr
  rt : PySem.Addr
def mD (ad : Tg → PySem.Addr) (rt : PySem.Addr) : List (Key × V) :=
  [(.inr "mem", .ref (ad .memL)), (.inr "rates", .ref rt), (.inr "events", .ref (ad .evL)), (.inr "time", .ref (ad .timL)), (.inr "runs", .ref (ad .runL)), (.inr "threads", .ref (ad .thsL)), (.inr "ready", .ref (ad .rdyL)), (.inr "device", .ref (ad .devL))]
def tD (rg cv cl : PySem.Addr) (t : Th) : List (Key × V) := [(.inr "pid", .int (t.pid : Int)), (.inr "pc", .int t.pc), (.inr "regs", .ref rg), (.inr "is", .ref cv), (.inr "call", .ref cl)]
def cont (ad : Tg → PySem.Addr) (g : Gh) (S : MS) : Tg → Option HO
  | .m => some (.dK (mD ad g.rt))
  | .memL => some (.lst ((List.range S.mem.length).map fun i => V.ref (ad (.me i))))
  | .thsL => some (.lst ((List.range S.ths.length).map fun i => V.ref (ad (.th i))))
  | .rdyL => some (.lst (S.ready.map fun i : Nat => V.int (i : Int)))
  | .timL => some (.lst (S.times.map V.int))
  | .runL => some (.lst (S.run.map V.int))
  | .evL => some (.lst (g.vw.map V.ref))
  | .devL => some (.lst [.int S.dev, .ref (ad .reqL)])
  | .reqL => some (.lst (g.rq.map V.ref))
  | .th i => S.ths[i]?.map fun t => .dK (tD (ad (.rg i)) (g.cv i) (g.cl i) t)
  | .rg i => S.ths[i]?.map fun t => .lst (t.regs.map V.int)
  | .me i => S.mem[i]?.map fun m => .lst (m.cells.map V.int)
theorem dom_some {ad : Tg → PySem.Addr} {g : Gh} {S : MS} {t : Tg} {o : HO} (h : cont ad g S t = some o) : dom S.ths.length S.mem.length t := by
  cases t with
  | th i =>
    cases e : S.ths[i]? with
    | none => simp [cont, e] at h
    | some x => exact (List.getElem?_eq_some_iff.mp e).1
  | rg i =>
    cases e : S.ths[i]? with
    | none => simp [cont, e] at h
    | some x => exact (List.getElem?_eq_some_iff.mp e).1
  | me i =>
    cases e : S.mem[i]? with
    | none => simp [cont, e] at h
    | some x => exact (List.getElem?_eq_some_iff.mp e).1
  | _ => trivial
theorem some_dom {ad : Tg → PySem.Addr} {g : Gh} {S : MS} {t : Tg} (h : dom S.ths.length S.mem.length t) : ∃ o, cont ad g S t = some o := by
  cases t with
  | th i => exact ⟨_, by show S.ths[i]?.map _ = _; rw [List.getElem?_eq_getElem h]; rfl⟩
  | rg i => exact ⟨_, by show S.ths[i]?.map _ = _; rw [List.getElem?_eq_getElem h]; rfl⟩
  | me i => exact ⟨_, by show S.mem[i]?.map _ = _; rw [List.getElem?_eq_getElem h]; rfl⟩
  | _ => exact ⟨_, rfl⟩
/-- the call's pair -/
def ClAt (H : Hp) (a : PySem.Addr) (t : Th) : Prop := H a = some (.tup [.int t.call, .int t.callAt])
/-- the state S stands in H, in the law's own form -/
structure Lm (ad : Tg → PySem.Addr) (S : MS) (H : Hp) : Prop where
  ex : ∃ g : Gh, Lay ad (cont ad g S) H ∧ (∀ i t, S.ths[i]? = some t → H (g.cv i) = some (.tup (condV t.cond)) ∧ ClAt H (g.cl i) t) ∧ All2 (RqAt H) g.rq S.reqs ∧ All2 (VwAt H) g.vw S.views ∧ H g.rt = some (.tup (S.rates.map V.int))
def Own (ad : Tg → PySem.Addr) (nt nm : Nat) (b : PySem.Addr) : Prop := ∃ t, dom nt nm t ∧ ad t = b
/-- a step: what isn't owned stands, what gets owned is new -/
structure Mvl (nt nm : Nat) (ad : Tg → PySem.Addr) (nt' nm' : Nat) (ad' : Tg → PySem.Addr) (H H' : Hp) : Prop where
  fr : ∀ b o, H b = some o → ¬ Own ad nt nm b → H' b = some o
  nw : ∀ b, Own ad' nt' nm' b → Own ad nt nm b ∨ H b = none
  kt : KeepT H H'
  ag : ∀ t, fixed t = true → dom nt nm t → ad' t = ad t
theorem Mvl.refl {nt nm : Nat} {ad : Tg → PySem.Addr} {H : Hp} : Mvl nt nm ad nt nm ad H H := ⟨fun _ _ h _ => h, fun _ h => .inl h, KeepT.refl H, fun _ _ _ => rfl⟩
theorem Mvl.of {nt nm : Nat} {ad : Tg → PySem.Addr} {H H' : Hp} (s : Same H H') : Mvl nt nm ad nt nm ad H H' := ⟨fun b o h _ => s b o h, fun _ h => .inl h, KeepT.of s, fun _ _ _ => rfl⟩
theorem dom_mono {nt nm nt' nm' : Nat} (h1 : nt ≤ nt') (h2 : nm ≤ nm') {t : Tg} (d : dom nt nm t) : dom nt' nm' t := by
  cases t with
  | th i => exact Nat.lt_of_lt_of_le d h1
  | rg i => exact Nat.lt_of_lt_of_le d h1
  | me i => exact Nat.lt_of_lt_of_le d h2
  | _ => trivial
theorem Mvl.trans {n1 m1 n2 m2 n3 m3 : Nat} {a1 a2 a3 : Tg → PySem.Addr} {H H1 H2 : Hp} (hn : n1 ≤ n2) (hm : m1 ≤ m2) (x : Mvl n1 m1 a1 n2 m2 a2 H H1) (y : Mvl n2 m2 a2 n3 m3 a3 H1 H2) : Mvl n1 m1 a1 n3 m3 a3 H H2 where
  fr b o h n := y.fr b o (x.fr b o h n) fun z => by
    rcases x.nw b z with q | q
    · exact n q
    · rw [h] at q; cases q
  nw b h := by
    rcases y.nw b h with q | q
    · exact x.nw b q
    · by_cases z : Own a1 n1 m1 b
      · exact .inl z
      · refine .inr ?_
        cases e : H b with
        | none => rfl
        | some o => rw [x.fr _ _ e z] at q; cases q
  kt := x.kt.trans y.kt
  ag t ht d := (y.ag t ht (dom_mono hn hm d)).trans (x.ag t ht d)
section
variable {ad : Tg → PySem.Addr} {S S' : MS} {H H' : Hp}
theorem Lm.same (B : Lm ad S H) (s : Same H H') : Lm ad S H' := by
  obtain ⟨g, h1, h2, h3, h4, h5⟩ := B
  exact ⟨g, h1.same s, fun i t e => ⟨s _ _ (h2 i t e).1, s _ _ (h2 i t e).2⟩, h3.imp fun _ _ z => s _ _ z, h4.imp fun _ _ z => z.keep (KeepT.of s), s _ _ h5⟩
theorem cont_nt {ad : Tg → PySem.Addr} {g : Gh} {S : MS} {t : Tg} {o : HO} (h : cont ad g S t = some o) : ∀ xs, o ≠ .tup xs := by
  intro xs e
  subst e
  cases t <;> simp [cont] at h
theorem Mvl.put {nt nm : Nat} {t : Tg} {o o' : HO} (d : dom nt nm t) (h : H (ad t) = some o) (hn : ∀ xs, o ≠ .tup xs) : Mvl nt nm ad nt nm ad H (upd H (ad t) o') :=
  ⟨fun b u hb q => by rw [upd_ne (fun z => q ⟨t, d, z.symm⟩)]; exact hb, fun b h => .inl h, KeepT.upd h hn, fun _ _ _ => rfl⟩
/-- one thing changes at its place; the tuples around may be others -/
theorem Lm.put {t : Tg} {o o' : HO} {g g' : Gh} (L : Lay ad (cont ad g S) H) (ht : cont ad g S t = some o) (hc : ∀ u, cont ad g' S' u = if u = t then some o' else cont ad g S u)
    (h2 : ∀ i t, S'.ths[i]? = some t → H (g'.cv i) = some (.tup (condV t.cond)) ∧ ClAt H (g'.cl i) t) (h3 : All2 (RqAt H) g'.rq S'.reqs) (h4 : All2 (VwAt H) g'.vw S'.views) (h5 : H g'.rt = some (.tup (S'.rates.map V.int))) :
    Lm ad S' (upd H (ad t) o') ∧ Mvl S.ths.length S.mem.length ad S.ths.length S.mem.length ad H (upd H (ad t) o') := by
  have kt : KeepT H (upd H (ad t) o') := KeepT.upd (L.at' _ _ ht) (cont_nt ht)
  exact ⟨⟨g', (L.put ht o').congr hc, fun i t e => ⟨kt _ _ (h2 i t e).1, kt _ _ (h2 i t e).2⟩, h3.imp fun _ _ z => kt _ _ z, h4.imp fun _ _ z => z.keep kt, kt _ _ h5⟩, Mvl.put (dom_some ht) (L.at' _ _ ht) (cont_nt ht)⟩
end
end LM
end
section
/-! the laws' own machine: reading, and one thing changed -/
namespace LM
open PySem PySem.Spec PyProof.Rows L2 MM
abbrev Mv0 (S : MS) (ad : Tg → PySem.Addr) (H H' : Hp) : Prop := Mvl S.ths.length S.mem.length ad S.ths.length S.mem.length ad H H'
section
variable {ad : Tg → PySem.Addr} {S : MS} {H : Hp} {i : Nat} {P : V → Prop} {Q : VK} {G : Hp → Prop} {K : PySem.W.Frag}
theorem Lm.at_m (B : Lm ad S H) : ∃ rt, H (ad .m) = some (.dK (mD ad rt)) ∧ H rt = some (.tup (S.rates.map V.int)) := by
  obtain ⟨g, L, _, _, _, h5⟩ := B
  exact ⟨g.rt, L.at' .m _ rfl, h5⟩
theorem Lm.at_th (B : Lm ad S H) (hi : i < S.ths.length) : ∃ c0 c1, H (ad (.th i)) = some (.dK (tD (ad (.rg i)) c0 c1 (S.th i))) ∧ H c0 = some (.tup (condV (S.th i).cond)) ∧ ClAt H c1 (S.th i) := by
  obtain ⟨g, L, h2, _⟩ := B
  have e := th_get hi
  exact ⟨g.cv i, g.cl i, L.at' (.th i) _ (by show S.ths[i]?.map _ = _; rw [e]; rfl), (h2 i _ e).1, (h2 i _ e).2⟩
theorem Lm.at_rg (B : Lm ad S H) (hi : i < S.ths.length) : H (ad (.rg i)) = some (.lst ((S.th i).regs.map V.int)) := by
  obtain ⟨g, L, _⟩ := B
  exact L.at' (.rg i) _ (by show S.ths[i]?.map _ = _; rw [th_get hi]; rfl)
theorem Lm.at_me (B : Lm ad S H) (hi : i < S.mem.length) : H (ad (.me i)) = some (.lst ((S.mm i).cells.map V.int)) := by
  obtain ⟨g, L, _⟩ := B
  exact L.at' (.me i) _ (by show S.mem[i]?.map _ = _; rw [mm_get hi]; rfl)
theorem Lm.at_thsL (B : Lm ad S H) : H (ad .thsL) = some (.lst ((List.range S.ths.length).map fun i => V.ref (ad (.th i)))) := by obtain ⟨g, L, _⟩ := B; exact L.at' .thsL _ rfl
theorem Lm.at_memL (B : Lm ad S H) : H (ad .memL) = some (.lst ((List.range S.mem.length).map fun i => V.ref (ad (.me i)))) := by obtain ⟨g, L, _⟩ := B; exact L.at' .memL _ rfl
theorem Lm.at_rdy (B : Lm ad S H) : H (ad .rdyL) = some (.lst (S.ready.map fun i : Nat => V.int (i : Int))) := by obtain ⟨g, L, _⟩ := B; exact L.at' .rdyL _ rfl
theorem Lm.at_tim (B : Lm ad S H) : H (ad .timL) = some (.lst (S.times.map V.int)) := by obtain ⟨g, L, _⟩ := B; exact L.at' .timL _ rfl
theorem Lm.at_run (B : Lm ad S H) : H (ad .runL) = some (.lst (S.run.map V.int)) := by obtain ⟨g, L, _⟩ := B; exact L.at' .runL _ rfl
theorem Lm.at_dev (B : Lm ad S H) : H (ad .devL) = some (.lst [.int S.dev, .ref (ad .reqL)]) := by obtain ⟨g, L, _⟩ := B; exact L.at' .devL _ rfl
theorem Lm.at_ev (B : Lm ad S H) : ∃ vw, H (ad .evL) = some (.lst (vw.map V.ref)) ∧ All2 (VwAt H) vw S.views := by obtain ⟨g, L, _, _, h4, _⟩ := B; exact ⟨g.vw, L.at' .evL _ rfl, h4⟩
theorem Lm.at_rq (B : Lm ad S H) : ∃ rq, H (ad .reqL) = some (.lst (rq.map V.ref)) ∧ All2 (RqAt H) rq S.reqs := by obtain ⟨g, L, _, h3, _⟩ := B; exact ⟨g.rq, L.at' .reqL _ rfl, h3⟩
/-! keys of the machine -/
theorem g_mem (B : Lm ad S H) (h : P (.ref (ad .memL))) : ∃ a v, V.ref (ad .m) = .ref a ∧ DGet H a (.str "mem") (some v) ∧ P v := by obtain ⟨rt, e, _⟩ := B.at_m; exact R.r_dgetS e rfl h
theorem g_events (B : Lm ad S H) (h : P (.ref (ad .evL))) : ∃ a v, V.ref (ad .m) = .ref a ∧ DGet H a (.str "events") (some v) ∧ P v := by obtain ⟨rt, e, _⟩ := B.at_m; exact R.r_dgetS e rfl h
theorem g_time (B : Lm ad S H) (h : P (.ref (ad .timL))) : ∃ a v, V.ref (ad .m) = .ref a ∧ DGet H a (.str "time") (some v) ∧ P v := by obtain ⟨rt, e, _⟩ := B.at_m; exact R.r_dgetS e rfl h
theorem g_runs (B : Lm ad S H) (h : P (.ref (ad .runL))) : ∃ a v, V.ref (ad .m) = .ref a ∧ DGet H a (.str "runs") (some v) ∧ P v := by obtain ⟨rt, e, _⟩ := B.at_m; exact R.r_dgetS e rfl h
theorem g_threads (B : Lm ad S H) (h : P (.ref (ad .thsL))) : ∃ a v, V.ref (ad .m) = .ref a ∧ DGet H a (.str "threads") (some v) ∧ P v := by obtain ⟨rt, e, _⟩ := B.at_m; exact R.r_dgetS e rfl h
theorem g_ready (B : Lm ad S H) (h : P (.ref (ad .rdyL))) : ∃ a v, V.ref (ad .m) = .ref a ∧ DGet H a (.str "ready") (some v) ∧ P v := by obtain ⟨rt, e, _⟩ := B.at_m; exact R.r_dgetS e rfl h
theorem g_device (B : Lm ad S H) (h : P (.ref (ad .devL))) : ∃ a v, V.ref (ad .m) = .ref a ∧ DGet H a (.str "device") (some v) ∧ P v := by obtain ⟨rt, e, _⟩ := B.at_m; exact R.r_dgetS e rfl h
theorem g_rates (B : Lm ad S H) (h : ∀ rt, H rt = some (.tup (S.rates.map V.int)) → P (.ref rt)) : ∃ a v, V.ref (ad .m) = .ref a ∧ DGet H a (.str "rates") (some v) ∧ P v := by obtain ⟨rt, e, e2⟩ := B.at_m; exact R.r_dgetS e rfl (h rt e2)
/-! keys of a thread -/
theorem g_pid (B : Lm ad S H) (hi : i < S.ths.length) (h : P (.int ((S.th i).pid : Int))) : ∃ a v, V.ref (ad (.th i)) = .ref a ∧ DGet H a (.str "pid") (some v) ∧ P v := by obtain ⟨_, _, e, _⟩ := B.at_th hi; exact R.r_dgetS e rfl h
theorem g_pc (B : Lm ad S H) (hi : i < S.ths.length) (h : P (.int (S.th i).pc)) : ∃ a v, V.ref (ad (.th i)) = .ref a ∧ DGet H a (.str "pc") (some v) ∧ P v := by obtain ⟨_, _, e, _⟩ := B.at_th hi; exact R.r_dgetS e rfl h
theorem g_regs (B : Lm ad S H) (hi : i < S.ths.length) (h : P (.ref (ad (.rg i)))) : ∃ a v, V.ref (ad (.th i)) = .ref a ∧ DGet H a (.str "regs") (some v) ∧ P v := by obtain ⟨_, _, e, _⟩ := B.at_th hi; exact R.r_dgetS e rfl h
theorem g_is (B : Lm ad S H) (hi : i < S.ths.length) (h : ∀ c0, H c0 = some (.tup (condV (S.th i).cond)) → P (.ref c0)) : ∃ a v, V.ref (ad (.th i)) = .ref a ∧ DGet H a (.str "is") (some v) ∧ P v := by obtain ⟨c0, _, e, e2, _⟩ := B.at_th hi; exact R.r_dgetS e rfl (h c0 e2)
theorem g_call (B : Lm ad S H) (hi : i < S.ths.length) (h : ∀ c1, H c1 = some (.tup [.int (S.th i).call, .int (S.th i).callAt]) → P (.ref c1)) : ∃ a v, V.ref (ad (.th i)) = .ref a ∧ DGet H a (.str "call") (some v) ∧ P v := by obtain ⟨_, c1, e, _, e3⟩ := B.at_th hi; exact R.r_dgetS e rfl (h c1 e3)
/-! items -/
theorem x_ths (B : Lm ad S H) (hi : i < S.ths.length) (h : Q (.ref (ad (.th i))) H) : rIxL K (.ref (ad .thsL)) (.int (i : Int)) H Q :=
  R.r_ixL (R.sqL B.at_thsL) (atI_nat (by rw [List.getElem?_map, List.getElem?_range hi]; rfl)) h
theorem x_mem (B : Lm ad S H) (hi : i < S.mem.length) (h : Q (.ref (ad (.me i))) H) : rIxL K (.ref (ad .memL)) (.int (i : Int)) H Q :=
  R.r_ixL (R.sqL B.at_memL) (atI_nat (by rw [List.getElem?_map, List.getElem?_range hi]; rfl)) h
theorem x_tim (B : Lm ad S H) (hi : i < S.times.length) (h : Q (.int (S.times.getD i 0)) H) : rIxL K (.ref (ad .timL)) (.int (i : Int)) H Q := R.r_ixL (R.sqL B.at_tim) (atI_nat (getD_get hi)) h
theorem x_run (B : Lm ad S H) (hi : i < S.run.length) (h : Q (.int (S.run.getD i 0)) H) : rIxL K (.ref (ad .runL)) (.int (i : Int)) H Q := R.r_ixL (R.sqL B.at_run) (atI_nat (getD_get hi)) h
theorem x_rg {j : Int} {k : Nat} (B : Lm ad S H) (W : WF S k) (hi : i < S.ths.length) (h0 : 0 ≤ j) (h4 : j < 4) (h : Q (.int (reg S i j.toNat)) H) : rIxL K (.ref (ad (.rg i))) (.int j) H Q :=
  R.r_ixL (R.sqL (B.at_rg hi)) (R.at_nat h0 (getD_get (by rw [(W.tok hi).len]; omega))) h
theorem x_me {j : Int} {k : Nat} (B : Lm ad S H) (W : WF S k) (hi : i < S.mem.length) (h0 : 0 ≤ j) (h4 : j < 256) (h : Q (.int ((S.mm i).cells.getD j.toNat 0)) H) : rIxL K (.ref (ad (.me i))) (.int j) H Q :=
  R.r_ixL (R.sqL (B.at_me hi)) (R.at_nat h0 (getD_get (by rw [(W.mm _ (mm_mem hi)).len]; omega))) h
theorem x_dev0 (B : Lm ad S H) (h : Q (.int S.dev) H) : rIxL K (.ref (ad .devL)) (.int 0) H Q := R.r_ixL (R.sqL B.at_dev) rfl h
theorem x_dev1 (B : Lm ad S H) (h : Q (.ref (ad .reqL)) H) : rIxL K (.ref (ad .devL)) (.int 1) H Q := R.r_ixL (R.sqL B.at_dev) rfl h
theorem l_ths (B : Lm ad S H) (h : Q (.int (S.ths.length : Int)) H) : R.rLenS K [.ref (ad .thsL)] H Q := by
  refine R.r_lenL (R.sqL B.at_thsL) ?_
  rw [List.length_map, List.length_range]
  exact h
/-! one thing changed -/
theorem ite_t {α : Type} {u t : Tg} {x y : α} (h : u = t) : (if u = t then x else y) = x := if_pos h
theorem Lm.setTh {t' : Th} {c0 c1 : PySem.Addr} (B : Lm ad S H) (hi : i < S.ths.length) (hr : t'.regs = (S.th i).regs) (hc : H c0 = some (.tup (condV t'.cond))) (hl : ClAt H c1 t') :
    Lm ad (S.setTh i t') (upd H (ad (.th i)) (.dK (tD (ad (.rg i)) c0 c1 t'))) ∧ Mv0 S ad H (upd H (ad (.th i)) (.dK (tD (ad (.rg i)) c0 c1 t'))) := by
  obtain ⟨g, L, h2, h3, h4, h5⟩ := B
  have e := th_get hi
  have len : (S.setTh i t').ths.length = S.ths.length := List.length_set
  have get : ∀ j, (S.setTh i t').ths[j]? = if j = i then some t' else S.ths[j]? := fun j => by
    by_cases z : j = i
    · rw [if_pos z, z]; exact List.getElem?_set_self hi
    · rw [if_neg z]; exact List.getElem?_set_ne (fun q => z q.symm)
  refine Lm.put (g' := { g with cv := fun j => if j = i then c0 else g.cv j, cl := fun j => if j = i then c1 else g.cl j }) (S' := S.setTh i t') L (t := .th i) (by show S.ths[i]?.map _ = _; rw [e]; rfl) (fun u => ?_) (fun j t e' => ?_) h3 h4 h5
  · cases u with
    | th j =>
      show (S.setTh i t').ths[j]?.map _ = _
      rw [get]
      by_cases z : j = i
      · subst z
        rw [if_pos rfl, ite_t rfl]
        show some (HO.dK (tD _ (if j = j then c0 else g.cv j) (if j = j then c1 else g.cl j) t')) = _
        rw [if_pos rfl, if_pos rfl]
      · rw [if_neg z, if_neg (fun q => z (Tg.th.inj q))]
        show S.ths[j]?.map (fun t => HO.dK (tD _ (if j = i then c0 else g.cv j) (if j = i then c1 else g.cl j) t)) = _
        rw [if_neg z, if_neg z]
        rfl
    | rg j =>
      show (S.setTh i t').ths[j]?.map _ = _
      rw [get]
      by_cases z : j = i
      · subst z
        rw [if_pos rfl, if_neg (by nofun)]
        show some (HO.lst (t'.regs.map V.int)) = S.ths[j]?.map _
        rw [e, hr]
        rfl
      · rw [if_neg z, if_neg (by nofun)]
        rfl
    | thsL =>
      show some (HO.lst ((List.range (S.setTh i t').ths.length).map _)) = _
      rw [len]
      rfl
    | _ => rfl
  · rw [get] at e'
    show H (if j = i then c0 else g.cv j) = _ ∧ ClAt H (if j = i then c1 else g.cl j) t
    by_cases z : j = i
    · rw [if_pos z] at e'
      obtain rfl := Option.some.inj e'
      rw [if_pos z, if_pos z]
      exact ⟨hc, hl⟩
    · rw [if_neg z] at e'
      rw [if_neg z, if_neg z]
      exact h2 j t e'
theorem p_pc {v : Int} (B : Lm ad S H) (hi : i < S.ths.length) (h : ∀ H', Lm ad (S.up i fun t => { t with pc := v }) H' → Mv0 S ad H H' → G H') : ∃ a H', V.ref (ad (.th i)) = .ref a ∧ DPut H a (.str "pc") (.int v) H' ∧ G H' := by
  obtain ⟨c0, c1, e, e2, e3⟩ := B.at_th hi
  obtain ⟨x, y⟩ := B.setTh (t' := { S.th i with pc := v }) hi rfl e2 e3
  exact R.r_dputS e (Nat.le_of_ble_eq_true rfl) rfl (h _ x y)
theorem p_is {cd : Cond} {c0 : PySem.Addr} (B : Lm ad S H) (hi : i < S.ths.length) (hc : H c0 = some (.tup (condV cd))) (h : ∀ H', Lm ad (setCond S i cd) H' → Mv0 S ad H H' → G H') : ∃ a H', V.ref (ad (.th i)) = .ref a ∧ DPut H a (.str "is") (.ref c0) H' ∧ G H' := by
  obtain ⟨_, c1, e, _, e3⟩ := B.at_th hi
  obtain ⟨x, y⟩ := B.setTh (t' := { S.th i with cond := cd }) hi rfl hc e3
  exact R.r_dputS e (Nat.le_of_ble_eq_true rfl) rfl (h _ x y)
theorem p_call {n a : Int} {c1 : PySem.Addr} (B : Lm ad S H) (hi : i < S.ths.length) (hc : H c1 = some (.tup [.int n, .int a])) (h : ∀ H', Lm ad (S.up i fun t => { t with call := n, callAt := a }) H' → Mv0 S ad H H' → G H') : ∃ a H', V.ref (ad (.th i)) = .ref a ∧ DPut H a (.str "call") (.ref c1) H' ∧ G H' := by
  obtain ⟨c0, _, e, e2, _⟩ := B.at_th hi
  obtain ⟨x, y⟩ := B.setTh (t' := { S.th i with call := n, callAt := a }) hi rfl e2 hc
  exact R.r_dputS e (Nat.le_of_ble_eq_true rfl) rfl (h _ x y)
end
end LM
end
section
/-! the laws' own machine: lists changed, things taken anew -/
namespace LM
open PySem PySem.Spec PyProof.Rows L2 MM
section
variable {ad : Tg → PySem.Addr} {S : MS} {H : Hp} {i : Nat} {P : V → Prop} {Q : VK} {G : Hp → Prop} {K : PySem.W.Frag}
theorem Lm.setRg {l : List Int} (B : Lm ad S H) (hi : i < S.ths.length) : Lm ad (S.up i fun t => { t with regs := l }) (upd H (ad (.rg i)) (.lst (l.map V.int))) ∧ Mv0 S ad H (upd H (ad (.rg i)) (.lst (l.map V.int))) := by
  obtain ⟨g, L, h2, h3, h4, h5⟩ := B
  have e := th_get hi
  have get : ∀ j, (S.up i fun t => { t with regs := l }).ths[j]? = if j = i then some { S.th i with regs := l } else S.ths[j]? := fun j => by
    by_cases z : j = i
    · rw [if_pos z, z]; exact List.getElem?_set_self hi
    · rw [if_neg z]; exact List.getElem?_set_ne (fun q => z q.symm)
  refine Lm.put (g' := g) (S' := S.up i fun t => { t with regs := l }) L (t := .rg i) (by show S.ths[i]?.map _ = _; rw [e]; rfl) (fun u => ?_) (fun j t e' => ?_) h3 h4 h5
  · cases u with
    | th j =>
      show ((S.up i fun t => { t with regs := l }).ths[j]?.map _) = _
      rw [get]
      by_cases z : j = i
      · subst z
        rw [if_pos rfl, if_neg (by nofun)]
        show _ = S.ths[j]?.map _
        rw [e]
        rfl
      · rw [if_neg z, if_neg (by nofun)]
        rfl
    | rg j =>
      show ((S.up i fun t => { t with regs := l }).ths[j]?.map _) = _
      rw [get]
      by_cases z : j = i
      · subst z
        rw [if_pos rfl, if_pos rfl]
        rfl
      · rw [if_neg z, if_neg (fun q => z (Tg.rg.inj q))]
        rfl
    | thsL =>
      show some (HO.lst ((List.range (S.ths.set i _).length).map _)) = _
      rw [List.length_set]
      rfl
    | _ => rfl
  · rw [get] at e'
    by_cases z : j = i
    · rw [if_pos z] at e'
      obtain rfl := Option.some.inj e'
      rw [z]
      have q := h2 i _ e
      exact q
    · rw [if_neg z] at e'
      exact h2 j t e'
theorem Lm.setMe {l : List Int} (B : Lm ad S H) (hi : i < S.mem.length) : Lm ad (S.setMm i { S.mm i with cells := l }) (upd H (ad (.me i)) (.lst (l.map V.int))) ∧ Mv0 S ad H (upd H (ad (.me i)) (.lst (l.map V.int))) := by
  obtain ⟨g, L, h2, h3, h4, h5⟩ := B
  have e := mm_get hi
  have get : ∀ j, (S.setMm i { S.mm i with cells := l }).mem[j]? = if j = i then some { S.mm i with cells := l } else S.mem[j]? := fun j => by
    by_cases z : j = i
    · rw [if_pos z, z]; exact List.getElem?_set_self hi
    · rw [if_neg z]; exact List.getElem?_set_ne (fun q => z q.symm)
  refine Lm.put (g' := g) (S' := S.setMm i { S.mm i with cells := l }) L (t := .me i) (by show S.mem[i]?.map _ = _; rw [e]; rfl) (fun u => ?_) h2 h3 h4 h5
  cases u with
  | me j =>
    show ((S.setMm i { S.mm i with cells := l }).mem[j]?.map _) = _
    rw [get]
    by_cases z : j = i
    · subst z
      rw [if_pos rfl, if_pos rfl]
      rfl
    · rw [if_neg z, if_neg (fun q => z (Tg.me.inj q))]
      rfl
  | memL =>
    show some (HO.lst ((List.range (S.mem.set i _).length).map _)) = _
    rw [List.length_set]
    rfl
  | _ => rfl
/-- a list of the machine's changes -/
theorem Lm.setRun {l : List Int} (B : Lm ad S H) : Lm ad { S with run := l } (upd H (ad .runL) (.lst (l.map V.int))) ∧ Mv0 S ad H (upd H (ad .runL) (.lst (l.map V.int))) := by
  obtain ⟨g, L, h2, h3, h4, h5⟩ := B
  exact Lm.put (g' := g) (S' := { S with run := l }) L (t := .runL) rfl (fun u => by cases u <;> rfl) h2 h3 h4 h5
theorem Lm.setTim {l : List Int} (B : Lm ad S H) : Lm ad { S with times := l } (upd H (ad .timL) (.lst (l.map V.int))) ∧ Mv0 S ad H (upd H (ad .timL) (.lst (l.map V.int))) := by
  obtain ⟨g, L, h2, h3, h4, h5⟩ := B
  exact Lm.put (g' := g) (S' := { S with times := l }) L (t := .timL) rfl (fun u => by cases u <;> rfl) h2 h3 h4 h5
theorem Lm.setRdy {l : List Nat} (B : Lm ad S H) : Lm ad { S with ready := l } (upd H (ad .rdyL) (.lst (l.map fun i : Nat => V.int (i : Int)))) ∧ Mv0 S ad H (upd H (ad .rdyL) (.lst (l.map fun i : Nat => V.int (i : Int)))) := by
  obtain ⟨g, L, h2, h3, h4, h5⟩ := B
  exact Lm.put (g' := g) (S' := { S with ready := l }) L (t := .rdyL) rfl (fun u => by cases u <;> rfl) h2 h3 h4 h5
theorem Lm.setDev {v : Int} (B : Lm ad S H) : Lm ad { S with dev := v } (upd H (ad .devL) (.lst [.int v, .ref (ad .reqL)])) ∧ Mv0 S ad H (upd H (ad .devL) (.lst [.int v, .ref (ad .reqL)])) := by
  obtain ⟨g, L, h2, h3, h4, h5⟩ := B
  exact Lm.put (g' := g) (S' := { S with dev := v }) L (t := .devL) rfl (fun u => by cases u <;> rfl) h2 h3 h4 h5
theorem Lm.addEv {a : PySem.Addr} {w : Vw} (B : Lm ad S H) (hw : VwAt H a w) : ∃ vw : List PySem.Addr, H (ad .evL) = some (.lst (vw.map V.ref)) ∧ vw.length = S.views.length ∧ Lm ad { S with views := S.views ++ [w] } (upd H (ad .evL) (.lst (vw.map V.ref ++ [.ref a]))) ∧ Mv0 S ad H (upd H (ad .evL) (.lst (vw.map V.ref ++ [.ref a]))) := by
  obtain ⟨g, L, h2, h3, h4, h5⟩ := B
  have z := Lm.put (g' := { g with vw := g.vw ++ [a] }) (S' := { S with views := S.views ++ [w] }) L (t := .evL) (o' := .lst ((g.vw ++ [a]).map V.ref)) rfl (fun u => by cases u <;> rfl) h2 h3 (h4.snoc hw) h5
  rw [List.map_append] at z
  exact ⟨g.vw, L.at' .evL _ rfl, h4.length, z⟩
theorem Lm.addRq {a : PySem.Addr} {q : Nat × Int × Int} (B : Lm ad S H) (hw : RqAt H a q) : ∃ rq : List PySem.Addr, H (ad .reqL) = some (.lst (rq.map V.ref)) ∧ rq.length = S.reqs.length ∧ Lm ad { S with reqs := S.reqs ++ [q] } (upd H (ad .reqL) (.lst (rq.map V.ref ++ [.ref a]))) ∧ Mv0 S ad H (upd H (ad .reqL) (.lst (rq.map V.ref ++ [.ref a]))) := by
  obtain ⟨g, L, h2, h3, h4, h5⟩ := B
  have z := Lm.put (g' := { g with rq := g.rq ++ [a] }) (S' := { S with reqs := S.reqs ++ [q] }) L (t := .reqL) (o' := .lst ((g.rq ++ [a]).map V.ref)) rfl (fun u => by cases u <;> rfl) h2 (h3.snoc hw) h4 h5
  rw [List.map_append] at z
  exact ⟨g.rq, L.at' .reqL _ rfl, h3.length, z⟩
/-! as the readings ask -/
theorem s_rg {j v : Int} {k : Nat} (B : Lm ad S H) (W : WF S k) (hi : i < S.ths.length) (h0 : 0 ≤ j) (h4 : j < 4) (h : ∀ H', Lm ad (setReg S i j.toNat v) H' → Mv0 S ad H H' → G H') : rSetL (.ref (ad (.rg i))) (.int j) (.int v) H G := by
  obtain ⟨x, y⟩ := B.setRg (l := (S.th i).regs.set j.toNat v) hi
  refine ⟨_, _, j, j.toNat, rfl, rfl, B.at_rg hi, ?_, ?_⟩
  · unfold ixN
    rw [if_pos h0, if_pos (by rw [List.length_map, (W.tok hi).len]; omega)]
  · rw [map_set_int]
    exact h _ x y
theorem s_me {j v : Int} {k : Nat} (B : Lm ad S H) (W : WF S k) (hi : i < S.mem.length) (h0 : 0 ≤ j) (h4 : j < 256) (h : ∀ H', Lm ad (S.setMm i { S.mm i with cells := (S.mm i).cells.set j.toNat v }) H' → Mv0 S ad H H' → G H') : rSetL (.ref (ad (.me i))) (.int j) (.int v) H G := by
  obtain ⟨x, y⟩ := B.setMe (l := (S.mm i).cells.set j.toNat v) hi
  refine ⟨_, _, j, j.toNat, rfl, rfl, B.at_me hi, ?_, ?_⟩
  · unfold ixN
    rw [if_pos h0, if_pos (by rw [List.length_map, (W.mm _ (mm_mem hi)).len]; omega)]
  · rw [map_set_int]
    exact h _ x y
theorem s_run {v : Int} (B : Lm ad S H) (hi : i < S.run.length) (h : ∀ H', Lm ad { S with run := S.run.set i v } H' → Mv0 S ad H H' → G H') : rSetL (.ref (ad .runL)) (.int (i : Int)) (.int v) H G := by
  obtain ⟨x, y⟩ := B.setRun (l := S.run.set i v)
  refine ⟨_, _, (i : Int), i, rfl, rfl, B.at_run, ?_, ?_⟩
  · unfold ixN
    rw [if_pos (by omega), if_pos (by rw [List.length_map]; omega)]
    rfl
  · rw [map_set_int]
    exact h _ x y
theorem s_tim {v : Int} (B : Lm ad S H) (hi : i < S.times.length) (h : ∀ H', Lm ad { S with times := S.times.set i v } H' → Mv0 S ad H H' → G H') : rSetL (.ref (ad .timL)) (.int (i : Int)) (.int v) H G := by
  obtain ⟨x, y⟩ := B.setTim (l := S.times.set i v)
  refine ⟨_, _, (i : Int), i, rfl, rfl, B.at_tim, ?_, ?_⟩
  · unfold ixN
    rw [if_pos (by omega), if_pos (by rw [List.length_map]; omega)]
    rfl
  · rw [map_set_int]
    exact h _ x y
theorem s_dev {v : Int} (B : Lm ad S H) (h : ∀ H', Lm ad { S with dev := v } H' → Mv0 S ad H H' → G H') : rSetL (.ref (ad .devL)) (.int 0) (.int v) H G := by
  obtain ⟨x, y⟩ := B.setDev (v := v)
  exact ⟨_, _, 0, 0, rfl, rfl, B.at_dev, rfl, h _ x y⟩
theorem a_rdy {t : Nat} (B : Lm ad S H) (hl : S.ready.length < 100000) (h : ∀ H', Lm ad { S with ready := S.ready ++ [t] } H' → Mv0 S ad H H' → Q .non H') : rAppend (.ref (ad .rdyL)) [.int (t : Int)] H Q := by
  obtain ⟨x, y⟩ := B.setRdy (l := S.ready ++ [t])
  refine ⟨_, _, _, rfl, rfl, B.at_rdy, R.size_lt (by rw [List.length_map]; exact hl), ?_⟩
  rw [List.map_append] at x y
  exact h _ x y
theorem a_ev {a : PySem.Addr} {w : Vw} (B : Lm ad S H) (hl : S.views.length < 100000) (hw : VwAt H a w) (h : ∀ H', Lm ad { S with views := S.views ++ [w] } H' → Mv0 S ad H H' → Q .non H') : rAppend (.ref (ad .evL)) [.ref a] H Q := by
  obtain ⟨vw, e, el, x, y⟩ := B.addEv hw
  exact ⟨_, _, _, rfl, rfl, e, R.size_lt (by rw [List.length_map, el]; exact hl), h _ x y⟩
theorem a_rq {a : PySem.Addr} {q : Nat × Int × Int} (B : Lm ad S H) (hl : S.reqs.length < 100000) (hw : RqAt H a q) (h : ∀ H', Lm ad { S with reqs := S.reqs ++ [q] } H' → Mv0 S ad H H' → Q .non H') : rAppend (.ref (ad .reqL)) [.ref a] H Q := by
  obtain ⟨vw, e, el, x, y⟩ := B.addRq hw
  exact ⟨_, _, _, rfl, rfl, e, R.size_lt (by rw [List.length_map, el]; exact hl), h _ x y⟩
theorem t_rdy (B : Lm ad S H) : tyV K "list" (.ref (ad .rdyL)) H := .inl ⟨rfl, _, R.sqL B.at_rdy⟩
theorem t_ths (B : Lm ad S H) : tyV K "list" (.ref (ad .thsL)) H := .inl ⟨rfl, _, R.sqL B.at_thsL⟩
theorem t_ev (B : Lm ad S H) : tyV K "list" (.ref (ad .evL)) H := by
  obtain ⟨vw, e, _⟩ := B.at_ev
  exact .inl ⟨rfl, _, R.sqL e⟩
theorem t_rq (B : Lm ad S H) : tyV K "list" (.ref (ad .reqL)) H := by
  obtain ⟨vw, e, _⟩ := B.at_rq
  exact .inl ⟨rfl, _, R.sqL e⟩
end
end LM
end
section
/-! the laws' own machine: new lists and threads -/
namespace LM
open PySem PySem.Spec PyProof.Rows L2 MM
theorem Lay.mv {T : Type} [DecidableEq T] {ad : T → PySem.Addr} {ct : T → Option HO} {H : Hp} (L : Lay ad ct H) (t : T) {p : PySem.Addr} {o' : HO} (e : H p = some o') (hp : ∀ u o, ct u = some o → ad u ≠ p) : Lay (fun u => if u = t then p else ad u) (fun u => if u = t then some o' else ct u) H := by
  refine ⟨fun u x ex => ?_, fun u v x y ex ey q => ?_⟩
  · show H (if u = t then p else ad u) = some x
    by_cases z : u = t
    · rw [if_pos z] at ex ⊢
      rw [e]; exact ex
    · rw [if_neg z] at ex ⊢
      exact L.at' _ _ ex
  · have q : (if u = t then p else ad u) = (if v = t then p else ad v) := q
    by_cases z : u = t
    · by_cases z' : v = t
      · rw [z, z']
      · rw [if_pos z, if_neg z'] at q
        rw [if_neg z'] at ey
        exact absurd q.symm (hp _ _ ey)
    · rw [if_neg z] at q ex
      by_cases z' : v = t
      · rw [if_pos z'] at q
        exact absurd q (hp _ _ ex)
      · rw [if_neg z'] at q ey
        exact L.inj _ _ _ _ ex ey q
section
variable {ad : Tg → PySem.Addr} {S : MS} {H H1 : Hp} {i : Nat} {P : V → Prop} {Q : VK} {G : Hp → Prop} {K : PySem.W.Frag} {p q : PySem.Addr}
theorem Lm.free (B : Lm ad S H) (hp : H p = none) {u : Tg} (d : dom S.ths.length S.mem.length u) : ad u ≠ p := by
  obtain ⟨g, L, _⟩ := B
  obtain ⟨o, e⟩ := some_dom (ad := ad) (g := g) d
  exact ne_of_none (L.at' _ _ e) hp
def adE (ad : Tg → PySem.Addr) (t : Tg) (p : PySem.Addr) : Tg → PySem.Addr := fun u => if u = t then p else ad u
theorem adE_ne {t u : Tg} (h : u ≠ t) : adE ad t p u = ad u := if_neg h
/-- the move of one list that may move -/
theorem Mvl.one {nt nm : Nat} {t : Tg} {o o' : HO} (s : Same H H1) (hp : H p = none) (ht : fixed t = false) (hm : H1 (ad .m) = some o) (hn : ∀ xs, o ≠ .tup xs) : Mvl nt nm ad nt nm (adE ad t p) H (upd H1 (ad .m) o') := by
  refine ⟨fun b u hb n => ?_, fun b hb => ?_, (KeepT.of s).trans (KeepT.upd hm hn), fun u hu _ => adE_ne fun z => ?_⟩
  · rw [upd_ne (fun z => n ⟨.m, trivial, z.symm⟩)]
    exact s _ _ hb
  · obtain ⟨u, d, e⟩ := hb
    by_cases z : u = t
    · rw [z, adE, if_pos rfl] at e
      rw [← e]; exact .inr hp
    · rw [adE_ne z] at e
      exact .inl ⟨u, d, e⟩
  · rw [z, ht] at hu
    cases hu
theorem Lm.newEv (B : Lm ad S H) (s : Same H H1) (hp : H p = none) (e : H1 p = some (.lst [])) : ∃ kvs kvs', H1 (ad .m) = some (.dK kvs) ∧ kvs.length ≤ 1000 ∧ putK kvs (Sum.inr "events" : Key) (.ref p) = kvs' ∧ Lm (adE ad .evL p) { S with views := [] } (upd H1 (ad .m) (.dK kvs')) ∧ Mvl S.ths.length S.mem.length ad S.ths.length S.mem.length (adE ad .evL p) H (upd H1 (ad .m) (.dK kvs')) := by
  have fr : ∀ u o, cont ad B.ex.choose S u = some o → ad u ≠ p := fun u o h => B.free hp (dom_some h)
  obtain ⟨L, h2, h3, h4, h5⟩ := B.ex.choose_spec
  generalize B.ex.choose = g at *
  have L1 := (L.same s).mv .evL e fr
  have em : H1 (ad .m) = some (.dK (mD ad g.rt)) := s _ _ (L.at' .m _ rfl)
  have L2' := L1.put (t := .m) (o := .dK (mD ad g.rt)) rfl (.dK (mD (adE ad .evL p) g.rt))
  have kt : KeepT H (upd H1 (ad .m) (.dK (mD (adE ad .evL p) g.rt))) := (KeepT.of s).trans (KeepT.upd em (fun _ => nofun))
  refine ⟨_, _, em, Nat.le_of_ble_eq_true rfl, rfl, ⟨{ g with vw := [] }, L2'.congr (fun u => by cases u <;> rfl), fun i t e' => ⟨kt _ _ (h2 i t e').1, kt _ _ (h2 i t e').2⟩, h3.imp fun _ _ z => kt _ _ z, .nil, kt _ _ h5⟩, Mvl.one s hp rfl em (fun _ => nofun)⟩
theorem Lm.newRdy {l : List Nat} (B : Lm ad S H) (s : Same H H1) (hp : H p = none) (e : H1 p = some (.lst (l.map fun i : Nat => V.int (i : Int)))) : ∃ kvs kvs', H1 (ad .m) = some (.dK kvs) ∧ kvs.length ≤ 1000 ∧ putK kvs (Sum.inr "ready" : Key) (.ref p) = kvs' ∧ Lm (adE ad .rdyL p) { S with ready := l } (upd H1 (ad .m) (.dK kvs')) ∧ Mvl S.ths.length S.mem.length ad S.ths.length S.mem.length (adE ad .rdyL p) H (upd H1 (ad .m) (.dK kvs')) := by
  have fr : ∀ u o, cont ad B.ex.choose S u = some o → ad u ≠ p := fun u o h => B.free hp (dom_some h)
  obtain ⟨L, h2, h3, h4, h5⟩ := B.ex.choose_spec
  generalize B.ex.choose = g at *
  have L1 := (L.same s).mv .rdyL e fr
  have em : H1 (ad .m) = some (.dK (mD ad g.rt)) := s _ _ (L.at' .m _ rfl)
  have L2' := L1.put (t := .m) (o := .dK (mD ad g.rt)) rfl (.dK (mD (adE ad .rdyL p) g.rt))
  have kt : KeepT H (upd H1 (ad .m) (.dK (mD (adE ad .rdyL p) g.rt))) := (KeepT.of s).trans (KeepT.upd em (fun _ => nofun))
  refine ⟨_, _, em, Nat.le_of_ble_eq_true rfl, rfl, ⟨g, L2'.congr (fun u => by cases u <;> rfl), fun i t e' => ⟨kt _ _ (h2 i t e').1, kt _ _ (h2 i t e').2⟩, h3.imp fun _ _ z => kt _ _ z, h4.imp fun _ _ z => z.keep kt, kt _ _ h5⟩, Mvl.one s hp rfl em (fun _ => nofun)⟩
theorem Lm.newDev {rq : List PySem.Addr} {qs : List (Nat × Int × Int)} {v : Int} (B : Lm ad S H) (s : Same H H1) (hp : H p = none) (hq : H q = none) (hpq : p ≠ q) (e : H1 p = some (.lst [.int v, .ref q])) (eq : H1 q = some (.lst (rq.map V.ref))) (al : All2 (RqAt H1) rq qs) :
    ∃ kvs kvs', H1 (ad .m) = some (.dK kvs) ∧ kvs.length ≤ 1000 ∧ putK kvs (Sum.inr "device" : Key) (.ref p) = kvs' ∧ Lm (adE (adE ad .reqL q) .devL p) { S with dev := v, reqs := qs } (upd H1 (ad .m) (.dK kvs')) ∧ Mvl S.ths.length S.mem.length ad S.ths.length S.mem.length (adE (adE ad .reqL q) .devL p) H (upd H1 (ad .m) (.dK kvs')) := by
  have fr : ∀ u o, cont ad B.ex.choose S u = some o → ad u ≠ p := fun u o h => B.free hp (dom_some h)
  have frq : ∀ u o, cont ad B.ex.choose S u = some o → ad u ≠ q := fun u o h => B.free hq (dom_some h)
  obtain ⟨L, h2, h3, h4, h5⟩ := B.ex.choose_spec
  generalize B.ex.choose = g at *
  have L1 := (L.same s).mv .reqL eq frq
  have L2' := L1.mv .devL e fun u o h => by
    show adE ad .reqL q u ≠ p
    by_cases z : u = .reqL
    · rw [z, adE, if_pos rfl]; exact hpq.symm
    · rw [adE_ne z]
      rw [if_neg z] at h
      exact fr u o h
  have em : H1 (ad .m) = some (.dK (mD ad g.rt)) := s _ _ (L.at' .m _ rfl)
  have L3 := L2'.put (t := .m) (o := .dK (mD ad g.rt)) rfl (.dK (mD (adE (adE ad .reqL q) .devL p) g.rt))
  have k1 : KeepT H1 (upd H1 (ad .m) (.dK (mD (adE (adE ad .reqL q) .devL p) g.rt))) := KeepT.upd em (fun _ => nofun)
  have kt := (KeepT.of s).trans k1
  refine ⟨_, _, em, Nat.le_of_ble_eq_true rfl, rfl, ⟨{ g with rq := rq }, L3.congr (fun u => by cases u <;> rfl), fun i t e' => ⟨kt _ _ (h2 i t e').1, kt _ _ (h2 i t e').2⟩, al.imp fun _ _ z => k1 _ _ z, h4.imp fun _ _ z => z.keep kt, kt _ _ h5⟩, ?_⟩
  refine ⟨fun b u hb n => ?_, fun b hb => ?_, kt, fun u hu _ => ?_⟩
  · rw [upd_ne (fun z => n ⟨.m, trivial, z.symm⟩)]
    exact s _ _ hb
  · obtain ⟨u, d, e⟩ := hb
    by_cases z : u = .devL
    · rw [z, adE, if_pos rfl] at e
      rw [← e]; exact .inr hp
    · rw [adE_ne z] at e
      by_cases z' : u = .reqL
      · rw [z', adE, if_pos rfl] at e
        rw [← e]; exact .inr hq
      · rw [adE_ne z'] at e
        exact .inl ⟨u, d, e⟩
  · rw [adE_ne (fun z => by rw [z] at hu; cases hu), adE_ne (fun z => by rw [z] at hu; cases hu)]
theorem snoc_get {α : Type} {l : List α} {x : α} {j : Nat} : (l ++ [x])[j]? = if j = l.length then some x else l[j]? := by
  by_cases h : j = l.length
  · rw [if_pos h, h, List.getElem?_append_right (Nat.le_refl _), Nat.sub_self]; rfl
  · rw [if_neg h]
    by_cases h2 : j < l.length
    · exact List.getElem?_append_left h2
    · rw [List.getElem?_eq_none (by rw [List.length_append]; show l.length + 1 ≤ j; omega), List.getElem?_eq_none (by omega)]
theorem Lm.addTh {d r c0 c1 : PySem.Addr} {t : Th} (B : Lm ad S H) (s : Same H H1) (hd : H d = none) (hr : H r = none) (hdr : d ≠ r) (ed : H1 d = some (.dK (tD r c0 c1 t))) (er : H1 r = some (.lst (t.regs.map V.int))) (e0 : H1 c0 = some (.tup (condV t.cond))) (e1 : ClAt H1 c1 t) :
    ∃ old, H1 (ad .thsL) = some (.lst old) ∧ old.length = S.ths.length ∧ Lm (adE (adE ad (.th S.ths.length) d) (.rg S.ths.length) r) { S with ths := S.ths ++ [t] } (upd H1 (ad .thsL) (.lst (old ++ [.ref d]))) ∧
      Mvl S.ths.length S.mem.length ad (S.ths.length + 1) S.mem.length (adE (adE ad (.th S.ths.length) d) (.rg S.ths.length) r) H (upd H1 (ad .thsL) (.lst (old ++ [.ref d]))) := by
  have frd : ∀ u o, cont ad B.ex.choose S u = some o → ad u ≠ d := fun u o h => B.free hd (dom_some h)
  have frr : ∀ u o, cont ad B.ex.choose S u = some o → ad u ≠ r := fun u o h => B.free hr (dom_some h)
  obtain ⟨L, h2, h3, h4, h5⟩ := B.ex.choose_spec
  generalize B.ex.choose = g at *
  generalize hn : S.ths.length = n at *
  have L1 := (L.same s).mv (.th n) ed frd
  have L2' := L1.mv (.rg n) er fun u o h => by
    show adE ad (.th n) d u ≠ r
    by_cases z : u = .th n
    · rw [z, adE, if_pos rfl]; exact hdr
    · rw [adE_ne z]
      rw [if_neg z] at h
      exact frr u o h
  have eL : H1 (ad .thsL) = some (.lst ((List.range n).map fun i => V.ref (ad (.th i)))) := by
    rw [← hn]
    exact s _ _ (L.at' .thsL _ rfl)
  have L3 := L2'.put (t := .thsL) (o := .lst ((List.range n).map fun i => V.ref (ad (.th i)))) (by rw [if_neg (by nofun), if_neg (by nofun)]; show some (HO.lst ((List.range S.ths.length).map _)) = _; rw [hn]) (.lst ((List.range n).map (fun i => V.ref (ad (.th i))) ++ [.ref d]))
  have k1 : KeepT H1 (upd H1 (ad .thsL) (.lst ((List.range n).map (fun i => V.ref (ad (.th i))) ++ [.ref d]))) := KeepT.upd eL (fun _ => nofun)
  have kt := (KeepT.of s).trans k1
  have ar : adE (adE ad (.th n) d) (.rg n) r (.rg n) = r := if_pos rfl
  have at2 : adE (adE ad (.th n) d) (.rg n) r (.th n) = d := by rw [adE_ne (by nofun)]; exact if_pos rfl
  have oth : ∀ u, u ≠ .th n → u ≠ .rg n → adE (adE ad (.th n) d) (.rg n) r u = ad u := fun u a b => by rw [adE_ne b, adE_ne a]
  refine ⟨_, eL, by rw [List.length_map, List.length_range], ⟨{ g with cv := fun j => if j = n then c0 else g.cv j, cl := fun j => if j = n then c1 else g.cl j }, L3.congr (fun u => ?_), fun i t' e' => ?_, h3.imp fun _ _ z => kt _ _ z, h4.imp fun _ _ z => z.keep kt, kt _ _ h5⟩, ?_⟩
  · cases u with
    | th j =>
      show (S.ths ++ [t])[j]?.map (fun t => HO.dK (tD (adE (adE ad (.th n) d) (.rg n) r (.rg j)) (if j = n then c0 else g.cv j) (if j = n then c1 else g.cl j) t)) = _
      rw [snoc_get, hn]
      by_cases z : j = n
      · subst z
        rw [if_pos rfl, if_pos rfl, if_pos rfl, ar, if_neg (by nofun), if_neg (by nofun), if_pos rfl]
        rfl
      · rw [if_neg z, if_neg z, if_neg z, oth _ (by nofun) (fun q => z (Tg.rg.inj q)), if_neg (by nofun), if_neg (by nofun), if_neg (fun q => z (Tg.th.inj q))]
        rfl
    | rg j =>
      show (S.ths ++ [t])[j]?.map (fun t => HO.lst (t.regs.map V.int)) = _
      rw [snoc_get, hn]
      by_cases z : j = n
      · subst z
        rw [if_pos rfl, if_neg (by nofun), if_pos rfl]
        rfl
      · rw [if_neg z, if_neg (by nofun), if_neg (fun q => z (Tg.rg.inj q)), if_neg (by nofun)]
        rfl
    | thsL =>
      show some (HO.lst ((List.range (S.ths ++ [t]).length).map fun i => V.ref (adE (adE ad (.th n) d) (.rg n) r (.th i)))) = _
      rw [List.length_append, hn]
      show some (HO.lst ((List.range (n + 1)).map _)) = some (HO.lst _)
      rw [List.range_succ, List.map_append]
      congr 2
      refine congr (congrArg _ (List.map_congr_left fun i hi => ?_)) ?_
      · have := List.mem_range.mp hi
        rw [oth _ (fun q => by have := Tg.th.inj q; omega) (by nofun)]
      · show [V.ref (adE (adE ad (.th n) d) (.rg n) r (.th n))] = _
        rw [at2]
    | _ => rfl
  · have e' : (S.ths ++ [t])[i]? = some t' := e'
    rw [snoc_get, hn] at e'
    show upd H1 _ _ (if i = n then c0 else g.cv i) = _ ∧ ClAt _ (if i = n then c1 else g.cl i) t'
    by_cases z : i = n
    · rw [if_pos z] at e'
      obtain rfl := Option.some.inj e'
      rw [if_pos z, if_pos z]
      exact ⟨k1 _ _ e0, k1 _ _ e1⟩
    · rw [if_neg z] at e'
      rw [if_neg z, if_neg z]
      exact ⟨kt _ _ (h2 i t' e').1, kt _ _ (h2 i t' e').2⟩
  · refine ⟨fun b u hb m => ?_, fun b hb => ?_, kt, fun u hu dm => ?_⟩
    · rw [upd_ne (fun z => m ⟨.thsL, trivial, z.symm⟩)]
      exact s _ _ hb
    · obtain ⟨u, dm, e⟩ := hb
      by_cases z : u = .rg n
      · rw [z, ar] at e
        rw [← e]; exact .inr hr
      · by_cases z' : u = .th n
        · rw [z', at2] at e
          rw [← e]; exact .inr hd
        · rw [oth _ z' z] at e
          refine .inl ⟨u, ?_, e⟩
          cases u with
          | th j => exact Nat.lt_of_le_of_ne (Nat.le_of_lt_succ dm) fun q => z' (by rw [q])
          | rg j => exact Nat.lt_of_le_of_ne (Nat.le_of_lt_succ dm) fun q => z (by rw [q])
          | me j => exact dm
          | _ => trivial
    · refine oth u (fun z => ?_) (fun z => ?_)
      · rw [z] at dm
        exact absurd dm (Nat.lt_irrefl n)
      · rw [z] at dm
        exact absurd dm (Nat.lt_irrefl n)
end
end LM
end
section
/-! the laws' own machine: what its defs promise -/
namespace LM
open PySem PySem.Spec PyProof.Rows L2 MM
structure LOk (ad : Tg → PySem.Addr) (S : MS) (H : Hp) (k : Nat) : Prop where
  B : Lm ad S H
  W : WF S k
  hk : k ≤ 60000
  pl : ∀ ks ∈ S.mem.map (fun m => m.kept.map (·.1)), ks = []
theorem LOk.same {ad : Tg → PySem.Addr} {S : MS} {H H' : Hp} {k : Nat} (o : LOk ad S H k) (s : Same H H') : LOk ad S H' k := ⟨o.B.same s, o.W, o.hk, o.pl⟩
theorem LOk.to {ad ad' : Tg → PySem.Addr} {S S' : MS} {H H' : Hp} {k k' : Nat} (o : LOk ad S H k) (b : Lm ad' S' H') (w : WF S' k') (hk : k' ≤ 60000) (s : Sm S S') : LOk ad' S' H' k' := ⟨b, w, hk, by rw [s.km]; exact o.pl⟩
theorem LOk.nil {ad : Tg → PySem.Addr} {S : MS} {H : Hp} {k i : Nat} (o : LOk ad S H k) (hi : i < S.mem.length) : (S.mm i).kept = [] := List.map_eq_nil_iff.mp (o.pl _ (List.mem_map.mpr ⟨_, mm_mem hi, rfl⟩))
theorem LOk.img {ad : Tg → PySem.Addr} {S : MS} {H : Hp} {k i : Nat} (o : LOk ad S H k) (hi : i < S.mem.length) : (S.mm i).img = (S.mm i).cells := by
  unfold Mm.img
  rw [o.nil hi]
  rfl
theorem Mvl.pre {n1 m1 n2 m2 : Nat} {a1 a2 : Tg → PySem.Addr} {H H1 H2 : Hp} (s : Same H H1) (m : Mvl n1 m1 a1 n2 m2 a2 H1 H2) : Mvl n1 m1 a1 n2 m2 a2 H H2 := Mvl.trans (Nat.le_refl _) (Nat.le_refl _) (Mvl.of s) m
theorem Mvl.end' {n1 m1 n2 m2 : Nat} {a1 a2 : Tg → PySem.Addr} {H H1 H2 : Hp} (m : Mvl n1 m1 a1 n2 m2 a2 H H1) (hn : n1 ≤ n2) (hm : m1 ≤ m2) (s : Same H1 H2) : Mvl n1 m1 a1 n2 m2 a2 H H2 := Mvl.trans hn hm m (Mvl.of s)
/-- in place, and again in place -/
theorem Mv0.after {ad : Tg → PySem.Addr} {S S' : MS} {H H1 H2 : Hp} (x : Mv0 S ad H H1) (y : Mv0 S' ad H1 H2) (hn : S'.ths.length = S.ths.length) (hm : S'.mem.length = S.mem.length) : Mv0 S ad H H2 := by
  have y' : Mvl S'.ths.length S'.mem.length ad S'.ths.length S'.mem.length ad H1 H2 := y
  rw [hn, hm] at y'
  exact Mvl.trans (Nat.le_refl _) (Nat.le_refl _) x y'
theorem len_setCond {S : MS} {t : Nat} {c : Cond} : (setCond S t c).ths.length = S.ths.length := List.length_set
theorem len_setReg {S : MS} {t j : Nat} {v : Int} : (setReg S t j v).ths.length = S.ths.length := List.length_set
theorem len_up {S : MS} {t : Nat} {f : Th → Th} : (S.up t f).ths.length = S.ths.length := List.length_set
def offS (S : MS) (tid : Nat) (cd : Cond) (r : Int) : MS := match cd with
  | .ready => goLast S tid r
  | _ => leave S tid cd r
def spTell : Sp := fun vs H Q _ => ∃ ad S k, LOk ad S H k ∧ k ≤ 59000 ∧ ((∃ kind tid at' args g, vs = [.ref (ad .m), .str kind, .int (S.cpu : Int), .int ((tid : Nat) : Int), .int at', .ref g] ∧ H g = some (.tup (args.map V.int)) ∧ tid < S.ths.length ∧ ∀ H', Lm ad (tell S kind tid at' args) H' → Mv0 S ad H H' → Q .non H') ∨
  (∃ g, vs = [.ref (ad .m), .str "tick", .int (S.cpu : Int), .int (-1), .int (-1), .ref g] ∧ H g = some (.tup []) ∧ ∀ H', Lm ad (tellTick S) H' → Mv0 S ad H H' → Q .non H'))
def spRet : Sp := fun vs H Q _ => ∃ ad S k tid res, vs = [.ref (ad .m), .int (S.cpu : Int), .int ((tid : Nat) : Int), .int res] ∧ 0 ≤ res ∧ LOk ad S H k ∧ k ≤ 58000 ∧ tid < S.ths.length ∧ ∀ H', Lm ad (returnCall S tid res) H' → Mv0 S ad H H' → Q .non H'
def spOff : Sp := fun vs H Q _ => ∃ ad S k tid cd c1 r, vs = [.ref (ad .m), .int (S.cpu : Int), .int ((tid : Nat) : Int), .ref c1, .int r] ∧ H c1 = some (.tup (condV cd)) ∧ condOk cd ∧ LOk ad S H k ∧ k ≤ 58000 ∧ tid < S.ths.length ∧ ∀ H', Lm ad (offS S tid cd r) H' → Mv0 S ad H H' → Q .non H'
def spEnds : Sp := fun vs H Q _ => ∃ ad S k tid at' code, vs = [.ref (ad .m), .int (S.cpu : Int), .int ((tid : Nat) : Int), .int at', .int code] ∧ 0 ≤ code ∧ LOk ad S H k ∧ k ≤ 57000 ∧ tid < S.ths.length ∧ ∀ H', Lm ad (endThread S tid at' code) H' → Mv0 S ad H H' → Q .non H'
def spBegin : Sp := fun vs H Q _ => ∃ ad S k pid pc first, vs = [.ref (ad .m), .int ((pid : Nat) : Int), .int pc, .int first] ∧ LOk ad S H k ∧ k ≤ 58000 ∧ ∀ ad' H', Lm ad' (addThread S pid pc first) H' → Mvl S.ths.length S.mem.length ad (S.ths.length + 1) S.mem.length ad' H H' → Q .non H'
end LM
namespace LM
open PySem PySem.Spec PyProof.Rows L2 MM
def isReady : Cond → Bool
  | .ready => true
  | _ => false
theorem cond_ready {cd : Cond} : condD cd = .tuple [.str "ready"] ↔ isReady cd = true := by
  cases cd <;> simp only [condD, isReady, PyData.tuple.injEq, List.cons.injEq, PyData.str.injEq, and_true, reduceCtorEq, and_false, Bool.false_eq_true, iff_false, iff_true, not_false_eq_true]
  all_goals first | rfl | decide +kernel
theorem offS_r {S : MS} {t : Nat} {cd : Cond} {r : Int} (h : isReady cd = true) : cd = .ready ∧ offS S t cd r = goLast S t r := by
  cases cd <;> first | exact ⟨rfl, rfl⟩ | cases h
theorem offS_n {S : MS} {t : Nat} {cd : Cond} {r : Int} (h : ¬ isReady cd = true) : offS S t cd r = leave S t cd r := by
  cases cd <;> first | rfl | exact absurd rfl h
end LM
namespace LM
open PySem PySem.Spec PyProof.Rows L2 MM
def spCall : Sp := fun vs H Q _ => ∃ ad S k tid at' n, vs = [.ref (ad .m), .int (S.cpu : Int), .int ((tid : Nat) : Int), .int at', .int n] ∧ LOk ad S H k ∧ k ≤ 49900 ∧ tid < S.ths.length ∧ ∀ ad' H', Lm ad' (doCall S tid n at') H' → Mvl S.ths.length S.mem.length ad (doCall S tid n at').ths.length S.mem.length ad' H H' → Q .non H'
theorem r_inL {K : PySem.W.Frag} {H : Hp} {Q : VK} {p : PySem.Addr} {xs : List V} {x : V} {b : Bool} (e : H p = some (.lst xs)) (hx : flatV x = true) (ha : xs.all flatV = true) (hb : inV x xs = b) (h : Q (.bl b) H) : rIn K false x (.ref p) H Q :=
  ⟨p, xs, rfl, .inl (R.sqL e), hx, ha, by rw [hb]; exact h⟩
end LM
end
section
/-! places and bytes below 256 -/
namespace LM
open PySem PySem.Spec PyProof.Rows L2 MM
structure PcOk (S : MS) : Prop where
  pc : ∀ t ∈ S.ths, 0 ≤ t.pc ∧ t.pc < 256
  by' : ∀ m ∈ S.mem, m.kept = [] ∧ ∀ b ∈ m.cells, 0 ≤ b ∧ b < 256
section
variable {S : MS}
theorem PcOk.mk' {S' : MS} (h : PcOk S) (e1 : S'.ths = S.ths) (e2 : S'.mem = S.mem) : PcOk S' := ⟨by rw [e1]; exact h.pc, by rw [e2]; exact h.by'⟩
theorem PcOk.tell {kd : Str} {t : Nat} {a : Int} {r : List Int} (h : PcOk S) : PcOk (tell S kd t a r) := h.mk' rfl rfl
theorem PcOk.up {t : Nat} {f : Th → Th} (h : PcOk S) (hf : ∀ x : Th, 0 ≤ x.pc ∧ x.pc < 256 → 0 ≤ (f x).pc ∧ (f x).pc < 256) : PcOk (S.up t f) := by
  refine ⟨fun x hx => ?_, h.by'⟩
  have hx : x ∈ S.ths.set t (f (S.th t)) := hx
  by_cases ht : t < S.ths.length
  · rcases List.mem_or_eq_of_mem_set hx with z | z
    · exact h.pc x z
    · rw [z]
      exact hf _ (h.pc _ (th_mem ht))
  · rw [List.set_eq_of_length_le (by omega)] at hx
    exact h.pc x hx
theorem PcOk.setReg {t j : Nat} {v : Int} (h : PcOk S) : PcOk (setReg S t j v) := h.up fun _ z => z
theorem PcOk.setCond {t : Nat} {c : Cond} (h : PcOk S) : PcOk (setCond S t c) := h.up fun _ z => z
theorem PcOk.makeReady {t : Nat} (h : PcOk S) : PcOk (makeReady S t) := (h.setCond (t := t) (c := .ready)).mk' rfl rfl
theorem PcOk.endRun {t : Nat} {c : Cond} (h : PcOk S) : PcOk (endRun S t c) := (h.setCond (t := t) (c := c)).mk' rfl rfl
theorem PcOk.returnCall {t : Nat} {r : Int} (h : PcOk S) : PcOk (returnCall S t r) := by
  unfold MM.returnCall
  dsimp only
  have h1 := (h.setReg (t := t) (j := 0) (v := r)).tell (kd := "return") (t := t) (a := ((MM.setReg S t 0 r).th t).callAt) (r := [((MM.setReg S t 0 r).th t).call, r])
  split
  · exact h1
  · exact h1.makeReady
theorem PcOk.fold {f : MS → Nat → MS} (hf : ∀ S i, PcOk S → PcOk (f S i)) : ∀ (l : List Nat) (S : MS), PcOk S → PcOk (l.foldl f S)
  | [], _, h => h
  | i :: l, _, h => PcOk.fold hf l _ (hf _ _ h)
theorem PcOk.wakeOne {t o : Nat} {c : Int} (h : PcOk S) : PcOk (wakeOne t c S o) := by
  unfold MM.wakeOne
  split
  · exact h.returnCall
  · exact h
theorem PcOk.endThread {t : Nat} {a c : Int} (h : PcOk S) : PcOk (endThread S t a c) := by
  unfold MM.endThread
  exact PcOk.fold (f := MM.wakeOne t c) (fun _ _ z => z.wakeOne) _ _ h.tell.endRun
theorem PcOk.leave {t : Nat} {c : Cond} {r : Int} (h : PcOk S) : PcOk (leave S t c r) := by
  unfold MM.leave
  exact (h.endRun (t := t) (c := c)).tell
theorem PcOk.goLast {t : Nat} {r : Int} (h : PcOk S) : PcOk (goLast S t r) := by
  unfold MM.goLast
  exact (h.leave (t := t) (c := .ready) (r := r)).mk' rfl rfl
theorem PcOk.waitFor {t : Nat} {x : Int} (h : PcOk S) : PcOk (waitFor S t x) := by
  unfold MM.waitFor
  split
  · exact h.returnCall
  · split
    · exact h.returnCall
    · exact h.leave
theorem PcOk.addThread {p : Nat} {pc f : Int} (h : PcOk S) (h0 : 0 ≤ pc) (h1 : pc < 256) : PcOk (addThread S p pc f) :=
  ⟨fun x hx => by
    rcases List.mem_append.mp hx with z | z
    · exact h.pc x z
    · rw [List.mem_singleton.mp z]
      exact ⟨h0, h1⟩, h.by'⟩
theorem PcOk.doCall {t : Nat} {n a : Int} (h : PcOk S) : PcOk (doCall S t n a) := by
  unfold MM.doCall
  have h1 : PcOk (S.up t fun t => { t with call := n, callAt := a }) := h.up fun _ z => z
  generalize (S.up t fun t => { t with call := n, callAt := a }) = S1 at h1 ⊢
  have h2 := h1.tell (kd := "entry") (t := t) (a := a) (r := [n, MM.reg S1 t 0, MM.reg S1 t 1])
  dsimp only
  generalize MM.tell S1 "entry" t a [n, MM.reg S1 t 0, MM.reg S1 t 1] = S2 at h2 ⊢
  split
  · exact h2.endThread
  split
  · exact h2.returnCall.goLast
  split
  · exact h2.leave
  split
  · exact PcOk.leave (h2.mk' rfl rfl)
  split
  · split
    · exact h2.returnCall
    · exact (h2.addThread (Int.emod_nonneg _ (by decide)) (Int.emod_lt_of_pos _ (by decide))).returnCall
  split
  · exact h2.waitFor
  · exact h2.returnCall
theorem load_plain {m : Mm} {a : Int} (h : m.kept = []) : m.load a = m.cells.getD (a % 256).toNat 0 := by
  unfold Mm.load
  rw [h]
  rfl
theorem PcOk.load {i : Nat} {a : Int} (h : PcOk S) : 0 ≤ (S.mm i).load a ∧ (S.mm i).load a < 256 := by
  by_cases hi : i < S.mem.length
  · obtain ⟨k, b⟩ := h.by' _ (mm_mem hi)
    rw [load_plain k]
    by_cases c : (a % 256).toNat < (S.mm i).cells.length
    · exact b _ (List.mem_of_getElem? (getD_some c))
    · rw [List.getD_eq_getElem?_getD, List.getElem?_eq_none (by omega)]
      decide
  · have e : S.mm i = dMm := out_d hi
    rw [e, load_plain rfl]
    show 0 ≤ ([] : List Int).getD _ 0 ∧ ([] : List Int).getD _ 0 < 256
    rw [List.getD_eq_getElem?_getD, List.getElem?_nil]
    decide
theorem PcOk.move {t : Nat} {c x y : Int} (h : PcOk S) : PcOk (move S t c x y) := by
  unfold MM.move
  dsimp only
  split
  · exact h.setReg
  split
  · exact h.setReg
  split
  · exact h.setReg
  split
  · exact h.setReg
  split
  · exact h.setReg
  split
  · refine ⟨h.pc, fun m hm => ?_⟩
    rcases List.mem_or_eq_of_mem_set hm with z | z
    · exact h.by' m z
    · by_cases hi : (S.th t).pid < S.mem.length
      · obtain ⟨k, b⟩ := h.by' _ (mm_mem hi)
        have e : ∀ a v, (S.mm (S.th t).pid).store a v = { S.mm (S.th t).pid with cells := (S.mm (S.th t).pid).cells.set (a % 256).toNat v } := fun a v => by
          unfold Mm.store
          rw [if_neg (by rw [k]; exact Bool.false_ne_true)]
        rw [z, e]
        refine ⟨k, fun q hq => ?_⟩
        rcases List.mem_or_eq_of_mem_set hq with w | w
        · exact b q w
        · rw [w]
          exact ⟨Int.emod_nonneg _ (by decide), Int.emod_lt_of_pos _ (by decide)⟩
      · have hm : m ∈ S.mem.set (S.th t).pid ((S.mm (S.th t).pid).store (MM.reg S t (x % 4).toNat) (MM.reg S t (x / 4 % 4).toNat % 256)) := hm
        rw [List.set_eq_of_length_le (by omega)] at hm
        exact h.by' m hm
  · exact h
theorem PcOk.nextPc {rs : List Int} {c x y z : Int} (hx : 0 ≤ x ∧ x < 256) (hy : 0 ≤ y ∧ y < 256) (hz : 0 ≤ z ∧ z < 256) : 0 ≤ nextPc rs c x y z ∧ nextPc rs c x y z < 256 := by
  unfold MM.nextPc
  split
  · exact hx
  split
  · exact ⟨Int.emod_nonneg _ (by decide), Int.emod_lt_of_pos _ (by decide)⟩
  split
  · exact hy
  · exact hz
theorem PcOk.doInsn {kd : Bool} {t : Nat} (h : PcOk S) : PcOk (doInsn kd S t) := by
  unfold MM.doInsn
  dsimp only
  have hx := h.load (i := (S.th t).pid) (a := (S.th t).pc + 1)
  have hy := h.load (i := (S.th t).pid) (a := (S.th t).pc + 2)
  have h1 : PcOk (if (S.mm (S.th t).pid).tells kd (S.th t).pc then MM.tell S "insn" t (S.th t).pc [(S.mm (S.th t).pid).load (S.th t).pc] else S) := by
    split
    · exact h.tell
    · exact h
  generalize (if (S.mm (S.th t).pid).tells kd (S.th t).pc then MM.tell S "insn" t (S.th t).pc [(S.mm (S.th t).pid).load (S.th t).pc] else S) = S1 at h1 ⊢
  split
  · exact h1.tell.endThread
  have h2 := h1.up (t := t) (f := fun x => { x with pc := MM.nextPc (S1.th t).regs ((S.mm (S.th t).pid).load (S.th t).pc) ((S.mm (S.th t).pid).load ((S.th t).pc + 1)) ((S.mm (S.th t).pid).load ((S.th t).pc + 2)) (((S.th t).pc + lens.getD ((S.mm (S.th t).pid).load (S.th t).pc).toNat 0) % 256) }) fun _ _ => PcOk.nextPc hx hy ⟨Int.emod_nonneg _ (by decide), Int.emod_lt_of_pos _ (by decide)⟩
  split
  · exact h2.endThread
  split
  · exact h2.doCall
  split
  · exact h2.setReg
  · exact h2.move
theorem PcOk.wake (h : PcOk S) : PcOk (wake S) := by
  unfold MM.wake
  refine PcOk.fold (fun S i z => ?_) _ _ h
  unfold wakeIf
  split
  · exact z.returnCall
  · exact z
theorem PcOk.beginRun {t : Nat} (h : PcOk S) : PcOk (beginRun S t) := by
  unfold MM.beginRun
  have h1 : PcOk ({ MM.setCond S t (.running S.cpu) with run := S.run.set S.cpu t } : MS) := (h.setCond (t := t) (c := .running S.cpu)).mk' rfl rfl
  exact h1.tell
theorem PcOk.doStep {kd : Bool} (h : PcOk S) : PcOk (doStep kd S) := by
  unfold MM.doStep
  split
  · exact h.doInsn
  · split
    · exact h
    · exact PcOk.beginRun (h.mk' rfl rfl)
theorem PcOk.doTimer (h : PcOk S) : PcOk (doTimer S) := by
  unfold MM.doTimer
  have h1 : PcOk (MM.tellTick S) := h.mk' rfl rfl
  dsimp only
  split
  · exact h1.goLast
  · exact h1
theorem PcOk.doRequest (h : PcOk S) : PcOk (doRequest S) := by
  unfold MM.doRequest
  split
  · exact h
  · rename_i tid call number r _
    dsimp only
    have h2 : PcOk (if call = 3 then { S with reqs := r, dev := number } else { S with reqs := r } : MS) := by
      split
      · exact h.mk' rfl rfl
      · exact h.mk' rfl rfl
    exact h2.tell.returnCall
theorem PcOk.doPick {kd : Bool} {cpu : Nat} {what : Str} (h : PcOk S) : PcOk (doPick kd S cpu what) := by
  unfold MM.doPick
  dsimp only
  have h1 : PcOk (MM.wake (begin' S cpu)) := PcOk.wake (h.mk' rfl rfl)
  split
  · exact h1.doStep
  split
  · exact h1.doTimer
  split
  · exact h1.doRequest
  · exact h1
/-- telling and changing a thread beside what is told -/
theorem tell_up {S : MS} {t : Nat} {f : Th → Th} {kd : Str} {a : Int} {r : List Int} (ht : t < S.ths.length) (hp : ∀ x : Th, (f x).pid = x.pid) (hr : ∀ x : Th, (f x).regs = x.regs) : MM.tell (S.up t f) kd t a r = (MM.tell S kd t a r).up t f := by
  have e := up_th (f := f) ht
  unfold MM.tell
  rw [e, hp, hr]
  rfl
theorem up_up {S : MS} {t : Nat} {f g : Th → Th} (ht : t < S.ths.length) : (S.up t f).up t g = S.up t fun x => g (f x) := by
  have e := up_th (f := f) ht
  unfold MS.up MS.setTh at e ⊢
  rw [e]
  show ({ S with ths := (S.ths.set t _).set t _ } : MS) = _
  rw [List.set_set]
def spInsn : Sp := fun vs H Q _ => ∃ ad S k tid, vs = [.ref (ad .m), .int (S.cpu : Int), .int ((tid : Nat) : Int)] ∧ LOk ad S H k ∧ PcOk S ∧ k ≤ 49800 ∧ tid < S.ths.length ∧ ∀ ad' H', Lm ad' (doInsn false S tid) H' → Mvl S.ths.length S.mem.length ad (doInsn false S tid).ths.length S.mem.length ad' H H' → Q .non H'
theorem x_ld {ad : Tg → PySem.Addr} {S : MS} {H : Hp} {k i : Nat} {a : Int} {Q : VK} {K : PySem.W.Frag} (O : LOk ad S H k) (hi : i < S.mem.length) (h : Q (.int ((S.mm i).load a)) H) : rIxL K (.ref (ad (.me i))) (.int (a % 256)) H Q := by
  refine x_me O.B O.W hi (Int.emod_nonneg _ (by decide)) (Int.emod_lt_of_pos _ (by decide)) ?_
  rw [← load_plain (O.nil hi)]
  exact h
theorem x_ld0 {ad : Tg → PySem.Addr} {S : MS} {H : Hp} {k i : Nat} {a : Int} {Q : VK} {K : PySem.W.Frag} (O : LOk ad S H k) (hi : i < S.mem.length) (h0 : 0 ≤ a) (h1 : a < 256) (h : Q (.int ((S.mm i).load a)) H) : rIxL K (.ref (ad (.me i))) (.int a) H Q := by
  have e : a % 256 = a := Int.emod_eq_of_lt h0 h1
  have z := x_ld (K := K) (a := a) O hi h
  rw [e] at z
  exact z
theorem store_plain {m : Mm} {a b : Int} (h : m.kept = []) : m.store a b = { m with cells := m.cells.set (a % 256).toNat b } := by
  unfold Mm.store
  rw [if_neg (by rw [h]; exact Bool.false_ne_true)]
theorem r_eqB {a b : Bool} {H : Hp} {Q : VK} (h : Q (.bl (decide (a = b))) H) : rEq (.bl a) (.bl b) H Q := ⟨rfl, by
  rw [show decide (V.bl a = V.bl b) = decide (a = b) from by simp]; exact h⟩
end
end LM
end
section
/-! the laws' own machine: sleeping -/
namespace LM
open PySem PySem.Spec PyProof.Rows L2 MM
theorem sl_cond {K : PySem.W.Frag} {H : Hp} {Q : VK} {cd : Cond} {c0 : PySem.Addr} (e : H c0 = some (.tup (condV cd))) (h : ∀ p H', Same H H' → H' p = some (.tup ((condV cd).take 2)) → Q (.ref p) H') : rSlA K (.ref c0) none (some 2) H Q := by
  refine ⟨c0, condV cd, rfl, R.sqT e, fun hw => h c0 H (Same.refl H) ?_, fun _ p hp => h p _ (R.same_new hp) ?_⟩
  · rw [e]
    cases cd with
    | sleeping c u => exact absurd hw.2 (show ¬ HT.sIx 3 3 (some 2) = 3 by decide)
    | _ => rfl
  · rw [upd_same]
    cases cd <;> rfl
def slp (c : Int) : Cond → Bool
  | .sleeping c' _ => decide ((c' : Int) = c)
  | _ => false
theorem eq_sleep {K : PySem.W.Frag} {H : Hp} {Q : VK} {cd : Cond} {p g : PySem.Addr} {c : Int} (e : H p = some (.tup ((condV cd).take 2))) (x : H g = some (.tup [.str "sleeping", .int c])) (q : Q (.bl (slp c cd)) H) : rEqD K (.ref p) (.ref g) H Q := by
  have dg : Dp K H (.ref g) (.tuple [.str "sleeping", .int c]) := .tup (R.sqT x) (.cons (.str _) (.cons (.int _) .nil))
  have sg : D.Sh 1 (.tuple [.str "sleeping", .int c]) := .tup (.cons (.str (by decide +kernel)) (.cons (.int _) .nil))
  have go : ∀ d, Dp K H (.ref p) d → D.Sh 1 d → (d = .tuple [.str "sleeping", .int c] ↔ slp c cd = true) → rEqD K (.ref p) (.ref g) H Q := fun d hd sd hi => by
    refine D.r_eqD hd dg sd sg (by decide) (by decide) hi ?_
    rw [Bool.decide_eq_true]
    exact q
  cases cd with
  | ready => exact go (.tuple [.str "ready"]) (.tup (R.sqT e) (.cons (.str _) .nil)) (.tup (.cons (.str (by decide +kernel)) .nil)) (by simp [slp])
  | asking => exact go (.tuple [.str "asking"]) (.tup (R.sqT e) (.cons (.str _) .nil)) (.tup (.cons (.str (by decide +kernel)) .nil)) (by simp [slp])
  | running u => exact go (.tuple [.str "running", .int u]) (.tup (R.sqT e) (.cons (.str _) (.cons (.int _) .nil))) (.tup (.cons (.str (by decide +kernel)) (.cons (.int _) .nil))) (by simp [slp]; exact fun h => absurd h (by decide +kernel))
  | waiting u => exact go (.tuple [.str "waiting", .int u]) (.tup (R.sqT e) (.cons (.str _) (.cons (.int _) .nil))) (.tup (.cons (.str (by decide +kernel)) (.cons (.int _) .nil))) (by simp [slp]; exact fun h => absurd h (by decide +kernel))
  | ended u => exact go (.tuple [.str "ended", .int u]) (.tup (R.sqT e) (.cons (.str _) (.cons (.int _) .nil))) (.tup (.cons (.str (by decide +kernel)) (.cons (.int _) .nil))) (by simp [slp]; exact fun h => absurd h (by decide +kernel))
  | sleeping u v => exact go (.tuple [.str "sleeping", .int u]) (.tup (R.sqT e) (.cons (.str _) (.cons (.int _) .nil))) (.tup (.cons (.str (by decide +kernel)) (.cons (.int _) .nil))) (by simp [slp])
theorem slp_iff {c : Nat} {cd : Cond} : slp (c : Int) cd = true ↔ ∃ u, cd = .sleeping c u := by
  cases cd with
  | sleeping c' u =>
    show decide ((c' : Int) = (c : Int)) = true ↔ _
    rw [decide_eq_true_iff]
    exact ⟨fun h => ⟨u, by rw [Int.ofNat.inj h]⟩, fun ⟨v, h⟩ => by injection h with h1 _; rw [h1]⟩
  | _ => exact ⟨fun h => (nomatch h), fun ⟨_, h⟩ => (nomatch h)⟩
theorem cut_tail {x : V} {xs : List V} : cutV (x :: xs) (some 1) none = xs := by
  unfold cutV
  have h1 : HT.sIx (x :: xs).length 0 (some 1) = 1 := by
    rw [show (1 : Int) = ((1 : Nat) : Int) from rfl, HT.sIx_nat]
    simp
  rw [h1, HT.sIx_none]
  show ((x :: xs).drop 1).take ((x :: xs).length - 1) = xs
  simp
theorem dp_rdy {K : PySem.W.Frag} {ad : Tg → PySem.Addr} {S : MS} {H : Hp} (B : Lm ad S H) : Dp K H (.ref (ad .rdyL)) (.list (S.ready.map fun i : Nat => PyData.int (i : Int))) := .lst (R.sqL B.at_rdy) (_root_.D.all_map fun _ _ => .int _)
theorem sh_rdy {l : List Nat} : _root_.D.Sh 1 (.list (l.map fun i : Nat => PyData.int (i : Int))) := .lst fun y hy => by
  obtain ⟨i, _, e⟩ := List.mem_map.mp hy
  rw [← e]
  exact .int _
end LM
namespace LM
open PySem PySem.Spec PyProof.Rows L2 MM
theorem sh_rqs {l : List (Nat × Int × Int)} : ∀ y ∈ l.map rqD, _root_.D.Sh 1 y := fun y hy => by
  obtain ⟨m, _, e⟩ := List.mem_map.mp hy
  rw [← e]
  exact (_root_.D.Sh.tup (.cons (.int _) (.cons (.int _) (.cons (.int _) .nil))) : _root_.D.Sh (0 + 1) _)
end LM
end
section
/-! built-ins called within a comprehension -/
namespace R
open PySem PySem.Spec PyProof.Rows L2
theorem cLenSK {X : Cx} {K0 : PySem.W.Frag} (hK : X.K = K0) : CallR X (.builtin "len") (rLenS K0) := hK ▸ cLenS
theorem cListOfK {X : Cx} {K0 : PySem.W.Frag} (hK : X.K = K0) : CallR X (.type "list") (MM.rListOf K0) := hK ▸ MM.cListOf
theorem cTupOfK {X : Cx} {K0 : PySem.W.Frag} (hK : X.K = K0) : CallR X (.type "tuple") (MM.rTupOf K0) := hK ▸ MM.cTupOf
theorem ixTK {X : Cx} {K0 : PySem.W.Frag} (hK : X.K = K0) : IxR X (rIxT K0) := hK ▸ ix_tup
theorem ixLK {X : Cx} {K0 : PySem.W.Frag} (hK : X.K = K0) : IxR X (rIxL K0) := hK ▸ ix_list
end R
/-! the law's machine at its beginning; picks; what both machines tell -/
namespace LM
open PySem PySem.Spec PyProof.Rows L2 MM
/-- things made since H0, each apart -/
structure Nl (H0 : Hp) (ad : Tg → PySem.Addr) (ct : Tg → Option HO) (H : Hp) : Prop where
  L : Lay ad ct H
  s : Same H0 H
  n : ∀ u o, ct u = some o → H0 (ad u) = none
def ctE (ct : Tg → Option HO) (t : Tg) (o : HO) : Tg → Option HO := fun u => if u = t then some o else ct u
section
variable {H0 H H' : Hp} {ad : Tg → PySem.Addr} {ct ct' : Tg → Option HO} {t : Tg} {p : PySem.Addr} {o o' : HO}
theorem Nl.nil : Nl H0 ad (fun _ => none) H0 := ⟨⟨fun _ _ h => (nomatch h), fun _ _ _ _ h => (nomatch h)⟩, Same.refl H0, fun _ _ h => (nomatch h)⟩
theorem Nl.same (N : Nl H0 ad ct H) (s : Same H H') : Nl H0 ad ct H' := ⟨N.L.same s, N.s.trans s, N.n⟩
theorem Nl.congr (N : Nl H0 ad ct H) (e : ∀ t, ct' t = ct t) : Nl H0 ad ct' H := ⟨N.L.congr e, N.s, fun u o h => N.n u o (by rw [← e]; exact h)⟩
theorem Nl.add (N : Nl H0 ad ct H) (t : Tg) (s : Same H H') (hp : H p = none) (e : H' p = some o) : Nl H0 (adE ad t p) (ctE ct t o) H' :=
  ⟨(N.L.same s).mv t e fun _ _ h => ne_of_none (N.L.at' _ _ h) hp, N.s.trans s, fun u o' h => by
    have h : (if u = t then some o else ct u) = some o' := h
    by_cases z : u = t
    · rw [adE, if_pos z]; exact N.s.free hp
    · rw [adE_ne z]
      rw [if_neg z] at h
      exact N.n u o' h⟩
theorem Nl.put (N : Nl H0 ad ct H) (h : ct t = some o) (o' : HO) : Nl H0 ad (ctE ct t o') (upd H (ad t) o') :=
  ⟨N.L.put h o', fun b x e => by rw [upd_ne (ne_of_none e (N.n _ _ h))]; exact N.s b x e, fun u o' h' => by
    have h' : (if u = t then some _ else ct u) = some o' := h'
    by_cases z : u = t
    · rw [z]; exact N.n _ _ h
    · rw [if_neg z] at h'
      exact N.n u o' h'⟩
end
def ctM (o : HO) (ad : Tg → PySem.Addr) (progs : List (List Int)) (i : Nat) : Tg → Option HO
  | .m => some o
  | .memL => some (.lst ((List.range i).map fun j => V.ref (ad (.me j))))
  | .me j => if j < i then progs[j]?.map (fun p => HO.lst ((fill p).map V.int)) else none
  | _ => none
/-- the memories, while they are made -/
def Ms (H0 : Hp) (pm : PySem.Addr) (progs : List (List Int)) (D : PySem.Addr) (i : Nat) (H : Hp) : Prop := ∃ ad, Nl H0 ad (ctM (.dK []) ad progs i) H ∧ ad .m = pm ∧ ad .memL = D
theorem Ms.start {H0 H1 : Hp} {pm D : PySem.Addr} {progs : List (List Int)} (hp : H0 pm = none) (e1 : H1 = upd H0 pm (.dK [])) (hD : H1 D = none) : Ms H0 pm progs D 0 (upd H1 D (.lst [])) := by
  have n1 : Nl H0 (adE (fun _ => 0) .m pm) (ctE (fun _ => none) .m (.dK [])) H1 := Nl.nil.add .m (by rw [e1]; exact R.same_new hp) hp (by rw [e1, upd_same])
  refine ⟨_, (n1.add .memL (R.same_new hD) hD upd_same).congr fun u => ?_, rfl, rfl⟩
  cases u <;> first | rfl | (show (if _ < 0 then _ else _) = _; rw [if_neg (Nat.not_lt_zero _)]; rfl)
theorem Ms.step {H0 H H2 : Hp} {pm D l : PySem.Addr} {progs : List (List Int)} {i : Nat} {p : List Int} (h : Ms H0 pm progs D i H) (ep : progs[i]? = some p) (s : Same H H2) (hl : H l = none) (el : H2 l = some (.lst ((fill p).map V.int))) :
    ∃ acc, H2 D = some (.lst acc) ∧ acc.length = i ∧ Ms H0 pm progs D (i + 1) (upd H2 D (.lst (acc ++ [.ref l]))) := by
  obtain ⟨ad, N, e1, e2⟩ := h
  have eD : H2 D = some (.lst ((List.range i).map fun j => V.ref (ad (.me j)))) := by
    rw [← e2]
    exact s _ _ (N.L.at' .memL _ rfl)
  refine ⟨_, eD, by rw [List.length_map, List.length_range], adE ad (.me i) l, ?_, by rw [adE_ne (by nofun)]; exact e1, by rw [adE_ne (by nofun)]; exact e2⟩
  have N2 := N.add (.me i) s hl el
  have N3 := N2.put (t := .memL) (o := .lst ((List.range i).map fun j => V.ref (ad (.me j)))) (by rw [ctE, if_neg (by nofun)]; rfl) (.lst ((List.range i).map (fun j => V.ref (ad (.me j))) ++ [.ref l]))
  rw [show adE ad (.me i) l .memL = D by rw [adE_ne (by nofun)]; exact e2] at N3
  refine N3.congr fun u => ?_
  cases u with
  | memL =>
    show some (HO.lst ((List.range (i + 1)).map fun j => V.ref (adE ad (.me i) l (.me j)))) = some (HO.lst _)
    rw [List.range_succ, List.map_append]
    congr 2
    refine congr (congrArg _ (List.map_congr_left fun j hj => ?_)) ?_
    · have := List.mem_range.mp hj
      rw [adE_ne (fun q => by have := Tg.me.inj q; omega)]
    · show [V.ref (adE ad (.me i) l (.me i))] = _
      rw [adE, if_pos rfl]
  | me j =>
    show (if j < i + 1 then progs[j]?.map (fun p => HO.lst ((fill p).map V.int)) else none) = if Tg.me j = .memL then _ else if Tg.me j = .me i then some _ else _
    rw [if_neg (show ¬ Tg.me j = Tg.memL from nofun)]
    by_cases z : j = i
    · subst z
      rw [if_pos (by omega), if_pos rfl, ep]
      rfl
    · rw [if_neg (fun q => z (Tg.me.inj q))]
      show _ = if j < i then _ else _
      by_cases z2 : j < i
      · rw [if_pos z2, if_pos (by omega)]
      · rw [if_neg z2, if_neg (by omega)]
  | _ => rfl
/-- the state when i threads have begun -/
def S0i (progs : List (List Int)) (rates : List Int) (i : Nat) : MS := { S0 progs rates with ths := (List.range i).map th0, ready := List.range i }
theorem S0i_add {progs : List (List Int)} {rates : List Int} {i : Nat} : addThread (S0i progs rates i) i 0 0 = S0i progs rates (i + 1) := by
  have l : ((List.range i).map th0).length = i := by rw [List.length_map, List.length_range]
  show ({ S0 progs rates with ths := (List.range i).map th0 ++ [th0 i], ready := List.range i ++ [((List.range i).map th0).length] } : MS) = { S0 progs rates with ths := (List.range (i + 1)).map th0, ready := List.range (i + 1) }
  rw [l, List.range_succ, List.map_append]
  rfl
theorem S0i_wf {progs : List (List Int)} {rates : List Int} {i : Nat} (h1 : progs.length ≤ 4) (h2 : rates.length ≤ 4) (h3 : 0 < rates.length) (hp : ∀ p ∈ progs, p.length ≤ 256 ∧ ∀ b ∈ p, 0 ≤ b) (hi : i ≤ progs.length) : WF (S0i progs rates i) 8 := by
  have W := wf_start h1 h2 h3 hp
  have l : ((List.range i).map th0).length = i := by rw [List.length_map, List.length_range]
  refine { W with nt := ?_, th := ?_, rd := ?_, rdl := ?_, rnl := ?_, rq := fun q hq => nomatch hq }
  · show ((List.range i).map th0).length ≤ 8
    rw [l]; omega
  · intro t ht
    obtain ⟨j, hj, e⟩ := List.mem_map.mp (show t ∈ (List.range i).map th0 from ht)
    have hj := List.mem_range.mp hj
    exact W.th t (by rw [← e]; exact List.mem_map.mpr ⟨j, List.mem_range.mpr (by omega), rfl⟩)
  · intro j hj
    show j < ((List.range i).map th0).length
    rw [l]
    exact List.mem_range.mp hj
  · show (List.range i).length ≤ 8
    rw [List.length_range]; omega
  · intro r hr
    have hr : r ∈ List.replicate rates.length (-1 : Int) := hr
    rw [List.eq_of_mem_replicate hr]
    omega
theorem S0_plain {progs : List (List Int)} {rates : List Int} {i : Nat} : ∀ ks ∈ (S0i progs rates i).mem.map (fun m => m.kept.map (·.1)), ks = [] := fun ks h => by
  obtain ⟨m, hm, rfl⟩ := List.mem_map.mp h
  have hm : m ∈ progs.map fun p => (⟨fill p, []⟩ : Mm) := hm
  obtain ⟨p, _, rfl⟩ := List.mem_map.mp hm
  rfl
theorem S0_pc {progs : List (List Int)} {rates : List Int} (hp : ∀ p ∈ progs, p.length ≤ 256 ∧ ∀ b ∈ p, 0 ≤ b ∧ b < 256) : PcOk (S0 progs rates) where
  pc t ht := by
    obtain ⟨i, _, e⟩ := List.mem_map.mp (show t ∈ (List.range progs.length).map th0 from ht)
    rw [← e]
    exact ⟨Int.le_refl _, by show (0 : Int) < 256; decide⟩
  by' m hm := by
    obtain ⟨p, h, e⟩ := List.mem_map.mp (show m ∈ progs.map (fun p => (⟨fill p, []⟩ : Mm)) from hm)
    rw [← e]
    refine ⟨rfl, fun b hbm => ?_⟩
    have hbm : b ∈ MM.fill p := hbm
    unfold MM.fill at hbm
    rcases List.mem_append.mp hbm with z | z
    · exact (hp p h).2 b z
    · rw [List.eq_of_mem_replicate z]
      decide
/-- the machine's own things at its start -/
theorem lm_start {H0 H : Hp} {ad : Tg → PySem.Addr} {rt : PySem.Addr} {progs : List (List Int)} {rates : List Int} {ct : Tg → Option HO} (N : Nl H0 ad ct H) (ert : H rt = some (.tup (rates.map V.int)))
    (hc : ∀ u, cont ad ⟨fun _ => 0, fun _ => 0, [], [], rt⟩ (S0i progs rates 0) u = ct u) : Lm ad (S0i progs rates 0) H ∧ ∀ u, dom 0 progs.length u → H0 (ad u) = none :=
  ⟨⟨⟨fun _ => 0, fun _ => 0, [], [], rt⟩, N.L.congr hc, (fun i t e => by
    have e : ([] : List Th)[i]? = some t := e
    rw [List.getElem?_nil] at e
    cases e), .nil, .nil, ert⟩, fun u d => by
    obtain ⟨o, e⟩ := some_dom (ad := ad) (g := ⟨fun _ => 0, fun _ => 0, [], [], rt⟩) (S := S0i progs rates 0) (t := u) (by
      rw [show (S0i progs rates 0).mem.length = progs.length from List.length_map _]
      exact d)
    rw [hc] at e
    exact N.n u o e⟩
theorem Nl.fresh {H0 H : Hp} {ad : Tg → PySem.Addr} {g : Gh} {S : MS} (N : Nl H0 ad (cont ad g S) H) : ∀ u, dom S.ths.length S.mem.length u → H0 (ad u) = none := fun u d => by
  obtain ⟨o, e⟩ := some_dom (ad := ad) (g := g) d
  exact N.n u o e
def spModel : Sp := fun vs H Q _ => ∃ pg rt progs rates, vs = [.ref pg, .ref rt] ∧ PgAt H pg progs ∧ H rt = some (.tup (rates.map V.int)) ∧ progs.length ≤ 4 ∧ rates.length ≤ 4 ∧ 0 < rates.length ∧ (∀ p ∈ progs, p.length ≤ 256 ∧ ∀ b ∈ p, 0 ≤ b ∧ b < 256) ∧
  ∀ ad H', Lm ad (S0 progs rates) H' → Same H H' → (∀ t, dom progs.length progs.length t → H (ad t) = none) → Q (.ref (ad .m)) H'
/-! picks -/
def PkAt (H : Hp) (a : PySem.Addr) (p : Nat × Str) : Prop := H a = some (.tup [.int ((p.1 : Nat) : Int), .str p.2])
def spPick2 : Sp := fun vs H Q _ => ∃ (pw dl : PySem.Addr) (cpus : Int), vs = [.ref pw, .int cpus] ∧ 0 < cpus ∧ Wd H pw dl ∧ ∀ H' p (c : Int) what, Gw pw dl H H' → H' p = some (.tup [.int c, .str what]) → 0 ≤ c → c < cpus → what ∈ Pks → Q (.ref p) H'
def spProg2 : Sp := fun vs H Q _ => ∃ (pw dl : PySem.Addr), vs = [.ref pw] ∧ Wd H pw dl ∧ ∀ H' p (ns : List Int), Gw pw dl H H' → H' p = some (.tup (ns.map V.int)) → ns.length ≤ 256 → (∀ b ∈ ns, 0 ≤ b ∧ b < 256) → Q (.ref p) H'
/-- one pick more: the state, and all that was told -/
def rn (X : MS × List Vw) (p : Nat × Str) : MS × List Vw := ({ doPick false X.1 p.1 p.2 with views := [] }, X.2 ++ (doPick false X.1 p.1 p.2).views)
def rnAt (S : MS) (ps : List (Nat × Str)) (i : Nat) : MS × List Vw := (ps.take i).foldl rn (S, [])
theorem rnAt_0 {S : MS} {ps : List (Nat × Str)} : rnAt S ps 0 = (S, []) := rfl
theorem rnAt_s {S : MS} {ps : List (Nat × Str)} {i : Nat} {p : Nat × Str} (h : ps[i]? = some p) : rnAt S ps (i + 1) = rn (rnAt S ps i) p := by
  unfold rnAt
  rw [take_snoc h, List.foldl_append]
  rfl
structure RnOk (S0 S : MS) (V : List Vw) (k : Nat) (i : Nat) : Prop where
  W : WF S (k + 20 * i)
  rt : S.rates = S0.rates
  nm : S.mem.length = S0.mem.length
  km : S.mem.map (fun m => m.kept.map (·.1)) = S0.mem.map (fun m => m.kept.map (·.1))
  pc : PcOk S
  vl : V.length ≤ i * (k + 20 * 100)
  vk : ∀ w ∈ V, PyData.strOk w.kind = true
  vn : S.views = []
theorem RnOk.start {S : MS} {k : Nat} (W : WF S k) (pc : PcOk S) (hv : S.views = []) : RnOk S S [] k 0 := ⟨by rw [Nat.mul_zero]; exact W, rfl, rfl, rfl, pc, Nat.zero_le _, fun _ h => (nomatch h), hv⟩
theorem RnOk.step {S0 S : MS} {V : List Vw} {k i cpu : Nat} {what : Str} (h : RnOk S0 S V k i) (hc : cpu < S0.rates.length) (hi : i < 100) :
    RnOk S0 (rn (S, V) (cpu, what)).1 (rn (S, V) (cpu, what)).2 k (i + 1) := by
  obtain ⟨_, km, er, W⟩ := doPick_ok (kd := false) (what := what) h.W (by rw [h.rt]; exact hc)
  have K : KOk (doPick false S cpu what) := KOk.doPick fun w hw => by rw [h.vn] at hw; cases hw
  have pc := h.pc.doPick (kd := false) (cpu := cpu) (what := what)
  refine ⟨?_, er.trans h.rt, ?_, km.trans h.km, pc.mk' rfl rfl, ?_, ?_, rfl⟩
  · have W' : WF (doPick false S cpu what) (k + 20 * (i + 1)) := by rw [show k + 20 * (i + 1) = k + 20 * i + 20 by omega]; exact W
    exact { W' with vw := Nat.zero_le _ }
  · have z := congrArg List.length (km.trans h.km)
    rwa [List.length_map, List.length_map] at z
  · show (V ++ (doPick false S cpu what).views).length ≤ _
    have v := h.vl
    have w := W.vw
    rw [List.length_append, Nat.add_mul]
    omega
  · intro w hw
    rcases List.mem_append.mp hw with z | z
    · exact h.vk w z
    · exact K w z
end LM
namespace LM
open PySem PySem.Spec PyProof.Rows L2 MM
theorem Nl.dput {H0 H H' : Hp} {ad : Tg → PySem.Addr} {ct : Tg → Option HO} {t : Tg} {p pm : PySem.Addr} {o : HO} {kvs : List (Key × V)} (N : Nl H0 ad ct H) (em : ad .m = pm) (ec : ct .m = some (.dK kvs)) (ht : Tg.m ≠ t) (s : Same H H') (hp : H p = none) (e : H' p = some o) :
    H' pm = some (.dK kvs) ∧ adE ad t p .m = pm ∧ ∀ kvs', Nl H0 (adE ad t p) (ctE (ctE ct t o) .m (.dK kvs')) (upd H' pm (.dK kvs')) := by
  have em' : adE ad t p .m = pm := by rw [adE_ne ht]; exact em
  have N2 := N.add t s hp e
  have ec2 : ctE ct t o .m = some (.dK kvs) := by rw [ctE, if_neg ht]; exact ec
  have at2 := N2.L.at' .m _ ec2
  rw [em'] at at2
  refine ⟨at2, em', fun kvs' => ?_⟩
  have N3 := N2.put ec2 (.dK kvs')
  rw [em'] at N3
  exact N3
theorem ctE_m {ct : Tg → Option HO} {o : HO} : ctE ct .m o .m = some o := if_pos rfl
theorem S0_me {progs : List (List Int)} {rates : List Int} {j : Nat} : ((S0i progs rates 0).mem[j]?.map fun m => HO.lst (m.cells.map V.int)) = if j < progs.length then progs[j]?.map (fun p => HO.lst ((fill p).map V.int)) else none := by
  show ((progs.map fun p => (⟨MM.fill p, []⟩ : Mm))[j]?.map fun m => HO.lst (m.cells.map V.int)) = _
  rw [List.getElem?_map]
  by_cases z : j < progs.length
  · rw [if_pos z, List.getElem?_eq_getElem z]; rfl
  · rw [if_neg z, List.getElem?_eq_none (by omega)]; rfl
end LM
namespace LM
open PySem PySem.Spec PyProof.Rows L2 MM
theorem same_acc {H H1 : Hp} {D : PySem.Addr} {o : HO} (hD : H D = none) (s : Same H H1) : Same H (upd H1 D o) := fun b x e => by
  rw [upd_ne (ne_of_none e hD)]
  exact s b x e
end LM
namespace LM
open PySem PySem.Spec PyProof.Rows L2 MM
theorem rn_ok {S : MS} {ps : List (Nat × Str)} {k : Nat} (W : WF S k) (pc : PcOk S) (hv : S.views = []) (hp : ∀ p ∈ ps, p.1 < S.rates.length) (hl : ps.length ≤ 100) : ∀ i, i ≤ ps.length → RnOk S (rnAt S ps i).1 (rnAt S ps i).2 k i
  | 0, _ => .start W pc hv
  | i + 1, h => by
    have e := List.getElem?_eq_getElem (show i < ps.length by omega)
    have z := (rn_ok W pc hv hp hl i (by omega)).step (cpu := ps[i].1) (what := ps[i].2) (hp _ (List.getElem_mem _)) (by omega)
    rw [rnAt_s e]
    exact z
theorem size_big {n : Nat} (h : n ≤ 1000000) : n ≤ sizeLine := Nat.le_trans h (by decide)
/-- an event -/
def EvAt (H : Hp) (a : PySem.Addr) (w : Vw) : Prop := ∃ g, H a = some (.tup [.str w.kind, .int w.cpu, .int w.time, .int w.pid, .int w.tid, .int w.at', .ref g]) ∧ H g = some (.tup (w.args.map V.int))
theorem EvAt.keep {H H' : Hp} (k : KeepT H H') {a : PySem.Addr} {w : Vw} (h : EvAt H a w) : EvAt H' a w := by
  obtain ⟨g, e1, e2⟩ := h
  exact ⟨g, k _ _ e1, k _ _ e2⟩
def evD (w : Vw) : PyData := .tuple [.str w.kind, .int w.cpu, .int w.time, .int w.pid, .int w.tid, .int w.at', .tuple (w.args.map PyData.int)]
theorem dp_ev {K : PySem.W.Frag} {H : Hp} {a : PySem.Addr} {w : Vw} (h : EvAt H a w) : Dp K H (.ref a) (evD w) := by
  obtain ⟨g, e1, e2⟩ := h
  exact .tup (R.sqT e1) (.cons (.str _) (.cons (.int _) (.cons (.int _) (.cons (.int _) (.cons (.int _) (.cons (.int _) (.cons (.tup (R.sqT e2) _root_.D.all_ints) .nil)))))))
theorem sh_ev {w : Vw} (h : PyData.strOk w.kind = true) : _root_.D.Sh 2 (evD w) :=
  .tup (.cons (.str h) (.cons (.int _) (.cons (.int _) (.cons (.int _) (.cons (.int _) (.cons (.int _) (.cons (.tup _root_.D.Sh.ints) .nil)))))))
def spLog : Sp := fun vs H Q _ => ∃ pg rt pk progs rates as pks, vs = [.ref pg, .ref rt, .ref pk] ∧ PgAt H pg progs ∧ H rt = some (.tup (rates.map V.int)) ∧ progs.length ≤ 4 ∧ rates.length ≤ 4 ∧ 0 < rates.length ∧ (∀ p ∈ progs, p.length ≤ 256 ∧ ∀ b ∈ p, 0 ≤ b ∧ b < 256) ∧
  H pk = some (.lst (as.map V.ref)) ∧ All2 (PkAt H) as pks ∧ pks.length ≤ 100 ∧ (∀ p ∈ pks, p.1 < rates.length) ∧
  ∀ H' v vw, Same H H' → H' v = some (.lst (vw.map V.ref)) → All2 (VwAt H') vw (rnAt (S0 progs rates) pks pks.length).2 → Q (.ref v) H'
def spEvs : Sp := fun vs H Q _ => ∃ v vw ws kind, vs = [.ref v, .str kind] ∧ H v = some (.lst (vw.map V.ref)) ∧ All2 (VwAt H) vw ws ∧ ws.length ≤ 300000 ∧
  ∀ H' p es, Same H H' → H' p = some (.lst (es.map V.ref)) → All2 (EvAt H') es (ws.filter fun w => decide (w.kind = kind)) → Q (.ref p) H'
/-- the list of what is kept, while it is made -/
def Kp (H : Hp) (D : PySem.Addr) (ws : List Vw) (kind : Str) (i : Nat) (H' : Hp) : Prop := ∃ es : List PySem.Addr, H' D = some (.lst (es.map V.ref)) ∧ Same H H' ∧ All2 (EvAt H') es ((ws.take i).filter fun w => decide (w.kind = kind))
theorem Kp.start {H : Hp} {D : PySem.Addr} {ws : List Vw} {kind : Str} (hD : H D = none) : Kp H D ws kind 0 (upd H D (.lst [])) := ⟨[], upd_same, R.same_new hD, .nil⟩
theorem Kp.no {H H1 : Hp} {D : PySem.Addr} {ws : List Vw} {kind : Str} {i : Nat} {w : Vw} (h : Kp H D ws kind i H1) (e : ws[i]? = some w) (hk : ¬ w.kind = kind) : Kp H D ws kind (i + 1) H1 := by
  obtain ⟨es, eD, s, al⟩ := h
  refine ⟨es, eD, s, ?_⟩
  rw [take_snoc e, List.filter_append, List.filter_cons_of_neg (by rw [decide_eq_false hk]; exact Bool.false_ne_true), List.filter_nil, List.append_nil]
  exact al
theorem Kp.yes {H H1 : Hp} {D a : PySem.Addr} {ws : List Vw} {kind : Str} {i : Nat} {w : Vw} (h : Kp H D ws kind i H1) (hD : H D = none) (e : ws[i]? = some w) (hk : w.kind = kind) (ea : EvAt H1 a w) (hl : ws.length ≤ 300000) :
    ∃ acc, H1 D = some (.lst acc) ∧ acc.length < sizeLine ∧ Kp H D ws kind (i + 1) (upd H1 D (.lst (acc ++ [.ref a]))) := by
  obtain ⟨es, eD, s, al⟩ := h
  have kt : KeepT H1 (upd H1 D (.lst (es.map V.ref ++ [.ref a]))) := KeepT.upd eD (fun _ => nofun)
  refine ⟨_, eD, ?_, es ++ [a], by rw [upd_same, List.map_append]; rfl, same_acc hD s, ?_⟩
  · rw [List.length_map, al.length]
    have z := List.length_filter_le (fun w : Vw => decide (w.kind = kind)) (ws.take i)
    rw [List.length_take] at z
    exact Nat.lt_of_le_of_lt (show _ ≤ 300000 by omega) (by decide)
  · rw [take_snoc e, List.filter_append, List.filter_cons_of_pos (by rw [decide_eq_true hk]), List.filter_nil]
    exact All2.snoc (R := EvAt _) (EvAt.keep kt ea) (al.imp fun _ _ z => EvAt.keep kt z)
end LM
namespace LM
open PySem PySem.Spec PyProof.Rows L2 MM
theorem All2.app {α β : Type} {R : α → β → Prop} {a c : List α} {b d : List β} (h : MM.All2 R a b) (k : MM.All2 R c d) : MM.All2 R (a ++ c) (b ++ d) := by
  induction h with
  | nil => exact k
  | cons x _ ih => exact .cons x ih
end LM
end
section
/-! a program's row, its bytes below 256 -/
namespace LM
open PySem PySem.Spec PyProof.Rows L2 MM
/-- a row of numbers at a list of its own -/
structure Rw2 (pw dl : PySem.Addr) (H : Hp) (rl : PySem.Addr) (n : Nat) (H' : Hp) : Prop where
  g : Gw pw dl H H'
  r : ∃ ns : List Int, H' rl = some (.lst (ns.map V.int)) ∧ ns.length ≤ n ∧ ∀ b ∈ ns, 0 ≤ b ∧ b < 256
theorem Rw2.ne {pw dl : PySem.Addr} {H : Hp} {rl : PySem.Addr} {n : Nat} {H' : Hp} (w : Rw2 pw dl H rl n H') : rl ≠ pw := fun z => by
  obtain ⟨ns, e, _⟩ := w.r
  obtain ⟨a, ds, e1, _⟩ := w.g.2
  rw [z, e1] at e
  cases e
theorem Rw2.go {pw dl : PySem.Addr} {H H1 H2 : Hp} {rl : PySem.Addr} {n : Nat} (w : Rw2 pw dl H rl n H1) (g : Gw pw dl H1 H2) : Rw2 pw dl H rl n H2 := by
  have ne := w.ne
  obtain ⟨ns, e, l, b⟩ := w.r
  exact ⟨w.g.trans g, ns, g.1 _ _ e ne, l, b⟩
theorem Rw2.sm {pw dl : PySem.Addr} {H H1 H2 : Hp} {rl : PySem.Addr} {n : Nat} (w : Rw2 pw dl H rl n H1) (s : Same H1 H2) : Rw2 pw dl H rl n H2 := by
  obtain ⟨ns, e, l, b⟩ := w.r
  exact ⟨w.g.sm s, ns, s _ _ e, l, b⟩
theorem Rw2.mono {pw dl : PySem.Addr} {H H1 : Hp} {rl : PySem.Addr} {n m : Nat} (w : Rw2 pw dl H rl n H1) (h : n ≤ m) : Rw2 pw dl H rl m H1 := by
  obtain ⟨ns, e, l, b⟩ := w.r
  exact ⟨w.g, ns, e, Nat.le_trans l h, b⟩
/-- row + [..], a new row -/
theorem Rw2.cat {pw dl : PySem.Addr} {H H1 : Hp} {rl : PySem.Addr} {n m : Nat} {Q : VK} (w : Rw2 pw dl H rl n H1) {b : PySem.Addr} {zs : List Int} (e : H1 b = some (.lst (zs.map V.int))) (hz : ∀ x ∈ zs, 0 ≤ x ∧ x < 256) (hm : n + zs.length ≤ m) (h1000 : m ≤ 1000)
    (h : ∀ p H2, Rw2 pw dl H p m H2 → Q (.ref p) H2) : rCat (.ref rl) (.ref b) H1 Q := by
  obtain ⟨ns, er, l, bb⟩ := w.r
  refine ⟨_, _, _, _, rfl, rfl, er, e, R.size_of (by rw [List.length_map, List.length_map]; omega), fun p hp => h p _ ⟨w.g.sm (R.same_new hp), ns ++ zs, ?_, ?_, ?_⟩⟩
  · rw [upd_same, List.map_append]
  · rw [List.length_append]; omega
  · intro x hx
    rcases List.mem_append.mp hx with z | z
    · exact bb x z
    · exact hz x z
end LM
namespace LM
open PySem PySem.Spec PyProof.Rows L2 MM
/-- programs at a list, while they are made -/
structure Pgs2 (pw dl : PySem.Addr) (H : Hp) (D : PySem.Addr) (i : Nat) (H' : Hp) : Prop where
  g : Gw pw dl H H'
  e : ∃ (as : List PySem.Addr) (progs : List (List Int)), H' D = some (.lst (as.map V.ref)) ∧ All2 (fun a (p : List Int) => H' a = some (.tup (p.map V.int))) as progs ∧ progs.length = i ∧ ∀ p ∈ progs, p.length ≤ 256 ∧ ∀ b ∈ p, 0 ≤ b ∧ b < 256
theorem Pgs2.start {pw dl D : PySem.Addr} {H : Hp} (w : Wd H pw dl) (hD : H D = none) : Pgs2 pw dl H D 0 (upd H D (.lst [])) :=
  ⟨(Gw.refl w).put hD (w.ne hD), [], [], upd_same, .nil, rfl, fun _ h => nomatch h⟩
theorem Pgs2.step {pw dl D p : PySem.Addr} {H H1 H2 : Hp} {i : Nat} {ns : List Int} (w : Wd H pw dl) (hD : H D = none) (h : Pgs2 pw dl H D i H1) (g : Gw pw dl H1 H2) (e : H2 p = some (.tup (ns.map V.int))) (l : ns.length ≤ 256) (b : ∀ x ∈ ns, 0 ≤ x ∧ x < 256) (hi : i < 1000) :
    ∃ acc, H2 D = some (.lst acc) ∧ acc.length < sizeLine ∧ Pgs2 pw dl H D (i + 1) (upd H2 D (.lst (acc ++ [.ref p]))) := by
  obtain ⟨g0, as, progs, eD, al, hl, hb⟩ := h
  have nD := w.ne hD
  have eD2 := g.1 _ _ eD nD.1
  have key : ∀ a xs, H2 a = some (.tup xs) → upd H2 D (.lst (as.map V.ref ++ [.ref p])) a = some (.tup xs) := fun a xs z => by
    rw [upd_ne (fun y => by rw [y, eD2] at z; cases z)]
    exact z
  have npw : ∀ a xs, H1 a = some (.tup xs) → a ≠ pw := fun a xs z y => by
    obtain ⟨_, _, e1, _⟩ := g0.2
    rw [y, e1] at z
    cases z
  refine ⟨_, eD2, R.size_lt (by rw [List.length_map, al.length]; omega), (g0.trans g).put hD nD, as ++ [p], progs ++ [ns], by rw [upd_same, List.map_append]; rfl, ?_, by rw [List.length_append, hl]; rfl, ?_⟩
  · exact All2.snoc (R := fun a (q : List Int) => upd H2 D (.lst (as.map V.ref ++ [.ref p])) a = some (.tup (q.map V.int))) (key _ _ e) (al.imp fun a q z => key _ _ (g.1 _ _ z (npw _ _ z)))
  · intro q hq
    rcases List.mem_append.mp hq with z | z
    · exact hb q z
    · rw [List.mem_singleton.mp z]; exact ⟨l, b⟩
/-- picks at a list, while they are made -/
structure Pcs (pw dl : PySem.Addr) (H : Hp) (c : Nat) (D : PySem.Addr) (i : Nat) (H' : Hp) : Prop where
  g : Gw pw dl H H'
  e : ∃ (as : List PySem.Addr) (pks : List (Nat × Str)), H' D = some (.lst (as.map V.ref)) ∧ All2 (PkAt H') as pks ∧ pks.length = i ∧ ∀ p ∈ pks, p.1 < c ∧ p.2 ∈ Pks
theorem Pcs.start {pw dl D : PySem.Addr} {H : Hp} {c : Nat} (w : Wd H pw dl) (hD : H D = none) : Pcs pw dl H c D 0 (upd H D (.lst [])) :=
  ⟨(Gw.refl w).put hD (w.ne hD), [], [], upd_same, .nil, rfl, fun _ h => nomatch h⟩
theorem Pcs.step {pw dl D p : PySem.Addr} {H H1 H2 : Hp} {i c : Nat} {k : Nat × Str} (w : Wd H pw dl) (hD : H D = none) (h : Pcs pw dl H c D i H1) (g : Gw pw dl H1 H2) (e : PkAt H2 p k) (l : k.1 < c) (b : k.2 ∈ Pks) (hi : i < 1000) :
    ∃ acc, H2 D = some (.lst acc) ∧ acc.length < sizeLine ∧ Pcs pw dl H c D (i + 1) (upd H2 D (.lst (acc ++ [.ref p]))) := by
  obtain ⟨g0, as, pks, eD, al, hl, hb⟩ := h
  have nD := w.ne hD
  have eD2 := g.1 _ _ eD nD.1
  have key : ∀ a xs, H2 a = some (.tup xs) → upd H2 D (.lst (as.map V.ref ++ [.ref p])) a = some (.tup xs) := fun a xs z => by
    rw [upd_ne (fun y => by rw [y, eD2] at z; cases z)]
    exact z
  have npw : ∀ a xs, H1 a = some (.tup xs) → a ≠ pw := fun a xs z y => by
    obtain ⟨_, _, e1, _⟩ := g0.2
    rw [y, e1] at z
    cases z
  refine ⟨_, eD2, R.size_lt (by rw [List.length_map, al.length]; omega), (g0.trans g).put hD nD, as ++ [p], pks ++ [k], by rw [upd_same, List.map_append]; rfl, ?_, by rw [List.length_append, hl]; rfl, ?_⟩
  · exact All2.snoc (R := PkAt (upd H2 D (HO.lst (as.map V.ref ++ [V.ref p])))) (show PkAt _ p k from key _ _ e) (al.imp fun a q z => key _ _ (g.1 _ _ z (npw _ _ z)))
  · intro q hq
    rcases List.mem_append.mp hq with z | z
    · exact hb q z
    · rw [List.mem_singleton.mp z]; exact ⟨l, b⟩
def pkD (p : Nat × Str) : PyData := .tuple [.int ((p.1 : Nat) : Int), .str p.2]
theorem dp_pk {K : PySem.W.Frag} {H : Hp} {a : PySem.Addr} {p : Nat × Str} (h : PkAt H a p) : Dp K H (.ref a) (pkD p) := .tup (R.sqT h) (.cons (.int _) (.cons (.str _) .nil))
theorem sh_pk {p : Nat × Str} (h : p.2 ∈ Pks) : _root_.D.Sh 1 (pkD p) := .tup (.cons (.int _) (.cons (.str (by
  have z : ∀ x ∈ Pks, PyData.strOk x = true := by decide +kernel
  exact z _ h)) .nil))
theorem sh_all {α : Type} {k : Nat} {f : α → PyData} {l : List α} (h : ∀ x ∈ l, _root_.D.Sh k (f x)) : ∀ y ∈ l.map f, _root_.D.Sh k y := fun y hy => by
  obtain ⟨m, hm, e⟩ := List.mem_map.mp hy
  rw [← e]
  exact h m hm
theorem PkAt.keep {H H' : Hp} (k : KeepT H H') {a : PySem.Addr} {p : Nat × Str} (h : PkAt H a p) : PkAt H' a p := k _ _ h
end LM
namespace LM
open PySem PySem.Spec PyProof.Rows L2 MM
theorem g_events2 {ad : Tg → PySem.Addr} {S : MS} {H : Hp} {P : V → Prop} {pm : PySem.Addr} (B : Lm ad S H) (em : ad .m = pm) (h : P (.ref (ad .evL))) : ∃ a v, V.ref pm = .ref a ∧ DGet H a (.str "events") (some v) ∧ P v := by
  subst em
  exact g_events B h
/-- lists of views, equal -/
theorem ne_vws {K : PySem.W.Frag} {H : Hp} {Q : VK} {a b : PySem.Addr} {xs ys : List PySem.Addr} {ws : List Vw} (ea : H a = some (.lst (xs.map V.ref))) (eb : H b = some (.lst (ys.map V.ref))) (al : All2 (VwAt H) xs ws) (bl : All2 (VwAt H) ys ws) (hk : ∀ w ∈ ws, PyData.strOk w.kind = true) (q : Q (.bl false) H) : rNeD K (.ref a) (.ref b) H Q := by
  have sh : _root_.D.Sh 4 (.list (ws.map vwD)) := .lst (sh_all fun w hw => sh_vw (hk w hw))
  refine _root_.D.r_neD (p := True) (.lst (R.sqL ea) (dp_all2 (fun _ _ h => dp_vw h) al)) (.lst (R.sqL eb) (dp_all2 (fun _ _ h => dp_vw h) bl)) sh sh (by decide) (by decide) ⟨fun _ => trivial, fun _ => rfl⟩ ?_
  rw [decide_eq_true trivial]
  exact q
theorem eq_vws {K : PySem.W.Frag} {H : Hp} {Q : VK} {a b : PySem.Addr} {xs ys : List PySem.Addr} {ws : List Vw} (ea : H a = some (.lst (xs.map V.ref))) (eb : H b = some (.lst (ys.map V.ref))) (al : All2 (VwAt H) xs ws) (bl : All2 (VwAt H) ys ws) (hk : ∀ w ∈ ws, PyData.strOk w.kind = true) (q : Q (.bl true) H) : rEqD K (.ref a) (.ref b) H Q := by
  have sh : _root_.D.Sh 4 (.list (ws.map vwD)) := .lst (sh_all fun w hw => sh_vw (hk w hw))
  refine _root_.D.r_eqD (p := True) (.lst (R.sqL ea) (dp_all2 (fun _ _ h => dp_vw h) al)) (.lst (R.sqL eb) (dp_all2 (fun _ _ h => dp_vw h) bl)) sh sh (by decide) (by decide) ⟨fun _ => trivial, fun _ => rfl⟩ ?_
  rw [decide_eq_true trivial]
  exact q
theorem ne_evs {K : PySem.W.Frag} {H : Hp} {Q : VK} {a b : PySem.Addr} {xs ys : List PySem.Addr} {ws : List Vw} (ea : H a = some (.lst (xs.map V.ref))) (eb : H b = some (.lst (ys.map V.ref))) (al : All2 (EvAt H) xs ws) (bl : All2 (EvAt H) ys ws) (hk : ∀ w ∈ ws, PyData.strOk w.kind = true) (q : Q (.bl false) H) : rNeD K (.ref a) (.ref b) H Q := by
  have sh : _root_.D.Sh 3 (.list (ws.map evD)) := .lst (sh_all fun w hw => sh_ev (hk w hw))
  refine _root_.D.r_neD (p := True) (.lst (R.sqL ea) (dp_all2 (fun _ _ h => dp_ev h) al)) (.lst (R.sqL eb) (dp_all2 (fun _ _ h => dp_ev h) bl)) sh sh (by decide) (by decide) ⟨fun _ => trivial, fun _ => rfl⟩ ?_
  rw [decide_eq_true trivial]
  exact q
theorem ne_pks {K : PySem.W.Frag} {H : Hp} {Q : VK} {a b : PySem.Addr} {xs : List PySem.Addr} {ps : List (Nat × Str)} (ea : H a = some (.lst (xs.map V.ref))) (eb : H b = some (.lst (xs.map V.ref))) (al : All2 (PkAt H) xs ps) (hk : ∀ p ∈ ps, p.2 ∈ Pks) (q : Q (.bl false) H) : rNeD K (.ref a) (.ref b) H Q := by
  have sh : _root_.D.Sh 2 (.list (ps.map pkD)) := .lst (sh_all fun w hw => sh_pk (hk w hw))
  refine _root_.D.r_neD (p := True) (.lst (R.sqL ea) (dp_all2 (fun _ _ h => dp_pk h) al)) (.lst (R.sqL eb) (dp_all2 (fun _ _ h => dp_pk h) al)) sh sh (by decide) (by decide) ⟨fun _ => trivial, fun _ => rfl⟩ ?_
  rw [decide_eq_true trivial]
  exact q
end LM
end
section
/-! programs made longer; the law's machine as data -/
namespace LM
open PySem PySem.Spec PyProof.Rows L2 MM
structure Rw3 (pw dl : PySem.Addr) (H : Hp) (rl : PySem.Addr) (n0 n : Nat) (H' : Hp) : Prop where
  g : Gw pw dl H H'
  r : ∃ ns : List Int, H' rl = some (.lst (ns.map V.int)) ∧ n0 ≤ ns.length ∧ ns.length ≤ n ∧ ∀ b ∈ ns, 0 ≤ b ∧ b < 256
section
variable {pw dl rl : PySem.Addr} {H H1 H2 : Hp} {n0 n m0 m : Nat}
theorem Rw3.ne (w : Rw3 pw dl H rl n0 n H1) : rl ≠ pw := fun z => by
  obtain ⟨ns, e, _⟩ := w.r
  obtain ⟨a, ds, e1, _⟩ := w.g.2
  rw [z, e1] at e
  cases e
theorem Rw3.go (w : Rw3 pw dl H rl n0 n H1) (g : Gw pw dl H1 H2) : Rw3 pw dl H rl n0 n H2 := by
  have ne := w.ne
  obtain ⟨ns, e, l, b⟩ := w.r
  exact ⟨w.g.trans g, ns, g.1 _ _ e ne, l, b⟩
theorem Rw3.sm (w : Rw3 pw dl H rl n0 n H1) (s : Same H1 H2) : Rw3 pw dl H rl n0 n H2 := by
  obtain ⟨ns, e, l, b⟩ := w.r
  exact ⟨w.g.sm s, ns, s _ _ e, l, b⟩
theorem Rw3.mono (w : Rw3 pw dl H rl n0 n H1) (h0 : m0 ≤ n0) (h : n ≤ m) : Rw3 pw dl H rl m0 m H1 := by
  obtain ⟨ns, e, l0, l, b⟩ := w.r
  exact ⟨w.g, ns, e, Nat.le_trans h0 l0, Nat.le_trans l h, b⟩
theorem Rw3.cat {Q : VK} (w : Rw3 pw dl H rl n0 n H1) {b : PySem.Addr} {zs : List Int} (e : H1 b = some (.lst (zs.map V.int))) (hz : ∀ x ∈ zs, 0 ≤ x ∧ x < 256) (hm0 : m0 ≤ n0 + zs.length) (hm : n + zs.length ≤ m) (h1000 : m ≤ 1000)
    (h : ∀ p H2, Rw3 pw dl H p m0 m H2 → Q (.ref p) H2) : rCat (.ref rl) (.ref b) H1 Q := by
  obtain ⟨ns, er, l0, l, bb⟩ := w.r
  refine ⟨_, _, _, _, rfl, rfl, er, e, R.size_of (by rw [List.length_map, List.length_map]; omega), fun p hp => h p _ ⟨w.g.sm (R.same_new hp), ns ++ zs, ?_, ?_, ?_, ?_⟩⟩
  · rw [upd_same, List.map_append]
  · rw [List.length_append]; omega
  · rw [List.length_append]; omega
  · intro x hx
    rcases List.mem_append.mp hx with z | z
    · exact bb x z
    · exact hz x z
end
def spProg3 : Sp := fun vs H Q _ => ∃ (pw dl : PySem.Addr), vs = [.ref pw] ∧ Wd H pw dl ∧ ∀ H' p (ns : List Int), Gw pw dl H H' → H' p = some (.tup (ns.map V.int)) → 1 ≤ ns.length → ns.length ≤ 256 → (∀ b ∈ ns, 0 ≤ b ∧ b < 256) → Q (.ref p) H'
def spLonger : Sp := fun vs H Q _ => ∃ (pw dl p : PySem.Addr) (ns : List Int), vs = [.ref pw, .ref p] ∧ Wd H pw dl ∧ H p = some (.tup (ns.map V.int)) ∧ 1 ≤ ns.length ∧ ns.length ≤ 256 ∧ (∀ b ∈ ns, 0 ≤ b ∧ b < 256) ∧
  ∀ H' p' (ns' : List Int), Gw pw dl H H' → H' p' = some (.tup (ns'.map V.int)) → ns'.length ≤ 256 → (∀ b ∈ ns', 0 ≤ b ∧ b < 256) → Q (.ref p') H'
/-- a row that changes in place -/
def Rl (pw dl : PySem.Addr) (H : Hp) (rl : PySem.Addr) (n : Nat) (H' : Hp) : Prop := Gw pw dl H H' ∧ H rl = none ∧ ∃ ns : List Int, H' rl = some (.lst (ns.map V.int)) ∧ ns.length = n ∧ ∀ b ∈ ns, 0 ≤ b ∧ b < 256
section
variable {pw dl rl : PySem.Addr} {H H1 H2 : Hp} {n : Nat}
theorem Rl.ne (d : Wd H pw dl) (w : Rl pw dl H rl n H1) : rl ≠ pw ∧ rl ≠ dl := d.ne w.2.1
theorem Rl.go (d : Wd H pw dl) (w : Rl pw dl H rl n H1) (g : Gw pw dl H1 H2) : Rl pw dl H rl n H2 := by
  have ne := w.ne d
  obtain ⟨w1, w2, ns, e, l⟩ := w
  exact ⟨w1.trans g, w2, ns, g.1 _ _ e ne.1, l⟩
theorem Rl.sm (w : Rl pw dl H rl n H1) (s : Same H1 H2) : Rl pw dl H rl n H2 := by
  obtain ⟨w1, w2, ns, e, l⟩ := w
  exact ⟨w1.sm s, w2, ns, s _ _ e, l⟩
theorem Rl.put {ns : List Int} {m : Nat} (d : Wd H pw dl) (w : Rl pw dl H rl n H1) (hl : ns.length = m) (hb : ∀ b ∈ ns, 0 ≤ b ∧ b < 256) : Rl pw dl H rl m (upd H1 rl (.lst (ns.map V.int))) :=
  ⟨w.1.put w.2.1 (d.ne w.2.1), w.2.1, ns, upd_same, hl, hb⟩
end
/-! the state as data -/
def spStateL (K : PySem.W.Frag) : Sp := fun vs H Q _ => ∃ ad S k, vs = [.ref (ad .m)] ∧ LOk ad S H k ∧ ∀ p H', Same H H' → Dp K H' (.ref p) (stD S) → Q (.ref p) H'
section
variable {ad : Tg → PySem.Addr} {S : MS} {H : Hp} {P : V → Prop} {pm : PySem.Addr}
theorem g_mem2 (B : Lm ad S H) (em : ad .m = pm) (h : P (.ref (ad .memL))) : ∃ a v, V.ref pm = .ref a ∧ DGet H a (.str "mem") (some v) ∧ P v := by subst em; exact g_mem B h
end
end LM
namespace LM
open PySem PySem.Spec PyProof.Rows L2 MM
theorem Lm.keep {ad : Tg → PySem.Addr} {S : MS} {H H' : Hp} (B : Lm ad S H) (fr : ∀ u o, dom S.ths.length S.mem.length u → H (ad u) = some o → H' (ad u) = some o) (kt : KeepT H H') : Lm ad S H' := by
  obtain ⟨g, L, h2, h3, h4, h5⟩ := B
  exact ⟨g, ⟨fun t o e => fr t o (dom_some e) (L.at' t o e), L.inj⟩, fun i t e => ⟨kt _ _ (h2 i t e).1, kt _ _ (h2 i t e).2⟩, h3.imp fun _ _ z => kt _ _ z, h4.imp fun _ _ z => z.keep kt, kt _ _ h5⟩
theorem LOk.keep {ad : Tg → PySem.Addr} {S : MS} {H H' : Hp} {k : Nat} (o : LOk ad S H k) (fr : ∀ u o, dom S.ths.length S.mem.length u → H (ad u) = some o → H' (ad u) = some o) (kt : KeepT H H') : LOk ad S H' k := ⟨o.B.keep fr kt, o.W, o.hk, o.pl⟩
theorem sh_eq {K : PySem.W.Frag} {H : Hp} {Q : VK} {x y : V} {S : MS} (hx : Dp K H x (stD S)) (hy : Dp K H y (stD S)) (q : Q (.bl false) H) : rNeD K x y H Q := by
  refine _root_.D.r_neD (p := True) hx hy (sh_st S) (sh_st S) (by decide) (by decide) ⟨fun _ => trivial, fun _ => rfl⟩ ?_
  rw [decide_eq_true trivial]
  exact q
theorem eq_st {K : PySem.W.Frag} {H : Hp} {Q : VK} {x y : V} {S : MS} (hx : Dp K H x (stD S)) (hy : Dp K H y (stD S)) (q : Q (.bl true) H) : rEqD K x y H Q := by
  refine _root_.D.r_eqD (p := True) hx hy (sh_st S) (sh_st S) (by decide) (by decide) ⟨fun _ => trivial, fun _ => rfl⟩ ?_
  rw [decide_eq_true trivial]
  exact q
end LM
end
section
namespace K60
open PySem PySem.Spec PyProof.Rows L2
def topS (i : Nat) : Stmt := PySem.Challenge.pw_tapline_k60_the_machine_pick_by_pick.main.body.getD i (.Pass ⟨0, 0, 0, 0⟩)
abbrev s_Thread___init__ : Stmt := inClass (topS 1) 0
abbrev N_Thread___init__ : List Str := ["self", "pid", "pc", "first"]
theorem sc_Thread___init__ : FnScope N_Thread___init__ ["self", "pid", "pc", "first"] (defScope s_Thread___init__) := ⟨rfl, rfl, rfl, by decide +kernel, rfl, by decide +kernel, by decide +kernel⟩
abbrev s_Thread_image : Stmt := inClass (topS 1) 1
abbrev N_Thread_image : List Str := ["self"]
theorem sc_Thread_image : FnScope N_Thread_image ["self"] (defScope s_Thread_image) := ⟨rfl, rfl, rfl, by decide +kernel, rfl, by decide +kernel, by decide +kernel⟩
abbrev s_Board___init__ : Stmt := inClass (topS 2) 0
abbrev N_Board___init__ : List Str := ["self", "memories", "rates", "pid"]
theorem sc_Board___init__ : FnScope N_Board___init__ ["self", "memories", "rates"] (defScope s_Board___init__) := ⟨rfl, rfl, rfl, by decide +kernel, rfl, by decide +kernel, by decide +kernel⟩
abbrev s_Board_begin_pick : Stmt := inClass (topS 2) 1
abbrev N_Board_begin_pick : List Str := ["self", "cpu"]
theorem sc_Board_begin_pick : FnScope N_Board_begin_pick ["self", "cpu"] (defScope s_Board_begin_pick) := ⟨rfl, rfl, rfl, by decide +kernel, rfl, by decide +kernel, by decide +kernel⟩
abbrev s_Board_end_pick : Stmt := inClass (topS 2) 2
abbrev N_Board_end_pick : List Str := ["self", "views"]
theorem sc_Board_end_pick : FnScope N_Board_end_pick ["self"] (defScope s_Board_end_pick) := ⟨rfl, rfl, rfl, by decide +kernel, rfl, by decide +kernel, by decide +kernel⟩
abbrev s_Board_now : Stmt := inClass (topS 2) 3
abbrev N_Board_now : List Str := ["self"]
theorem sc_Board_now : FnScope N_Board_now ["self"] (defScope s_Board_now) := ⟨rfl, rfl, rfl, by decide +kernel, rfl, by decide +kernel, by decide +kernel⟩
abbrev s_Board_tell : Stmt := inClass (topS 2) 4
abbrev N_Board_tell : List Str := ["self", "kind", "tid", "at", "args", "thread", "event"]
theorem sc_Board_tell : FnScope N_Board_tell ["self", "kind", "tid", "at", "args"] (defScope s_Board_tell) := ⟨rfl, rfl, rfl, by decide +kernel, rfl, by decide +kernel, by decide +kernel⟩
abbrev s_Board_tell_tick : Stmt := inClass (topS 2) 5
abbrev N_Board_tell_tick : List Str := ["self", "event"]
theorem sc_Board_tell_tick : FnScope N_Board_tell_tick ["self"] (defScope s_Board_tell_tick) := ⟨rfl, rfl, rfl, by decide +kernel, rfl, by decide +kernel, by decide +kernel⟩
abbrev s_Board_add_thread : Stmt := inClass (topS 2) 6
abbrev N_Board_add_thread : List Str := ["self", "pid", "pc", "first", "tid"]
theorem sc_Board_add_thread : FnScope N_Board_add_thread ["self", "pid", "pc", "first"] (defScope s_Board_add_thread) := ⟨rfl, rfl, rfl, by decide +kernel, rfl, by decide +kernel, by decide +kernel⟩
abbrev s_Board_begin_run : Stmt := inClass (topS 2) 7
abbrev N_Board_begin_run : List Str := ["self", "tid"]
theorem sc_Board_begin_run : FnScope N_Board_begin_run ["self", "tid"] (defScope s_Board_begin_run) := ⟨rfl, rfl, rfl, by decide +kernel, rfl, by decide +kernel, by decide +kernel⟩
abbrev s_Board_end_run : Stmt := inClass (topS 2) 8
abbrev N_Board_end_run : List Str := ["self", "tid", "condition"]
theorem sc_Board_end_run : FnScope N_Board_end_run ["self", "tid", "condition"] (defScope s_Board_end_run) := ⟨rfl, rfl, rfl, by decide +kernel, rfl, by decide +kernel, by decide +kernel⟩
abbrev s_Board_make_ready : Stmt := inClass (topS 2) 9
abbrev N_Board_make_ready : List Str := ["self", "tid"]
theorem sc_Board_make_ready : FnScope N_Board_make_ready ["self", "tid"] (defScope s_Board_make_ready) := ⟨rfl, rfl, rfl, by decide +kernel, rfl, by decide +kernel, by decide +kernel⟩
abbrev s_Board_state : Stmt := inClass (topS 2) 10
abbrev N_Board_state : List Str := ["self", "memories", "memory", "threads", "thread", "processors", "time", "tid", "device"]
theorem sc_Board_state : FnScope N_Board_state ["self"] (defScope s_Board_state) := ⟨rfl, rfl, rfl, by decide +kernel, rfl, by decide +kernel, by decide +kernel⟩
abbrev s_PlainMemory___init__ : Stmt := inClass (topS 8) 0
abbrev N_PlainMemory___init__ : List Str := ["self", "program"]
theorem sc_PlainMemory___init__ : FnScope N_PlainMemory___init__ ["self", "program"] (defScope s_PlainMemory___init__) := ⟨rfl, rfl, rfl, by decide +kernel, rfl, by decide +kernel, by decide +kernel⟩
abbrev s_PlainMemory_load : Stmt := inClass (topS 8) 1
abbrev N_PlainMemory_load : List Str := ["self", "at"]
theorem sc_PlainMemory_load : FnScope N_PlainMemory_load ["self", "at"] (defScope s_PlainMemory_load) := ⟨rfl, rfl, rfl, by decide +kernel, rfl, by decide +kernel, by decide +kernel⟩
abbrev s_PlainMemory_store : Stmt := inClass (topS 8) 2
abbrev N_PlainMemory_store : List Str := ["self", "at", "byte"]
theorem sc_PlainMemory_store : FnScope N_PlainMemory_store ["self", "at", "byte"] (defScope s_PlainMemory_store) := ⟨rfl, rfl, rfl, by decide +kernel, rfl, by decide +kernel, by decide +kernel⟩
abbrev s_PlainMemory_image : Stmt := inClass (topS 8) 3
abbrev N_PlainMemory_image : List Str := ["self"]
theorem sc_PlainMemory_image : FnScope N_PlainMemory_image ["self"] (defScope s_PlainMemory_image) := ⟨rfl, rfl, rfl, by decide +kernel, rfl, by decide +kernel, by decide +kernel⟩
abbrev s_PlainMemory_tells : Stmt := inClass (topS 8) 4
abbrev N_PlainMemory_tells : List Str := ["self", "_"]
theorem sc_PlainMemory_tells : FnScope N_PlainMemory_tells ["self", "_"] (defScope s_PlainMemory_tells) := ⟨rfl, rfl, rfl, by decide +kernel, rfl, by decide +kernel, by decide +kernel⟩
abbrev s_filled : Stmt := topS 9
abbrev N_filled : List Str := ["program", "cells"]
theorem sc_filled : FnScope N_filled ["program"] (defScope s_filled) := ⟨rfl, rfl, rfl, by decide +kernel, rfl, by decide +kernel, by decide +kernel⟩
abbrev s_do_call : Stmt := topS 15
abbrev N_do_call : List Str := ["board", "tid", "number", "at", "thread"]
theorem sc_do_call : FnScope N_do_call ["board", "tid", "number", "at"] (defScope s_do_call) := ⟨rfl, rfl, rfl, by decide +kernel, rfl, by decide +kernel, by decide +kernel⟩
abbrev s_return_call : Stmt := topS 16
abbrev N_return_call : List Str := ["board", "tid", "result", "thread"]
theorem sc_return_call : FnScope N_return_call ["board", "tid", "result"] (defScope s_return_call) := ⟨rfl, rfl, rfl, by decide +kernel, rfl, by decide +kernel, by decide +kernel⟩
abbrev s_end_thread : Stmt := topS 17
abbrev N_end_thread : List Str := ["board", "tid", "at", "code", "other", "thread"]
theorem sc_end_thread : FnScope N_end_thread ["board", "tid", "at", "code"] (defScope s_end_thread) := ⟨rfl, rfl, rfl, by decide +kernel, rfl, by decide +kernel, by decide +kernel⟩
abbrev s_leave : Stmt := topS 18
abbrev N_leave : List Str := ["board", "tid", "condition", "reason"]
theorem sc_leave : FnScope N_leave ["board", "tid", "condition", "reason"] (defScope s_leave) := ⟨rfl, rfl, rfl, by decide +kernel, rfl, by decide +kernel, by decide +kernel⟩
abbrev s_go_last : Stmt := topS 19
abbrev N_go_last : List Str := ["board", "tid", "reason"]
theorem sc_go_last : FnScope N_go_last ["board", "tid", "reason"] (defScope s_go_last) := ⟨rfl, rfl, rfl, by decide +kernel, rfl, by decide +kernel, by decide +kernel⟩
abbrev s_begin_thread : Stmt := topS 20
abbrev N_begin_thread : List Str := ["board", "thread"]
theorem sc_begin_thread : FnScope N_begin_thread ["board", "thread"] (defScope s_begin_thread) := ⟨rfl, rfl, rfl, by decide +kernel, rfl, by decide +kernel, by decide +kernel⟩
abbrev s_wait_for : Stmt := topS 21
abbrev N_wait_for : List Str := ["board", "tid", "wanted", "condition"]
theorem sc_wait_for : FnScope N_wait_for ["board", "tid", "wanted"] (defScope s_wait_for) := ⟨rfl, rfl, rfl, by decide +kernel, rfl, by decide +kernel, by decide +kernel⟩
abbrev s_do_instruction : Stmt := topS 37
abbrev N_do_instruction : List Str := ["board", "tid", "thread", "memory", "at", "code", "x", "y", "behind"]
theorem sc_do_instruction : FnScope N_do_instruction ["board", "tid"] (defScope s_do_instruction) := ⟨rfl, rfl, rfl, by decide +kernel, rfl, by decide +kernel, by decide +kernel⟩
abbrev s_next_pc : Stmt := topS 38
abbrev N_next_pc : List Str := ["regs", "code", "x", "y", "behind"]
theorem sc_next_pc : FnScope N_next_pc ["regs", "code", "x", "y", "behind"] (defScope s_next_pc) := ⟨rfl, rfl, rfl, by decide +kernel, rfl, by decide +kernel, by decide +kernel⟩
abbrev s_move : Stmt := topS 39
abbrev N_move : List Str := ["regs", "memory", "code", "x", "y", "a", "b"]
theorem sc_move : FnScope N_move ["regs", "memory", "code", "x", "y"] (defScope s_move) := ⟨rfl, rfl, rfl, by decide +kernel, rfl, by decide +kernel, by decide +kernel⟩
abbrev s_do_pick : Stmt := topS 43
abbrev N_do_pick : List Str := ["board", "pick", "cpu", "what"]
theorem sc_do_pick : FnScope N_do_pick ["board", "pick"] (defScope s_do_pick) := ⟨rfl, rfl, rfl, by decide +kernel, rfl, by decide +kernel, by decide +kernel⟩
abbrev s_wake : Stmt := topS 44
abbrev N_wake : List Str := ["board", "tid", "thread", "condition"]
theorem sc_wake : FnScope N_wake ["board"] (defScope s_wake) := ⟨rfl, rfl, rfl, by decide +kernel, rfl, by decide +kernel, by decide +kernel⟩
abbrev s_do_step : Stmt := topS 45
abbrev N_do_step : List Str := ["board", "tid"]
theorem sc_do_step : FnScope N_do_step ["board"] (defScope s_do_step) := ⟨rfl, rfl, rfl, by decide +kernel, rfl, by decide +kernel, by decide +kernel⟩
abbrev s_do_timer : Stmt := topS 46
abbrev N_do_timer : List Str := ["board", "tid"]
theorem sc_do_timer : FnScope N_do_timer ["board"] (defScope s_do_timer) := ⟨rfl, rfl, rfl, by decide +kernel, rfl, by decide +kernel, by decide +kernel⟩
abbrev s_do_request : Stmt := topS 47
abbrev N_do_request : List Str := ["board", "tid", "call", "number", "result"]
theorem sc_do_request : FnScope N_do_request ["board"] (defScope s_do_request) := ⟨rfl, rfl, rfl, by decide +kernel, rfl, by decide +kernel, by decide +kernel⟩
abbrev s_Machine___init__ : Stmt := inClass (topS 49) 0
abbrev N_Machine___init__ : List Str := ["self", "programs", "rates", "program"]
theorem sc_Machine___init__ : FnScope N_Machine___init__ ["self", "programs", "rates"] (defScope s_Machine___init__) := ⟨rfl, rfl, rfl, by decide +kernel, rfl, by decide +kernel, by decide +kernel⟩
abbrev s_Machine_step : Stmt := inClass (topS 49) 1
abbrev N_Machine_step : List Str := ["self", "pick"]
theorem sc_Machine_step : FnScope N_Machine_step ["self", "pick"] (defScope s_Machine_step) := ⟨rfl, rfl, rfl, by decide +kernel, rfl, by decide +kernel, by decide +kernel⟩
abbrev s_Machine_state : Stmt := inClass (topS 49) 2
abbrev N_Machine_state : List Str := ["self"]
theorem sc_Machine_state : FnScope N_Machine_state ["self"] (defScope s_Machine_state) := ⟨rfl, rfl, rfl, by decide +kernel, rfl, by decide +kernel, by decide +kernel⟩
abbrev s_law_draws : Stmt := topS 51
abbrev N_law_draws : List Str := ["script", "many", "draws", "mixed", "k", "cell", "rest", "turn"]
theorem sc_law_draws : FnScope N_law_draws ["script", "many"] (defScope s_law_draws) := ⟨rfl, rfl, rfl, by decide +kernel, rfl, by decide +kernel, by decide +kernel⟩
abbrev s_law_next : Stmt := topS 52
abbrev N_law_next : List Str := ["w", "many"]
theorem sc_law_next : FnScope N_law_next ["w", "many"] (defScope s_law_next) := ⟨rfl, rfl, rfl, by decide +kernel, rfl, by decide +kernel, by decide +kernel⟩
abbrev s_law_program : Stmt := topS 53
abbrev N_law_program : List Str := ["w", "row", "k", "turn"]
theorem sc_law_program : FnScope N_law_program ["w"] (defScope s_law_program) := ⟨rfl, rfl, rfl, by decide +kernel, rfl, by decide +kernel, by decide +kernel⟩
abbrev s_law_pick : Stmt := topS 54
abbrev N_law_pick : List Str := ["w", "cpus"]
theorem sc_law_pick : FnScope N_law_pick ["w", "cpus"] (defScope s_law_pick) := ⟨rfl, rfl, rfl, by decide +kernel, rfl, by decide +kernel, by decide +kernel⟩
abbrev s_law_model : Stmt := topS 55
abbrev N_law_model : List Str := ["programs", "rates", "m", "program", "rate", "pid"]
theorem sc_law_model : FnScope N_law_model ["programs", "rates"] (defScope s_law_model) := ⟨rfl, rfl, rfl, by decide +kernel, rfl, by decide +kernel, by decide +kernel⟩
abbrev s_law_begin : Stmt := topS 56
abbrev N_law_begin : List Str := ["m", "pid", "pc", "first"]
theorem sc_law_begin : FnScope N_law_begin ["m", "pid", "pc", "first"] (defScope s_law_begin) := ⟨rfl, rfl, rfl, by decide +kernel, rfl, by decide +kernel, by decide +kernel⟩
abbrev s_law_tell : Stmt := topS 57
abbrev N_law_tell : List Str := ["m", "kind", "cpu", "tid", "at", "args", "pid", "regs", "memory"]
theorem sc_law_tell : FnScope N_law_tell ["m", "kind", "cpu", "tid", "at", "args"] (defScope s_law_tell) := ⟨rfl, rfl, rfl, by decide +kernel, rfl, by decide +kernel, by decide +kernel⟩
abbrev s_law_returns : Stmt := topS 58
abbrev N_law_returns : List Str := ["m", "cpu", "tid", "result", "thread"]
theorem sc_law_returns : FnScope N_law_returns ["m", "cpu", "tid", "result"] (defScope s_law_returns) := ⟨rfl, rfl, rfl, by decide +kernel, rfl, by decide +kernel, by decide +kernel⟩
abbrev s_law_off : Stmt := topS 59
abbrev N_law_off : List Str := ["m", "cpu", "tid", "condition", "reason"]
theorem sc_law_off : FnScope N_law_off ["m", "cpu", "tid", "condition", "reason"] (defScope s_law_off) := ⟨rfl, rfl, rfl, by decide +kernel, rfl, by decide +kernel, by decide +kernel⟩
abbrev s_law_ends : Stmt := topS 60
abbrev N_law_ends : List Str := ["m", "cpu", "tid", "at", "code", "other"]
theorem sc_law_ends : FnScope N_law_ends ["m", "cpu", "tid", "at", "code"] (defScope s_law_ends) := ⟨rfl, rfl, rfl, by decide +kernel, rfl, by decide +kernel, by decide +kernel⟩
abbrev s_law_call : Stmt := topS 61
abbrev N_law_call : List Str := ["m", "cpu", "tid", "at", "number", "thread", "first", "condition"]
theorem sc_law_call : FnScope N_law_call ["m", "cpu", "tid", "at", "number"] (defScope s_law_call) := ⟨rfl, rfl, rfl, by decide +kernel, rfl, by decide +kernel, by decide +kernel⟩
abbrev s_law_instruction : Stmt := topS 62
abbrev N_law_instruction : List Str := ["m", "cpu", "tid", "thread", "mem", "at", "code", "x", "y", "regs", "behind", "a", "b"]
theorem sc_law_instruction : FnScope N_law_instruction ["m", "cpu", "tid"] (defScope s_law_instruction) := ⟨rfl, rfl, rfl, by decide +kernel, rfl, by decide +kernel, by decide +kernel⟩
abbrev s_law_step : Stmt := topS 63
abbrev N_law_step : List Str := ["m", "pick", "cpu", "what", "tid", "condition", "asked", "call", "number", "result"]
theorem sc_law_step : FnScope N_law_step ["m", "pick"] (defScope s_law_step) := ⟨rfl, rfl, rfl, by decide +kernel, rfl, by decide +kernel, by decide +kernel⟩
abbrev s_law_state : Stmt := topS 64
abbrev N_law_state : List Str := ["m", "threads", "one", "processors", "k", "memories", "mem"]
theorem sc_law_state : FnScope N_law_state ["m"] (defScope s_law_state) := ⟨rfl, rfl, rfl, by decide +kernel, rfl, by decide +kernel, by decide +kernel⟩
abbrev s_law_longer : Stmt := topS 65
abbrev N_law_longer : List Str := ["w", "program", "turn", "row", "many", "start", "k"]
theorem sc_law_longer : FnScope N_law_longer ["w", "program"] (defScope s_law_longer) := ⟨rfl, rfl, rfl, by decide +kernel, rfl, by decide +kernel, by decide +kernel⟩
abbrev s_law : Stmt := topS 66
abbrev N_law : List Str := ["script", "w", "programs", "k", "rates", "machine", "m", "pick", "views"]
theorem sc_law : FnScope N_law ["script"] (defScope s_law) := ⟨rfl, rfl, rfl, by decide +kernel, rfl, by decide +kernel, by decide +kernel⟩
structure Na_Thread (K : PySem.W.Frag) (C : Addr) : Prop where
  pid : NoAttr K C "pid"
  pc : NoAttr K C "pc"
  regs : NoAttr K C "regs"
  condition : NoAttr K C "condition"
  call : NoAttr K C "call"
  call_at : NoAttr K C "call_at"
structure Na_Board (K : PySem.W.Frag) (C : Addr) : Prop where
  memories : NoAttr K C "memories"
  rates : NoAttr K C "rates"
  threads : NoAttr K C "threads"
  ready : NoAttr K C "ready"
  times : NoAttr K C "times"
  running : NoAttr K C "running"
  device_value : NoAttr K C "device_value"
  requests : NoAttr K C "requests"
  cpu : NoAttr K C "cpu"
  views : NoAttr K C "views"
structure Na_PlainMemory (K : PySem.W.Frag) (C : Addr) : Prop where
  cells : NoAttr K C "cells"
structure Na_Machine (K : PySem.W.Frag) (C : Addr) : Prop where
  board : NoAttr K C "board"
structure Txt (K : PySem.W.Frag) (mg : Str → Option Value) where
  c_Thread : R.ClP K mg "Thread"
  n_Thread : Na_Thread K c_Thread.a
  c_Board : R.ClP K mg "Board"
  n_Board : Na_Board K c_Board.a
  c_PlainMemory : R.ClP K mg "PlainMemory"
  n_PlainMemory : Na_PlainMemory K c_PlainMemory.a
  c_Machine : R.ClP K mg "Machine"
  n_Machine : Na_Machine K c_Machine.a
  p_Thread___init__ : R.InP K "__init__" "Thread.__init__" s_Thread___init__ ["self", "pid", "pc", "first"] c_Thread.a
  p_Thread_image : R.MtP K "image" "Thread.image" s_Thread_image ["self"] c_Thread.a
  p_Board___init__ : R.InP K "__init__" "Board.__init__" s_Board___init__ ["self", "memories", "rates"] c_Board.a
  p_Board_begin_pick : R.MtP K "begin_pick" "Board.begin_pick" s_Board_begin_pick ["self", "cpu"] c_Board.a
  p_Board_end_pick : R.MtP K "end_pick" "Board.end_pick" s_Board_end_pick ["self"] c_Board.a
  p_Board_now : R.MtP K "now" "Board.now" s_Board_now ["self"] c_Board.a
  p_Board_tell : R.MtP K "tell" "Board.tell" s_Board_tell ["self", "kind", "tid", "at", "args"] c_Board.a
  p_Board_tell_tick : R.MtP K "tell_tick" "Board.tell_tick" s_Board_tell_tick ["self"] c_Board.a
  p_Board_add_thread : R.MtP K "add_thread" "Board.add_thread" s_Board_add_thread ["self", "pid", "pc", "first"] c_Board.a
  p_Board_begin_run : R.MtP K "begin_run" "Board.begin_run" s_Board_begin_run ["self", "tid"] c_Board.a
  p_Board_end_run : R.MtP K "end_run" "Board.end_run" s_Board_end_run ["self", "tid", "condition"] c_Board.a
  p_Board_make_ready : R.MtP K "make_ready" "Board.make_ready" s_Board_make_ready ["self", "tid"] c_Board.a
  p_Board_state : R.MtP K "state" "Board.state" s_Board_state ["self"] c_Board.a
  p_PlainMemory___init__ : R.InP K "__init__" "PlainMemory.__init__" s_PlainMemory___init__ ["self", "program"] c_PlainMemory.a
  p_PlainMemory_load : R.MtP K "load" "PlainMemory.load" s_PlainMemory_load ["self", "at"] c_PlainMemory.a
  p_PlainMemory_store : R.MtP K "store" "PlainMemory.store" s_PlainMemory_store ["self", "at", "byte"] c_PlainMemory.a
  p_PlainMemory_image : R.MtP K "image" "PlainMemory.image" s_PlainMemory_image ["self"] c_PlainMemory.a
  p_PlainMemory_tells : R.MtP K "tells" "PlainMemory.tells" s_PlainMemory_tells ["self", "_"] c_PlainMemory.a
  p_filled : R.FnP K mg "filled" "filled" s_filled ["program"]
  p_do_call : R.FnP K mg "do_call" "do_call" s_do_call ["board", "tid", "number", "at"]
  p_return_call : R.FnP K mg "return_call" "return_call" s_return_call ["board", "tid", "result"]
  p_end_thread : R.FnP K mg "end_thread" "end_thread" s_end_thread ["board", "tid", "at", "code"]
  p_leave : R.FnP K mg "leave" "leave" s_leave ["board", "tid", "condition", "reason"]
  p_go_last : R.FnP K mg "go_last" "go_last" s_go_last ["board", "tid", "reason"]
  p_begin_thread : R.FnP K mg "begin_thread" "begin_thread" s_begin_thread ["board", "thread"]
  p_wait_for : R.FnP K mg "wait_for" "wait_for" s_wait_for ["board", "tid", "wanted"]
  p_do_instruction : R.FnP K mg "do_instruction" "do_instruction" s_do_instruction ["board", "tid"]
  p_next_pc : R.FnP K mg "next_pc" "next_pc" s_next_pc ["regs", "code", "x", "y", "behind"]
  p_move : R.FnP K mg "move" "move" s_move ["regs", "memory", "code", "x", "y"]
  p_do_pick : R.FnP K mg "do_pick" "do_pick" s_do_pick ["board", "pick"]
  p_wake : R.FnP K mg "wake" "wake" s_wake ["board"]
  p_do_step : R.FnP K mg "do_step" "do_step" s_do_step ["board"]
  p_do_timer : R.FnP K mg "do_timer" "do_timer" s_do_timer ["board"]
  p_do_request : R.FnP K mg "do_request" "do_request" s_do_request ["board"]
  p_Machine___init__ : R.InP K "__init__" "Machine.__init__" s_Machine___init__ ["self", "programs", "rates"] c_Machine.a
  p_Machine_step : R.MtP K "step" "Machine.step" s_Machine_step ["self", "pick"] c_Machine.a
  p_Machine_state : R.MtP K "state" "Machine.state" s_Machine_state ["self"] c_Machine.a
  p_law_draws : R.FnP K mg "_law_draws" "_law_draws" s_law_draws ["script", "many"]
  p_law_next : R.FnP K mg "_law_next" "_law_next" s_law_next ["w", "many"]
  p_law_program : R.FnP K mg "_law_program" "_law_program" s_law_program ["w"]
  p_law_pick : R.FnP K mg "_law_pick" "_law_pick" s_law_pick ["w", "cpus"]
  p_law_model : R.FnP K mg "_law_model" "_law_model" s_law_model ["programs", "rates"]
  p_law_begin : R.FnP K mg "_law_begin" "_law_begin" s_law_begin ["m", "pid", "pc", "first"]
  p_law_tell : R.FnP K mg "_law_tell" "_law_tell" s_law_tell ["m", "kind", "cpu", "tid", "at", "args"]
  p_law_returns : R.FnP K mg "_law_returns" "_law_returns" s_law_returns ["m", "cpu", "tid", "result"]
  p_law_off : R.FnP K mg "_law_off" "_law_off" s_law_off ["m", "cpu", "tid", "condition", "reason"]
  p_law_ends : R.FnP K mg "_law_ends" "_law_ends" s_law_ends ["m", "cpu", "tid", "at", "code"]
  p_law_call : R.FnP K mg "_law_call" "_law_call" s_law_call ["m", "cpu", "tid", "at", "number"]
  p_law_instruction : R.FnP K mg "_law_instruction" "_law_instruction" s_law_instruction ["m", "cpu", "tid"]
  p_law_step : R.FnP K mg "_law_step" "_law_step" s_law_step ["m", "pick"]
  p_law_state : R.FnP K mg "_law_state" "_law_state" s_law_state ["m"]
  p_law_longer : R.FnP K mg "_law_longer" "_law_longer" s_law_longer ["w", "program"]
  p_law : R.FnP K mg "law" "law" s_law ["script"]
  m_abs : mg "abs" = none
  m_enumerate : mg "enumerate" = none
  m_int : mg "int" = none
  m_isinstance : mg "isinstance" = none
  m_len : mg "len" = none
  m_list : mg "list" = none
  m_range : mg "range" = none
  m_tuple : mg "tuple" = none
  m_zip : mg "zip" = none
  a_LENGTHS : Addr
  c_LENGTHS : mg "LENGTHS" = some (.ref a_LENGTHS)
  t_LENGTHS : ∀ H, SqT K H a_LENGTHS (MM.lens.map V.int)
  v_ADDRESSES : Value
  c_ADDRESSES : mg "ADDRESSES" = some v_ADDRESSES
  r_ADDRESSES : RelV (V.int 256) v_ADDRESSES
  v_NUMBERS : Value
  c_NUMBERS : mg "NUMBERS" = some v_NUMBERS
  r_NUMBERS : RelV (V.int 65536) v_NUMBERS
  v_MOST_THREADS : Value
  c_MOST_THREADS : mg "MOST_THREADS" = some v_MOST_THREADS
  r_MOST_THREADS : RelV (V.int 8) v_MOST_THREADS
  v_NO_RESULT : Value
  c_NO_RESULT : mg "NO_RESULT" = some v_NO_RESULT
  r_NO_RESULT : RelV (V.int 65535) v_NO_RESULT
  v_GAVE_WAY : Value
  c_GAVE_WAY : mg "GAVE_WAY" = some v_GAVE_WAY
  r_GAVE_WAY : RelV (V.int 2) v_GAVE_WAY
  v_SLEEPS : Value
  c_SLEEPS : mg "SLEEPS" = some v_SLEEPS
  r_SLEEPS : RelV (V.int 3) v_SLEEPS
  v_ASKS : Value
  c_ASKS : mg "ASKS" = some v_ASKS
  r_ASKS : RelV (V.int 4) v_ASKS
  v_WAITS : Value
  c_WAITS : mg "WAITS" = some v_WAITS
  r_WAITS : RelV (V.int 5) v_WAITS
  v_END : Value
  c_END : mg "END" = some v_END
  r_END : RelV (V.int 0) v_END
  v_CONSTANT : Value
  c_CONSTANT : mg "CONSTANT" = some v_CONSTANT
  r_CONSTANT : RelV (V.int 1) v_CONSTANT
  v_ADD : Value
  c_ADD : mg "ADD" = some v_ADD
  r_ADD : RelV (V.int 2) v_ADD
  v_SUBTRACT : Value
  c_SUBTRACT : mg "SUBTRACT" = some v_SUBTRACT
  r_SUBTRACT : RelV (V.int 3) v_SUBTRACT
  v_COPY : Value
  c_COPY : mg "COPY" = some v_COPY
  r_COPY : RelV (V.int 4) v_COPY
  v_LOAD : Value
  c_LOAD : mg "LOAD" = some v_LOAD
  r_LOAD : RelV (V.int 5) v_LOAD
  v_STORE : Value
  c_STORE : mg "STORE" = some v_STORE
  r_STORE : RelV (V.int 6) v_STORE
  v_GO : Value
  c_GO : mg "GO" = some v_GO
  r_GO : RelV (V.int 7) v_GO
  v_GO_IF_ZERO : Value
  c_GO_IF_ZERO : mg "GO_IF_ZERO" = some v_GO_IF_ZERO
  r_GO_IF_ZERO : RelV (V.int 8) v_GO_IF_ZERO
  v_GO_UNLESS_ZERO : Value
  c_GO_UNLESS_ZERO : mg "GO_UNLESS_ZERO" = some v_GO_UNLESS_ZERO
  r_GO_UNLESS_ZERO : RelV (V.int 9) v_GO_UNLESS_ZERO
  v_CALL : Value
  c_CALL : mg "CALL" = some v_CALL
  r_CALL : RelV (V.int 10) v_CALL
  v_GO_AND_LINK : Value
  c_GO_AND_LINK : mg "GO_AND_LINK" = some v_GO_AND_LINK
  r_GO_AND_LINK : RelV (V.int 11) v_GO_AND_LINK
  v_GO_BACK : Value
  c_GO_BACK : mg "GO_BACK" = some v_GO_BACK
  r_GO_BACK : RelV (V.int 12) v_GO_BACK
  v_TIMER : Value
  c_TIMER : mg "TIMER" = some v_TIMER
  r_TIMER : RelV (V.int 1) v_TIMER
  v_DEVICE_SET : Value
  c_DEVICE_SET : mg "DEVICE_SET" = some v_DEVICE_SET
  r_DEVICE_SET : RelV (V.int 3) v_DEVICE_SET
end K60
end
section
local macro_rules | `(tactic| walk_at "s1") => `(tactic| first
  | ((with_reducible apply R.r_var); · rfl)
  | with_reducible apply R.r_c
  | with_reducible apply R.r_op
  | with_reducible apply R.r_I0
  | with_reducible apply R.r_cb
  | with_reducible apply R.r_cons
  | with_reducible apply R.r_nil
  | with_reducible apply R.r_seq
  | with_reducible apply R.r_asg
  | with_reducible apply R.r_ret
  | with_reducible apply R.r_ifS
  | with_reducible apply R.r_test
  | with_reducible apply R.r_t
  | with_reducible apply R.r_f
  | with_reducible apply R.r_nt
  | with_reducible apply R.r_nf
  | with_reducible apply R.r_bl
  | with_reducible apply R.r_U
  | with_reducible apply R.r_un
  | with_reducible apply R.r_eqI
  | with_reducible apply R.r_eqS
  | with_reducible apply R.r_neI
  | with_reducible apply R.r_neS
  | with_reducible apply R.r_and
  | with_reducible apply R.r_or
  | with_reducible apply R.r_not
  | with_reducible apply R.r_andV
  | with_reducible apply R.r_orV
  | with_reducible apply R.r_notV
  | with_reducible apply R.r_blV
  | with_reducible apply R.r_B
  | with_reducible apply R.r_ifE
  | with_reducible apply R.r_tup
  | with_reducible apply R.r_lst
  | with_reducible apply R.r_call
  | with_reducible apply R.r_drop
  | with_reducible apply R.r_next
  | with_reducible apply R.r_abs
  | with_reducible apply R.r_int1
  | with_reducible apply R.r_int1b
  | with_reducible apply R.r_min2
  | with_reducible apply R.r_bm
  | with_reducible apply R.r_bm0
  | with_reducible apply R.r_dget
  | with_reducible apply R.r_dput
  | with_reducible apply R.r_disp
  | with_reducible apply R.r_pnil
  | with_reducible apply R.r_pcons
  | with_reducible apply R.r_fld
  | with_reducible apply R.r_slice
  | with_reducible apply R.r_nopart
  | with_reducible apply R.r_part
  | with_reducible apply R.r_int
  | with_reducible apply R.r_yes
  | with_reducible apply R.r_retN
  | with_reducible apply R.r_asgG
  | with_reducible apply R.r_gname
  | with_reducible apply R.r_rng1
  | with_reducible apply R.r_brk
  | with_reducible apply R.r_cnt
  | with_reducible apply R.r_m1
  | with_reducible apply R.r_lcr
  | with_reducible apply R.r_p2_63
  | with_reducible apply R.r_p2_64
  | with_reducible apply R.r_p2_32
  | with_reducible apply R.r_p2_31
  | with_reducible apply R.r_p10_18
  | with_reducible apply R.r_p10_30
  | with_reducible refine R.r_mod (by omega) ?_
  | with_reducible refine R.r_div (by omega) ?_
  | with_reducible refine R.r_mulR (by omega) ?_
  | with_reducible refine R.r_mulL (by omega) ?_
  | with_reducible refine R.r_iteY (by decide +kernel) ?_
  | with_reducible refine R.r_iteF (by decide +kernel) ?_
  | with_reducible refine R.r_isi R.isi_int ?_
  | with_reducible refine R.r_isi R.isi_intB ?_)
local macro_rules | `(tactic| walk_at "go") => `(tactic| repeat (walk_at "s1"))

set_option hygiene false
local macro_rules | `(tactic| walk_at "m1") => `(tactic| first
  | walk_at "s1"
  | with_reducible apply MM.r_meth
  | with_reducible apply MM.r_make
  | with_reducible apply MM.r_sfld
  | with_reducible apply MM.r_gsub
  | with_reducible apply MM.r_augS
  | with_reducible apply MM.r_ip
  | ((with_reducible refine MM.q_threads ?_ ‹MM.Bd _ _ _ _› ?_); exact hC)
  | ((with_reducible refine MM.q_memories ?_ ‹MM.Bd _ _ _ _› ?_); exact hC)
  | ((with_reducible refine MM.q_ready ?_ ‹MM.Bd _ _ _ _› ?_); exact hC)
  | ((with_reducible refine MM.q_times ?_ ‹MM.Bd _ _ _ _› ?_); exact hC)
  | ((with_reducible refine MM.q_running ?_ ‹MM.Bd _ _ _ _› ?_); exact hC)
  | ((with_reducible refine MM.q_dev ?_ ‹MM.Bd _ _ _ _› ?_); exact hC)
  | ((with_reducible refine MM.q_requests ?_ ‹MM.Bd _ _ _ _› ?_); exact hC)
  | ((with_reducible refine MM.q_cpu ?_ ‹MM.Bd _ _ _ _› ?_); exact hC)
  | ((with_reducible refine MM.q_views ?_ ‹MM.Bd _ _ _ _› ?_); exact hC)
  | ((with_reducible refine MM.q_pid ?_ ‹MM.Bd _ _ _ _› (by first | assumption | omega) ?_); exact hC)
  | ((with_reducible refine MM.q_pc ?_ ‹MM.Bd _ _ _ _› (by first | assumption | omega) ?_); exact hC)
  | ((with_reducible refine MM.q_regs ?_ ‹MM.Bd _ _ _ _› (by first | assumption | omega) ?_); exact hC)
  | ((with_reducible refine MM.q_call ?_ ‹MM.Bd _ _ _ _› (by first | assumption | omega) ?_); exact hC)
  | ((with_reducible refine MM.q_callAt ?_ ‹MM.Bd _ _ _ _› (by first | assumption | omega) ?_); exact hC)
  | with_reducible refine MM.q_ixThs ‹MM.Bd _ _ _ _› (by first | assumption | omega) ?_
  | with_reducible refine MM.q_ixMem ‹MM.Bd _ _ _ _› (by first | assumption | omega) ?_
  | with_reducible refine MM.q_ixTim ‹MM.Bd _ _ _ _› (by first | assumption | omega) ?_
  | with_reducible refine MM.q_ixRun ‹MM.Bd _ _ _ _› (by first | assumption | omega) ?_
  | with_reducible refine MM.q_ixRgs ‹MM.Bd _ _ _ _› ‹MM.WF _ _› (by first | assumption | omega) (by omega) (by omega) ?_
  | with_reducible refine MM.q_lenThs ‹MM.Bd _ _ _ _› ?_
  | ((with_reducible refine MM.q_mBrd ‹MM.Bd _ _ _ _› ?_ ?_); (intro _ _ _ _; rfl))
  | ((with_reducible refine MM.q_mMem ‹MM.Bd _ _ _ _› (by first | assumption | omega) ?_ ?_); (intro _ _ kd'; cases kd' <;> rfl))
  | with_reducible refine ⟨MM.ty_vws ‹MM.Bd _ _ _ _›, ?_⟩
  | with_reducible refine ⟨MM.ty_rdy ‹MM.Bd _ _ _ _›, ?_⟩
  | with_reducible refine ⟨MM.ty_ths ‹MM.Bd _ _ _ _›, ?_⟩
  | with_reducible refine ⟨MM.ty_req ‹MM.Bd _ _ _ _›, ?_⟩)
local macro_rules | `(tactic| walk_at "mgo") => `(tactic| repeat (walk_at "m1"))
set_option hygiene true

namespace K60
open PySem PySem.Spec PyProof.Rows L2
/-! ### the board's methods -/
abbrev clOf {K : PySem.W.Frag} {mg : Str → Option Value} (T : Txt K mg) (kd : Bool) (CM : Addr) : MM.Cl := ⟨kd, T.c_Board.a, T.c_Thread.a, CM⟩
section
variable {P : Program} {w : World} {K : PySem.W.Frag} {mg : Str → Option Value} {base : Heap} {kd : Bool} {CM : Addr}
theorem bdC (T : Txt K mg) (M : MM.MemI P w K mg base (clOf T kd CM)) : MM.BdC K (clOf T kd CM) :=
  ⟨T.c_Board.cl, T.c_Thread.cl, M.cc, T.n_Board.memories, T.n_Board.rates, T.n_Board.threads, T.n_Board.ready, T.n_Board.times, T.n_Board.running, T.n_Board.device_value, T.n_Board.requests, T.n_Board.cpu, T.n_Board.views,
    T.n_Thread.pid, T.n_Thread.pc, T.n_Thread.regs, T.n_Thread.condition, T.n_Thread.call, T.n_Thread.call_at, M.nCells⟩
theorem ok_Board_now (T : Txt K mg) (M : MM.MemI P w K mg base (clOf T kd CM)) : FnOk P w K mg base CX0 1 T.p_Board_now.f T.p_Board_now.fd ["self"] (MM.spNow (clOf T kd CM)) := by
  have hC := bdC T M
  refine T.p_Board_now.F.ok sc_Board_now (fun vs H Q E h => ?_) (fun cdv A outer s H vs Q E hr h => ?_)
  · obtain ⟨ad, S, k, rfl, _⟩ := h
    rfl
  · obtain ⟨ad, S, k, rfl, O, q⟩ := h
    have B := O.B
    have h1 : S.cpu < S.times.length := by rw [O.W.tim]; exact O.W.cpu
    refine ⟨_, (pss_one (ps_ret (pe_ix ix_list (pe_fld (pv 0) rfl) (pe_fld (pv 0) rfl) (fun _ _ => rfl)))), ?_⟩
    walk_at "mgo"
    exact q
theorem ok_Board_begin_pick (T : Txt K mg) (M : MM.MemI P w K mg base (clOf T kd CM)) : FnOk P w K mg base CX0 1 T.p_Board_begin_pick.f T.p_Board_begin_pick.fd ["self", "cpu"] (MM.spBeginPick (clOf T kd CM)) := by
  have hC := bdC T M
  refine T.p_Board_begin_pick.F.ok sc_Board_begin_pick (fun vs H Q E h => ?_) (fun cdv A outer s H vs Q E hr h => ?_)
  · obtain ⟨ad, S, k, cpu, rfl, _⟩ := h
    rfl
  · obtain ⟨ad, S, k, cpu, rfl, O, hc, q⟩ := h
    have B := O.B
    have h1 : cpu < S.times.length := by rw [O.W.tim]; exact hc
    refine ⟨_, (pss_cons (ps_fld (pv 0) (pv 1) rfl)
(pss_one (ps_augS (pe_fld (pv 0) rfl) (pv 1) MM.get_list (pe_ix ix_tup (pe_fld (pv 0) rfl) (pv 1) (fun _ _ => rfl)) ip_add set_list))), ?_⟩
    walk_at "mgo"
    refine MM.q_stCpu hC B fun H1 B1 m1 => ?_
    walk_at "mgo"
    refine MM.q_getTim B1 h1 ?_
    walk_at "mgo"
    refine MM.q_rates hC B1 fun rt hrt => ?_
    walk_at "mgo"
    refine R.r_ixT (R.sqT hrt) (atI_nat (MM.getD_get hc)) ?_
    walk_at "mgo"
    refine MM.q_setTim B1 h1 fun H2 B2 m2 => ?_
    exact q H2 B2 (m1.trans (Nat.le_refl _) m2)
theorem ok_Board_tell (T : Txt K mg) (M : MM.MemI P w K mg base (clOf T kd CM)) : FnOk P w K mg base CX0 2 T.p_Board_tell.f T.p_Board_tell.fd ["self", "kind", "tid", "at", "args"] (MM.spTell (clOf T kd CM)) := by
  have hC := bdC T M
  refine T.p_Board_tell.F.ok sc_Board_tell (fun vs H Q E h => ?_) (fun cdv A outer s H vs Q E hr h => ?_)
  · obtain ⟨ad, S, k, kind, tid, at', args, g, rfl, _⟩ := h
    rfl
  · obtain ⟨ad, S, k, kind, tid, at', args, g, rfl, hg, O, ht, q⟩ := h
    have B := O.B
    have W := O.W
    have hp := (W.tok ht).pid
    refine ⟨_, (pss_cons (ps_set (i := 5) sc_Board_tell.nd rfl (.inl rfl) (pe_ix ix_list (pe_fld (pv 0) rfl) (pv 2) (fun _ _ => rfl)))
(pss_cons (ps_set (i := 6) sc_Board_tell.nd rfl (.inl rfl) (pe_tup (pa_cons (pv 1) (pa_cons (pe_fld (pv 0) rfl) (pa_cons (pe_meth0 (pv 0) T.c_Board.cl T.p_Board_now.me (ok_Board_now T M) (hr.mono (by decide)) T.p_Board_now.b .nil pass0) (pa_cons (pe_fld (pv 5) rfl) (pa_cons (pv 2) (pa_cons (pv 3) (pa_cons (pv 4) pa_nil)))))))))
(pss_one (ps_expr (pe_bm PySem.F.plainAttrs_list PySem.F.slot_list_append PySem.F.type_list_append mt_append (pe_fld (pv 0) rfl) (pa_cons (pe_tup (pa_cons (pv 6) (pa_cons (pe_callTy MM.cTupOf (by rfl) T.m_tuple (by decide +kernel) (pa_cons (pe_fld (pv 5) rfl) pa_nil)) (pa_cons (pe_meth0 (pe_ix ix_list (pe_fld (pv 0) rfl) (pe_fld (pv 5) rfl) (fun _ _ => rfl)) M.cc M.m_image M.ok_image (hr.mono (by decide)) M.b_image .nil pass0) pa_nil)))) pa_nil)))))), ?_⟩
    walk_at "mgo"
    refine ⟨ad, S, k, rfl, O, ?_⟩
    walk_at "mgo"
    refine ⟨Nat.le_of_ble_eq_true rfl, fun e he => ?_⟩
    generalize h1 : upd _ e _ = H1
    obtain ⟨s1, x1⟩ := MM.new2 h1 he
    have B1 := B.same s1
    have O1 := O.same s1
    walk_at "mgo"
    refine ⟨_, _, rfl, .inl ⟨R.sqL (B1.rgs (MM.th_get ht)).1, ?_⟩⟩
    intro r hr'
    generalize h2 : upd _ r _ = H2
    obtain ⟨s2, x2⟩ := MM.new2 h2 hr'
    have B2 := B1.same s2
    have O2 := O1.same s2
    walk_at "mgo"
    refine ⟨ad, S, k, _, rfl, O2, hp, fun m H3 hm s3 x3 => ?_⟩
    have B3 := B2.same s3
    refine ⟨Nat.le_of_ble_eq_true rfl, fun v hv => ?_⟩
    generalize h4 : upd _ v _ = H4
    obtain ⟨s4, x4⟩ := MM.new2 h4 hv
    have B4 := B3.same s4
    refine MM.q_appVws (w := ⟨kind, S.cpu, S.now, (S.th tid).pid, tid, at', args, (S.th tid).regs, (S.mm (S.th tid).pid).img⟩) B4 ?_ ?_ fun H5 B5 m5 => ?_
    · have := W.vw
      have := O.hk
      omega
    · exact ⟨e, r, m, g, x4, s4 _ _ (s3 _ _ (s2 _ _ x1)), s4 _ _ (s3 _ _ (s2 _ _ (s1 _ _ hg))), s4 _ _ (s3 _ _ x2), s4 _ _ x3⟩
    · walk_at "mgo"
      exact q H5 B5 ((MM.Mvd.of (s1.trans (s2.trans (s3.trans s4)))).trans (Nat.le_refl _) m5)
end
end K60
end
section
local macro_rules | `(tactic| walk_at "s1") => `(tactic| first
  | ((with_reducible apply R.r_var); · rfl)
  | with_reducible apply R.r_c
  | with_reducible apply R.r_op
  | with_reducible apply R.r_I0
  | with_reducible apply R.r_cb
  | with_reducible apply R.r_cons
  | with_reducible apply R.r_nil
  | with_reducible apply R.r_seq
  | with_reducible apply R.r_asg
  | with_reducible apply R.r_ret
  | with_reducible apply R.r_ifS
  | with_reducible apply R.r_test
  | with_reducible apply R.r_t
  | with_reducible apply R.r_f
  | with_reducible apply R.r_nt
  | with_reducible apply R.r_nf
  | with_reducible apply R.r_bl
  | with_reducible apply R.r_U
  | with_reducible apply R.r_un
  | with_reducible apply R.r_eqI
  | with_reducible apply R.r_eqS
  | with_reducible apply R.r_neI
  | with_reducible apply R.r_neS
  | with_reducible apply R.r_and
  | with_reducible apply R.r_or
  | with_reducible apply R.r_not
  | with_reducible apply R.r_andV
  | with_reducible apply R.r_orV
  | with_reducible apply R.r_notV
  | with_reducible apply R.r_blV
  | with_reducible apply R.r_B
  | with_reducible apply R.r_ifE
  | with_reducible apply R.r_tup
  | with_reducible apply R.r_lst
  | with_reducible apply R.r_call
  | with_reducible apply R.r_drop
  | with_reducible apply R.r_next
  | with_reducible apply R.r_abs
  | with_reducible apply R.r_int1
  | with_reducible apply R.r_int1b
  | with_reducible apply R.r_min2
  | with_reducible apply R.r_bm
  | with_reducible apply R.r_bm0
  | with_reducible apply R.r_dget
  | with_reducible apply R.r_dput
  | with_reducible apply R.r_disp
  | with_reducible apply R.r_pnil
  | with_reducible apply R.r_pcons
  | with_reducible apply R.r_fld
  | with_reducible apply R.r_slice
  | with_reducible apply R.r_nopart
  | with_reducible apply R.r_part
  | with_reducible apply R.r_int
  | with_reducible apply R.r_yes
  | with_reducible apply R.r_retN
  | with_reducible apply R.r_asgG
  | with_reducible apply R.r_gname
  | with_reducible apply R.r_rng1
  | with_reducible apply R.r_brk
  | with_reducible apply R.r_cnt
  | with_reducible apply R.r_m1
  | with_reducible apply R.r_lcr
  | with_reducible apply R.r_p2_63
  | with_reducible apply R.r_p2_64
  | with_reducible apply R.r_p2_32
  | with_reducible apply R.r_p2_31
  | with_reducible apply R.r_p10_18
  | with_reducible apply R.r_p10_30
  | with_reducible refine R.r_mod (by omega) ?_
  | with_reducible refine R.r_div (by omega) ?_
  | with_reducible refine R.r_mulR (by omega) ?_
  | with_reducible refine R.r_mulL (by omega) ?_
  | with_reducible refine R.r_iteY (by decide +kernel) ?_
  | with_reducible refine R.r_iteF (by decide +kernel) ?_
  | with_reducible refine R.r_isi R.isi_int ?_
  | with_reducible refine R.r_isi R.isi_intB ?_)
local macro_rules | `(tactic| walk_at "go") => `(tactic| repeat (walk_at "s1"))

set_option hygiene false
local macro_rules | `(tactic| walk_at "m1") => `(tactic| first
  | walk_at "s1"
  | with_reducible apply MM.r_meth
  | with_reducible apply MM.r_make
  | with_reducible apply MM.r_sfld
  | with_reducible apply MM.r_gsub
  | with_reducible apply MM.r_augS
  | with_reducible apply MM.r_ip
  | ((with_reducible refine MM.q_threads ?_ ‹MM.Bd _ _ _ _› ?_); exact hC)
  | ((with_reducible refine MM.q_memories ?_ ‹MM.Bd _ _ _ _› ?_); exact hC)
  | ((with_reducible refine MM.q_ready ?_ ‹MM.Bd _ _ _ _› ?_); exact hC)
  | ((with_reducible refine MM.q_times ?_ ‹MM.Bd _ _ _ _› ?_); exact hC)
  | ((with_reducible refine MM.q_running ?_ ‹MM.Bd _ _ _ _› ?_); exact hC)
  | ((with_reducible refine MM.q_dev ?_ ‹MM.Bd _ _ _ _› ?_); exact hC)
  | ((with_reducible refine MM.q_requests ?_ ‹MM.Bd _ _ _ _› ?_); exact hC)
  | ((with_reducible refine MM.q_cpu ?_ ‹MM.Bd _ _ _ _› ?_); exact hC)
  | ((with_reducible refine MM.q_views ?_ ‹MM.Bd _ _ _ _› ?_); exact hC)
  | ((with_reducible refine MM.q_pid ?_ ‹MM.Bd _ _ _ _› (by first | assumption | omega) ?_); exact hC)
  | ((with_reducible refine MM.q_pc ?_ ‹MM.Bd _ _ _ _› (by first | assumption | omega) ?_); exact hC)
  | ((with_reducible refine MM.q_regs ?_ ‹MM.Bd _ _ _ _› (by first | assumption | omega) ?_); exact hC)
  | ((with_reducible refine MM.q_call ?_ ‹MM.Bd _ _ _ _› (by first | assumption | omega) ?_); exact hC)
  | ((with_reducible refine MM.q_callAt ?_ ‹MM.Bd _ _ _ _› (by first | assumption | omega) ?_); exact hC)
  | with_reducible refine MM.q_ixThs ‹MM.Bd _ _ _ _› (by first | assumption | omega) ?_
  | with_reducible refine MM.q_ixMem ‹MM.Bd _ _ _ _› (by first | assumption | omega) ?_
  | with_reducible refine MM.q_ixTim ‹MM.Bd _ _ _ _› (by first | assumption | omega) ?_
  | with_reducible refine MM.q_ixRun ‹MM.Bd _ _ _ _› (by first | assumption | omega) ?_
  | with_reducible refine MM.q_ixRgs ‹MM.Bd _ _ _ _› ‹MM.WF _ _› (by first | assumption | omega) (by omega) (by omega) ?_
  | with_reducible refine MM.q_lenThs ‹MM.Bd _ _ _ _› ?_
  | ((with_reducible refine MM.q_mBrd ‹MM.Bd _ _ _ _› ?_ ?_); (intro _ _ _ _; rfl))
  | ((with_reducible refine MM.q_mMem ‹MM.Bd _ _ _ _› (by first | assumption | omega) ?_ ?_); (intro _ _ kd'; cases kd' <;> rfl))
  | with_reducible refine ⟨MM.ty_vws ‹MM.Bd _ _ _ _›, ?_⟩
  | with_reducible refine ⟨MM.ty_rdy ‹MM.Bd _ _ _ _›, ?_⟩
  | with_reducible refine ⟨MM.ty_ths ‹MM.Bd _ _ _ _›, ?_⟩
  | with_reducible refine ⟨MM.ty_req ‹MM.Bd _ _ _ _›, ?_⟩)
local macro_rules | `(tactic| walk_at "mgo") => `(tactic| repeat (walk_at "m1"))
set_option hygiene true

namespace K60
open PySem PySem.Spec PyProof.Rows L2
section
variable {P : Program} {w : World} {K : PySem.W.Frag} {mg : Str → Option Value} {base : Heap} {kd : Bool} {CM : Addr}
theorem ok_Board_tell_tick (T : Txt K mg) (M : MM.MemI P w K mg base (clOf T kd CM)) : FnOk P w K mg base CX0 2 T.p_Board_tell_tick.f T.p_Board_tell_tick.fd ["self"] (MM.spTellTick (clOf T kd CM)) := by
  have hC := bdC T M
  refine T.p_Board_tell_tick.F.ok sc_Board_tell_tick (fun vs H Q E h => ?_) (fun cdv A outer s H vs Q E hr h => ?_)
  · obtain ⟨ad, S, k, rfl, _⟩ := h
    rfl
  · obtain ⟨ad, S, k, rfl, O, q⟩ := h
    have B := O.B
    have W := O.W
    refine ⟨_, (pss_cons (ps_set (i := 1) sc_Board_tell_tick.nd rfl (.inl rfl) (pe_tup (pa_cons pe_str (pa_cons (pe_fld (pv 0) rfl) (pa_cons (pe_meth0 (pv 0) T.c_Board.cl T.p_Board_now.me (ok_Board_now T M) (hr.mono (by decide)) T.p_Board_now.b .nil pass0) (pa_cons (pe_un un_neg pe_int) (pa_cons (pe_un un_neg pe_int) (pa_cons (pe_un un_neg pe_int) (pa_cons (pe_tup pa_nil) pa_nil)))))))))
(pss_one (ps_expr (pe_bm PySem.F.plainAttrs_list PySem.F.slot_list_append PySem.F.type_list_append mt_append (pe_fld (pv 0) rfl) (pa_cons (pe_tup (pa_cons (pv 1) (pa_cons (pe_tup (pa_cons pe_int (pa_cons pe_int (pa_cons pe_int (pa_cons pe_int pa_nil))))) (pa_cons (pe_tup pa_nil) pa_nil)))) pa_nil))))), ?_⟩
    walk_at "mgo"
    refine ⟨ad, S, k, rfl, O, ?_⟩
    walk_at "mgo"
    refine ⟨Nat.le_of_ble_eq_true rfl, fun g hg => ?_⟩
    generalize h0 : upd _ g _ = H0
    obtain ⟨s0, x0⟩ := MM.new2 h0 hg
    refine ⟨Nat.le_of_ble_eq_true rfl, fun e he => ?_⟩
    generalize h1 : upd _ e _ = H1
    obtain ⟨s1, x1⟩ := MM.new2 h1 he
    have B1 := (B.same s0).same s1
    walk_at "mgo"
    refine ⟨Nat.le_of_ble_eq_true rfl, fun r hr' => ?_⟩
    generalize h2 : upd _ r _ = H2
    obtain ⟨s2, x2⟩ := MM.new2 h2 hr'
    walk_at "mgo"
    refine ⟨Nat.le_of_ble_eq_true rfl, fun m hm => ?_⟩
    generalize h3 : upd _ m _ = H3
    obtain ⟨s3, x3⟩ := MM.new2 h3 hm
    walk_at "mgo"
    refine ⟨Nat.le_of_ble_eq_true rfl, fun v hv => ?_⟩
    generalize h4 : upd _ v _ = H4
    obtain ⟨s4, x4⟩ := MM.new2 h4 hv
    have B4 := ((B1.same s2).same s3).same s4
    walk_at "mgo"
    refine MM.q_appVws (w := ⟨"tick", S.cpu, S.now, -1, -1, -1, [], [0, 0, 0, 0], []⟩) B4 ?_ ?_ fun H5 B5 m5 => ?_
    · have := W.vw
      have := O.hk
      omega
    · exact ⟨e, r, m, g, x4, s4 _ _ (s3 _ _ (s2 _ _ x1)), s4 _ _ (s3 _ _ (s2 _ _ (s1 _ _ x0))), s4 _ _ (s3 _ _ x2), s4 _ _ x3⟩
    · walk_at "mgo"
      exact q H5 B5 ((MM.Mvd.of (s0.trans (s1.trans (s2.trans (s3.trans s4))))).trans (Nat.le_refl _) m5)
def spThInit (CT : Addr) : Sp := fun vs H Q _ => ∃ x dx pid pc first, vs = [.ref x, .int ((pid : Nat) : Int), .int pc, .int first] ∧ H x = some (.ins CT dx []) ∧
  ∀ H' rg cv, R.Mv x H H' → H rg = none → H' x = some (.ins CT dx (MM.fsT rg cv ⟨pid, pc, [first, 0, 0, 0], .ready, 0, 0⟩)) → H' rg = some (.lst (([first, 0, 0, 0] : List Int).map V.int)) → H' cv = some (.tup (MM.condV .ready)) → Q .non H'
theorem ok_Thread___init__ (T : Txt K mg) : FnOk P w K mg base CX0 1 T.p_Thread___init__.f T.p_Thread___init__.fd ["self", "pid", "pc", "first"] (spThInit T.c_Thread.a) := by
  refine T.p_Thread___init__.F.ok sc_Thread___init__ (fun vs H Q E h => ?_) (fun cdv A outer s H vs Q E hr h => ?_)
  · obtain ⟨x, dx, pid, pc, first, rfl, _⟩ := h
    rfl
  · obtain ⟨x, dx, pid, pc, first, rfl, e, q⟩ := h
    refine ⟨_, (pss_cons (ps_fld (pv 0) (pv 1) rfl)
(pss_cons (ps_fld (pv 0) (pv 2) rfl)
(pss_cons (ps_fld (pv 0) (pe_lst (pa_cons (pv 3) (pa_cons pe_int (pa_cons pe_int (pa_cons pe_int pa_nil))))) rfl)
(pss_cons (ps_fld (pv 0) (pe_tup (pa_cons pe_str pa_nil)) rfl)
(pss_cons (ps_fld (pv 0) pe_int rfl)
(pss_one (ps_fld (pv 0) pe_int rfl))))))), ?_⟩
    walk_at "mgo"
    refine ⟨x, _, dx, _, rfl, e, T.c_Thread.cl, T.n_Thread.pid, Nat.lt_of_sub_eq_succ rfl, ?_⟩
    generalize h1 : upd _ x _ = H1
    obtain ⟨m1, e1⟩ := MM.st2 h1
    walk_at "mgo"
    refine ⟨x, _, dx, _, rfl, e1, T.c_Thread.cl, T.n_Thread.pc, Nat.lt_of_sub_eq_succ rfl, ?_⟩
    generalize h2 : upd _ x _ = H2
    obtain ⟨m2, e2⟩ := MM.st2 h2
    walk_at "mgo"
    refine ⟨Nat.le_of_ble_eq_true rfl, fun rg hrg => ?_⟩
    generalize h3 : upd _ rg _ = H3
    obtain ⟨s3, x3⟩ := MM.new2 h3 hrg
    have e3 := s3 _ _ e2
    walk_at "mgo"
    refine ⟨x, _, dx, _, rfl, e3, T.c_Thread.cl, T.n_Thread.regs, Nat.lt_of_sub_eq_succ rfl, ?_⟩
    generalize h4 : upd _ x _ = H4
    obtain ⟨m4, e4⟩ := MM.st2 h4
    walk_at "mgo"
    refine ⟨Nat.le_of_ble_eq_true rfl, fun cv hcv => ?_⟩
    generalize h5 : upd _ cv _ = H5
    obtain ⟨s5, x5⟩ := MM.new2 h5 hcv
    have e5 := s5 _ _ e4
    walk_at "mgo"
    refine ⟨x, _, dx, _, rfl, e5, T.c_Thread.cl, T.n_Thread.condition, Nat.lt_of_sub_eq_succ rfl, ?_⟩
    generalize h6 : upd _ x _ = H6
    obtain ⟨m6, e6⟩ := MM.st2 h6
    walk_at "mgo"
    refine ⟨x, _, dx, _, rfl, e6, T.c_Thread.cl, T.n_Thread.call, Nat.lt_of_sub_eq_succ rfl, ?_⟩
    generalize h7 : upd _ x _ = H7
    obtain ⟨m7, e7⟩ := MM.st2 h7
    walk_at "mgo"
    refine ⟨x, _, dx, _, rfl, e7, T.c_Thread.cl, T.n_Thread.call_at, Nat.lt_of_sub_eq_succ rfl, ?_⟩
    generalize h8 : upd _ x _ = H8
    obtain ⟨m8, e8⟩ := MM.st2 h8
    have n1 : rg ≠ x := fun z => by rw [z, e2] at hrg; cases hrg
    have n2 : cv ≠ x := fun z => by rw [z, e4] at hcv; cases hcv
    have f2 := m1.trans m2
    have hr0 : H rg = none := by
      cases z : H rg with
      | none => rfl
      | some o => rw [f2 _ _ z n1] at hrg; cases hrg
    exact q H8 rg cv (((((f2.trans (R.Mv.of s3)).trans m4).trans (R.Mv.of s5)).trans m6).trans (m7.trans m8)) hr0 e8 (m8 _ _ (m7 _ _ (m6 _ _ (s5 _ _ (m4 _ _ x3 n1)) n1) n1) n1) (m8 _ _ (m7 _ _ (m6 _ _ x5 n2) n2) n2)
theorem ok_Board_add_thread (T : Txt K mg) (M : MM.MemI P w K mg base (clOf T kd CM)) : FnOk P w K mg base CX0 3 T.p_Board_add_thread.f T.p_Board_add_thread.fd ["self", "pid", "pc", "first"] (MM.spAddThread (clOf T kd CM)) := by
  have hC := bdC T M
  refine T.p_Board_add_thread.F.ok sc_Board_add_thread (fun vs H Q E h => ?_) (fun cdv A outer s H vs Q E hr h => ?_)
  · obtain ⟨ad, S, k, pid, pc, first, rfl, _⟩ := h
    rfl
  · obtain ⟨ad, S, k, pid, pc, first, rfl, O, q⟩ := h
    have B := O.B
    have W := O.W
    refine ⟨_, (pss_cons (ps_set (i := 4) sc_Board_add_thread.nd rfl (.inl rfl) (pe_callB R.cLenS (by rfl) T.m_len (by decide +kernel) (pa_cons (pe_fld (pv 0) rfl) pa_nil)))
(pss_cons (ps_expr (pe_bm PySem.F.plainAttrs_list PySem.F.slot_list_append PySem.F.type_list_append mt_append (pe_fld (pv 0) rfl) (pa_cons (pe_make T.p_Thread___init__.M (ok_Thread___init__ T) (hr.mono (by decide)) (by rfl) T.c_Thread.g T.p_Thread___init__.b .nil pass0 (pa_cons (pv 1) (pa_cons (pv 2) (pa_cons (pv 3) pa_nil)))) pa_nil)))
(pss_cons (ps_expr (pe_bm PySem.F.plainAttrs_list PySem.F.slot_list_append PySem.F.type_list_append mt_append (pe_fld (pv 0) rfl) (pa_cons (pv 4) pa_nil)))
(pss_one (ps_ret (pv 4)))))), ?_⟩
    walk_at "mgo"
    intro x dx hx hdx hne
    refine ⟨x, dx, pid, pc, first, rfl, upd_same, fun H1 rg cv m1 hrg e1 er ec => ⟨rfl, ?_⟩⟩
    have hrx : rg ≠ x := fun z => by rw [z, upd_same] at hrg; cases hrg
    have hrd : rg ≠ dx := fun z => by rw [z, upd_ne hne, upd_same] at hrg; cases hrg
    have hr0 : H rg = none := by rw [upd_ne hrx, upd_ne hrd] at hrg; exact hrg
    have s1 : Same H H1 := fun b o hb => m1 b o (by rw [upd_ne (ne_of_none hb hx), upd_ne (ne_of_none hb hdx)]; exact hb) (ne_of_none hb hx)
    obtain ⟨B2, m2⟩ := B.newTh (t := ⟨pid, pc, [first, 0, 0, 0], .ready, 0, 0⟩) s1 hx hr0 hrx.symm e1 er ec
    walk_at "mgo"
    have e0 := s1 _ _ B.thsAt
    have hn := W.nt
    refine ⟨_, _, _, rfl, rfl, e0, R.size_lt (by rw [List.length_map, List.length_range]; omega), ?_⟩
    walk_at "mgo"
    rw [show V.ref (ad .brd) = V.ref (MM.adTh ad S.ths.length x rg .brd) from congrArg V.ref (MM.adTh_ne (u := .brd) (by intro e; cases e) (by intro e; cases e)).symm]
    walk_at "mgo"
    have hk := O.hk
    have hd := W.rdl
    refine MM.q_appRdy B2 (by show S.ready.length < 100000; omega) fun H3 B3 m3 => ?_
    walk_at "mgo"
    refine q _ H3 B3 (m2.trans (by show S.ths.length ≤ (S.ths ++ [_]).length; rw [List.length_append]; omega) m3)
end
end K60
end
section
local macro_rules | `(tactic| walk_at "s1") => `(tactic| first
  | ((with_reducible apply R.r_var); · rfl)
  | with_reducible apply R.r_c
  | with_reducible apply R.r_op
  | with_reducible apply R.r_I0
  | with_reducible apply R.r_cb
  | with_reducible apply R.r_cons
  | with_reducible apply R.r_nil
  | with_reducible apply R.r_seq
  | with_reducible apply R.r_asg
  | with_reducible apply R.r_ret
  | with_reducible apply R.r_ifS
  | with_reducible apply R.r_test
  | with_reducible apply R.r_t
  | with_reducible apply R.r_f
  | with_reducible apply R.r_nt
  | with_reducible apply R.r_nf
  | with_reducible apply R.r_bl
  | with_reducible apply R.r_U
  | with_reducible apply R.r_un
  | with_reducible apply R.r_eqI
  | with_reducible apply R.r_eqS
  | with_reducible apply R.r_neI
  | with_reducible apply R.r_neS
  | with_reducible apply R.r_and
  | with_reducible apply R.r_or
  | with_reducible apply R.r_not
  | with_reducible apply R.r_andV
  | with_reducible apply R.r_orV
  | with_reducible apply R.r_notV
  | with_reducible apply R.r_blV
  | with_reducible apply R.r_B
  | with_reducible apply R.r_ifE
  | with_reducible apply R.r_tup
  | with_reducible apply R.r_lst
  | with_reducible apply R.r_call
  | with_reducible apply R.r_drop
  | with_reducible apply R.r_next
  | with_reducible apply R.r_abs
  | with_reducible apply R.r_int1
  | with_reducible apply R.r_int1b
  | with_reducible apply R.r_min2
  | with_reducible apply R.r_bm
  | with_reducible apply R.r_bm0
  | with_reducible apply R.r_dget
  | with_reducible apply R.r_dput
  | with_reducible apply R.r_disp
  | with_reducible apply R.r_pnil
  | with_reducible apply R.r_pcons
  | with_reducible apply R.r_fld
  | with_reducible apply R.r_slice
  | with_reducible apply R.r_nopart
  | with_reducible apply R.r_part
  | with_reducible apply R.r_int
  | with_reducible apply R.r_yes
  | with_reducible apply R.r_retN
  | with_reducible apply R.r_asgG
  | with_reducible apply R.r_gname
  | with_reducible apply R.r_rng1
  | with_reducible apply R.r_brk
  | with_reducible apply R.r_cnt
  | with_reducible apply R.r_m1
  | with_reducible apply R.r_lcr
  | with_reducible apply R.r_p2_63
  | with_reducible apply R.r_p2_64
  | with_reducible apply R.r_p2_32
  | with_reducible apply R.r_p2_31
  | with_reducible apply R.r_p10_18
  | with_reducible apply R.r_p10_30
  | with_reducible refine R.r_mod (by omega) ?_
  | with_reducible refine R.r_div (by omega) ?_
  | with_reducible refine R.r_mulR (by omega) ?_
  | with_reducible refine R.r_mulL (by omega) ?_
  | with_reducible refine R.r_iteY (by decide +kernel) ?_
  | with_reducible refine R.r_iteF (by decide +kernel) ?_
  | with_reducible refine R.r_isi R.isi_int ?_
  | with_reducible refine R.r_isi R.isi_intB ?_)
local macro_rules | `(tactic| walk_at "go") => `(tactic| repeat (walk_at "s1"))

set_option hygiene false
local macro_rules | `(tactic| walk_at "m1") => `(tactic| first
  | walk_at "s1"
  | with_reducible apply MM.r_meth
  | with_reducible apply MM.r_make
  | with_reducible apply MM.r_sfld
  | with_reducible apply MM.r_gsub
  | with_reducible apply MM.r_augS
  | with_reducible apply MM.r_ip
  | ((with_reducible refine MM.q_threads ?_ ‹MM.Bd _ _ _ _› ?_); exact hC)
  | ((with_reducible refine MM.q_memories ?_ ‹MM.Bd _ _ _ _› ?_); exact hC)
  | ((with_reducible refine MM.q_ready ?_ ‹MM.Bd _ _ _ _› ?_); exact hC)
  | ((with_reducible refine MM.q_times ?_ ‹MM.Bd _ _ _ _› ?_); exact hC)
  | ((with_reducible refine MM.q_running ?_ ‹MM.Bd _ _ _ _› ?_); exact hC)
  | ((with_reducible refine MM.q_dev ?_ ‹MM.Bd _ _ _ _› ?_); exact hC)
  | ((with_reducible refine MM.q_requests ?_ ‹MM.Bd _ _ _ _› ?_); exact hC)
  | ((with_reducible refine MM.q_cpu ?_ ‹MM.Bd _ _ _ _› ?_); exact hC)
  | ((with_reducible refine MM.q_views ?_ ‹MM.Bd _ _ _ _› ?_); exact hC)
  | ((with_reducible refine MM.q_pid ?_ ‹MM.Bd _ _ _ _› (by first | assumption | omega) ?_); exact hC)
  | ((with_reducible refine MM.q_pc ?_ ‹MM.Bd _ _ _ _› (by first | assumption | omega) ?_); exact hC)
  | ((with_reducible refine MM.q_regs ?_ ‹MM.Bd _ _ _ _› (by first | assumption | omega) ?_); exact hC)
  | ((with_reducible refine MM.q_call ?_ ‹MM.Bd _ _ _ _› (by first | assumption | omega) ?_); exact hC)
  | ((with_reducible refine MM.q_callAt ?_ ‹MM.Bd _ _ _ _› (by first | assumption | omega) ?_); exact hC)
  | with_reducible refine MM.q_ixThs ‹MM.Bd _ _ _ _› (by first | assumption | omega) ?_
  | with_reducible refine MM.q_ixMem ‹MM.Bd _ _ _ _› (by first | assumption | omega) ?_
  | with_reducible refine MM.q_ixTim ‹MM.Bd _ _ _ _› (by first | assumption | omega) ?_
  | with_reducible refine MM.q_ixRun ‹MM.Bd _ _ _ _› (by first | assumption | omega) ?_
  | with_reducible refine MM.q_ixRgs ‹MM.Bd _ _ _ _› ‹MM.WF _ _› (by first | assumption | omega) (by omega) (by omega) ?_
  | with_reducible refine MM.q_lenThs ‹MM.Bd _ _ _ _› ?_
  | ((with_reducible refine MM.q_mBrd ‹MM.Bd _ _ _ _› ?_ ?_); (intro _ _ _ _; rfl))
  | ((with_reducible refine MM.q_mMem ‹MM.Bd _ _ _ _› (by first | assumption | omega) ?_ ?_); (intro _ _ kd'; cases kd' <;> rfl))
  | with_reducible refine ⟨MM.ty_vws ‹MM.Bd _ _ _ _›, ?_⟩
  | with_reducible refine ⟨MM.ty_rdy ‹MM.Bd _ _ _ _›, ?_⟩
  | with_reducible refine ⟨MM.ty_ths ‹MM.Bd _ _ _ _›, ?_⟩
  | with_reducible refine ⟨MM.ty_req ‹MM.Bd _ _ _ _›, ?_⟩)
local macro_rules | `(tactic| walk_at "mgo") => `(tactic| repeat (walk_at "m1"))
set_option hygiene true

namespace K60
open PySem PySem.Spec PyProof.Rows L2
section
variable {P : Program} {w : World} {K : PySem.W.Frag} {mg : Str → Option Value} {base : Heap} {kd : Bool} {CM : Addr}
theorem ok_Board_make_ready (T : Txt K mg) (M : MM.MemI P w K mg base (clOf T kd CM)) : FnOk P w K mg base CX0 1 T.p_Board_make_ready.f T.p_Board_make_ready.fd ["self", "tid"] (MM.spMakeReady (clOf T kd CM)) := by
  have hC := bdC T M
  refine T.p_Board_make_ready.F.ok sc_Board_make_ready (fun vs H Q E h => ?_) (fun cdv A outer s H vs Q E hr h => ?_)
  · obtain ⟨ad, S, k, tid, rfl, _⟩ := h
    rfl
  · obtain ⟨ad, S, k, tid, rfl, O, ht, q⟩ := h
    have B := O.B
    have W := O.W
    refine ⟨_, (pss_cons (ps_fld (pe_ix ix_list (pe_fld (pv 0) rfl) (pv 1) (fun _ _ => rfl)) (pe_tup (pa_cons pe_str pa_nil)) rfl)
(pss_one (ps_expr (pe_bm PySem.F.plainAttrs_list PySem.F.slot_list_append PySem.F.type_list_append mt_append (pe_fld (pv 0) rfl) (pa_cons (pv 1) pa_nil))))), ?_⟩
    walk_at "mgo"
    refine ⟨Nat.le_of_ble_eq_true rfl, fun cv hcv => ?_⟩
    generalize h1 : upd _ cv _ = H1
    obtain ⟨s1, x1⟩ := MM.new2 h1 hcv
    have B1 := B.same s1
    walk_at "mgo"
    refine MM.q_stCond (cd := .ready) hC B1 ht x1 fun H2 B2 m2 => ?_
    walk_at "mgo"
    have hk := O.hk
    have hd := W.rdl
    refine MM.q_appRdy B2 (by show S.ready.length < 100000; omega) fun H3 B3 m3 => ?_
    walk_at "mgo"
    exact q H3 B3 (MM.mv_pre s1 (MM.Mvd.after MM.Sm.up m2 m3))
theorem ok_Board_end_run (T : Txt K mg) (M : MM.MemI P w K mg base (clOf T kd CM)) : FnOk P w K mg base CX0 1 T.p_Board_end_run.f T.p_Board_end_run.fd ["self", "tid", "condition"] (MM.spEndRun (clOf T kd CM)) := by
  have hC := bdC T M
  refine T.p_Board_end_run.F.ok sc_Board_end_run (fun vs H Q E h => ?_) (fun cdv A outer s H vs Q E hr h => ?_)
  · obtain ⟨ad, S, k, tid, cd, c1, rfl, _⟩ := h
    rfl
  · obtain ⟨ad, S, k, tid, cd, c1, rfl, hc1, O, ht, q⟩ := h
    have B := O.B
    have W := O.W
    have hrn : S.cpu < S.run.length := by rw [W.rn]; exact W.cpu
    refine ⟨_, (pss_cons (ps_fld (pe_ix ix_list (pe_fld (pv 0) rfl) (pv 1) (fun _ _ => rfl)) (pv 2) rfl)
(pss_one (ps_asg (pe_un un_neg pe_int) (pg_sub (pe_fld (pv 0) rfl) (pe_fld (pv 0) rfl) set_list)))), ?_⟩
    walk_at "mgo"
    refine MM.q_stCond (cd := cd) hC B ht hc1 fun H2 B2 m2 => ?_
    walk_at "mgo"
    refine MM.q_setRun B2 hrn fun H3 B3 m3 => ?_
    exact q H3 B3 (MM.Mvd.after MM.Sm.up m2 m3)
theorem ok_Board_begin_run (T : Txt K mg) (M : MM.MemI P w K mg base (clOf T kd CM)) : FnOk P w K mg base CX0 3 T.p_Board_begin_run.f T.p_Board_begin_run.fd ["self", "tid"] (MM.spBeginRun (clOf T kd CM)) := by
  have hC := bdC T M
  refine T.p_Board_begin_run.F.ok sc_Board_begin_run (fun vs H Q E h => ?_) (fun cdv A outer s H vs Q E hr h => ?_)
  · obtain ⟨ad, S, k, tid, rfl, _⟩ := h
    rfl
  · obtain ⟨ad, S, k, tid, rfl, O, ht, q⟩ := h
    have B := O.B
    have W := O.W
    have hrn : S.cpu < S.run.length := by rw [W.rn]; exact W.cpu
    refine ⟨_, (pss_cons (ps_fld (pe_ix ix_list (pe_fld (pv 0) rfl) (pv 1) (fun _ _ => rfl)) (pe_tup (pa_cons pe_str (pa_cons (pe_fld (pv 0) rfl) pa_nil))) rfl)
(pss_cons (ps_asg (pv 1) (pg_sub (pe_fld (pv 0) rfl) (pe_fld (pv 0) rfl) set_list))
(pss_one (ps_expr (pe_meth (pv 0) T.c_Board.cl T.p_Board_tell.me (ok_Board_tell T M) (hr.mono (by decide)) T.p_Board_tell.b .nil pass0 (pa_cons pe_str (pa_cons (pv 1) (pa_cons (pe_fld (pe_ix ix_list (pe_fld (pv 0) rfl) (pv 1) (fun _ _ => rfl)) rfl) (pa_cons (pe_tup pa_nil) pa_nil))))))))), ?_⟩
    walk_at "mgo"
    refine ⟨Nat.le_of_ble_eq_true rfl, fun cv hcv => ?_⟩
    generalize h1 : upd _ cv _ = H1
    obtain ⟨s1, x1⟩ := MM.new2 h1 hcv
    have B1 := B.same s1
    walk_at "mgo"
    refine MM.q_stCond (cd := .running S.cpu) hC B1 ht x1 fun H2 B2 m2 => ?_
    walk_at "mgo"
    refine MM.q_setRun B2 hrn fun H3 B3 m3 => ?_
    have l3 : (MM.setCond S tid (.running S.cpu)).ths.length = S.ths.length := MM.up_len
    have ht3 : tid < (MM.setCond S tid (.running S.cpu)).ths.length := by rw [l3]; exact ht
    have W3 := (W.setCond (cd := .running S.cpu) ht trivial).runSet (j := S.cpu) (v := (tid : Int)) (by omega)
    have sm3 : MM.Sm S { MM.setCond S tid (.running S.cpu) with run := S.run.set S.cpu (tid : Int) } := ⟨Nat.le_of_eq l3.symm, rfl, rfl, rfl⟩
    have O3 := O.to B3 W3 O.hk sm3
    walk_at "mgo"
    refine ⟨Nat.le_of_ble_eq_true rfl, fun g hg => ?_⟩
    generalize h4 : upd _ g _ = H4
    obtain ⟨s4, x4⟩ := MM.new2 h4 hg
    refine ⟨ad, _, _, "on", tid, _, [], g, rfl, x4, O3.same s4, ht3, fun H5 B5 m5 => ?_⟩
    exact q H5 B5 (MM.mv_pre s1 (MM.Mvd.after MM.Sm.up m2 (MM.Mvd.after (MM.sm_of rfl rfl rfl rfl) m3 (MM.mv_pre s4 m5))))
theorem ok_Board_end_pick (T : Txt K mg) (M : MM.MemI P w K mg base (clOf T kd CM)) : FnOk P w K mg base CX0 1 T.p_Board_end_pick.f T.p_Board_end_pick.fd ["self"] (fun vs H Q _ => ∃ ad S k, vs = [.ref (ad .brd)] ∧ MM.Ok (clOf T kd CM) ad S H k ∧
    ∀ ad' H' v vw, MM.Bd (clOf T kd CM) ad' { S with views := [] } H' → MM.Mv2 (clOf T kd CM) S ad ad' H H' → H' v = some (.lst (vw.map V.ref)) → MM.All2 (MM.VwAt H') vw S.views → (∀ t, MM.dom kd S.ths.length S.mem.length t → ad' t ≠ v) → ad .vwsL = v → Q (.ref v) H') := by
  have hC := bdC T M
  refine T.p_Board_end_pick.F.ok sc_Board_end_pick (fun vs H Q E h => ?_) (fun cdv A outer s H vs Q E hr h => ?_)
  · obtain ⟨ad, S, k, rfl, _⟩ := h
    rfl
  · obtain ⟨ad, S, k, rfl, O, q⟩ := h
    have B := O.B
    refine ⟨_, (pss_cons (ps_set (i := 1) sc_Board_end_pick.nd rfl (.inl rfl) (pe_fld (pv 0) rfl))
(pss_cons (ps_fld (pv 0) (pe_lst pa_nil) rfl)
(pss_one (ps_ret (pv 1))))), ?_⟩
    walk_at "mgo"
    refine ⟨Nat.zero_le _, fun p hp => ?_⟩
    obtain ⟨dx, rt, e1, B2, m2⟩ := B.newVws hp
    obtain ⟨vw, ev, av, _⟩ := B.vws
    have nb : p ≠ ad .brd := (ne_of_none e1 hp).symm
    walk_at "mgo"
    refine ⟨_, _, dx, _, rfl, by rw [upd_ne nb.symm]; exact e1, T.c_Board.cl, T.n_Board.views, Nat.lt_of_sub_eq_succ rfl, ?_⟩
    have nv : ad .vwsL ≠ ad .brd := fun z => by have := B.inj .vwsL .brd trivial trivial z; cases this
    have np : ad .vwsL ≠ p := ne_of_none ev hp
    walk_at "mgo"
    refine q _ _ _ vw B2 m2 (by rw [upd_ne nv, upd_ne np]; exact ev) (av.imp fun _ _ z => z.keep m2.kt) (fun t d z => ?_) rfl
    by_cases e : t = .vwsL
    · rw [e] at z
      exact np (z.symm.trans (if_pos rfl))
    · rw [MM.adV_ne e] at z
      exact e (B.inj t .vwsL d trivial z)
end
end K60
end
section
local macro_rules | `(tactic| walk_at "s1") => `(tactic| first
  | ((with_reducible apply R.r_var); · rfl)
  | with_reducible apply R.r_c
  | with_reducible apply R.r_op
  | with_reducible apply R.r_I0
  | with_reducible apply R.r_cb
  | with_reducible apply R.r_cons
  | with_reducible apply R.r_nil
  | with_reducible apply R.r_seq
  | with_reducible apply R.r_asg
  | with_reducible apply R.r_ret
  | with_reducible apply R.r_ifS
  | with_reducible apply R.r_test
  | with_reducible apply R.r_t
  | with_reducible apply R.r_f
  | with_reducible apply R.r_nt
  | with_reducible apply R.r_nf
  | with_reducible apply R.r_bl
  | with_reducible apply R.r_U
  | with_reducible apply R.r_un
  | with_reducible apply R.r_eqI
  | with_reducible apply R.r_eqS
  | with_reducible apply R.r_neI
  | with_reducible apply R.r_neS
  | with_reducible apply R.r_and
  | with_reducible apply R.r_or
  | with_reducible apply R.r_not
  | with_reducible apply R.r_andV
  | with_reducible apply R.r_orV
  | with_reducible apply R.r_notV
  | with_reducible apply R.r_blV
  | with_reducible apply R.r_B
  | with_reducible apply R.r_ifE
  | with_reducible apply R.r_tup
  | with_reducible apply R.r_lst
  | with_reducible apply R.r_call
  | with_reducible apply R.r_drop
  | with_reducible apply R.r_next
  | with_reducible apply R.r_abs
  | with_reducible apply R.r_int1
  | with_reducible apply R.r_int1b
  | with_reducible apply R.r_min2
  | with_reducible apply R.r_bm
  | with_reducible apply R.r_bm0
  | with_reducible apply R.r_dget
  | with_reducible apply R.r_dput
  | with_reducible apply R.r_disp
  | with_reducible apply R.r_pnil
  | with_reducible apply R.r_pcons
  | with_reducible apply R.r_fld
  | with_reducible apply R.r_slice
  | with_reducible apply R.r_nopart
  | with_reducible apply R.r_part
  | with_reducible apply R.r_int
  | with_reducible apply R.r_yes
  | with_reducible apply R.r_retN
  | with_reducible apply R.r_asgG
  | with_reducible apply R.r_gname
  | with_reducible apply R.r_rng1
  | with_reducible apply R.r_brk
  | with_reducible apply R.r_cnt
  | with_reducible apply R.r_m1
  | with_reducible apply R.r_lcr
  | with_reducible apply R.r_p2_63
  | with_reducible apply R.r_p2_64
  | with_reducible apply R.r_p2_32
  | with_reducible apply R.r_p2_31
  | with_reducible apply R.r_p10_18
  | with_reducible apply R.r_p10_30
  | with_reducible refine R.r_mod (by omega) ?_
  | with_reducible refine R.r_div (by omega) ?_
  | with_reducible refine R.r_mulR (by omega) ?_
  | with_reducible refine R.r_mulL (by omega) ?_
  | with_reducible refine R.r_iteY (by decide +kernel) ?_
  | with_reducible refine R.r_iteF (by decide +kernel) ?_
  | with_reducible refine R.r_isi R.isi_int ?_
  | with_reducible refine R.r_isi R.isi_intB ?_)
local macro_rules | `(tactic| walk_at "go") => `(tactic| repeat (walk_at "s1"))

set_option hygiene false
local macro_rules | `(tactic| walk_at "m1") => `(tactic| first
  | walk_at "s1"
  | with_reducible apply MM.r_meth
  | with_reducible apply MM.r_make
  | with_reducible apply MM.r_sfld
  | with_reducible apply MM.r_gsub
  | with_reducible apply MM.r_augS
  | with_reducible apply MM.r_ip
  | ((with_reducible refine MM.q_threads ?_ ‹MM.Bd _ _ _ _› ?_); exact hC)
  | ((with_reducible refine MM.q_memories ?_ ‹MM.Bd _ _ _ _› ?_); exact hC)
  | ((with_reducible refine MM.q_ready ?_ ‹MM.Bd _ _ _ _› ?_); exact hC)
  | ((with_reducible refine MM.q_times ?_ ‹MM.Bd _ _ _ _› ?_); exact hC)
  | ((with_reducible refine MM.q_running ?_ ‹MM.Bd _ _ _ _› ?_); exact hC)
  | ((with_reducible refine MM.q_dev ?_ ‹MM.Bd _ _ _ _› ?_); exact hC)
  | ((with_reducible refine MM.q_requests ?_ ‹MM.Bd _ _ _ _› ?_); exact hC)
  | ((with_reducible refine MM.q_cpu ?_ ‹MM.Bd _ _ _ _› ?_); exact hC)
  | ((with_reducible refine MM.q_views ?_ ‹MM.Bd _ _ _ _› ?_); exact hC)
  | ((with_reducible refine MM.q_pid ?_ ‹MM.Bd _ _ _ _› (by first | assumption | omega) ?_); exact hC)
  | ((with_reducible refine MM.q_pc ?_ ‹MM.Bd _ _ _ _› (by first | assumption | omega) ?_); exact hC)
  | ((with_reducible refine MM.q_regs ?_ ‹MM.Bd _ _ _ _› (by first | assumption | omega) ?_); exact hC)
  | ((with_reducible refine MM.q_call ?_ ‹MM.Bd _ _ _ _› (by first | assumption | omega) ?_); exact hC)
  | ((with_reducible refine MM.q_callAt ?_ ‹MM.Bd _ _ _ _› (by first | assumption | omega) ?_); exact hC)
  | with_reducible refine MM.q_ixThs ‹MM.Bd _ _ _ _› (by first | assumption | omega) ?_
  | with_reducible refine MM.q_ixMem ‹MM.Bd _ _ _ _› (by first | assumption | omega) ?_
  | with_reducible refine MM.q_ixTim ‹MM.Bd _ _ _ _› (by first | assumption | omega) ?_
  | with_reducible refine MM.q_ixRun ‹MM.Bd _ _ _ _› (by first | assumption | omega) ?_
  | with_reducible refine MM.q_ixRgs ‹MM.Bd _ _ _ _› ‹MM.WF _ _› (by first | assumption | omega) (by omega) (by omega) ?_
  | with_reducible refine MM.q_lenThs ‹MM.Bd _ _ _ _› ?_
  | ((with_reducible refine MM.q_mBrd ‹MM.Bd _ _ _ _› ?_ ?_); (intro _ _ _ _; rfl))
  | ((with_reducible refine MM.q_mMem ‹MM.Bd _ _ _ _› (by first | assumption | omega) ?_ ?_); (intro _ _ kd'; cases kd' <;> rfl))
  | with_reducible refine ⟨MM.ty_vws ‹MM.Bd _ _ _ _›, ?_⟩
  | with_reducible refine ⟨MM.ty_rdy ‹MM.Bd _ _ _ _›, ?_⟩
  | with_reducible refine ⟨MM.ty_ths ‹MM.Bd _ _ _ _›, ?_⟩
  | with_reducible refine ⟨MM.ty_req ‹MM.Bd _ _ _ _›, ?_⟩)
local macro_rules | `(tactic| walk_at "mgo") => `(tactic| repeat (walk_at "m1"))
set_option hygiene true

namespace K60
open PySem PySem.Spec PyProof.Rows L2
section
variable {P : Program} {w : World} {K : PySem.W.Frag} {mg : Str → Option Value} {base : Heap} {kd : Bool} {CM : Addr}
theorem ok_return_call (T : Txt K mg) (M : MM.MemI P w K mg base (clOf T kd CM)) : FnOk P w K mg base CX0 3 T.p_return_call.f T.p_return_call.fd ["board", "tid", "result"] (MM.spReturnCall (clOf T kd CM)) := by
  have hC := bdC T M
  refine T.p_return_call.F.ok sc_return_call (fun vs H Q E h => ?_) (fun cdv A outer s H vs Q E hr h => ?_)
  · obtain ⟨ad, S, k, tid, res, rfl, _⟩ := h
    rfl
  · obtain ⟨ad, S, k, tid, res, rfl, hres, O, hk8, ht, q⟩ := h
    have B := O.B
    have W := O.W
    have hk := O.hk
    refine ⟨_, (pss_cons (ps_set (i := 3) sc_return_call.nd rfl (.inl rfl) (pe_ix ix_list (pe_fld (pv 0) rfl) (pv 1) (fun _ _ => rfl)))
(pss_cons (ps_asg (pv 2) (pg_sub (pe_fld (pv 3) rfl) pe_int set_list))
(pss_cons (ps_expr (pe_meth (pv 0) T.c_Board.cl T.p_Board_tell.me (ok_Board_tell T M) (hr.mono (by decide)) T.p_Board_tell.b .nil pass0 (pa_cons pe_str (pa_cons (pv 1) (pa_cons (pe_fld (pv 3) rfl) (pa_cons (pe_tup (pa_cons (pe_fld (pv 3) rfl) (pa_cons (pv 2) pa_nil))) pa_nil))))))
(pss_one (ps_if (pt_cmpR op_ne (pe_ix ix_tup (pe_fld (pv 3) rfl) pe_int (fun _ _ => rfl)) pe_str (nomark _))
 (pss_one (ps_expr (pe_meth (pv 0) T.c_Board.cl T.p_Board_make_ready.me (ok_Board_make_ready T M) (hr.mono (by decide)) T.p_Board_make_ready.b .nil pass0 (pa_cons (pv 1) pa_nil))))
 pss_nil))))), ?_⟩
    walk_at "mgo"
    refine MM.q_setRgs B W ht (by decide) (by decide) fun H1 B1 m1 => ?_
    have W1 := W.setReg (j := (0 : Int).toNat) ht hres
    have s1 : MM.Sm S (MM.setReg S tid (0 : Int).toNat res) := MM.Sm.up
    have ht1 : tid < (MM.setReg S tid (0 : Int).toNat res).ths.length := by rw [MM.len_setReg]; exact ht
    have O1 := O.to B1 W1 hk s1
    walk_at "mgo"
    refine ⟨Nat.le_of_ble_eq_true rfl, fun g hg => ?_⟩
    generalize h2 : upd _ g _ = H2
    obtain ⟨s2, x2⟩ := MM.new2 h2 hg
    refine ⟨ad, _, _, "return", tid, _, [_, res], g, rfl, x2, O1.same s2, ht1, fun H3 B3 m3 => ?_⟩
    have m4 : MM.Mv1 (clOf T kd CM) S ad H H3 := MM.Mvd.after s1 m1 (MM.mv_pre s2 m3)
    have hc : (MM.setReg S tid (0 : Int).toNat res).th tid = { S.th tid with regs := (S.th tid).regs.set (0 : Int).toNat res } := MM.up_th ht
    walk_at "mgo"
    refine MM.q_cond hC B3 ht1 fun c0 e0 => ?_
    rw [MM.tell_th, hc] at e0
    walk_at "mgo"
    refine R.r_ixT (R.sqT e0) (MM.cond_0 _) ?_
    walk_at "mgo"
    unfold MM.returnCall at q
    refine R.r_iteN (fun e => ?_) (fun e => ?_)
    · rw [if_neg (fun z => e ((MM.name_run _).mpr z))] at q
      walk_at "mgo"
      refine ⟨ad, _, _, tid, rfl, O1.tell B3 (by omega), ht1, fun H4 B4 m5 => ?_⟩
      walk_at "mgo"
      exact q H4 B4 (MM.Mvd.after (s1.trans MM.Sm.tell) m4 m5)
    · rw [if_pos ((MM.name_run _).mp e)] at q
      walk_at "mgo"
      exact q H3 B3 m4
end
end K60
end
section
local macro_rules | `(tactic| walk_at "s1") => `(tactic| first
  | ((with_reducible apply R.r_var); · rfl)
  | with_reducible apply R.r_c
  | with_reducible apply R.r_op
  | with_reducible apply R.r_I0
  | with_reducible apply R.r_cb
  | with_reducible apply R.r_cons
  | with_reducible apply R.r_nil
  | with_reducible apply R.r_seq
  | with_reducible apply R.r_asg
  | with_reducible apply R.r_ret
  | with_reducible apply R.r_ifS
  | with_reducible apply R.r_test
  | with_reducible apply R.r_t
  | with_reducible apply R.r_f
  | with_reducible apply R.r_nt
  | with_reducible apply R.r_nf
  | with_reducible apply R.r_bl
  | with_reducible apply R.r_U
  | with_reducible apply R.r_un
  | with_reducible apply R.r_eqI
  | with_reducible apply R.r_eqS
  | with_reducible apply R.r_neI
  | with_reducible apply R.r_neS
  | with_reducible apply R.r_and
  | with_reducible apply R.r_or
  | with_reducible apply R.r_not
  | with_reducible apply R.r_andV
  | with_reducible apply R.r_orV
  | with_reducible apply R.r_notV
  | with_reducible apply R.r_blV
  | with_reducible apply R.r_B
  | with_reducible apply R.r_ifE
  | with_reducible apply R.r_tup
  | with_reducible apply R.r_lst
  | with_reducible apply R.r_call
  | with_reducible apply R.r_drop
  | with_reducible apply R.r_next
  | with_reducible apply R.r_abs
  | with_reducible apply R.r_int1
  | with_reducible apply R.r_int1b
  | with_reducible apply R.r_min2
  | with_reducible apply R.r_bm
  | with_reducible apply R.r_bm0
  | with_reducible apply R.r_dget
  | with_reducible apply R.r_dput
  | with_reducible apply R.r_disp
  | with_reducible apply R.r_pnil
  | with_reducible apply R.r_pcons
  | with_reducible apply R.r_fld
  | with_reducible apply R.r_slice
  | with_reducible apply R.r_nopart
  | with_reducible apply R.r_part
  | with_reducible apply R.r_int
  | with_reducible apply R.r_yes
  | with_reducible apply R.r_retN
  | with_reducible apply R.r_asgG
  | with_reducible apply R.r_gname
  | with_reducible apply R.r_rng1
  | with_reducible apply R.r_brk
  | with_reducible apply R.r_cnt
  | with_reducible apply R.r_m1
  | with_reducible apply R.r_lcr
  | with_reducible apply R.r_p2_63
  | with_reducible apply R.r_p2_64
  | with_reducible apply R.r_p2_32
  | with_reducible apply R.r_p2_31
  | with_reducible apply R.r_p10_18
  | with_reducible apply R.r_p10_30
  | with_reducible refine R.r_mod (by omega) ?_
  | with_reducible refine R.r_div (by omega) ?_
  | with_reducible refine R.r_mulR (by omega) ?_
  | with_reducible refine R.r_mulL (by omega) ?_
  | with_reducible refine R.r_iteY (by decide +kernel) ?_
  | with_reducible refine R.r_iteF (by decide +kernel) ?_
  | with_reducible refine R.r_isi R.isi_int ?_
  | with_reducible refine R.r_isi R.isi_intB ?_)
local macro_rules | `(tactic| walk_at "go") => `(tactic| repeat (walk_at "s1"))

set_option hygiene false
local macro_rules | `(tactic| walk_at "m1") => `(tactic| first
  | walk_at "s1"
  | with_reducible apply MM.r_meth
  | with_reducible apply MM.r_make
  | with_reducible apply MM.r_sfld
  | with_reducible apply MM.r_gsub
  | with_reducible apply MM.r_augS
  | with_reducible apply MM.r_ip
  | ((with_reducible refine MM.q_threads ?_ ‹MM.Bd _ _ _ _› ?_); exact hC)
  | ((with_reducible refine MM.q_memories ?_ ‹MM.Bd _ _ _ _› ?_); exact hC)
  | ((with_reducible refine MM.q_ready ?_ ‹MM.Bd _ _ _ _› ?_); exact hC)
  | ((with_reducible refine MM.q_times ?_ ‹MM.Bd _ _ _ _› ?_); exact hC)
  | ((with_reducible refine MM.q_running ?_ ‹MM.Bd _ _ _ _› ?_); exact hC)
  | ((with_reducible refine MM.q_dev ?_ ‹MM.Bd _ _ _ _› ?_); exact hC)
  | ((with_reducible refine MM.q_requests ?_ ‹MM.Bd _ _ _ _› ?_); exact hC)
  | ((with_reducible refine MM.q_cpu ?_ ‹MM.Bd _ _ _ _› ?_); exact hC)
  | ((with_reducible refine MM.q_views ?_ ‹MM.Bd _ _ _ _› ?_); exact hC)
  | ((with_reducible refine MM.q_pid ?_ ‹MM.Bd _ _ _ _› (by first | assumption | omega) ?_); exact hC)
  | ((with_reducible refine MM.q_pc ?_ ‹MM.Bd _ _ _ _› (by first | assumption | omega) ?_); exact hC)
  | ((with_reducible refine MM.q_regs ?_ ‹MM.Bd _ _ _ _› (by first | assumption | omega) ?_); exact hC)
  | ((with_reducible refine MM.q_call ?_ ‹MM.Bd _ _ _ _› (by first | assumption | omega) ?_); exact hC)
  | ((with_reducible refine MM.q_callAt ?_ ‹MM.Bd _ _ _ _› (by first | assumption | omega) ?_); exact hC)
  | with_reducible refine MM.q_ixThs ‹MM.Bd _ _ _ _› (by first | assumption | omega) ?_
  | with_reducible refine MM.q_ixMem ‹MM.Bd _ _ _ _› (by first | assumption | omega) ?_
  | with_reducible refine MM.q_ixTim ‹MM.Bd _ _ _ _› (by first | assumption | omega) ?_
  | with_reducible refine MM.q_ixRun ‹MM.Bd _ _ _ _› (by first | assumption | omega) ?_
  | with_reducible refine MM.q_ixRgs ‹MM.Bd _ _ _ _› ‹MM.WF _ _› (by first | assumption | omega) (by omega) (by omega) ?_
  | with_reducible refine MM.q_lenThs ‹MM.Bd _ _ _ _› ?_
  | ((with_reducible refine MM.q_mBrd ‹MM.Bd _ _ _ _› ?_ ?_); (intro _ _ _ _; rfl))
  | ((with_reducible refine MM.q_mMem ‹MM.Bd _ _ _ _› (by first | assumption | omega) ?_ ?_); (intro _ _ kd'; cases kd' <;> rfl))
  | with_reducible refine ⟨MM.ty_vws ‹MM.Bd _ _ _ _›, ?_⟩
  | with_reducible refine ⟨MM.ty_rdy ‹MM.Bd _ _ _ _›, ?_⟩
  | with_reducible refine ⟨MM.ty_ths ‹MM.Bd _ _ _ _›, ?_⟩
  | with_reducible refine ⟨MM.ty_req ‹MM.Bd _ _ _ _›, ?_⟩)
local macro_rules | `(tactic| walk_at "mgo") => `(tactic| repeat (walk_at "m1"))
set_option hygiene true

namespace K60
open PySem PySem.Spec PyProof.Rows L2
section
variable {P : Program} {w : World} {K : PySem.W.Frag} {mg : Str → Option Value} {base : Heap} {kd : Bool} {CM : Addr}
theorem ok_leave (T : Txt K mg) (M : MM.MemI P w K mg base (clOf T kd CM)) : FnOk P w K mg base CX0 3 T.p_leave.f T.p_leave.fd ["board", "tid", "condition", "reason"] (MM.spLeave (clOf T kd CM)) := by
  have hC := bdC T M
  refine T.p_leave.F.ok sc_leave (fun vs H Q E h => ?_) (fun cdv A outer s H vs Q E hr h => ?_)
  · obtain ⟨ad, S, k, tid, cd, c1, r, rfl, _⟩ := h
    rfl
  · obtain ⟨ad, S, k, tid, cd, c1, r, rfl, hc1, hcd, O, ht, q⟩ := h
    have B := O.B
    have W := O.W
    refine ⟨_, (pss_cons (ps_expr (pe_meth (pv 0) T.c_Board.cl T.p_Board_end_run.me (ok_Board_end_run T M) (hr.mono (by decide)) T.p_Board_end_run.b .nil pass0 (pa_cons (pv 1) (pa_cons (pv 2) pa_nil))))
(pss_one (ps_expr (pe_meth (pv 0) T.c_Board.cl T.p_Board_tell.me (ok_Board_tell T M) (hr.mono (by decide)) T.p_Board_tell.b .nil pass0 (pa_cons pe_str (pa_cons (pv 1) (pa_cons (pe_fld (pe_ix ix_list (pe_fld (pv 0) rfl) (pv 1) (fun _ _ => rfl)) rfl) (pa_cons (pe_tup (pa_cons (pv 3) pa_nil)) pa_nil)))))))), ?_⟩
    walk_at "mgo"
    refine ⟨ad, S, k, tid, cd, c1, rfl, hc1, O, ht, fun H1 B1 m1 => ?_⟩
    have ht1 : tid < (MM.endRun S tid cd).ths.length := by rw [MM.len_endRun]; exact ht
    have O1 := O.to B1 (W.endRun ht hcd) O.hk MM.Sm.endRun
    walk_at "mgo"
    refine ⟨Nat.le_of_ble_eq_true rfl, fun g hg => ?_⟩
    generalize h2 : upd _ g _ = H2
    obtain ⟨s2, x2⟩ := MM.new2 h2 hg
    refine ⟨ad, _, _, "off", tid, _, [r], g, rfl, x2, O1.same s2, ht1, fun H3 B3 m3 => ?_⟩
    exact q H3 B3 (MM.Mvd.after MM.Sm.endRun m1 (MM.mv_pre s2 m3))
theorem ok_go_last (T : Txt K mg) (M : MM.MemI P w K mg base (clOf T kd CM)) : FnOk P w K mg base CX0 4 T.p_go_last.f T.p_go_last.fd ["board", "tid", "reason"] (MM.spGoLast (clOf T kd CM)) := by
  have hC := bdC T M
  refine T.p_go_last.F.ok sc_go_last (fun vs H Q E h => ?_) (fun cdv A outer s H vs Q E hr h => ?_)
  · obtain ⟨ad, S, k, tid, r, rfl, _⟩ := h
    rfl
  · obtain ⟨ad, S, k, tid, r, rfl, O, hk8, ht, q⟩ := h
    have B := O.B
    have W := O.W
    refine ⟨_, (pss_cons (ps_expr (pe_call (ok_leave T M) (hr.mono (by decide)) (by rfl) T.p_leave.g T.p_leave.F.kp T.p_leave.b .nil pass0 (pa_cons (pv 0) (pa_cons (pv 1) (pa_cons (pe_tup (pa_cons pe_str pa_nil)) (pa_cons (pv 2) pa_nil))))))
(pss_one (ps_expr (pe_bm PySem.F.plainAttrs_list PySem.F.slot_list_append PySem.F.type_list_append mt_append (pe_fld (pv 0) rfl) (pa_cons (pv 1) pa_nil))))), ?_⟩
    walk_at "mgo"
    refine ⟨Nat.le_of_ble_eq_true rfl, fun c1 hc1 => ?_⟩
    generalize h2 : upd _ c1 _ = H2
    obtain ⟨s2, x2⟩ := MM.new2 h2 hc1
    walk_at "mgo"
    refine ⟨ad, S, k, tid, .ready, c1, r, rfl, x2, trivial, O.same s2, ht, fun H3 B3 m3 => ?_⟩
    obtain ⟨l1, s1, W1⟩ := MM.leave_ok (r := r) W ht (cd := .ready) trivial
    walk_at "mgo"
    refine MM.q_appRdy B3 (by have := W1.rdl; omega) fun H4 B4 m4 => ?_
    walk_at "mgo"
    exact q H4 B4 (MM.mv_pre s2 (MM.Mvd.after s1 m3 m4))
theorem ok_begin_thread (T : Txt K mg) (M : MM.MemI P w K mg base (clOf T kd CM)) : FnOk P w K mg base CX0 4 T.p_begin_thread.f T.p_begin_thread.fd ["board", "thread"] (MM.spBeginThread (clOf T kd CM)) := by
  have hC := bdC T M
  refine T.p_begin_thread.F.ok sc_begin_thread (fun vs H Q E h => ?_) (fun cdv A outer s H vs Q E hr h => ?_)
  · obtain ⟨ad, S, k, t, rfl, _⟩ := h
    rfl
  · obtain ⟨ad, S, k, t, rfl, O, ht, q1, q2⟩ := h
    have B := O.B
    have W := O.W
    refine ⟨_, (pss_cons (ps_if (pt_cmpR op_ge (pe_callB R.cLenS (by rfl) T.m_len (by decide +kernel) (pa_cons (pe_fld (pv 0) rfl) pa_nil)) (pe_glob (by rfl) T.c_MOST_THREADS T.r_MOST_THREADS) (nomark _))
 (pss_one (ps_ret (pe_glob (by rfl) T.c_NO_RESULT T.r_NO_RESULT)))
 pss_nil)
(pss_one (ps_ret (pe_meth (pv 0) T.c_Board.cl T.p_Board_add_thread.me (ok_Board_add_thread T M) (hr.mono (by decide)) T.p_Board_add_thread.b .nil pass0 (pa_cons (pe_fld (pv 1) rfl) (pa_cons (pe_op op_mod (pe_ix ix_list (pe_fld (pv 1) rfl) pe_int (fun _ _ => rfl)) (pe_glob (by rfl) T.c_ADDRESSES T.r_ADDRESSES)) (pa_cons (pe_ix ix_list (pe_fld (pv 1) rfl) pe_int (fun _ _ => rfl)) pa_nil))))))), ?_⟩
    walk_at "mgo"
    refine R.r_ite (fun e => ?_) (fun e => ?_)
    · walk_at "mgo"
      exact q1 (by omega)
    · walk_at "mgo"
      refine ⟨ad, S, k, (S.th t).pid, _, _, rfl, O, fun ad' H1 B1 m1 => ?_⟩
      exact q2 (by omega) ad' H1 B1 m1
theorem ok_end_thread (T : Txt K mg) (M : MM.MemI P w K mg base (clOf T kd CM)) : FnOk P w K mg base CX0 4 T.p_end_thread.f T.p_end_thread.fd ["board", "tid", "at", "code"] (MM.spEndThread (clOf T kd CM)) := by
  have hC := bdC T M
  refine T.p_end_thread.F.ok sc_end_thread (fun vs H Q E h => ?_) (fun cdv A outer s H vs Q E hr h => ?_)
  · obtain ⟨ad, S, k, tid, at', code, rfl, _⟩ := h
    rfl
  · obtain ⟨ad, S, k, tid, at', code, rfl, hcode, O, hk7, ht, q⟩ := h
    have B := O.B
    have W := O.W
    refine ⟨_, (pss_cons (ps_expr (pe_meth (pv 0) T.c_Board.cl T.p_Board_tell.me (ok_Board_tell T M) (hr.mono (by decide)) T.p_Board_tell.b .nil pass0 (pa_cons pe_str (pa_cons (pv 1) (pa_cons (pv 2) (pa_cons (pe_tup (pa_cons (pv 3) pa_nil)) pa_nil))))))
(pss_cons (ps_expr (pe_meth (pv 0) T.c_Board.cl T.p_Board_end_run.me (ok_Board_end_run T M) (hr.mono (by decide)) T.p_Board_end_run.b .nil pass0 (pa_cons (pv 1) (pa_cons (pe_tup (pa_cons pe_str (pa_cons (pv 3) pa_nil))) pa_nil))))
(pss_one (ps_for PassesOwn.never rfl (pi_enum (by rfl) T.m_enumerate (pa_cons (pe_fld (pv 0) rfl) pa_nil)) (pg_tup rfl (pgs_cons (pg_name (i := 4) sc_end_thread.nd rfl (.inl rfl)) (pgs_cons (pg_name (i := 5) sc_end_thread.nd rfl (.inl rfl)) pgs_nil)))
 (pss_one (ps_if (pt_cmpR (op_eqD hr.units) (pe_fld (pv 5) rfl) (pe_tup (pa_cons pe_str (pa_cons (pv 1) pa_nil))) (nomark _))
 (pss_one (ps_expr (pe_call (ok_return_call T M) (hr.mono (by decide)) (by rfl) T.p_return_call.g T.p_return_call.F.kp T.p_return_call.b .nil pass0 (pa_cons (pv 0) (pa_cons (pv 4) (pa_cons (pv 3) pa_nil))))))
 pss_nil)))))), ?_⟩
    walk_at "mgo"
    refine ⟨Nat.le_of_ble_eq_true rfl, fun g hg => ?_⟩
    generalize h1 : upd _ g _ = H1
    obtain ⟨s1, x1⟩ := MM.new2 h1 hg
    refine ⟨ad, S, k, "end", tid, at', [code], g, rfl, x1, O.same s1, ht, fun H2 B2 m2 => ?_⟩
    have O2 := O.tell B2 (by omega)
    walk_at "mgo"
    refine ⟨Nat.le_of_ble_eq_true rfl, fun c1 hc1 => ?_⟩
    generalize h3 : upd _ c1 _ = H3
    obtain ⟨s3, x3⟩ := MM.new2 h3 hc1
    refine ⟨ad, _, _, tid, .ended code, c1, rfl, x3, O2.same s3, ht, fun H4 B4 m4 => ?_⟩
    have m5 : MM.Mv1 (clOf T kd CM) S ad H H4 := MM.mv_pre s1 (MM.Mvd.after MM.Sm.tell m2 (MM.mv_pre s3 m4))
    have W4 := O2.W.endRun (t := tid) (cd := .ended code) ht hcode
    have sm4 : MM.Sm S (MM.endRun (MM.tell S "end" tid at' [code]) tid (.ended code)) := MM.Sm.tell.trans MM.Sm.endRun
    have l4 : (MM.endRun (MM.tell S "end" tid at' [code]) tid (.ended code)).ths.length = S.ths.length := MM.len_endRun
    have pl4 := O.pl.sm sm4
    have eT : MM.endThread S tid at' code = MM.turns (MM.wakeOne tid code) (MM.endRun (MM.tell S "end" tid at' [code]) tid (.ended code)) S.ths.length := rfl
    rw [eT] at q
    generalize MM.endRun (MM.tell S "end" tid at' [code]) tid (.ended code) = S4 at B4 W4 sm4 l4 pl4 q
    have tk := MM.turns_ok (f := MM.wakeOne tid code) (fun _ _ => MM.len_wakeOne) (fun _ _ => MM.Sm.wakeOne) (fun _ _ _ w h => w.wakeOne h hcode) W4
    have hn := W.nt
    walk_at "mgo"
    refine MM.r_enum ?_
    walk_at "mgo"
    refine ⟨_, _, rfl, R.sqL B4.thsAt, MM.for_ths (ad := ad) (bk := fun _ _ => False) (ct := fun _ _ => False) S.ths.length _ (fun i σ H' => ∃ y4 y5, σ = [some (.ref (ad .brd)), some (.int (tid : Int)), some (.int at'), some (.int code), y4, y5] ∧ MM.Bd (clOf T kd CM) ad (MM.turns (MM.wakeOne tid code) S4 i) H' ∧ MM.Mv1 (clOf T kd CM) S ad H H') ?_ ?_ ?_ ?_ ?_⟩
    · exact ⟨_, _, rfl, B4, m5⟩
    · rintro i σ H' hi ⟨y4, y5, rfl, B', m'⟩
      have := B'.thsAt
      rwa [(tk i (by omega)).1, l4] at this
    · rintro i σ H' H'' ⟨y4, y5, rfl, B', m'⟩ sm
      exact ⟨y4, y5, rfl, B'.same sm, MM.mv_end m' sm⟩
    · rintro i σ H' hi ⟨y4, y5, rfl, B', m'⟩
      obtain ⟨li, si, wi⟩ := tk i (by omega)
      have hi' : i < (MM.turns (MM.wakeOne tid code) S4 i).ths.length := by omega
      rw [MM.turns_succ]
      walk_at "mgo"
      refine MM.q_cond hC B' hi' fun c0 e0 => ?_
      walk_at "mgo"
      refine ⟨Nat.le_of_ble_eq_true rfl, fun g2 hg2 => ?_⟩
      generalize h6 : upd _ g2 _ = H6
      obtain ⟨s6, x6⟩ := MM.new2 h6 hg2
      refine D.r_eqD (MM.dp_cond (s6 _ _ e0)) (.tup (R.sqT x6) (.cons (.str _) (.cons (.int _) .nil))) (MM.sh_cond _) (.tup (k := 0) (.cons (.str (by decide +kernel)) (.cons (.int _) .nil))) (by decide) (by decide) MM.cond_wait ?_
      walk_at "mgo"
      have B6 := B'.same s6
      have m6 := MM.mv_end m' s6
      generalize MM.turns (MM.wakeOne tid code) S4 i = Si at *
      refine R.r_ite (fun e => ?_) (fun e => ?_)
      · walk_at "mgo"
        refine ⟨ad, Si, _, i, code, rfl, hcode, ⟨B6, wi, by omega, pl4.sm si⟩, by omega, hi', fun H7 B7 m7 => ?_⟩
        walk_at "mgo"
        refine ⟨_, _, rfl, ?_, MM.Mvd.after (sm4.trans si) m6 m7⟩
        unfold MM.wakeOne
        rw [if_pos e]
        exact B7
      · walk_at "mgo"
        refine ⟨_, _, rfl, ?_, m6⟩
        unfold MM.wakeOne
        rw [if_neg e]
        exact B6
    · rintro σ H' ⟨y4, y5, rfl, B', m'⟩
      exact q H' B' m'
end
end K60
end
section
local macro_rules | `(tactic| walk_at "s1") => `(tactic| first
  | ((with_reducible apply R.r_var); · rfl)
  | with_reducible apply R.r_c
  | with_reducible apply R.r_op
  | with_reducible apply R.r_I0
  | with_reducible apply R.r_cb
  | with_reducible apply R.r_cons
  | with_reducible apply R.r_nil
  | with_reducible apply R.r_seq
  | with_reducible apply R.r_asg
  | with_reducible apply R.r_ret
  | with_reducible apply R.r_ifS
  | with_reducible apply R.r_test
  | with_reducible apply R.r_t
  | with_reducible apply R.r_f
  | with_reducible apply R.r_nt
  | with_reducible apply R.r_nf
  | with_reducible apply R.r_bl
  | with_reducible apply R.r_U
  | with_reducible apply R.r_un
  | with_reducible apply R.r_eqI
  | with_reducible apply R.r_eqS
  | with_reducible apply R.r_neI
  | with_reducible apply R.r_neS
  | with_reducible apply R.r_and
  | with_reducible apply R.r_or
  | with_reducible apply R.r_not
  | with_reducible apply R.r_andV
  | with_reducible apply R.r_orV
  | with_reducible apply R.r_notV
  | with_reducible apply R.r_blV
  | with_reducible apply R.r_B
  | with_reducible apply R.r_ifE
  | with_reducible apply R.r_tup
  | with_reducible apply R.r_lst
  | with_reducible apply R.r_call
  | with_reducible apply R.r_drop
  | with_reducible apply R.r_next
  | with_reducible apply R.r_abs
  | with_reducible apply R.r_int1
  | with_reducible apply R.r_int1b
  | with_reducible apply R.r_min2
  | with_reducible apply R.r_bm
  | with_reducible apply R.r_bm0
  | with_reducible apply R.r_dget
  | with_reducible apply R.r_dput
  | with_reducible apply R.r_disp
  | with_reducible apply R.r_pnil
  | with_reducible apply R.r_pcons
  | with_reducible apply R.r_fld
  | with_reducible apply R.r_slice
  | with_reducible apply R.r_nopart
  | with_reducible apply R.r_part
  | with_reducible apply R.r_int
  | with_reducible apply R.r_yes
  | with_reducible apply R.r_retN
  | with_reducible apply R.r_asgG
  | with_reducible apply R.r_gname
  | with_reducible apply R.r_rng1
  | with_reducible apply R.r_brk
  | with_reducible apply R.r_cnt
  | with_reducible apply R.r_m1
  | with_reducible apply R.r_lcr
  | with_reducible apply R.r_p2_63
  | with_reducible apply R.r_p2_64
  | with_reducible apply R.r_p2_32
  | with_reducible apply R.r_p2_31
  | with_reducible apply R.r_p10_18
  | with_reducible apply R.r_p10_30
  | with_reducible refine R.r_mod (by omega) ?_
  | with_reducible refine R.r_div (by omega) ?_
  | with_reducible refine R.r_mulR (by omega) ?_
  | with_reducible refine R.r_mulL (by omega) ?_
  | with_reducible refine R.r_iteY (by decide +kernel) ?_
  | with_reducible refine R.r_iteF (by decide +kernel) ?_
  | with_reducible refine R.r_isi R.isi_int ?_
  | with_reducible refine R.r_isi R.isi_intB ?_)
local macro_rules | `(tactic| walk_at "go") => `(tactic| repeat (walk_at "s1"))

set_option hygiene false
local macro_rules | `(tactic| walk_at "m1") => `(tactic| first
  | walk_at "s1"
  | with_reducible apply MM.r_meth
  | with_reducible apply MM.r_make
  | with_reducible apply MM.r_sfld
  | with_reducible apply MM.r_gsub
  | with_reducible apply MM.r_augS
  | with_reducible apply MM.r_ip
  | ((with_reducible refine MM.q_threads ?_ ‹MM.Bd _ _ _ _› ?_); exact hC)
  | ((with_reducible refine MM.q_memories ?_ ‹MM.Bd _ _ _ _› ?_); exact hC)
  | ((with_reducible refine MM.q_ready ?_ ‹MM.Bd _ _ _ _› ?_); exact hC)
  | ((with_reducible refine MM.q_times ?_ ‹MM.Bd _ _ _ _› ?_); exact hC)
  | ((with_reducible refine MM.q_running ?_ ‹MM.Bd _ _ _ _› ?_); exact hC)
  | ((with_reducible refine MM.q_dev ?_ ‹MM.Bd _ _ _ _› ?_); exact hC)
  | ((with_reducible refine MM.q_requests ?_ ‹MM.Bd _ _ _ _› ?_); exact hC)
  | ((with_reducible refine MM.q_cpu ?_ ‹MM.Bd _ _ _ _› ?_); exact hC)
  | ((with_reducible refine MM.q_views ?_ ‹MM.Bd _ _ _ _› ?_); exact hC)
  | ((with_reducible refine MM.q_pid ?_ ‹MM.Bd _ _ _ _› (by first | assumption | omega) ?_); exact hC)
  | ((with_reducible refine MM.q_pc ?_ ‹MM.Bd _ _ _ _› (by first | assumption | omega) ?_); exact hC)
  | ((with_reducible refine MM.q_regs ?_ ‹MM.Bd _ _ _ _› (by first | assumption | omega) ?_); exact hC)
  | ((with_reducible refine MM.q_call ?_ ‹MM.Bd _ _ _ _› (by first | assumption | omega) ?_); exact hC)
  | ((with_reducible refine MM.q_callAt ?_ ‹MM.Bd _ _ _ _› (by first | assumption | omega) ?_); exact hC)
  | with_reducible refine MM.q_ixThs ‹MM.Bd _ _ _ _› (by first | assumption | omega) ?_
  | with_reducible refine MM.q_ixMem ‹MM.Bd _ _ _ _› (by first | assumption | omega) ?_
  | with_reducible refine MM.q_ixTim ‹MM.Bd _ _ _ _› (by first | assumption | omega) ?_
  | with_reducible refine MM.q_ixRun ‹MM.Bd _ _ _ _› (by first | assumption | omega) ?_
  | with_reducible refine MM.q_ixRgs ‹MM.Bd _ _ _ _› ‹MM.WF _ _› (by first | assumption | omega) (by omega) (by omega) ?_
  | with_reducible refine MM.q_lenThs ‹MM.Bd _ _ _ _› ?_
  | ((with_reducible refine MM.q_mBrd ‹MM.Bd _ _ _ _› ?_ ?_); (intro _ _ _ _; rfl))
  | ((with_reducible refine MM.q_mMem ‹MM.Bd _ _ _ _› (by first | assumption | omega) ?_ ?_); (intro _ _ kd'; cases kd' <;> rfl))
  | with_reducible refine ⟨MM.ty_vws ‹MM.Bd _ _ _ _›, ?_⟩
  | with_reducible refine ⟨MM.ty_rdy ‹MM.Bd _ _ _ _›, ?_⟩
  | with_reducible refine ⟨MM.ty_ths ‹MM.Bd _ _ _ _›, ?_⟩
  | with_reducible refine ⟨MM.ty_req ‹MM.Bd _ _ _ _›, ?_⟩)
local macro_rules | `(tactic| walk_at "mgo") => `(tactic| repeat (walk_at "m1"))
set_option hygiene true

namespace K60
open PySem PySem.Spec PyProof.Rows L2
section
variable {P : Program} {w : World} {K : PySem.W.Frag} {mg : Str → Option Value} {base : Heap} {kd : Bool} {CM : Addr}
theorem ok_wait_for (T : Txt K mg) (M : MM.MemI P w K mg base (clOf T kd CM)) : FnOk P w K mg base CX0 4 T.p_wait_for.f T.p_wait_for.fd ["board", "tid", "wanted"] (MM.spWaitFor (clOf T kd CM)) := by
  have hC := bdC T M
  refine T.p_wait_for.F.ok sc_wait_for (fun vs H Q E h => ?_) (fun cdv A outer s H vs Q E hr h => ?_)
  · obtain ⟨ad, S, k, tid, x, rfl, _⟩ := h
    rfl
  · obtain ⟨ad, S, k, tid, x, rfl, hx, O, hk7, ht, q⟩ := h
    have B := O.B
    have W := O.W
    unfold MM.waitFor at q
    refine ⟨_, (pss_cons (ps_if ((pw_or (pt_cmpR op_ge (pv 2) (pe_callB R.cLenS (by rfl) T.m_len (by decide +kernel) (pa_cons (pe_fld (pv 0) rfl) pa_nil)) (nomark _)) (pw_or1 (pt_cmpR op_eq (pv 2) (pv 1) (nomark _))))).pt
 (pss_cons (ps_expr (pe_call (ok_return_call T M) (hr.mono (by decide)) (by rfl) T.p_return_call.g T.p_return_call.F.kp T.p_return_call.b .nil pass0 (pa_cons (pv 0) (pa_cons (pv 1) (pa_cons (pe_glob (by rfl) T.c_NO_RESULT T.r_NO_RESULT) pa_nil)))))
(pss_one ps_retN))
 pss_nil)
(pss_cons (ps_set (i := 3) sc_wait_for.nd rfl (.inl rfl) (pe_fld (pe_ix ix_list (pe_fld (pv 0) rfl) (pv 2) (fun _ _ => rfl)) rfl))
(pss_one (ps_if (pt_cmpR op_eq (pe_ix ix_tup (pv 3) pe_int (fun _ _ => rfl)) pe_str (nomark _))
 (pss_one (ps_expr (pe_call (ok_return_call T M) (hr.mono (by decide)) (by rfl) T.p_return_call.g T.p_return_call.F.kp T.p_return_call.b .nil pass0 (pa_cons (pv 0) (pa_cons (pv 1) (pa_cons (pe_ix ix_tup (pv 3) pe_int (fun _ _ => rfl)) pa_nil))))))
 (pss_one (ps_expr (pe_call (ok_leave T M) (hr.mono (by decide)) (by rfl) T.p_leave.g T.p_leave.F.kp T.p_leave.b .nil pass0 (pa_cons (pv 0) (pa_cons (pv 1) (pa_cons (pe_tup (pa_cons pe_str (pa_cons (pv 2) pa_nil))) (pa_cons (pe_glob (by rfl) T.c_WAITS T.r_WAITS) pa_nil))))))))))), ?_⟩
    walk_at "mgo"
    by_cases e : x ≥ (S.ths.length : Int) ∨ x = (tid : Int)
    · rw [if_pos e] at q
      have fin : MM.spReturnCall (clOf T kd CM) [.ref (ad .brd), .int (tid : Int), .int 65535] H (fun v H' => Q .non H') E0 := ⟨ad, S, k, tid, 65535, rfl, by decide, O, by omega, ht, q⟩
      refine R.r_ite (fun e1 => ?_) (fun e1 => ?_)
      · walk_at "mgo"
        exact fin
      · walk_at "mgo"
        refine R.r_iteY (e.resolve_left e1) ?_
        walk_at "mgo"
        exact fin
    · rw [if_neg e] at q
      refine R.r_iteF (fun z => e (.inl z)) ?_
      walk_at "mgo"
      refine R.r_iteF (fun z => e (.inr z)) ?_
      have hx1 : x.toNat < S.ths.length := by omega
      have hx2 : ((x.toNat : Nat) : Int) = x := Int.toNat_of_nonneg hx
      walk_at "mgo"
      refine MM.q_ixThsI B hx hx1 ?_
      walk_at "mgo"
      refine MM.q_cond hC B hx1 fun c0 e0 => ?_
      walk_at "mgo"
      refine R.r_ixT (R.sqT e0) (MM.cond_0 _) ?_
      walk_at "mgo"
      refine R.r_ite (fun e1 => ?_) (fun e1 => ?_)
      · obtain ⟨kk, ek⟩ := MM.cond_ended.mp e1
        have hpos := (W.tok hx1).cond
        rw [ek] at q e0 hpos
        walk_at "mgo"
        refine R.r_ixT (i := 1) (v := .int kk) (R.sqT e0) rfl ?_
        walk_at "mgo"
        exact ⟨ad, S, k, tid, kk, rfl, hpos, O, by omega, ht, q⟩
      · have ek : MM.condEnded (S.th x.toNat).cond = none := by
          cases z : (S.th x.toNat).cond with
          | ended kk => exact absurd (MM.cond_ended.mpr ⟨kk, z⟩) e1
          | _ => rfl
        rw [ek] at q
        walk_at "mgo"
        refine ⟨Nat.le_of_ble_eq_true rfl, fun c1 hc1 => ?_⟩
        generalize h2 : upd _ c1 _ = H2
        obtain ⟨s2, x2⟩ := MM.new2 h2 hc1
        walk_at "mgo"
        exact ⟨ad, S, k, tid, .waiting x, c1, 5, rfl, x2, trivial, O.same s2, ht, fun H3 B3 m3 => q H3 B3 (MM.mv_pre s2 m3)⟩
theorem ok_do_call (T : Txt K mg) (M : MM.MemI P w K mg base (clOf T kd CM)) : FnOk P w K mg base CX0 5 T.p_do_call.f T.p_do_call.fd ["board", "tid", "number", "at"] (MM.spDoCall (clOf T kd CM)) := by
  have hC := bdC T M
  refine T.p_do_call.F.ok sc_do_call (fun vs H Q E h => ?_) (fun cdv A outer s H vs Q E hr h => ?_)
  · obtain ⟨ad, S, k, tid, n, a, rfl, _⟩ := h
    rfl
  · obtain ⟨ad, S0, k, tid, n, a, rfl, O0, hk, ht0, q⟩ := h
    have B0 := O0.B
    have W0 := O0.W
    refine ⟨_, (pss_cons (ps_set (i := 4) sc_do_call.nd rfl (.inl rfl) (pe_ix ix_list (pe_fld (pv 0) rfl) (pv 1) (fun _ _ => rfl)))
(pss_cons (ps_fld (pv 4) (pv 2) rfl)
(pss_cons (ps_fld (pv 4) (pv 3) rfl)
(pss_cons (ps_expr (pe_meth (pv 0) T.c_Board.cl T.p_Board_tell.me (ok_Board_tell T M) (hr.mono (by decide)) T.p_Board_tell.b .nil pass0 (pa_cons pe_str (pa_cons (pv 1) (pa_cons (pv 3) (pa_cons (pe_tup (pa_cons (pv 2) (pa_cons (pe_ix ix_list (pe_fld (pv 4) rfl) pe_int (fun _ _ => rfl)) (pa_cons (pe_ix ix_list (pe_fld (pv 4) rfl) pe_int (fun _ _ => rfl)) pa_nil)))) pa_nil))))))
(pss_one (ps_if (pt_cmpR op_eq (pv 2) pe_int (nomark _))
 (pss_one (ps_expr (pe_call (ok_end_thread T M) (hr.mono (by decide)) (by rfl) T.p_end_thread.g T.p_end_thread.F.kp T.p_end_thread.b .nil pass0 (pa_cons (pv 0) (pa_cons (pv 1) (pa_cons (pv 3) (pa_cons (pe_ix ix_list (pe_fld (pv 4) rfl) pe_int (fun _ _ => rfl)) pa_nil)))))))
 (pss_one (ps_if (pt_cmpR op_eq (pv 2) pe_int (nomark _))
 (pss_cons (ps_expr (pe_call (ok_return_call T M) (hr.mono (by decide)) (by rfl) T.p_return_call.g T.p_return_call.F.kp T.p_return_call.b .nil pass0 (pa_cons (pv 0) (pa_cons (pv 1) (pa_cons pe_int pa_nil)))))
(pss_one (ps_expr (pe_call (ok_go_last T M) (hr.mono (by decide)) (by rfl) T.p_go_last.g T.p_go_last.F.kp T.p_go_last.b .nil pass0 (pa_cons (pv 0) (pa_cons (pv 1) (pa_cons (pe_glob (by rfl) T.c_GAVE_WAY T.r_GAVE_WAY) pa_nil)))))))
 (pss_one (ps_if (pt_cmpR op_eq (pv 2) pe_int (nomark _))
 (pss_one (ps_expr (pe_call (ok_leave T M) (hr.mono (by decide)) (by rfl) T.p_leave.g T.p_leave.F.kp T.p_leave.b .nil pass0 (pa_cons (pv 0) (pa_cons (pv 1) (pa_cons (pe_tup (pa_cons pe_str (pa_cons (pe_fld (pv 0) rfl) (pa_cons (pe_op op_add (pe_meth0 (pv 0) T.c_Board.cl T.p_Board_now.me (ok_Board_now T M) (hr.mono (by decide)) T.p_Board_now.b .nil pass0) (pe_ix ix_list (pe_fld (pv 4) rfl) pe_int (fun _ _ => rfl))) pa_nil)))) (pa_cons (pe_glob (by rfl) T.c_SLEEPS T.r_SLEEPS) pa_nil)))))))
 (pss_one (ps_if (pt_cmpR op_in_seq (pv 2) (pe_tup (pa_cons pe_int (pa_cons pe_int pa_nil))) rfl)
 (pss_cons (ps_expr (pe_bm PySem.F.plainAttrs_list PySem.F.slot_list_append PySem.F.type_list_append mt_append (pe_fld (pv 0) rfl) (pa_cons (pe_tup (pa_cons (pv 1) (pa_cons (pv 2) (pa_cons (pe_ix ix_list (pe_fld (pv 4) rfl) pe_int (fun _ _ => rfl)) pa_nil)))) pa_nil)))
(pss_one (ps_expr (pe_call (ok_leave T M) (hr.mono (by decide)) (by rfl) T.p_leave.g T.p_leave.F.kp T.p_leave.b .nil pass0 (pa_cons (pv 0) (pa_cons (pv 1) (pa_cons (pe_tup (pa_cons pe_str pa_nil)) (pa_cons (pe_glob (by rfl) T.c_ASKS T.r_ASKS) pa_nil))))))))
 (pss_one (ps_if (pt_cmpR op_eq (pv 2) pe_int (nomark _))
 (pss_one (ps_expr (pe_call (ok_return_call T M) (hr.mono (by decide)) (by rfl) T.p_return_call.g T.p_return_call.F.kp T.p_return_call.b .nil pass0 (pa_cons (pv 0) (pa_cons (pv 1) (pa_cons (pe_call (ok_begin_thread T M) (hr.mono (by decide)) (by rfl) T.p_begin_thread.g T.p_begin_thread.F.kp T.p_begin_thread.b .nil pass0 (pa_cons (pv 0) (pa_cons (pv 4) pa_nil))) pa_nil))))))
 (pss_one (ps_if (pt_cmpR op_eq (pv 2) pe_int (nomark _))
 (pss_one (ps_expr (pe_call (ok_wait_for T M) (hr.mono (by decide)) (by rfl) T.p_wait_for.g T.p_wait_for.F.kp T.p_wait_for.b .nil pass0 (pa_cons (pv 0) (pa_cons (pv 1) (pa_cons (pe_ix ix_list (pe_fld (pv 4) rfl) pe_int (fun _ _ => rfl)) pa_nil))))))
 (pss_one (ps_expr (pe_call (ok_return_call T M) (hr.mono (by decide)) (by rfl) T.p_return_call.g T.p_return_call.F.kp T.p_return_call.b .nil pass0 (pa_cons (pv 0) (pa_cons (pv 1) (pa_cons (pe_glob (by rfl) T.c_NO_RESULT T.r_NO_RESULT) pa_nil)))))))))))))))))))))), ?_⟩
    walk_at "mgo"
    refine MM.q_stCall hC B0 ht0 fun Ha Ba ma => ?_
    have hta : tid < (S0.up tid fun t => { t with call := n }).ths.length := by rw [MM.up_len]; exact ht0
    walk_at "mgo"
    refine MM.q_stCallAt hC Ba hta fun H1 B1 m1 => ?_
    have eS : (S0.up tid fun t => { t with call := n }).up tid (fun t => { t with callAt := a }) = S0.up tid fun t => { t with call := n, callAt := a } := by
      unfold MM.MS.up MM.MS.setTh
      have := MM.up_th (S := S0) (f := fun t => { t with call := n }) ht0
      unfold MM.MS.up MM.MS.setTh at this
      rw [this]
      show ({ S0 with ths := (S0.ths.set tid _).set tid _ } : MM.MS) = _
      rw [List.set_set]
    rw [eS] at B1
    have W1 : MM.WF (S0.up tid fun t => { t with call := n, callAt := a }) k := W0.up { W0.tok ht0 with }
    have m01 : MM.Mv1 (clOf T kd CM) S0 ad H H1 := MM.Mvd.after MM.Sm.up ma m1
    have sm1 : MM.Sm S0 (S0.up tid fun t => { t with call := n, callAt := a }) := MM.Sm.up
    have ht1 : tid < (S0.up tid fun t => { t with call := n, callAt := a }).ths.length := by rw [MM.up_len]; exact ht0
    have O1 := O0.to B1 W1 (by have := O0.hk; omega) sm1
    unfold MM.doCall at q
    generalize (S0.up tid fun t => { t with call := n, callAt := a }) = S1 at *
    walk_at "mgo"
    refine ⟨Nat.le_of_ble_eq_true rfl, fun g hg => ?_⟩
    generalize h2 : upd _ g _ = H2
    obtain ⟨s2, x2⟩ := MM.new2 h2 hg
    refine ⟨ad, S1, k, "entry", tid, a, [n, MM.reg S1 tid 0, MM.reg S1 tid 1], g, rfl, x2, O1.same s2, ht1, fun H3 B3 m3 => ?_⟩
    have O := O1.tell B3 (by omega)
    have m03 : MM.Mv1 (clOf T kd CM) S0 ad H H3 := MM.Mvd.after sm1 m01 (MM.mv_pre s2 m3)
    have sm := sm1.trans (MM.Sm.tell (S := S1) (kd := "entry") (t := tid) (a := a) (r := [n, MM.reg S1 tid 0, MM.reg S1 tid 1]))
    have ht : tid < (MM.tell S1 "entry" tid a [n, MM.reg S1 tid 0, MM.reg S1 tid 1]).ths.length := ht1
    dsimp only at q
    generalize MM.tell S1 "entry" tid a [n, MM.reg S1 tid 0, MM.reg S1 tid 1] = S at *
    have B := O.B
    have W := O.W
    have q1 : ∀ H', MM.Bd (clOf T kd CM) ad (if n = 0 then MM.endThread S tid a (MM.reg S tid 0) else
      if n = 1 then MM.goLast (MM.returnCall S tid 0) tid 2 else
      if n = 2 then MM.leave S tid (.sleeping S.cpu (S.now + MM.reg S tid 0)) 3 else
      if n = 3 ∨ n = 4 then MM.leave { S with reqs := S.reqs ++ [(tid, n, MM.reg S tid 0)] } tid .asking 4 else
      if n = 5 then (if 8 ≤ S.ths.length then MM.returnCall S tid 65535 else MM.returnCall (MM.addThread S (S.th tid).pid (MM.reg S tid 0 % 256) (MM.reg S tid 1)) tid S.ths.length) else
      if n = 6 then MM.waitFor S tid (MM.reg S tid 0) else MM.returnCall S tid 65535) H' → MM.Mv1 (clOf T kd CM) S ad H3 H' → Q .non H' := fun H' b m => q ad H' b (MM.Mvd.after sm m03 m)
    walk_at "mgo"
    refine R.r_ite (fun e => ?_) (fun e => ?_)
    · rw [if_pos e] at q1
      walk_at "mgo"
      exact ⟨ad, S, _, tid, a, _, rfl, MM.reg_pos W ht, O, by omega, ht, q1⟩
    rw [if_neg e] at q1
    walk_at "mgo"
    refine R.r_ite (fun e => ?_) (fun e => ?_)
    · rw [if_pos e] at q1
      walk_at "mgo"
      refine ⟨ad, S, _, tid, 0, rfl, by decide, O, by omega, ht, fun H4 B4 m4 => ?_⟩
      walk_at "mgo"
      have W4 := W.returnCall (r := 0) ht (by decide)
      refine ⟨ad, _, _, tid, 2, rfl, O.to B4 W4 (by omega) MM.Sm.returnCall, by omega, by rw [MM.len_returnCall]; exact ht, fun H5 B5 m5 => ?_⟩
      walk_at "mgo"
      exact q1 H5 B5 (MM.Mvd.after MM.Sm.returnCall m4 m5)
    rw [if_neg e] at q1
    walk_at "mgo"
    refine R.r_ite (fun e => ?_) (fun e => ?_)
    · rw [if_pos e] at q1
      walk_at "mgo"
      refine ⟨ad, S, _, rfl, O, ?_⟩
      walk_at "mgo"
      refine ⟨Nat.le_of_ble_eq_true rfl, fun c1 hc1 => ?_⟩
      generalize h4 : upd _ c1 _ = H4
      obtain ⟨s4, x4⟩ := MM.new2 h4 hc1
      walk_at "mgo"
      refine ⟨ad, S, _, tid, .sleeping S.cpu (S.now + MM.reg S tid 0), c1, 3, rfl, x4, trivial, O.same s4, ht, fun H5 B5 m5 => ?_⟩
      walk_at "mgo"
      exact q1 H5 B5 (MM.mv_pre s4 m5)
    rw [if_neg e] at q1
    walk_at "mgo"
    refine ⟨Nat.le_of_ble_eq_true rfl, fun t4 ht4 => ?_⟩
    generalize h4 : upd _ t4 _ = H4
    obtain ⟨s4, x4⟩ := MM.new2 h4 ht4
    have O4 := O.same s4
    have B4 := O4.B
    replace q1 := fun H' b m => q1 H' b (MM.mv_pre s4 m)
    replace q := fun ad' H' b m => q ad' H' b (MM.Mvd.after sm (MM.mv_end m03 s4) m)
    refine R.r_inT x4 rfl rfl MM.in2I ?_
    walk_at "mgo"
    refine R.r_ite (fun e => ?_) (fun e => ?_)
    · rw [if_pos e] at q1
      walk_at "mgo"
      refine ⟨Nat.le_of_ble_eq_true rfl, fun r5 hr5 => ?_⟩
      generalize h5 : upd _ r5 _ = H5
      obtain ⟨s5, x5⟩ := MM.new2 h5 hr5
      have B5 := B4.same s5
      walk_at "mgo"
      refine MM.q_appReq (q := (tid, n, MM.reg S tid 0)) B5 (by have := W.rql; omega) x5 fun H6 B6 m6 => ?_
      walk_at "mgo"
      refine ⟨Nat.le_of_ble_eq_true rfl, fun c1 hc1 => ?_⟩
      generalize h7 : upd _ c1 _ = H7
      obtain ⟨s7, x7⟩ := MM.new2 h7 hc1
      walk_at "mgo"
      have W6 : MM.WF { S with reqs := S.reqs ++ [(tid, n, MM.reg S tid 0)] } (k + 1 + 1) := { W.mono (Nat.le_succ _) with
        rq := fun q hq => by
          rcases List.mem_append.mp hq with z | z
          · exact W.rq q z
          · rw [List.mem_singleton.mp z]
            exact ⟨ht, MM.reg_pos W ht⟩
        rql := by show (S.reqs ++ [_]).length ≤ k + 1 + 1; rw [List.length_append]; exact Nat.succ_le_succ W.rql }
      have sm6 : MM.Sm S { S with reqs := S.reqs ++ [(tid, n, MM.reg S tid 0)] } := MM.sm_of rfl rfl rfl rfl
      refine ⟨ad, _, _, tid, .asking, c1, 4, rfl, x7, trivial, (O4.to B6 W6 (by omega) sm6).same s7, ht, fun H8 B8 m8 => ?_⟩
      walk_at "mgo"
      exact q1 H8 B8 (MM.mv_pre s5 (MM.Mvd.after sm6 m6 (MM.mv_pre s7 m8)))
    rw [if_neg e] at q1
    walk_at "mgo"
    refine R.r_ite (fun e5 => ?_) (fun e5 => ?_)
    · rw [if_neg ‹_›, if_neg ‹_›, if_neg ‹_›, if_neg ‹_›, if_pos e5] at q
      walk_at "mgo"
      refine ⟨ad, S, _, tid, rfl, O4, ht, fun e8 => ?_, fun e8 ad' H5 B5 m5 => ?_⟩
      · rw [if_pos e8] at q
        walk_at "mgo"
        exact ⟨ad, S, _, tid, 65535, rfl, by decide, O4, by omega, ht, fun H' b m => q ad H' b m⟩
      · rw [if_neg e8] at q
        obtain ⟨l5, s5, W5⟩ := MM.addThread_ok (p := (S.th tid).pid) (pc := MM.reg S tid 0 % 256) (f := MM.reg S tid 1) W (by omega) (W.tok ht).pid (MM.reg_pos W ht)
        have eb : ad' .brd = ad .brd := m5.ag .brd nofun trivial
        walk_at "mgo"
        refine ⟨ad', _, _, tid, _, by rw [eb]; rfl, by omega, O4.to B5 W5 (by omega) s5, by omega, by omega, fun H' b m => q ad' H' b (MM.Mvd.after s5 m5 m)⟩
    rw [if_neg e5] at q1
    walk_at "mgo"
    refine R.r_ite (fun e => ?_) (fun e => ?_)
    · rw [if_pos e] at q1
      walk_at "mgo"
      exact ⟨ad, S, _, tid, _, rfl, MM.reg_pos W ht, O4, by omega, ht, q1⟩
    · rw [if_neg e] at q1
      walk_at "mgo"
      exact ⟨ad, S, _, tid, 65535, rfl, by decide, O4, by omega, ht, q1⟩
end
end K60
end
section
local macro_rules | `(tactic| walk_at "s1") => `(tactic| first
  | ((with_reducible apply R.r_var); · rfl)
  | with_reducible apply R.r_c
  | with_reducible apply R.r_op
  | with_reducible apply R.r_I0
  | with_reducible apply R.r_cb
  | with_reducible apply R.r_cons
  | with_reducible apply R.r_nil
  | with_reducible apply R.r_seq
  | with_reducible apply R.r_asg
  | with_reducible apply R.r_ret
  | with_reducible apply R.r_ifS
  | with_reducible apply R.r_test
  | with_reducible apply R.r_t
  | with_reducible apply R.r_f
  | with_reducible apply R.r_nt
  | with_reducible apply R.r_nf
  | with_reducible apply R.r_bl
  | with_reducible apply R.r_U
  | with_reducible apply R.r_un
  | with_reducible apply R.r_eqI
  | with_reducible apply R.r_eqS
  | with_reducible apply R.r_neI
  | with_reducible apply R.r_neS
  | with_reducible apply R.r_and
  | with_reducible apply R.r_or
  | with_reducible apply R.r_not
  | with_reducible apply R.r_andV
  | with_reducible apply R.r_orV
  | with_reducible apply R.r_notV
  | with_reducible apply R.r_blV
  | with_reducible apply R.r_B
  | with_reducible apply R.r_ifE
  | with_reducible apply R.r_tup
  | with_reducible apply R.r_lst
  | with_reducible apply R.r_call
  | with_reducible apply R.r_drop
  | with_reducible apply R.r_next
  | with_reducible apply R.r_abs
  | with_reducible apply R.r_int1
  | with_reducible apply R.r_int1b
  | with_reducible apply R.r_min2
  | with_reducible apply R.r_bm
  | with_reducible apply R.r_bm0
  | with_reducible apply R.r_dget
  | with_reducible apply R.r_dput
  | with_reducible apply R.r_disp
  | with_reducible apply R.r_pnil
  | with_reducible apply R.r_pcons
  | with_reducible apply R.r_fld
  | with_reducible apply R.r_slice
  | with_reducible apply R.r_nopart
  | with_reducible apply R.r_part
  | with_reducible apply R.r_int
  | with_reducible apply R.r_yes
  | with_reducible apply R.r_retN
  | with_reducible apply R.r_asgG
  | with_reducible apply R.r_gname
  | with_reducible apply R.r_rng1
  | with_reducible apply R.r_brk
  | with_reducible apply R.r_cnt
  | with_reducible apply R.r_m1
  | with_reducible apply R.r_lcr
  | with_reducible apply R.r_p2_63
  | with_reducible apply R.r_p2_64
  | with_reducible apply R.r_p2_32
  | with_reducible apply R.r_p2_31
  | with_reducible apply R.r_p10_18
  | with_reducible apply R.r_p10_30
  | with_reducible refine R.r_mod (by omega) ?_
  | with_reducible refine R.r_div (by omega) ?_
  | with_reducible refine R.r_mulR (by omega) ?_
  | with_reducible refine R.r_mulL (by omega) ?_
  | with_reducible refine R.r_iteY (by decide +kernel) ?_
  | with_reducible refine R.r_iteF (by decide +kernel) ?_
  | with_reducible refine R.r_isi R.isi_int ?_
  | with_reducible refine R.r_isi R.isi_intB ?_)
local macro_rules | `(tactic| walk_at "go") => `(tactic| repeat (walk_at "s1"))

set_option hygiene false
local macro_rules | `(tactic| walk_at "m1") => `(tactic| first
  | walk_at "s1"
  | with_reducible apply MM.r_meth
  | with_reducible apply MM.r_make
  | with_reducible apply MM.r_sfld
  | with_reducible apply MM.r_gsub
  | with_reducible apply MM.r_augS
  | with_reducible apply MM.r_ip
  | ((with_reducible refine MM.q_threads ?_ ‹MM.Bd _ _ _ _› ?_); exact hC)
  | ((with_reducible refine MM.q_memories ?_ ‹MM.Bd _ _ _ _› ?_); exact hC)
  | ((with_reducible refine MM.q_ready ?_ ‹MM.Bd _ _ _ _› ?_); exact hC)
  | ((with_reducible refine MM.q_times ?_ ‹MM.Bd _ _ _ _› ?_); exact hC)
  | ((with_reducible refine MM.q_running ?_ ‹MM.Bd _ _ _ _› ?_); exact hC)
  | ((with_reducible refine MM.q_dev ?_ ‹MM.Bd _ _ _ _› ?_); exact hC)
  | ((with_reducible refine MM.q_requests ?_ ‹MM.Bd _ _ _ _› ?_); exact hC)
  | ((with_reducible refine MM.q_cpu ?_ ‹MM.Bd _ _ _ _› ?_); exact hC)
  | ((with_reducible refine MM.q_views ?_ ‹MM.Bd _ _ _ _› ?_); exact hC)
  | ((with_reducible refine MM.q_pid ?_ ‹MM.Bd _ _ _ _› (by first | assumption | omega) ?_); exact hC)
  | ((with_reducible refine MM.q_pc ?_ ‹MM.Bd _ _ _ _› (by first | assumption | omega) ?_); exact hC)
  | ((with_reducible refine MM.q_regs ?_ ‹MM.Bd _ _ _ _› (by first | assumption | omega) ?_); exact hC)
  | ((with_reducible refine MM.q_call ?_ ‹MM.Bd _ _ _ _› (by first | assumption | omega) ?_); exact hC)
  | ((with_reducible refine MM.q_callAt ?_ ‹MM.Bd _ _ _ _› (by first | assumption | omega) ?_); exact hC)
  | with_reducible refine MM.q_ixThs ‹MM.Bd _ _ _ _› (by first | assumption | omega) ?_
  | with_reducible refine MM.q_ixMem ‹MM.Bd _ _ _ _› (by first | assumption | omega) ?_
  | with_reducible refine MM.q_ixTim ‹MM.Bd _ _ _ _› (by first | assumption | omega) ?_
  | with_reducible refine MM.q_ixRun ‹MM.Bd _ _ _ _› (by first | assumption | omega) ?_
  | with_reducible refine MM.q_ixRgs ‹MM.Bd _ _ _ _› ‹MM.WF _ _› (by first | assumption | omega) (by omega) (by omega) ?_
  | with_reducible refine MM.q_lenThs ‹MM.Bd _ _ _ _› ?_
  | ((with_reducible refine MM.q_mBrd ‹MM.Bd _ _ _ _› ?_ ?_); (intro _ _ _ _; rfl))
  | ((with_reducible refine MM.q_mMem ‹MM.Bd _ _ _ _› (by first | assumption | omega) ?_ ?_); (intro _ _ kd'; cases kd' <;> rfl))
  | with_reducible refine ⟨MM.ty_vws ‹MM.Bd _ _ _ _›, ?_⟩
  | with_reducible refine ⟨MM.ty_rdy ‹MM.Bd _ _ _ _›, ?_⟩
  | with_reducible refine ⟨MM.ty_ths ‹MM.Bd _ _ _ _›, ?_⟩
  | with_reducible refine ⟨MM.ty_req ‹MM.Bd _ _ _ _›, ?_⟩)
local macro_rules | `(tactic| walk_at "mgo") => `(tactic| repeat (walk_at "m1"))
set_option hygiene true

namespace K60
open PySem PySem.Spec PyProof.Rows L2
section
variable {P : Program} {w : World} {K : PySem.W.Frag} {mg : Str → Option Value} {base : Heap} {kd : Bool} {CM : Addr}
theorem ok_next_pc (T : Txt K mg) (M : MM.MemI P w K mg base (clOf T kd CM)) : FnOk P w K mg base CX0 1 T.p_next_pc.f T.p_next_pc.fd ["regs", "code", "x", "y", "behind"] (MM.spNextPc (clOf T kd CM)) := by
  have hC := bdC T M
  refine T.p_next_pc.F.ok sc_next_pc (fun vs H Q E h => ?_) (fun cdv A outer s H vs Q E hr h => ?_)
  · obtain ⟨ad, S, k, tid, code, x, y, z, rfl, _⟩ := h
    rfl
  · obtain ⟨ad, S, k, tid, code, x, y, z, rfl, O, ht, q⟩ := h
    unfold MM.nextPc at q
    refine ⟨_, (pss_cons (ps_if (pt_cmpR op_in_seq (pv 1) (pe_tup (pa_cons (pe_glob (by rfl) T.c_GO T.r_GO) (pa_cons (pe_glob (by rfl) T.c_GO_AND_LINK T.r_GO_AND_LINK) pa_nil))) rfl)
 (pss_one (ps_ret (pv 2)))
 pss_nil)
(pss_cons (ps_if (pt_cmpR op_eq (pv 1) (pe_glob (by rfl) T.c_GO_BACK T.r_GO_BACK) (nomark _))
 (pss_one (ps_ret (pe_op op_mod (pe_ix ix_list (pv 0) pe_int (fun _ _ => rfl)) (pe_glob (by rfl) T.c_ADDRESSES T.r_ADDRESSES))))
 pss_nil)
(pss_cons (ps_if ((pw_or ((pw_and (pt_cmpR op_eq (pv 1) (pe_glob (by rfl) T.c_GO_IF_ZERO T.r_GO_IF_ZERO) (nomark _)) (pw_and1 (pt_cmpR op_eq (pe_ix ix_list (pv 0) (pe_op op_mod (pv 2) pe_int) (fun _ _ => rfl)) pe_int (nomark _))))).pt (pw_or1 ((pw_and (pt_cmpR op_eq (pv 1) (pe_glob (by rfl) T.c_GO_UNLESS_ZERO T.r_GO_UNLESS_ZERO) (nomark _)) (pw_and1 (pt_cmpR op_ne (pe_ix ix_list (pv 0) (pe_op op_mod (pv 2) pe_int) (fun _ _ => rfl)) pe_int (nomark _))))).pt))).pt
 (pss_one (ps_ret (pv 3)))
 pss_nil)
(pss_one (ps_ret (pv 4)))))), ?_⟩
    walk_at "mgo"
    refine ⟨Nat.le_of_ble_eq_true rfl, fun t hht => ?_⟩
    generalize h1 : upd _ t _ = H1
    obtain ⟨s1, x1⟩ := MM.new2 h1 hht
    have B := (O.same s1).B
    have W := O.W
    replace q := q H1 s1
    refine R.r_inT x1 rfl rfl MM.in2I ?_
    walk_at "mgo"
    refine R.r_ite (fun e => ?_) (fun e => ?_)
    · rw [if_pos e] at q
      walk_at "mgo"
      exact q
    rw [if_neg e] at q
    walk_at "mgo"
    refine R.r_ite (fun e => ?_) (fun e => ?_)
    · rw [if_pos e] at q
      walk_at "mgo"
      exact q
    rw [if_neg e] at q
    walk_at "mgo"
    have z1 : 0 ≤ x % 4 ∧ x % 4 < 4 := by omega
    refine R.r_ite (fun e1 => ?_) (fun e1 => ?_)
    · walk_at "mgo"
      refine R.r_ite (fun e2 => ?_) (fun e2 => ?_)
      · rw [if_pos (.inl ⟨e1, e2⟩)] at q
        walk_at "mgo"
        exact q
      · rw [if_neg (fun z => z.elim (fun z => e2 z.2) (fun z => by omega))] at q
        walk_at "mgo"
        refine R.r_iteF (by omega) ?_
        walk_at "mgo"
        exact q
    · walk_at "mgo"
      refine R.r_ite (fun e2 => ?_) (fun e2 => ?_)
      · walk_at "mgo"
        refine R.r_iteN (fun e3 => ?_) (fun e3 => ?_)
        · rw [if_pos (.inr ⟨e2, e3⟩)] at q
          walk_at "mgo"
          exact q
        · rw [if_neg (fun z => z.elim (fun z => e1 z.1) (fun z => z.2 e3))] at q
          walk_at "mgo"
          exact q
      · rw [if_neg (fun z => z.elim (fun z => e1 z.1) (fun z => e2 z.1))] at q
        walk_at "mgo"
        exact q
theorem ok_move (T : Txt K mg) (M : MM.MemI P w K mg base (clOf T kd CM)) : FnOk P w K mg base CX0 2 T.p_move.f T.p_move.fd ["regs", "memory", "code", "x", "y"] (MM.spMove (clOf T kd CM)) := by
  have hC := bdC T M
  refine T.p_move.F.ok sc_move (fun vs H Q E h => ?_) (fun cdv A outer s H vs Q E hr h => ?_)
  · obtain ⟨ad, S, k, tid, code, x, y, rfl, _⟩ := h
    rfl
  · obtain ⟨ad, S, k, tid, code, x, y, rfl, O, ht, q⟩ := h
    have B := O.B
    have W := O.W
    have hp := (W.tok ht).pid
    unfold MM.move at q
    dsimp only at q
    have z1 : 0 ≤ x % 4 ∧ x % 4 < 4 := by omega
    have z2 : 0 ≤ x / 4 % 4 ∧ x / 4 % 4 < 4 := by omega
    refine ⟨_, (pss_cons (ps_set (i := 5) sc_move.nd rfl (.inl rfl) (pe_op op_mod (pe_op op_fdiv (pv 3) pe_int) pe_int))
(pss_cons (ps_set (i := 6) sc_move.nd rfl (.inl rfl) (pe_op op_mod (pv 3) pe_int))
(pss_one (ps_if (pt_cmpR op_eq (pv 2) (pe_glob (by rfl) T.c_CONSTANT T.r_CONSTANT) (nomark _))
 (pss_one (ps_asg (pv 4) (pg_sub (pv 0) (pv 6) set_list)))
 (pss_one (ps_if (pt_cmpR op_eq (pv 2) (pe_glob (by rfl) T.c_ADD T.r_ADD) (nomark _))
 (pss_one (ps_asg (pe_op op_mod (pe_op op_add (pe_ix ix_list (pv 0) (pv 5) (fun _ _ => rfl)) (pe_ix ix_list (pv 0) (pv 6) (fun _ _ => rfl))) (pe_glob (by rfl) T.c_NUMBERS T.r_NUMBERS)) (pg_sub (pv 0) (pv 5) set_list)))
 (pss_one (ps_if (pt_cmpR op_eq (pv 2) (pe_glob (by rfl) T.c_SUBTRACT T.r_SUBTRACT) (nomark _))
 (pss_one (ps_asg (pe_op op_mod (pe_op op_sub (pe_ix ix_list (pv 0) (pv 5) (fun _ _ => rfl)) (pe_ix ix_list (pv 0) (pv 6) (fun _ _ => rfl))) (pe_glob (by rfl) T.c_NUMBERS T.r_NUMBERS)) (pg_sub (pv 0) (pv 5) set_list)))
 (pss_one (ps_if (pt_cmpR op_eq (pv 2) (pe_glob (by rfl) T.c_COPY T.r_COPY) (nomark _))
 (pss_one (ps_asg (pe_ix ix_list (pv 0) (pv 6) (fun _ _ => rfl)) (pg_sub (pv 0) (pv 5) set_list)))
 (pss_one (ps_if (pt_cmpR op_eq (pv 2) (pe_glob (by rfl) T.c_LOAD T.r_LOAD) (nomark _))
 (pss_one (ps_asg (pe_meth (pv 1) M.cc M.m_load M.ok_load (hr.mono (by decide)) M.b_load .nil pass0 (pa_cons (pe_ix ix_list (pv 0) (pv 6) (fun _ _ => rfl)) pa_nil)) (pg_sub (pv 0) (pv 5) set_list)))
 (pss_one (ps_if (pt_cmpR op_eq (pv 2) (pe_glob (by rfl) T.c_STORE T.r_STORE) (nomark _))
 (pss_one (ps_expr (pe_meth (pv 1) M.cc M.m_store M.ok_store (hr.mono (by decide)) M.b_store .nil pass0 (pa_cons (pe_ix ix_list (pv 0) (pv 6) (fun _ _ => rfl)) (pa_cons (pe_op op_mod (pe_ix ix_list (pv 0) (pv 5) (fun _ _ => rfl)) pe_int) pa_nil)))))
 pss_nil)))))))))))))), ?_⟩
    walk_at "mgo"
    generalize hb : x % 4 = b at *
    generalize ha : x / 4 % 4 = a at *
    refine R.r_ite (fun e => ?_) (fun e => ?_)
    · rw [if_pos e] at q
      walk_at "mgo"
      exact MM.q_setRgs B W ht z1.1 z1.2 q
    rw [if_neg e] at q
    walk_at "mgo"
    refine R.r_ite (fun e => ?_) (fun e => ?_)
    · rw [if_pos e] at q
      walk_at "mgo"
      exact MM.q_setRgs B W ht z2.1 z2.2 q
    rw [if_neg e] at q
    walk_at "mgo"
    refine R.r_ite (fun e => ?_) (fun e => ?_)
    · rw [if_pos e] at q
      walk_at "mgo"
      exact MM.q_setRgs B W ht z2.1 z2.2 q
    rw [if_neg e] at q
    walk_at "mgo"
    refine R.r_ite (fun e => ?_) (fun e => ?_)
    · rw [if_pos e] at q
      walk_at "mgo"
      exact MM.q_setRgs B W ht z2.1 z2.2 q
    rw [if_neg e] at q
    walk_at "mgo"
    refine R.r_ite (fun e => ?_) (fun e => ?_)
    · rw [if_pos e] at q
      walk_at "mgo"
      refine ⟨ad, S, k, _, _, rfl, O, hp, ?_⟩
      walk_at "mgo"
      exact MM.q_setRgs B W ht z2.1 z2.2 q
    rw [if_neg e] at q
    walk_at "mgo"
    refine R.r_ite (fun e => ?_) (fun e => ?_)
    · rw [if_pos e] at q
      walk_at "mgo"
      refine ⟨ad, S, k, _, _, _, rfl, O, hp, fun H1 B1 m1 => ?_⟩
      walk_at "mgo"
      exact q H1 B1 m1
    · rw [if_neg e] at q
      walk_at "mgo"
      exact q H B (MM.Mvd.of (Same.refl H))
end
end K60
end
section
local macro_rules | `(tactic| walk_at "s1") => `(tactic| first
  | ((with_reducible apply R.r_var); · rfl)
  | with_reducible apply R.r_c
  | with_reducible apply R.r_op
  | with_reducible apply R.r_I0
  | with_reducible apply R.r_cb
  | with_reducible apply R.r_cons
  | with_reducible apply R.r_nil
  | with_reducible apply R.r_seq
  | with_reducible apply R.r_asg
  | with_reducible apply R.r_ret
  | with_reducible apply R.r_ifS
  | with_reducible apply R.r_test
  | with_reducible apply R.r_t
  | with_reducible apply R.r_f
  | with_reducible apply R.r_nt
  | with_reducible apply R.r_nf
  | with_reducible apply R.r_bl
  | with_reducible apply R.r_U
  | with_reducible apply R.r_un
  | with_reducible apply R.r_eqI
  | with_reducible apply R.r_eqS
  | with_reducible apply R.r_neI
  | with_reducible apply R.r_neS
  | with_reducible apply R.r_and
  | with_reducible apply R.r_or
  | with_reducible apply R.r_not
  | with_reducible apply R.r_andV
  | with_reducible apply R.r_orV
  | with_reducible apply R.r_notV
  | with_reducible apply R.r_blV
  | with_reducible apply R.r_B
  | with_reducible apply R.r_ifE
  | with_reducible apply R.r_tup
  | with_reducible apply R.r_lst
  | with_reducible apply R.r_call
  | with_reducible apply R.r_drop
  | with_reducible apply R.r_next
  | with_reducible apply R.r_abs
  | with_reducible apply R.r_int1
  | with_reducible apply R.r_int1b
  | with_reducible apply R.r_min2
  | with_reducible apply R.r_bm
  | with_reducible apply R.r_bm0
  | with_reducible apply R.r_dget
  | with_reducible apply R.r_dput
  | with_reducible apply R.r_disp
  | with_reducible apply R.r_pnil
  | with_reducible apply R.r_pcons
  | with_reducible apply R.r_fld
  | with_reducible apply R.r_slice
  | with_reducible apply R.r_nopart
  | with_reducible apply R.r_part
  | with_reducible apply R.r_int
  | with_reducible apply R.r_yes
  | with_reducible apply R.r_retN
  | with_reducible apply R.r_asgG
  | with_reducible apply R.r_gname
  | with_reducible apply R.r_rng1
  | with_reducible apply R.r_brk
  | with_reducible apply R.r_cnt
  | with_reducible apply R.r_m1
  | with_reducible apply R.r_lcr
  | with_reducible apply R.r_p2_63
  | with_reducible apply R.r_p2_64
  | with_reducible apply R.r_p2_32
  | with_reducible apply R.r_p2_31
  | with_reducible apply R.r_p10_18
  | with_reducible apply R.r_p10_30
  | with_reducible refine R.r_mod (by omega) ?_
  | with_reducible refine R.r_div (by omega) ?_
  | with_reducible refine R.r_mulR (by omega) ?_
  | with_reducible refine R.r_mulL (by omega) ?_
  | with_reducible refine R.r_iteY (by decide +kernel) ?_
  | with_reducible refine R.r_iteF (by decide +kernel) ?_
  | with_reducible refine R.r_isi R.isi_int ?_
  | with_reducible refine R.r_isi R.isi_intB ?_)
local macro_rules | `(tactic| walk_at "go") => `(tactic| repeat (walk_at "s1"))

set_option hygiene false
local macro_rules | `(tactic| walk_at "m1") => `(tactic| first
  | walk_at "s1"
  | with_reducible apply MM.r_meth
  | with_reducible apply MM.r_make
  | with_reducible apply MM.r_sfld
  | with_reducible apply MM.r_gsub
  | with_reducible apply MM.r_augS
  | with_reducible apply MM.r_ip
  | ((with_reducible refine MM.q_threads ?_ ‹MM.Bd _ _ _ _› ?_); exact hC)
  | ((with_reducible refine MM.q_memories ?_ ‹MM.Bd _ _ _ _› ?_); exact hC)
  | ((with_reducible refine MM.q_ready ?_ ‹MM.Bd _ _ _ _› ?_); exact hC)
  | ((with_reducible refine MM.q_times ?_ ‹MM.Bd _ _ _ _› ?_); exact hC)
  | ((with_reducible refine MM.q_running ?_ ‹MM.Bd _ _ _ _› ?_); exact hC)
  | ((with_reducible refine MM.q_dev ?_ ‹MM.Bd _ _ _ _› ?_); exact hC)
  | ((with_reducible refine MM.q_requests ?_ ‹MM.Bd _ _ _ _› ?_); exact hC)
  | ((with_reducible refine MM.q_cpu ?_ ‹MM.Bd _ _ _ _› ?_); exact hC)
  | ((with_reducible refine MM.q_views ?_ ‹MM.Bd _ _ _ _› ?_); exact hC)
  | ((with_reducible refine MM.q_pid ?_ ‹MM.Bd _ _ _ _› (by first | assumption | omega) ?_); exact hC)
  | ((with_reducible refine MM.q_pc ?_ ‹MM.Bd _ _ _ _› (by first | assumption | omega) ?_); exact hC)
  | ((with_reducible refine MM.q_regs ?_ ‹MM.Bd _ _ _ _› (by first | assumption | omega) ?_); exact hC)
  | ((with_reducible refine MM.q_call ?_ ‹MM.Bd _ _ _ _› (by first | assumption | omega) ?_); exact hC)
  | ((with_reducible refine MM.q_callAt ?_ ‹MM.Bd _ _ _ _› (by first | assumption | omega) ?_); exact hC)
  | with_reducible refine MM.q_ixThs ‹MM.Bd _ _ _ _› (by first | assumption | omega) ?_
  | with_reducible refine MM.q_ixMem ‹MM.Bd _ _ _ _› (by first | assumption | omega) ?_
  | with_reducible refine MM.q_ixTim ‹MM.Bd _ _ _ _› (by first | assumption | omega) ?_
  | with_reducible refine MM.q_ixRun ‹MM.Bd _ _ _ _› (by first | assumption | omega) ?_
  | with_reducible refine MM.q_ixRgs ‹MM.Bd _ _ _ _› ‹MM.WF _ _› (by first | assumption | omega) (by omega) (by omega) ?_
  | with_reducible refine MM.q_lenThs ‹MM.Bd _ _ _ _› ?_
  | ((with_reducible refine MM.q_mBrd ‹MM.Bd _ _ _ _› ?_ ?_); (intro _ _ _ _; rfl))
  | ((with_reducible refine MM.q_mMem ‹MM.Bd _ _ _ _› (by first | assumption | omega) ?_ ?_); (intro _ _ kd'; cases kd' <;> rfl))
  | with_reducible refine ⟨MM.ty_vws ‹MM.Bd _ _ _ _›, ?_⟩
  | with_reducible refine ⟨MM.ty_rdy ‹MM.Bd _ _ _ _›, ?_⟩
  | with_reducible refine ⟨MM.ty_ths ‹MM.Bd _ _ _ _›, ?_⟩
  | with_reducible refine ⟨MM.ty_req ‹MM.Bd _ _ _ _›, ?_⟩)
local macro_rules | `(tactic| walk_at "mgo") => `(tactic| repeat (walk_at "m1"))
set_option hygiene true

namespace K60
open PySem PySem.Spec PyProof.Rows L2
section
variable {P : Program} {w : World} {K : PySem.W.Frag} {mg : Str → Option Value} {base : Heap} {kd : Bool} {CM : Addr}
theorem ok_do_instruction (T : Txt K mg) (M : MM.MemI P w K mg base (clOf T kd CM)) : FnOk P w K mg base CX0 6 T.p_do_instruction.f T.p_do_instruction.fd ["board", "tid"] (MM.spDoInsn (clOf T kd CM)) := by
  have hC := bdC T M
  refine T.p_do_instruction.F.ok sc_do_instruction (fun vs H Q E h => ?_) (fun cdv A outer s H vs Q E hr h => ?_)
  · obtain ⟨ad, S, k, tid, rfl, _⟩ := h
    rfl
  · obtain ⟨ad, S0, k, tid, rfl, O0, hk, ht0, q⟩ := h
    have B0 := O0.B
    have W0 := O0.W
    have hp0 := (W0.tok ht0).pid
    refine ⟨_, (pss_cons (ps_set (i := 2) sc_do_instruction.nd rfl (.inl rfl) (pe_ix ix_list (pe_fld (pv 0) rfl) (pv 1) (fun _ _ => rfl)))
(pss_cons (ps_set (i := 3) sc_do_instruction.nd rfl (.inl rfl) (pe_ix ix_list (pe_fld (pv 0) rfl) (pe_fld (pv 2) rfl) (fun _ _ => rfl)))
(pss_cons (ps_set (i := 4) sc_do_instruction.nd rfl (.inl rfl) (pe_fld (pv 2) rfl))
(pss_cons (ps_set (i := 5) sc_do_instruction.nd rfl (.inl rfl) (pe_meth (pv 3) M.cc M.m_load M.ok_load (hr.mono (by decide)) M.b_load .nil pass0 (pa_cons (pv 4) pa_nil)))
(C8.pss_cut (ps_if (pt_val (pe_meth (pv 3) M.cc M.m_tells M.ok_tells (hr.mono (by decide)) M.b_tells .nil pass0 (pa_cons (pv 4) pa_nil)))
 (pss_one (ps_expr (pe_meth (pv 0) T.c_Board.cl T.p_Board_tell.me (ok_Board_tell T M) (hr.mono (by decide)) T.p_Board_tell.b .nil pass0 (pa_cons pe_str (pa_cons (pv 1) (pa_cons (pv 4) (pa_cons (pe_tup (pa_cons (pv 5) pa_nil)) pa_nil)))))))
 pss_nil)
(pss_cons (ps_if (pt_cmpR op_ge (pv 5) (pe_callB R.cLenS (by rfl) T.m_len (by decide +kernel) (pa_cons (pe_glob (v := .ref T.a_LENGTHS) (by rfl) T.c_LENGTHS rfl) pa_nil)) (nomark _))
 (pss_cons (ps_expr (pe_meth (pv 0) T.c_Board.cl T.p_Board_tell.me (ok_Board_tell T M) (hr.mono (by decide)) T.p_Board_tell.b .nil pass0 (pa_cons pe_str (pa_cons (pv 1) (pa_cons (pv 4) (pa_cons (pe_tup (pa_cons (pv 5) pa_nil)) pa_nil))))))
(pss_cons (ps_expr (pe_call (ok_end_thread T M) (hr.mono (by decide)) (by rfl) T.p_end_thread.g T.p_end_thread.F.kp T.p_end_thread.b .nil pass0 (pa_cons (pv 0) (pa_cons (pv 1) (pa_cons (pv 4) (pa_cons (pe_glob (by rfl) T.c_NO_RESULT T.r_NO_RESULT) pa_nil))))))
(pss_one ps_retN)))
 pss_nil)
(pss_cons (ps_set (i := 6) sc_do_instruction.nd rfl (.inl rfl) (pe_meth (pv 3) M.cc M.m_load M.ok_load (hr.mono (by decide)) M.b_load .nil pass0 (pa_cons (pe_op op_add (pv 4) pe_int) pa_nil)))
(pss_cons (ps_set (i := 7) sc_do_instruction.nd rfl (.inl rfl) (pe_meth (pv 3) M.cc M.m_load M.ok_load (hr.mono (by decide)) M.b_load .nil pass0 (pa_cons (pe_op op_add (pv 4) pe_int) pa_nil)))
(pss_cons (ps_set (i := 8) sc_do_instruction.nd rfl (.inl rfl) (pe_op op_mod (pe_op op_add (pv 4) (pe_ix ix_tup (pe_glob (v := .ref T.a_LENGTHS) (by rfl) T.c_LENGTHS rfl) (pv 5) (fun _ _ => rfl))) (pe_glob (by rfl) T.c_ADDRESSES T.r_ADDRESSES)))
(pss_cons (ps_fld (pv 2) (pe_call (ok_next_pc T M) (hr.mono (by decide)) (by rfl) T.p_next_pc.g T.p_next_pc.F.kp T.p_next_pc.b .nil pass0 (pa_cons (pe_fld (pv 2) rfl) (pa_cons (pv 5) (pa_cons (pv 6) (pa_cons (pv 7) (pa_cons (pv 8) pa_nil)))))) rfl)
(pss_one (ps_if (pt_cmpR op_eq (pv 5) (pe_glob (by rfl) T.c_END T.r_END) (nomark _))
 (pss_one (ps_expr (pe_call (ok_end_thread T M) (hr.mono (by decide)) (by rfl) T.p_end_thread.g T.p_end_thread.F.kp T.p_end_thread.b .nil pass0 (pa_cons (pv 0) (pa_cons (pv 1) (pa_cons (pv 4) (pa_cons pe_int pa_nil)))))))
 (pss_one (ps_if (pt_cmpR op_eq (pv 5) (pe_glob (by rfl) T.c_CALL T.r_CALL) (nomark _))
 (pss_one (ps_expr (pe_call (ok_do_call T M) (hr.mono (by decide)) (by rfl) T.p_do_call.g T.p_do_call.F.kp T.p_do_call.b .nil pass0 (pa_cons (pv 0) (pa_cons (pv 1) (pa_cons (pv 6) (pa_cons (pv 4) pa_nil)))))))
 (pss_one (ps_if (pt_cmpR op_eq (pv 5) (pe_glob (by rfl) T.c_GO_AND_LINK T.r_GO_AND_LINK) (nomark _))
 (pss_one (ps_asg (pv 8) (pg_sub (pe_fld (pv 2) rfl) pe_int set_list)))
 (pss_one (ps_expr (pe_call (ok_move T M) (hr.mono (by decide)) (by rfl) T.p_move.g T.p_move.F.kp T.p_move.b .nil pass0 (pa_cons (pe_fld (pv 2) rfl) (pa_cons (pv 3) (pa_cons (pv 5) (pa_cons (pv 6) (pa_cons (pv 7) pa_nil)))))))))))))))))))))))), ?_⟩
    walk_at "mgo"
    refine ⟨ad, S0, k, _, _, rfl, O0, hp0, ?_⟩
    walk_at "mgo"
    have hl0 : 0 ≤ (S0.mm (S0.th tid).pid).load (S0.th tid).pc := MM.load_pos (W0.mm _ (MM.mm_mem hp0)) _
    have hlp : ∀ a, 0 ≤ (S0.mm (S0.th tid).pid).load a := fun a => MM.load_pos (W0.mm _ (MM.mm_mem hp0)) a
    unfold MM.doInsn at q
    dsimp only at q
    have key : ∀ S1, S1 = (if (S0.mm (S0.th tid).pid).tells kd (S0.th tid).pc then MM.tell S0 "insn" tid (S0.th tid).pc [(S0.mm (S0.th tid).pid).load (S0.th tid).pc] else S0) → MM.WF S1 (k + 1) ∧ MM.Sm S0 S1 ∧ S1.mem = S0.mem ∧ S1.ths = S0.ths := by
      intro S1 e
      rw [e]
      split
      · exact ⟨W0.tell, MM.Sm.tell, rfl, rfl⟩
      · exact ⟨W0.mono (Nat.le_succ k), MM.Sm.refl _, rfl, rfl⟩
    refine R.r_cut (fun σ H' => ∃ S1, S1 = (if (S0.mm (S0.th tid).pid).tells kd (S0.th tid).pc then MM.tell S0 "insn" tid (S0.th tid).pc [(S0.mm (S0.th tid).pid).load (S0.th tid).pc] else S0) ∧ ∃ y6 y7 y8, σ = [some (.ref (ad .brd)), some (.int (tid : Int)), some (.ref (ad (.thr tid))), some (.ref (ad (.mem (S0.th tid).pid))), some (.int (S0.th tid).pc), some (.int ((S0.mm (S0.th tid).pid).load (S0.th tid).pc)), y6, y7, y8] ∧ MM.Bd (clOf T kd CM) ad S1 H' ∧ MM.Mv1 (clOf T kd CM) S0 ad H H') ?_ ?_
    · walk_at "mgo"
      refine ⟨ad, S0, k, _, _, rfl, O0, hp0, ?_⟩
      refine ⟨_, rfl, ?_⟩
      refine ite2 (fun e => ?_) (fun e => ?_)
      · walk_at "mgo"
        refine ⟨Nat.le_of_ble_eq_true rfl, fun g hg => ?_⟩
        generalize h2 : upd _ g _ = H2
        obtain ⟨s2, x2⟩ := MM.new2 h2 hg
        refine ⟨ad, S0, k, "insn", tid, _, [_], g, rfl, x2, O0.same s2, ht0, fun H3 B3 m3 => ?_⟩
        walk_at "mgo"
        exact ⟨_, rfl, _, _, _, rfl, by rw [if_pos e]; exact B3, MM.mv_pre s2 m3⟩
      · walk_at "mgo"
        exact ⟨_, rfl, _, _, _, rfl, by rw [if_neg e]; exact B0, MM.Mvd.of (Same.refl H)⟩
    · rintro σ H1 ⟨S1, eS, y6, y7, y8, rfl, B, m01⟩
      obtain ⟨W, sm, em, et⟩ := key S1 eS
      rw [← eS] at q
      have O := O0.to B W (by omega) sm
      have ht : tid < S1.ths.length := by rw [et]; exact ht0
      have eth : S1.th tid = S0.th tid := by unfold MM.MS.th; rw [et]
      have emm : ∀ i, S1.mm i = S0.mm i := fun i => by unfold MM.MS.mm; rw [em]
      have hp : (S0.th tid).pid < S1.mem.length := by rw [em]; exact hp0
      have hpid : (S1.th tid).pid = (S0.th tid).pid := by rw [eth]
      generalize hpd : (S0.th tid).pid = pd at *
      generalize hat : (S0.th tid).pc = a at *
      have hcode := hlp a
      walk_at "mgo"
      refine R.r_lenT (T.t_LENGTHS _) ?_
      walk_at "mgo"
      refine R.r_ite (fun e => ?_) (fun e => ?_)
      · have e : (S0.mm pd).load a ≥ 13 := e
        rw [if_pos e] at q
        walk_at "mgo"
        refine ⟨Nat.le_of_ble_eq_true rfl, fun g hg => ?_⟩
        generalize h2 : upd _ g _ = H2
        obtain ⟨s2, x2⟩ := MM.new2 h2 hg
        refine ⟨ad, S1, _, "fault", tid, a, [_], g, rfl, x2, O.same s2, ht, fun H3 B3 m3 => ?_⟩
        walk_at "mgo"
        refine ⟨ad, _, _, tid, a, 65535, rfl, by decide, O.tell B3 (by omega), by omega, ht, fun H4 B4 m4 => ?_⟩
        walk_at "mgo"
        exact q ad H4 B4 (MM.Mvd.after sm m01 (MM.mv_pre s2 (MM.Mvd.after MM.Sm.tell m3 m4)))
      · have e : ¬ (S0.mm pd).load a ≥ 13 := e
        rw [if_neg e] at q
        walk_at "mgo"
        refine ⟨ad, S1, _, pd, _, rfl, O, hp, ?_⟩
        rw [emm]
        walk_at "mgo"
        refine ⟨ad, S1, _, pd, _, rfl, O, hp, ?_⟩
        rw [emm]
        walk_at "mgo"
        refine R.r_ixT (T.t_LENGTHS _) (R.at_nat hcode (MM.getD_get (by show _ < 13; omega))) ?_
        walk_at "mgo"
        refine ⟨ad, S1, _, tid, _, _, _, _, rfl, O, ht, fun H2 s2 => ?_⟩
        have B2 := B.same s2
        walk_at "mgo"
        refine MM.q_stPc hC B2 ht fun H3 B3 m3 => ?_
        have W3 : MM.WF (S1.up tid fun t => { t with pc := MM.nextPc (S1.th tid).regs ((S0.mm pd).load a) ((S0.mm pd).load (a + 1)) ((S0.mm pd).load (a + 2)) ((a + MM.lens.getD ((S0.mm pd).load a).toNat 0) % 256) }) (k + 1) := W.up { W.tok ht with }
        have sm3 : MM.Sm S1 (S1.up tid fun t => { t with pc := MM.nextPc (S1.th tid).regs ((S0.mm pd).load a) ((S0.mm pd).load (a + 1)) ((S0.mm pd).load (a + 2)) ((a + MM.lens.getD ((S0.mm pd).load a).toNat 0) % 256) }) := MM.Sm.up
        have hpid3 : ((S1.up tid fun t => { t with pc := MM.nextPc (S1.th tid).regs ((S0.mm pd).load a) ((S0.mm pd).load (a + 1)) ((S0.mm pd).load (a + 2)) ((a + MM.lens.getD ((S0.mm pd).load a).toNat 0) % 256) }).th tid).pid = pd := by rw [MM.up_th ht]; exact hpid
        have ht3 : tid < (S1.up tid fun t => { t with pc := MM.nextPc (S1.th tid).regs ((S0.mm pd).load a) ((S0.mm pd).load (a + 1)) ((S0.mm pd).load (a + 2)) ((a + MM.lens.getD ((S0.mm pd).load a).toNat 0) % 256) }).ths.length := by rw [MM.up_len]; exact ht
        have O3 := O.to B3 W3 (by omega) sm3
        have m03 : MM.Mv1 (clOf T kd CM) S0 ad H H3 := MM.Mvd.after sm m01 (MM.mv_pre s2 m3)
        have sm03 := sm.trans sm3
        generalize (S1.up tid fun t => { t with pc := MM.nextPc (S1.th tid).regs ((S0.mm pd).load a) ((S0.mm pd).load (a + 1)) ((S0.mm pd).load (a + 2)) ((a + MM.lens.getD ((S0.mm pd).load a).toNat 0) % 256) }) = S at *
        walk_at "mgo"
        refine R.r_ite (fun e0 => ?_) (fun e0 => ?_)
        · rw [if_pos e0] at q
          walk_at "mgo"
          exact ⟨ad, S, _, tid, a, 0, rfl, by decide, O3, by omega, ht3, fun H' b m => q ad H' b (MM.Mvd.after sm03 m03 m)⟩
        rw [if_neg e0] at q
        walk_at "mgo"
        refine R.r_ite (fun e1 => ?_) (fun e1 => ?_)
        · rw [if_pos e1] at q
          walk_at "mgo"
          exact ⟨ad, S, _, tid, _, a, rfl, O3, by omega, ht3, fun ad' H' b m => q ad' H' b (MM.Mvd.after sm03 m03 m)⟩
        rw [if_neg e1] at q
        walk_at "mgo"
        refine R.r_ite (fun e2 => ?_) (fun e2 => ?_)
        · rw [if_pos e2] at q
          walk_at "mgo"
          exact MM.q_setRgs B3 W3 ht3 (by decide) (by decide) fun H' b m => q ad H' b (MM.Mvd.after sm03 m03 m)
        · rw [if_neg e2] at q
          walk_at "mgo"
          exact ⟨ad, S, _, tid, _, _, _, by rw [hpid3]; rfl, O3, ht3, fun H' b m => q ad H' b (MM.Mvd.after sm03 m03 m)⟩
end
end K60
end
section
local macro_rules | `(tactic| walk_at "s1") => `(tactic| first
  | ((with_reducible apply R.r_var); · rfl)
  | with_reducible apply R.r_c
  | with_reducible apply R.r_op
  | with_reducible apply R.r_I0
  | with_reducible apply R.r_cb
  | with_reducible apply R.r_cons
  | with_reducible apply R.r_nil
  | with_reducible apply R.r_seq
  | with_reducible apply R.r_asg
  | with_reducible apply R.r_ret
  | with_reducible apply R.r_ifS
  | with_reducible apply R.r_test
  | with_reducible apply R.r_t
  | with_reducible apply R.r_f
  | with_reducible apply R.r_nt
  | with_reducible apply R.r_nf
  | with_reducible apply R.r_bl
  | with_reducible apply R.r_U
  | with_reducible apply R.r_un
  | with_reducible apply R.r_eqI
  | with_reducible apply R.r_eqS
  | with_reducible apply R.r_neI
  | with_reducible apply R.r_neS
  | with_reducible apply R.r_and
  | with_reducible apply R.r_or
  | with_reducible apply R.r_not
  | with_reducible apply R.r_andV
  | with_reducible apply R.r_orV
  | with_reducible apply R.r_notV
  | with_reducible apply R.r_blV
  | with_reducible apply R.r_B
  | with_reducible apply R.r_ifE
  | with_reducible apply R.r_tup
  | with_reducible apply R.r_lst
  | with_reducible apply R.r_call
  | with_reducible apply R.r_drop
  | with_reducible apply R.r_next
  | with_reducible apply R.r_abs
  | with_reducible apply R.r_int1
  | with_reducible apply R.r_int1b
  | with_reducible apply R.r_min2
  | with_reducible apply R.r_bm
  | with_reducible apply R.r_bm0
  | with_reducible apply R.r_dget
  | with_reducible apply R.r_dput
  | with_reducible apply R.r_disp
  | with_reducible apply R.r_pnil
  | with_reducible apply R.r_pcons
  | with_reducible apply R.r_fld
  | with_reducible apply R.r_slice
  | with_reducible apply R.r_nopart
  | with_reducible apply R.r_part
  | with_reducible apply R.r_int
  | with_reducible apply R.r_yes
  | with_reducible apply R.r_retN
  | with_reducible apply R.r_asgG
  | with_reducible apply R.r_gname
  | with_reducible apply R.r_rng1
  | with_reducible apply R.r_brk
  | with_reducible apply R.r_cnt
  | with_reducible apply R.r_m1
  | with_reducible apply R.r_lcr
  | with_reducible apply R.r_p2_63
  | with_reducible apply R.r_p2_64
  | with_reducible apply R.r_p2_32
  | with_reducible apply R.r_p2_31
  | with_reducible apply R.r_p10_18
  | with_reducible apply R.r_p10_30
  | with_reducible refine R.r_mod (by omega) ?_
  | with_reducible refine R.r_div (by omega) ?_
  | with_reducible refine R.r_mulR (by omega) ?_
  | with_reducible refine R.r_mulL (by omega) ?_
  | with_reducible refine R.r_iteY (by decide +kernel) ?_
  | with_reducible refine R.r_iteF (by decide +kernel) ?_
  | with_reducible refine R.r_isi R.isi_int ?_
  | with_reducible refine R.r_isi R.isi_intB ?_)
local macro_rules | `(tactic| walk_at "go") => `(tactic| repeat (walk_at "s1"))

set_option hygiene false
local macro_rules | `(tactic| walk_at "m1") => `(tactic| first
  | walk_at "s1"
  | with_reducible apply MM.r_meth
  | with_reducible apply MM.r_make
  | with_reducible apply MM.r_sfld
  | with_reducible apply MM.r_gsub
  | with_reducible apply MM.r_augS
  | with_reducible apply MM.r_ip
  | ((with_reducible refine MM.q_threads ?_ ‹MM.Bd _ _ _ _› ?_); exact hC)
  | ((with_reducible refine MM.q_memories ?_ ‹MM.Bd _ _ _ _› ?_); exact hC)
  | ((with_reducible refine MM.q_ready ?_ ‹MM.Bd _ _ _ _› ?_); exact hC)
  | ((with_reducible refine MM.q_times ?_ ‹MM.Bd _ _ _ _› ?_); exact hC)
  | ((with_reducible refine MM.q_running ?_ ‹MM.Bd _ _ _ _› ?_); exact hC)
  | ((with_reducible refine MM.q_dev ?_ ‹MM.Bd _ _ _ _› ?_); exact hC)
  | ((with_reducible refine MM.q_requests ?_ ‹MM.Bd _ _ _ _› ?_); exact hC)
  | ((with_reducible refine MM.q_cpu ?_ ‹MM.Bd _ _ _ _› ?_); exact hC)
  | ((with_reducible refine MM.q_views ?_ ‹MM.Bd _ _ _ _› ?_); exact hC)
  | ((with_reducible refine MM.q_pid ?_ ‹MM.Bd _ _ _ _› (by first | assumption | omega) ?_); exact hC)
  | ((with_reducible refine MM.q_pc ?_ ‹MM.Bd _ _ _ _› (by first | assumption | omega) ?_); exact hC)
  | ((with_reducible refine MM.q_regs ?_ ‹MM.Bd _ _ _ _› (by first | assumption | omega) ?_); exact hC)
  | ((with_reducible refine MM.q_call ?_ ‹MM.Bd _ _ _ _› (by first | assumption | omega) ?_); exact hC)
  | ((with_reducible refine MM.q_callAt ?_ ‹MM.Bd _ _ _ _› (by first | assumption | omega) ?_); exact hC)
  | with_reducible refine MM.q_ixThs ‹MM.Bd _ _ _ _› (by first | assumption | omega) ?_
  | with_reducible refine MM.q_ixMem ‹MM.Bd _ _ _ _› (by first | assumption | omega) ?_
  | with_reducible refine MM.q_ixTim ‹MM.Bd _ _ _ _› (by first | assumption | omega) ?_
  | with_reducible refine MM.q_ixRun ‹MM.Bd _ _ _ _› (by first | assumption | omega) ?_
  | with_reducible refine MM.q_ixRgs ‹MM.Bd _ _ _ _› ‹MM.WF _ _› (by first | assumption | omega) (by omega) (by omega) ?_
  | with_reducible refine MM.q_lenThs ‹MM.Bd _ _ _ _› ?_
  | ((with_reducible refine MM.q_mBrd ‹MM.Bd _ _ _ _› ?_ ?_); (intro _ _ _ _; rfl))
  | ((with_reducible refine MM.q_mMem ‹MM.Bd _ _ _ _› (by first | assumption | omega) ?_ ?_); (intro _ _ kd'; cases kd' <;> rfl))
  | with_reducible refine ⟨MM.ty_vws ‹MM.Bd _ _ _ _›, ?_⟩
  | with_reducible refine ⟨MM.ty_rdy ‹MM.Bd _ _ _ _›, ?_⟩
  | with_reducible refine ⟨MM.ty_ths ‹MM.Bd _ _ _ _›, ?_⟩
  | with_reducible refine ⟨MM.ty_req ‹MM.Bd _ _ _ _›, ?_⟩)
local macro_rules | `(tactic| walk_at "mgo") => `(tactic| repeat (walk_at "m1"))
set_option hygiene true

namespace K60
open PySem PySem.Spec PyProof.Rows L2
section
variable {P : Program} {w : World} {K : PySem.W.Frag} {mg : Str → Option Value} {base : Heap} {kd : Bool} {CM : Addr}
theorem ok_wake (T : Txt K mg) (M : MM.MemI P w K mg base (clOf T kd CM)) : FnOk P w K mg base CX0 4 T.p_wake.f T.p_wake.fd ["board"] (MM.spWake (clOf T kd CM)) := by
  have hC := bdC T M
  refine T.p_wake.F.ok sc_wake (fun vs H Q E h => ?_) (fun cdv A outer s H vs Q E hr h => ?_)
  · obtain ⟨ad, S, k, rfl, _⟩ := h
    rfl
  · obtain ⟨ad, S, k, rfl, O, hk, q⟩ := h
    have B := O.B
    have W := O.W
    have tk := MM.turns_ok (f := MM.wakeIf) MM.wakeIf_ok.1 MM.wakeIf_ok.2.1 MM.wakeIf_ok.2.2 W
    have hn := W.nt
    rw [MM.wake_turns] at q
    refine ⟨_, (pss_one (ps_for PassesOwn.never rfl (pi_enum (by rfl) T.m_enumerate (pa_cons (pe_fld (pv 0) rfl) pa_nil)) (pg_tup rfl (pgs_cons (pg_name (i := 1) sc_wake.nd rfl (.inl rfl)) (pgs_cons (pg_name (i := 2) sc_wake.nd rfl (.inl rfl)) pgs_nil)))
 (pss_cons (ps_set (i := 3) sc_wake.nd rfl (.inl rfl) (pe_fld (pv 2) rfl))
(pss_one (ps_if ((pw_and (pt_cmpR op_eq (pe_ix ix_tup (pv 3) pe_int (fun _ _ => rfl)) pe_str (nomark _)) (pw_and (pt_cmpR op_eq (pe_ix ix_tup (pv 3) pe_int (fun _ _ => rfl)) (pe_fld (pv 0) rfl) (nomark _)) (pw_and1 (pt_cmpR op_le (pe_ix ix_tup (pv 3) pe_int (fun _ _ => rfl)) (pe_meth0 (pv 0) T.c_Board.cl T.p_Board_now.me (ok_Board_now T M) (hr.mono (by decide)) T.p_Board_now.b .nil pass0) (nomark _)))))).pt
 (pss_one (ps_expr (pe_call (ok_return_call T M) (hr.mono (by decide)) (by rfl) T.p_return_call.g T.p_return_call.F.kp T.p_return_call.b .nil pass0 (pa_cons (pv 0) (pa_cons (pv 1) (pa_cons pe_int pa_nil))))))
 pss_nil))))), ?_⟩
    refine MM.r_enum ?_
    walk_at "mgo"
    refine ⟨_, _, rfl, R.sqL B.thsAt, MM.for_ths (ad := ad) (bk := fun _ _ => False) (ct := fun _ _ => False) S.ths.length _ (fun i σ H' => ∃ y1 y2 y3, σ = [some (.ref (ad .brd)), y1, y2, y3] ∧ MM.Bd (clOf T kd CM) ad (MM.turns MM.wakeIf S i) H' ∧ MM.Mv1 (clOf T kd CM) S ad H H') ?_ ?_ ?_ ?_ ?_⟩
    · exact ⟨_, _, _, rfl, B, MM.Mvd.of (Same.refl H)⟩
    · rintro i σ H' hi ⟨y1, y2, y3, rfl, B', m'⟩
      have := B'.thsAt
      rwa [(tk i (by omega)).1] at this
    · rintro i σ H' H'' ⟨y1, y2, y3, rfl, B', m'⟩ sm
      exact ⟨y1, y2, y3, rfl, B'.same sm, MM.mv_end m' sm⟩
    · rintro i σ H' hi ⟨y1, y2, y3, rfl, B', m'⟩
      obtain ⟨li, si, wi⟩ := tk i (by omega)
      have hi' : i < (MM.turns MM.wakeIf S i).ths.length := by omega
      rw [MM.turns_succ]
      have O' : MM.Ok (clOf T kd CM) ad (MM.turns MM.wakeIf S i) H' (k + i) := ⟨B', wi, by omega, O.pl.sm si⟩
      generalize MM.turns MM.wakeIf S i = Si at *
      have no2 : ∀ y3, ¬ MM.sleepsTo Si.cpu Si.now (Si.th i).cond = true → ∃ y1 y2 y4, [some (V.ref (ad .brd)), some (.int (i : Int)), some (.ref (ad (.thr i))), y3] = [some (.ref (ad .brd)), y1, y2, y4] ∧ MM.Bd (clOf T kd CM) ad (MM.wakeIf Si i) H' ∧ MM.Mv1 (clOf T kd CM) S ad H H' := fun y3 e =>
        ⟨_, _, _, rfl, by unfold MM.wakeIf; rw [if_neg e]; exact B', m'⟩
      walk_at "mgo"
      refine MM.q_cond hC B' hi' fun c0 e0 => ?_
      walk_at "mgo"
      refine R.r_ixT (R.sqT e0) (MM.cond_0 _) ?_
      walk_at "mgo"
      refine R.r_ite (fun e1 => ?_) (fun e1 => ?_)
      · obtain ⟨cc, u, ec⟩ := MM.cond_sleeps.mp e1
        rw [ec] at e0 no2
        walk_at "mgo"
        refine R.r_ixT (i := 1) (v := .int (cc : Int)) (R.sqT e0) rfl ?_
        walk_at "mgo"
        refine R.r_ite (fun e2 => ?_) (fun e2 => ?_)
        · walk_at "mgo"
          refine R.r_ixT (i := 2) (v := .int u) (R.sqT e0) rfl ?_
          walk_at "mgo"
          refine ⟨ad, Si, _, rfl, O', ?_⟩
          walk_at "mgo"
          refine R.r_ite (fun e3 => ?_) (fun e3 => ?_)
          · have hs : MM.sleepsTo Si.cpu Si.now (Si.th i).cond = true := by
              rw [ec]
              show (decide (cc = Si.cpu) && decide (u ≤ Si.now)) = true
              rw [decide_eq_true (Int.ofNat.inj e2), decide_eq_true e3]
              rfl
            walk_at "mgo"
            refine ⟨ad, Si, _, i, 0, rfl, by decide, O', by omega, hi', fun H7 B7 m7 => ?_⟩
            walk_at "mgo"
            refine ⟨_, _, _, rfl, ?_, MM.Mvd.after si m' m7⟩
            unfold MM.wakeIf
            rw [if_pos hs]
            exact B7
          · walk_at "mgo"
            refine no2 _ ?_
            show ¬ (decide (cc = Si.cpu) && decide (u ≤ Si.now)) = true
            rw [decide_eq_false e3, Bool.and_false]
            exact Bool.false_ne_true
        · walk_at "mgo"
          refine no2 _ ?_
          show ¬ (decide (cc = Si.cpu) && decide (u ≤ Si.now)) = true
          rw [decide_eq_false (fun z => e2 (congrArg Int.ofNat z)), Bool.false_and]
          exact Bool.false_ne_true
      · walk_at "mgo"
        refine no2 _ (fun z => e1 ?_)
        cases hc : (Si.th i).cond with
        | sleeping a b => rfl
        | _ => rw [hc] at z; cases z
    · rintro σ H' ⟨y1, y2, y3, rfl, B', m'⟩
      exact q H' B' m'
theorem ok_do_step (T : Txt K mg) (M : MM.MemI P w K mg base (clOf T kd CM)) : FnOk P w K mg base CX0 7 T.p_do_step.f T.p_do_step.fd ["board"] (MM.spDoStep (clOf T kd CM)) := by
  have hC := bdC T M
  refine T.p_do_step.F.ok sc_do_step (fun vs H Q E h => ?_) (fun cdv A outer s H vs Q E hr h => ?_)
  · obtain ⟨ad, S, k, rfl, _⟩ := h
    rfl
  · obtain ⟨ad, S, k, rfl, O, hk, q⟩ := h
    have B := O.B
    have W := O.W
    have hl := MM.runs_lt W
    have hrn : S.cpu < S.run.length := by rw [W.rn]; exact W.cpu
    unfold MM.doStep at q
    refine ⟨_, (pss_cons (ps_set (i := 1) sc_do_step.nd rfl (.inl rfl) (pe_ix ix_list (pe_fld (pv 0) rfl) (pe_fld (pv 0) rfl) (fun _ _ => rfl)))
(pss_one (ps_if (pt_cmpR op_ge (pv 1) pe_int (nomark _))
 (pss_one (ps_expr (pe_call (ok_do_instruction T M) (hr.mono (by decide)) (by rfl) T.p_do_instruction.g T.p_do_instruction.F.kp T.p_do_instruction.b .nil pass0 (pa_cons (pv 0) (pa_cons (pv 1) pa_nil)))))
 (pss_one (ps_if (pt_truth (pe_fld (pv 0) rfl) (fun _ => rfl))
 (pss_one (ps_expr (pe_meth (pv 0) T.c_Board.cl T.p_Board_begin_run.me (ok_Board_begin_run T M) (hr.mono (by decide)) T.p_Board_begin_run.b .nil pass0 (pa_cons (pe_bm PySem.F.plainAttrs_list PySem.F.slot_list_pop PySem.F.type_list_pop mt_popAt (pe_fld (pv 0) rfl) (pa_cons pe_int pa_nil)) pa_nil))))
 pss_nil))))), ?_⟩
    walk_at "mgo"
    refine R.r_ite (fun e => ?_) (fun e => ?_)
    · have e : 0 ≤ MM.runs S := e
      rw [if_pos e] at q
      walk_at "mgo"
      refine ⟨ad, S, k, (MM.runs S).toNat, by rw [Int.toNat_of_nonneg e]; rfl, O, by omega, by omega, fun ad' H' b m => ?_⟩
      walk_at "mgo"
      exact q ad' H' b m
    · have e : ¬ 0 ≤ MM.runs S := e
      rw [if_neg e] at q
      walk_at "mgo"
      refine ⟨_, .inl ⟨_, R.sqL B.rdy.1, rfl⟩, ?_⟩
      cases er : S.ready with
      | nil =>
        rw [er] at q
        refine R.r_ite_b (b' := false) rfl ?_
        walk_at "mgo"
        exact q ad H B (MM.Mvd.of (Same.refl H))
      | cons t r =>
        rw [er] at q
        refine R.r_ite_b (b' := true) rfl ?_
        walk_at "mgo"
        refine MM.q_popRdy B er fun H1 B1 m1 => ?_
        have ht : t < S.ths.length := W.rd t (by rw [er]; exact List.mem_cons_self)
        have W1 : MM.WF { S with ready := r } k := { W with
          rd := fun j hj => W.rd j (by rw [er]; exact List.mem_cons_of_mem _ hj)
          rdl := by have := W.rdl; rw [er, List.length_cons] at this; show r.length ≤ k; omega }
        walk_at "mgo"
        refine ⟨ad, { S with ready := r }, k, t, rfl, O.to B1 W1 O.hk (MM.sm_of rfl rfl rfl rfl), ht, fun H2 B2 m2 => ?_⟩
        walk_at "mgo"
        exact q ad H2 B2 (MM.Mvd.after (MM.sm_of rfl rfl rfl rfl) m1 m2)
theorem ok_do_timer (T : Txt K mg) (M : MM.MemI P w K mg base (clOf T kd CM)) : FnOk P w K mg base CX0 5 T.p_do_timer.f T.p_do_timer.fd ["board"] (MM.spDoTimer (clOf T kd CM)) := by
  have hC := bdC T M
  refine T.p_do_timer.F.ok sc_do_timer (fun vs H Q E h => ?_) (fun cdv A outer s H vs Q E hr h => ?_)
  · obtain ⟨ad, S, k, rfl, _⟩ := h
    rfl
  · obtain ⟨ad, S, k, rfl, O, hk, q⟩ := h
    have B := O.B
    have W1 := O.W.tellTick
    have hl := MM.runs_lt W1
    have hrn : (MM.tellTick S).cpu < (MM.tellTick S).run.length := by show S.cpu < S.run.length; rw [O.W.rn]; exact O.W.cpu
    unfold MM.doTimer at q
    dsimp only at q
    refine ⟨_, (pss_cons (ps_expr (pe_meth0 (pv 0) T.c_Board.cl T.p_Board_tell_tick.me (ok_Board_tell_tick T M) (hr.mono (by decide)) T.p_Board_tell_tick.b .nil pass0))
(pss_cons (ps_set (i := 1) sc_do_timer.nd rfl (.inl rfl) (pe_ix ix_list (pe_fld (pv 0) rfl) (pe_fld (pv 0) rfl) (fun _ _ => rfl)))
(pss_one (ps_if (pt_cmpR op_ge (pv 1) pe_int (nomark _))
 (pss_one (ps_expr (pe_call (ok_go_last T M) (hr.mono (by decide)) (by rfl) T.p_go_last.g T.p_go_last.F.kp T.p_go_last.b .nil pass0 (pa_cons (pv 0) (pa_cons (pv 1) (pa_cons (pe_glob (by rfl) T.c_TIMER T.r_TIMER) pa_nil))))))
 pss_nil)))), ?_⟩
    walk_at "mgo"
    refine ⟨ad, S, k, rfl, O, fun H1 B1 m1 => ?_⟩
    have O1 := O.to B1 W1 (by omega) (MM.sm_of rfl rfl rfl rfl)
    walk_at "mgo"
    refine R.r_ite (fun e => ?_) (fun e => ?_)
    · have e : 0 ≤ MM.runs (MM.tellTick S) := e
      rw [if_pos e] at q
      walk_at "mgo"
      refine ⟨ad, MM.tellTick S, _, (MM.runs (MM.tellTick S)).toNat, _, by rw [Int.toNat_of_nonneg e]; rfl, O1, by omega, by omega, fun H' b m => ?_⟩
      walk_at "mgo"
      exact q H' b (MM.Mvd.after (MM.sm_of rfl rfl rfl rfl) m1 m)
    · have e : ¬ 0 ≤ MM.runs (MM.tellTick S) := e
      rw [if_neg e] at q
      walk_at "mgo"
      exact q H1 B1 m1
end
end K60
end
section
local macro_rules | `(tactic| walk_at "s1") => `(tactic| first
  | ((with_reducible apply R.r_var); · rfl)
  | with_reducible apply R.r_c
  | with_reducible apply R.r_op
  | with_reducible apply R.r_I0
  | with_reducible apply R.r_cb
  | with_reducible apply R.r_cons
  | with_reducible apply R.r_nil
  | with_reducible apply R.r_seq
  | with_reducible apply R.r_asg
  | with_reducible apply R.r_ret
  | with_reducible apply R.r_ifS
  | with_reducible apply R.r_test
  | with_reducible apply R.r_t
  | with_reducible apply R.r_f
  | with_reducible apply R.r_nt
  | with_reducible apply R.r_nf
  | with_reducible apply R.r_bl
  | with_reducible apply R.r_U
  | with_reducible apply R.r_un
  | with_reducible apply R.r_eqI
  | with_reducible apply R.r_eqS
  | with_reducible apply R.r_neI
  | with_reducible apply R.r_neS
  | with_reducible apply R.r_and
  | with_reducible apply R.r_or
  | with_reducible apply R.r_not
  | with_reducible apply R.r_andV
  | with_reducible apply R.r_orV
  | with_reducible apply R.r_notV
  | with_reducible apply R.r_blV
  | with_reducible apply R.r_B
  | with_reducible apply R.r_ifE
  | with_reducible apply R.r_tup
  | with_reducible apply R.r_lst
  | with_reducible apply R.r_call
  | with_reducible apply R.r_drop
  | with_reducible apply R.r_next
  | with_reducible apply R.r_abs
  | with_reducible apply R.r_int1
  | with_reducible apply R.r_int1b
  | with_reducible apply R.r_min2
  | with_reducible apply R.r_bm
  | with_reducible apply R.r_bm0
  | with_reducible apply R.r_dget
  | with_reducible apply R.r_dput
  | with_reducible apply R.r_disp
  | with_reducible apply R.r_pnil
  | with_reducible apply R.r_pcons
  | with_reducible apply R.r_fld
  | with_reducible apply R.r_slice
  | with_reducible apply R.r_nopart
  | with_reducible apply R.r_part
  | with_reducible apply R.r_int
  | with_reducible apply R.r_yes
  | with_reducible apply R.r_retN
  | with_reducible apply R.r_asgG
  | with_reducible apply R.r_gname
  | with_reducible apply R.r_rng1
  | with_reducible apply R.r_brk
  | with_reducible apply R.r_cnt
  | with_reducible apply R.r_m1
  | with_reducible apply R.r_lcr
  | with_reducible apply R.r_p2_63
  | with_reducible apply R.r_p2_64
  | with_reducible apply R.r_p2_32
  | with_reducible apply R.r_p2_31
  | with_reducible apply R.r_p10_18
  | with_reducible apply R.r_p10_30
  | with_reducible refine R.r_mod (by omega) ?_
  | with_reducible refine R.r_div (by omega) ?_
  | with_reducible refine R.r_mulR (by omega) ?_
  | with_reducible refine R.r_mulL (by omega) ?_
  | with_reducible refine R.r_iteY (by decide +kernel) ?_
  | with_reducible refine R.r_iteF (by decide +kernel) ?_
  | with_reducible refine R.r_isi R.isi_int ?_
  | with_reducible refine R.r_isi R.isi_intB ?_)
local macro_rules | `(tactic| walk_at "go") => `(tactic| repeat (walk_at "s1"))

set_option hygiene false
local macro_rules | `(tactic| walk_at "m1") => `(tactic| first
  | walk_at "s1"
  | with_reducible apply MM.r_meth
  | with_reducible apply MM.r_make
  | with_reducible apply MM.r_sfld
  | with_reducible apply MM.r_gsub
  | with_reducible apply MM.r_augS
  | with_reducible apply MM.r_ip
  | ((with_reducible refine MM.q_threads ?_ ‹MM.Bd _ _ _ _› ?_); exact hC)
  | ((with_reducible refine MM.q_memories ?_ ‹MM.Bd _ _ _ _› ?_); exact hC)
  | ((with_reducible refine MM.q_ready ?_ ‹MM.Bd _ _ _ _› ?_); exact hC)
  | ((with_reducible refine MM.q_times ?_ ‹MM.Bd _ _ _ _› ?_); exact hC)
  | ((with_reducible refine MM.q_running ?_ ‹MM.Bd _ _ _ _› ?_); exact hC)
  | ((with_reducible refine MM.q_dev ?_ ‹MM.Bd _ _ _ _› ?_); exact hC)
  | ((with_reducible refine MM.q_requests ?_ ‹MM.Bd _ _ _ _› ?_); exact hC)
  | ((with_reducible refine MM.q_cpu ?_ ‹MM.Bd _ _ _ _› ?_); exact hC)
  | ((with_reducible refine MM.q_views ?_ ‹MM.Bd _ _ _ _› ?_); exact hC)
  | ((with_reducible refine MM.q_pid ?_ ‹MM.Bd _ _ _ _› (by first | assumption | omega) ?_); exact hC)
  | ((with_reducible refine MM.q_pc ?_ ‹MM.Bd _ _ _ _› (by first | assumption | omega) ?_); exact hC)
  | ((with_reducible refine MM.q_regs ?_ ‹MM.Bd _ _ _ _› (by first | assumption | omega) ?_); exact hC)
  | ((with_reducible refine MM.q_call ?_ ‹MM.Bd _ _ _ _› (by first | assumption | omega) ?_); exact hC)
  | ((with_reducible refine MM.q_callAt ?_ ‹MM.Bd _ _ _ _› (by first | assumption | omega) ?_); exact hC)
  | with_reducible refine MM.q_ixThs ‹MM.Bd _ _ _ _› (by first | assumption | omega) ?_
  | with_reducible refine MM.q_ixMem ‹MM.Bd _ _ _ _› (by first | assumption | omega) ?_
  | with_reducible refine MM.q_ixTim ‹MM.Bd _ _ _ _› (by first | assumption | omega) ?_
  | with_reducible refine MM.q_ixRun ‹MM.Bd _ _ _ _› (by first | assumption | omega) ?_
  | with_reducible refine MM.q_ixRgs ‹MM.Bd _ _ _ _› ‹MM.WF _ _› (by first | assumption | omega) (by omega) (by omega) ?_
  | with_reducible refine MM.q_lenThs ‹MM.Bd _ _ _ _› ?_
  | ((with_reducible refine MM.q_mBrd ‹MM.Bd _ _ _ _› ?_ ?_); (intro _ _ _ _; rfl))
  | ((with_reducible refine MM.q_mMem ‹MM.Bd _ _ _ _› (by first | assumption | omega) ?_ ?_); (intro _ _ kd'; cases kd' <;> rfl))
  | with_reducible refine ⟨MM.ty_vws ‹MM.Bd _ _ _ _›, ?_⟩
  | with_reducible refine ⟨MM.ty_rdy ‹MM.Bd _ _ _ _›, ?_⟩
  | with_reducible refine ⟨MM.ty_ths ‹MM.Bd _ _ _ _›, ?_⟩
  | with_reducible refine ⟨MM.ty_req ‹MM.Bd _ _ _ _›, ?_⟩)
local macro_rules | `(tactic| walk_at "mgo") => `(tactic| repeat (walk_at "m1"))
set_option hygiene true

namespace K60
open PySem PySem.Spec PyProof.Rows L2
section
variable {P : Program} {w : World} {K : PySem.W.Frag} {mg : Str → Option Value} {base : Heap} {kd : Bool} {CM : Addr}
theorem ok_do_request (T : Txt K mg) (M : MM.MemI P w K mg base (clOf T kd CM)) : FnOk P w K mg base CX0 4 T.p_do_request.f T.p_do_request.fd ["board"] (MM.spDoRequest (clOf T kd CM)) := by
  have hC := bdC T M
  refine T.p_do_request.F.ok sc_do_request (fun vs H Q E h => ?_) (fun cdv A outer s H vs Q E hr h => ?_)
  · obtain ⟨ad, S, k, rfl, _⟩ := h
    rfl
  · obtain ⟨ad, S, k, rfl, O, hk, q⟩ := h
    have B := O.B
    have W := O.W
    unfold MM.doRequest at q
    refine ⟨_, (pss_cons (ps_if (pt_not (pt_truth (pe_fld (pv 0) rfl) (fun _ => rfl)))
 (pss_one ps_retN)
 pss_nil)
(pss_cons (ps_asg (pe_bm PySem.F.plainAttrs_list PySem.F.slot_list_pop PySem.F.type_list_pop mt_popAt (pe_fld (pv 0) rfl) (pa_cons pe_int pa_nil)) (pg_tup rfl (pgs_cons (pg_name (i := 1) sc_do_request.nd rfl (.inl rfl)) (pgs_cons (pg_name (i := 2) sc_do_request.nd rfl (.inl rfl)) (pgs_cons (pg_name (i := 3) sc_do_request.nd rfl (.inl rfl)) pgs_nil)))))
(pss_cons (ps_set (i := 4) sc_do_request.nd rfl (.inl rfl) (pe_fld (pv 0) rfl))
(C8.pss_cut (ps_if (pt_cmpR op_eq (pv 2) (pe_glob (by rfl) T.c_DEVICE_SET T.r_DEVICE_SET) (nomark _))
 (pss_cons (ps_fld (pv 0) (pv 3) rfl)
(pss_one (ps_set (i := 4) sc_do_request.nd rfl (.inl rfl) pe_int)))
 pss_nil)
(pss_cons (ps_expr (pe_meth (pv 0) T.c_Board.cl T.p_Board_tell.me (ok_Board_tell T M) (hr.mono (by decide)) T.p_Board_tell.b .nil pass0 (pa_cons pe_str (pa_cons (pv 1) (pa_cons (pe_fld (pe_ix ix_list (pe_fld (pv 0) rfl) (pv 1) (fun _ _ => rfl)) rfl) (pa_cons (pe_tup (pa_cons (pv 2) pa_nil)) pa_nil))))))
(pss_one (ps_expr (pe_call (ok_return_call T M) (hr.mono (by decide)) (by rfl) T.p_return_call.g T.p_return_call.F.kp T.p_return_call.b .nil pass0 (pa_cons (pv 0) (pa_cons (pv 1) (pa_cons (pv 4) pa_nil))))))))))), ?_⟩
    walk_at "mgo"
    obtain ⟨rq, erq, al, _⟩ := B.req
    refine ⟨_, .inl ⟨_, R.sqL erq, rfl⟩, ?_⟩
    cases er : S.reqs with
    | nil =>
      rw [er] at q al
      cases al
      refine R.r_ite_b (b' := true) rfl ?_
      walk_at "mgo"
      exact q H B (MM.Mvd.of (Same.refl H))
    | cons q0 r =>
      obtain ⟨tid, call, number⟩ := q0
      have hq := W.rq (tid, call, number) (by rw [er]; exact List.mem_cons_self)
      rw [er] at q al
      have hne : rq ≠ [] := by
        intro z
        rw [z] at al
        cases al
      refine R.r_ite_b (b' := false) (by cases rq with | nil => exact absurd rfl hne | cons _ _ => rfl) ?_
      walk_at "mgo"
      refine MM.q_popReq B er fun a H1 ra B1 m1 => ?_
      have ra : H1 a = some (.tup [.int ((tid : Nat) : Int), .int call, .int number]) := ra
      refine ⟨a, _, rfl, R.sqT ra, rfl, _, _, rfl, _, _, rfl, _, _, rfl, rfl, ?_⟩
      have W1 : MM.WF { S with reqs := r } k := { W with
        rq := fun q hq => W.rq q (by rw [er]; exact List.mem_cons_of_mem _ hq)
        rql := by have := W.rql; rw [er, List.length_cons] at this; show r.length ≤ k; omega }
      dsimp only at q
      have sm1 : MM.Sm S { S with reqs := r } := MM.sm_of rfl rfl rfl rfl
      walk_at "mgo"
      refine R.r_cut (fun σ H' => ∃ S2 y1, S2 = (if call = 3 then { S with reqs := r, dev := number } else { S with reqs := r } : MM.MS) ∧ σ = [some (.ref (ad .brd)), some (.int (tid : Int)), some (.int call), y1, some (.int (if call = 3 then 0 else S.dev))] ∧ MM.Bd (clOf T kd CM) ad S2 H' ∧ MM.Mv1 (clOf T kd CM) S ad H H') ?_ ?_
      · walk_at "mgo"
        refine R.r_ite (fun e => ?_) (fun e => ?_)
        · walk_at "mgo"
          refine MM.q_stDev hC B1 fun H2 B2 m2 => ?_
          walk_at "mgo"
          exact ⟨_, _, by rw [if_pos e], by rw [if_pos e]; rfl, B2, MM.Mvd.after sm1 m1 m2⟩
        · walk_at "mgo"
          exact ⟨_, _, by rw [if_neg e], by rw [if_neg e]; rfl, B1, m1⟩
      · rintro σ H2 ⟨S2, y1, e2, rfl, B2, m2⟩
        rw [← e2] at q
        have k2 : MM.Sm S S2 ∧ MM.WF S2 k ∧ S2.ths = S.ths := by
          rw [e2]
          split
          · exact ⟨MM.sm_of rfl rfl rfl rfl, { W1 with dev := hq.2 }, rfl⟩
          · exact ⟨MM.sm_of rfl rfl rfl rfl, W1, rfl⟩
        obtain ⟨sm2, W2, et⟩ := k2
        have ht : tid < S2.ths.length := by rw [et]; exact hq.1
        have hv : 0 ≤ (if call = 3 then (0 : Int) else S.dev) := by
          split
          · decide
          · exact W.dev
        have O2 := O.to B2 W2 O.hk sm2
        walk_at "mgo"
        refine ⟨Nat.le_of_ble_eq_true rfl, fun g hg => ?_⟩
        generalize h3 : upd _ g _ = H3
        obtain ⟨s3, x3⟩ := MM.new2 h3 hg
        refine ⟨ad, S2, k, "done", tid, _, [call], g, rfl, x3, O2.same s3, ht, fun H4 B4 m4 => ?_⟩
        walk_at "mgo"
        refine ⟨ad, _, _, tid, _, rfl, hv, O2.tell B4 (by omega), by omega, ht, fun H5 B5 m5 => ?_⟩
        walk_at "mgo"
        exact q H5 B5 (MM.Mvd.after sm2 m2 (MM.mv_pre s3 (MM.Mvd.after MM.Sm.tell m4 m5)))
theorem ok_do_pick (T : Txt K mg) (M : MM.MemI P w K mg base (clOf T kd CM)) : FnOk P w K mg base CX0 8 T.p_do_pick.f T.p_do_pick.fd ["board", "pick"] (MM.spDoPick (clOf T kd CM)) := by
  have hC := bdC T M
  refine T.p_do_pick.F.ok sc_do_pick (fun vs H Q E h => ?_) (fun cdv A outer s H vs Q E hr h => ?_)
  · obtain ⟨ad, S, k, p, cpu, what, rfl, _⟩ := h
    rfl
  · obtain ⟨ad, S, k, p, cpu, what, rfl, hp, O, hk, hcpu, hv, q⟩ := h
    have B := O.B
    have W := O.W
    have W1 := MM.begin_ok W hcpu
    obtain ⟨l2, s2, W2⟩ := MM.wake_ok W1
    have pl2 : MM.Pl (clOf T kd CM) (MM.wake (MM.begin' S cpu)) := MM.Pl.sm (S := MM.begin' S cpu) O.pl s2
    refine ⟨_, (pss_cons (ps_asg (pv 1) (pg_tup rfl (pgs_cons (pg_name (i := 2) sc_do_pick.nd rfl (.inl rfl)) (pgs_cons (pg_name (i := 3) sc_do_pick.nd rfl (.inl rfl)) pgs_nil))))
(pss_cons (ps_expr (pe_meth (pv 0) T.c_Board.cl T.p_Board_begin_pick.me (ok_Board_begin_pick T M) (hr.mono (by decide)) T.p_Board_begin_pick.b .nil pass0 (pa_cons (pv 2) pa_nil)))
(pss_cons (ps_expr (pe_call (ok_wake T M) (hr.mono (by decide)) (by rfl) T.p_wake.g T.p_wake.F.kp T.p_wake.b .nil pass0 (pa_cons (pv 0) pa_nil)))
(C8.pss_cut (ps_if (pt_cmpR op_eq (pv 3) pe_str (nomark _))
 (pss_one (ps_expr (pe_call (ok_do_step T M) (hr.mono (by decide)) (by rfl) T.p_do_step.g T.p_do_step.F.kp T.p_do_step.b .nil pass0 (pa_cons (pv 0) pa_nil))))
 (pss_one (ps_if (pt_cmpR op_eq (pv 3) pe_str (nomark _))
 (pss_one (ps_expr (pe_call (ok_do_timer T M) (hr.mono (by decide)) (by rfl) T.p_do_timer.g T.p_do_timer.F.kp T.p_do_timer.b .nil pass0 (pa_cons (pv 0) pa_nil))))
 (pss_one (ps_if (pt_cmpR op_eq (pv 3) pe_str (nomark _))
 (pss_one (ps_expr (pe_call (ok_do_request T M) (hr.mono (by decide)) (by rfl) T.p_do_request.g T.p_do_request.F.kp T.p_do_request.b .nil pass0 (pa_cons (pv 0) pa_nil))))
 pss_nil)))))
(pss_one (ps_ret (pe_meth0 (pv 0) T.c_Board.cl T.p_Board_end_pick.me (ok_Board_end_pick T M) (hr.mono (by decide)) T.p_Board_end_pick.b .nil pass0))))))), ?_⟩
    walk_at "mgo"
    refine ⟨p, _, rfl, R.sqT hp, rfl, _, _, rfl, _, _, rfl, rfl, ?_⟩
    walk_at "mgo"
    refine ⟨ad, S, k, cpu, rfl, O, hcpu, fun H1 B1 m1 => ?_⟩
    walk_at "mgo"
    refine ⟨ad, MM.begin' S cpu, k, rfl, ⟨B1, W1, O.hk, O.pl⟩, by omega, fun H2 B2 m2 => ?_⟩
    have m02 : MM.Mv1 (clOf T kd CM) S ad H H2 := MM.Mvd.trans (Nat.le_refl _) m1 m2
    have e2 : (MM.wake (MM.begin' S cpu)).mem.length = S.mem.length := s2.nm
    have l2 : (MM.wake (MM.begin' S cpu)).ths.length = S.ths.length := l2
    obtain ⟨n3, k3, r3, W3⟩ := MM.doPick_ok (kd := kd) (what := what) W hcpu
    have e3 : (MM.doPick kd S cpu what).mem.length = S.mem.length := by
      have h := congrArg List.length k3
      rwa [List.length_map, List.length_map] at h
    have jn : ∀ {a1 : MM.Tg → Addr} {Ha Hb : Hp}, MM.Mv1 (clOf T kd CM) S ad H Ha → MM.Mv2 (clOf T kd CM) (MM.wake (MM.begin' S cpu)) ad a1 Ha Hb → MM.Mv2 (clOf T kd CM) S ad a1 H Hb := fun {a1 Ha Hb} x y => by
      have y : MM.Mvd kd (MM.wake (MM.begin' S cpu)).ths.length (MM.wake (MM.begin' S cpu)).mem.length ad a1 Ha Hb := y
      rw [l2, e2] at y
      exact MM.Mvd.trans (Nat.le_refl _) x y
    have O2 : MM.Ok (clOf T kd CM) ad (MM.wake (MM.begin' S cpu)) H2 (k + 8) := ⟨B2, W2, by omega, pl2⟩
    have pk : MM.doPick kd S cpu what = (if what = "step" then MM.doStep kd (MM.wake (MM.begin' S cpu)) else if what = "timer" then MM.doTimer (MM.wake (MM.begin' S cpu)) else if what = "device" then MM.doRequest (MM.wake (MM.begin' S cpu)) else MM.wake (MM.begin' S cpu)) := rfl
    generalize MM.wake (MM.begin' S cpu) = Sw at *
    walk_at "mgo"
    refine R.r_cut (fun σ H' => ∃ ad', σ = [some (.ref (ad .brd)), some (.ref p), some (.int (cpu : Int)), some (.str what)] ∧ MM.Bd (clOf T kd CM) ad' (MM.doPick kd S cpu what) H' ∧ MM.Mv2 (clOf T kd CM) S ad ad' H H') ?_ ?_
    · rw [pk]
      walk_at "mgo"
      refine R.r_ite (fun e => ?_) (fun e => ?_)
      · rw [if_pos e]
        walk_at "mgo"
        refine ⟨ad, Sw, _, rfl, O2, by omega, fun ad' H' b m => ?_⟩
        walk_at "mgo"
        exact ⟨ad', rfl, b, jn m02 m⟩
      rw [if_neg e]
      walk_at "mgo"
      refine R.r_ite (fun e => ?_) (fun e => ?_)
      · rw [if_pos e]
        walk_at "mgo"
        refine ⟨ad, Sw, _, rfl, O2, by omega, fun H' b m => ?_⟩
        walk_at "mgo"
        exact ⟨ad, rfl, b, jn m02 m⟩
      rw [if_neg e]
      walk_at "mgo"
      refine R.r_ite (fun e => ?_) (fun e => ?_)
      · rw [if_pos e]
        walk_at "mgo"
        refine ⟨ad, Sw, _, rfl, O2, by omega, fun H' b m => ?_⟩
        walk_at "mgo"
        exact ⟨ad, rfl, b, jn m02 m⟩
      · rw [if_neg e]
        walk_at "mgo"
        exact ⟨ad, rfl, B2, m02⟩
    · rintro σ H3 ⟨ad', rfl, B3, m3⟩
      have eb : ad' .brd = ad .brd := m3.ag .brd nofun trivial
      have sm3 : MM.Pl (clOf T kd CM) (MM.doPick kd S cpu what) := fun h => by rw [k3]; exact O.pl h
      rw [← eb]
      generalize MM.doPick kd S cpu what = S3 at *
      walk_at "mgo"
      refine ⟨ad', S3, _, rfl, ⟨B3, W3, by omega, sm3⟩, fun ad2 H4 v vw B4 m4 ev av nv er => ?_⟩
      refine q ad2 H4 v vw B4 ?_ ev av (fun t z => ?_) (fun o eo => ?_)
      · have m4 : MM.Mvd kd S3.ths.length S3.mem.length ad' ad2 H3 H4 := m4
        rw [e3] at m4
        exact MM.Mvd.trans n3 m3 m4
      · by_cases d : MM.dom kd S3.ths.length S3.mem.length t
        · exact nv t d z
        · exact nv .brd trivial ((B4.out t d).symm.trans z)
      · rcases m3.nw .vwsL with ⟨u, hu⟩ | hn
        · exact ⟨u, hu.trans er⟩
        · rw [er, eo] at hn
          cases hn
end
end K60
end
section
local macro_rules | `(tactic| walk_at "s1") => `(tactic| first
  | ((with_reducible apply R.r_var); · rfl)
  | with_reducible apply R.r_c
  | with_reducible apply R.r_op
  | with_reducible apply R.r_I0
  | with_reducible apply R.r_cb
  | with_reducible apply R.r_cons
  | with_reducible apply R.r_nil
  | with_reducible apply R.r_seq
  | with_reducible apply R.r_asg
  | with_reducible apply R.r_ret
  | with_reducible apply R.r_ifS
  | with_reducible apply R.r_test
  | with_reducible apply R.r_t
  | with_reducible apply R.r_f
  | with_reducible apply R.r_nt
  | with_reducible apply R.r_nf
  | with_reducible apply R.r_bl
  | with_reducible apply R.r_U
  | with_reducible apply R.r_un
  | with_reducible apply R.r_eqI
  | with_reducible apply R.r_eqS
  | with_reducible apply R.r_neI
  | with_reducible apply R.r_neS
  | with_reducible apply R.r_and
  | with_reducible apply R.r_or
  | with_reducible apply R.r_not
  | with_reducible apply R.r_andV
  | with_reducible apply R.r_orV
  | with_reducible apply R.r_notV
  | with_reducible apply R.r_blV
  | with_reducible apply R.r_B
  | with_reducible apply R.r_ifE
  | with_reducible apply R.r_tup
  | with_reducible apply R.r_lst
  | with_reducible apply R.r_call
  | with_reducible apply R.r_drop
  | with_reducible apply R.r_next
  | with_reducible apply R.r_abs
  | with_reducible apply R.r_int1
  | with_reducible apply R.r_int1b
  | with_reducible apply R.r_min2
  | with_reducible apply R.r_bm
  | with_reducible apply R.r_bm0
  | with_reducible apply R.r_dget
  | with_reducible apply R.r_dput
  | with_reducible apply R.r_disp
  | with_reducible apply R.r_pnil
  | with_reducible apply R.r_pcons
  | with_reducible apply R.r_fld
  | with_reducible apply R.r_slice
  | with_reducible apply R.r_nopart
  | with_reducible apply R.r_part
  | with_reducible apply R.r_int
  | with_reducible apply R.r_yes
  | with_reducible apply R.r_retN
  | with_reducible apply R.r_asgG
  | with_reducible apply R.r_gname
  | with_reducible apply R.r_rng1
  | with_reducible apply R.r_brk
  | with_reducible apply R.r_cnt
  | with_reducible apply R.r_m1
  | with_reducible apply R.r_lcr
  | with_reducible apply R.r_p2_63
  | with_reducible apply R.r_p2_64
  | with_reducible apply R.r_p2_32
  | with_reducible apply R.r_p2_31
  | with_reducible apply R.r_p10_18
  | with_reducible apply R.r_p10_30
  | with_reducible refine R.r_mod (by omega) ?_
  | with_reducible refine R.r_div (by omega) ?_
  | with_reducible refine R.r_mulR (by omega) ?_
  | with_reducible refine R.r_mulL (by omega) ?_
  | with_reducible refine R.r_iteY (by decide +kernel) ?_
  | with_reducible refine R.r_iteF (by decide +kernel) ?_
  | with_reducible refine R.r_isi R.isi_int ?_
  | with_reducible refine R.r_isi R.isi_intB ?_)
local macro_rules | `(tactic| walk_at "go") => `(tactic| repeat (walk_at "s1"))

set_option hygiene false
local macro_rules | `(tactic| walk_at "m1") => `(tactic| first
  | walk_at "s1"
  | with_reducible apply MM.r_meth
  | with_reducible apply MM.r_make
  | with_reducible apply MM.r_din
  | with_reducible apply MM.r_dnotin
  | with_reducible apply MM.r_dget2
  | with_reducible apply MM.r_dpop1
  | with_reducible apply MM.r_sfld
  | with_reducible apply MM.r_gsub
  | with_reducible apply MM.r_augS
  | with_reducible apply MM.r_ip
  | ((with_reducible refine MM.q_threads ?_ ‹MM.Bd _ _ _ _› ?_); exact hC)
  | ((with_reducible refine MM.q_memories ?_ ‹MM.Bd _ _ _ _› ?_); exact hC)
  | ((with_reducible refine MM.q_ready ?_ ‹MM.Bd _ _ _ _› ?_); exact hC)
  | ((with_reducible refine MM.q_times ?_ ‹MM.Bd _ _ _ _› ?_); exact hC)
  | ((with_reducible refine MM.q_running ?_ ‹MM.Bd _ _ _ _› ?_); exact hC)
  | ((with_reducible refine MM.q_dev ?_ ‹MM.Bd _ _ _ _› ?_); exact hC)
  | ((with_reducible refine MM.q_requests ?_ ‹MM.Bd _ _ _ _› ?_); exact hC)
  | ((with_reducible refine MM.q_cpu ?_ ‹MM.Bd _ _ _ _› ?_); exact hC)
  | ((with_reducible refine MM.q_views ?_ ‹MM.Bd _ _ _ _› ?_); exact hC)
  | ((with_reducible refine MM.q_pid ?_ ‹MM.Bd _ _ _ _› (by first | assumption | omega) ?_); exact hC)
  | ((with_reducible refine MM.q_pc ?_ ‹MM.Bd _ _ _ _› (by first | assumption | omega) ?_); exact hC)
  | ((with_reducible refine MM.q_regs ?_ ‹MM.Bd _ _ _ _› (by first | assumption | omega) ?_); exact hC)
  | ((with_reducible refine MM.q_call ?_ ‹MM.Bd _ _ _ _› (by first | assumption | omega) ?_); exact hC)
  | ((with_reducible refine MM.q_callAt ?_ ‹MM.Bd _ _ _ _› (by first | assumption | omega) ?_); exact hC)
  | with_reducible refine MM.q_ixThs ‹MM.Bd _ _ _ _› (by first | assumption | omega) ?_
  | with_reducible refine MM.q_ixMem ‹MM.Bd _ _ _ _› (by first | assumption | omega) ?_
  | with_reducible refine MM.q_ixTim ‹MM.Bd _ _ _ _› (by first | assumption | omega) ?_
  | with_reducible refine MM.q_ixRun ‹MM.Bd _ _ _ _› (by first | assumption | omega) ?_
  | with_reducible refine MM.q_ixRgs ‹MM.Bd _ _ _ _› ‹MM.WF _ _› (by first | assumption | omega) (by omega) (by omega) ?_
  | with_reducible refine MM.q_lenThs ‹MM.Bd _ _ _ _› ?_
  | ((with_reducible refine MM.q_mBrd ‹MM.Bd _ _ _ _› ?_ ?_); (intro _ _ _ _; rfl))
  | ((with_reducible refine MM.q_mMem ‹MM.Bd _ _ _ _› (by first | assumption | omega) ?_ ?_); (intro _ _ kd'; cases kd' <;> rfl))
  | with_reducible refine ⟨MM.ty_vws ‹MM.Bd _ _ _ _›, ?_⟩
  | with_reducible refine ⟨MM.ty_rdy ‹MM.Bd _ _ _ _›, ?_⟩
  | with_reducible refine ⟨MM.ty_ths ‹MM.Bd _ _ _ _›, ?_⟩
  | with_reducible refine ⟨MM.ty_req ‹MM.Bd _ _ _ _›, ?_⟩)
local macro_rules | `(tactic| walk_at "mgo") => `(tactic| repeat (walk_at "m1"))
set_option hygiene true

namespace K60
open PySem PySem.Spec PyProof.Rows L2
section
variable {P : Program} {w : World} {K : PySem.W.Frag} {mg : Str → Option Value} {base : Heap}
/-! ### plain memory -/
abbrev cP {K : PySem.W.Frag} {mg : Str → Option Value} (T : Txt K mg) : MM.Cl := clOf T false T.c_PlainMemory.a
theorem ok_PlainMemory_load (T : Txt K mg) : FnOk P w K mg base CX0 1 T.p_PlainMemory_load.f T.p_PlainMemory_load.fd ["self", "at"] (MM.spLoad (cP T)) := by
  refine T.p_PlainMemory_load.F.ok sc_PlainMemory_load (fun vs H Q E h => ?_) (fun cdv A outer s H vs Q E hr h => ?_)
  · obtain ⟨ad, S, k, i, a, rfl, _⟩ := h
    rfl
  · obtain ⟨ad, S, k, i, a, rfl, O, hi, q⟩ := h
    have B := O.B
    have hm := MM.mm_get hi
    have mok := O.W.mm _ (MM.mm_mem hi)
    have kn := O.pl.nil rfl (MM.mm_mem hi)
    obtain ⟨dx, e⟩ := B.memI hm
    have ev : (S.mm i).load a = (S.mm i).cells.getD (a % 256).toNat 0 := by unfold MM.Mm.load; rw [kn]; rfl
    rw [ev] at q
    refine ⟨_, (pss_one (ps_ret (pe_ix ix_list (pe_fld (pv 0) rfl) (pe_op op_mod (pv 1) (pe_glob (by rfl) T.c_ADDRESSES T.r_ADDRESSES)) (fun _ _ => rfl)))), ?_⟩
    walk_at "mgo"
    refine MM.q_fldM T.c_PlainMemory.cl T.n_PlainMemory.cells e ?_
    walk_at "mgo"
    exact MM.q_ixCls B hm (by omega) (by rw [mok.len]; omega) q
theorem ok_PlainMemory_store (T : Txt K mg) : FnOk P w K mg base CX0 1 T.p_PlainMemory_store.f T.p_PlainMemory_store.fd ["self", "at", "byte"] (MM.spStore (cP T)) := by
  refine T.p_PlainMemory_store.F.ok sc_PlainMemory_store (fun vs H Q E h => ?_) (fun cdv A outer s H vs Q E hr h => ?_)
  · obtain ⟨ad, S, k, i, a, b, rfl, _⟩ := h
    rfl
  · obtain ⟨ad, S, k, i, a, b, rfl, O, hi, q⟩ := h
    have B := O.B
    have hm := MM.mm_get hi
    have mok := O.W.mm _ (MM.mm_mem hi)
    have kn := O.pl.nil rfl (MM.mm_mem hi)
    obtain ⟨dx, e⟩ := B.memI hm
    have ev : (S.mm i).store a b = { S.mm i with cells := (S.mm i).cells.set (a % 256).toNat b } := by
      unfold MM.Mm.store
      rw [if_neg (by rw [kn]; exact Bool.false_ne_true)]
    rw [ev] at q
    refine ⟨_, (pss_one (ps_asg (pv 2) (pg_sub (pe_fld (pv 0) rfl) (pe_op op_mod (pv 1) (pe_glob (by rfl) T.c_ADDRESSES T.r_ADDRESSES)) set_list))), ?_⟩
    walk_at "mgo"
    refine MM.q_fldM T.c_PlainMemory.cl T.n_PlainMemory.cells e ?_
    walk_at "mgo"
    exact MM.q_setCls B hm (by omega) (by rw [mok.len]; omega) q
theorem ok_PlainMemory_image (T : Txt K mg) : FnOk P w K mg base CX0 1 T.p_PlainMemory_image.f T.p_PlainMemory_image.fd ["self"] (MM.spImage (cP T)) := by
  refine T.p_PlainMemory_image.F.ok sc_PlainMemory_image (fun vs H Q E h => ?_) (fun cdv A outer s H vs Q E hr h => ?_)
  · obtain ⟨ad, S, k, i, rfl, _⟩ := h
    rfl
  · obtain ⟨ad, S, k, i, rfl, O, hi, q⟩ := h
    have B := O.B
    have hm := MM.mm_get hi
    have kn := O.pl.nil rfl (MM.mm_mem hi)
    obtain ⟨dx, e⟩ := B.memI hm
    have ev : (S.mm i).img = (S.mm i).cells := by unfold MM.Mm.img; rw [kn]; rfl
    rw [ev] at q
    refine ⟨_, (pss_one (ps_ret (pe_callTy MM.cTupOf (by rfl) T.m_tuple (by decide +kernel) (pa_cons (pe_fld (pv 0) rfl) pa_nil)))), ?_⟩
    walk_at "mgo"
    refine MM.q_fldM T.c_PlainMemory.cl T.n_PlainMemory.cells e ?_
    walk_at "mgo"
    refine ⟨_, _, rfl, .inl ⟨R.sqL (B.cls hm).1, fun p hp => ?_⟩⟩
    exact q p _ hp (R.same_new hp) upd_same
theorem ok_PlainMemory_tells (T : Txt K mg) : FnOk P w K mg base CX0 1 T.p_PlainMemory_tells.f T.p_PlainMemory_tells.fd ["self", "_"] (MM.spTells (cP T)) := by
  refine T.p_PlainMemory_tells.F.ok sc_PlainMemory_tells (fun vs H Q E h => ?_) (fun cdv A outer s H vs Q E hr h => ?_)
  · obtain ⟨ad, S, k, i, a, rfl, _⟩ := h
    rfl
  · obtain ⟨ad, S, k, i, a, rfl, O, hi, q⟩ := h
    refine ⟨_, (pss_one (ps_ret pe_bl)), ?_⟩
    walk_at "mgo"
    exact q
def memP (T : Txt K mg) : MM.MemI P w K mg base (cP T) where
  cc := T.c_PlainMemory.cl
  nCells := T.n_PlainMemory.cells
  f_load := _
  d_load := _
  m_load := T.p_PlainMemory_load.me
  ok_load := ok_PlainMemory_load T
  b_load := T.p_PlainMemory_load.b
  f_store := _
  d_store := _
  m_store := T.p_PlainMemory_store.me
  ok_store := ok_PlainMemory_store T
  b_store := T.p_PlainMemory_store.b
  f_image := _
  d_image := _
  m_image := T.p_PlainMemory_image.me
  ok_image := ok_PlainMemory_image T
  b_image := T.p_PlainMemory_image.b
  ps_tells := _
  f_tells := _
  d_tells := _
  m_tells := T.p_PlainMemory_tells.me
  ok_tells := ok_PlainMemory_tells T
  b_tells := T.p_PlainMemory_tells.b
/-! ### memory with stops -/
end
end K60
end
section
local macro_rules | `(tactic| walk_at "s1") => `(tactic| first
  | ((with_reducible apply R.r_var); · rfl)
  | with_reducible apply R.r_c
  | with_reducible apply R.r_op
  | with_reducible apply R.r_I0
  | with_reducible apply R.r_cb
  | with_reducible apply R.r_cons
  | with_reducible apply R.r_nil
  | with_reducible apply R.r_seq
  | with_reducible apply R.r_asg
  | with_reducible apply R.r_ret
  | with_reducible apply R.r_ifS
  | with_reducible apply R.r_test
  | with_reducible apply R.r_t
  | with_reducible apply R.r_f
  | with_reducible apply R.r_nt
  | with_reducible apply R.r_nf
  | with_reducible apply R.r_bl
  | with_reducible apply R.r_U
  | with_reducible apply R.r_un
  | with_reducible apply R.r_eqI
  | with_reducible apply R.r_eqS
  | with_reducible apply R.r_neI
  | with_reducible apply R.r_neS
  | with_reducible apply R.r_and
  | with_reducible apply R.r_or
  | with_reducible apply R.r_not
  | with_reducible apply R.r_andV
  | with_reducible apply R.r_orV
  | with_reducible apply R.r_notV
  | with_reducible apply R.r_blV
  | with_reducible apply R.r_B
  | with_reducible apply R.r_ifE
  | with_reducible apply R.r_tup
  | with_reducible apply R.r_lst
  | with_reducible apply R.r_call
  | with_reducible apply R.r_drop
  | with_reducible apply R.r_next
  | with_reducible apply R.r_abs
  | with_reducible apply R.r_int1
  | with_reducible apply R.r_int1b
  | with_reducible apply R.r_min2
  | with_reducible apply R.r_bm
  | with_reducible apply R.r_bm0
  | with_reducible apply R.r_dget
  | with_reducible apply R.r_dput
  | with_reducible apply R.r_disp
  | with_reducible apply R.r_pnil
  | with_reducible apply R.r_pcons
  | with_reducible apply R.r_fld
  | with_reducible apply R.r_slice
  | with_reducible apply R.r_nopart
  | with_reducible apply R.r_part
  | with_reducible apply R.r_int
  | with_reducible apply R.r_yes
  | with_reducible apply R.r_retN
  | with_reducible apply R.r_asgG
  | with_reducible apply R.r_gname
  | with_reducible apply R.r_rng1
  | with_reducible apply R.r_brk
  | with_reducible apply R.r_cnt
  | with_reducible apply R.r_m1
  | with_reducible apply R.r_lcr
  | with_reducible apply R.r_p2_63
  | with_reducible apply R.r_p2_64
  | with_reducible apply R.r_p2_32
  | with_reducible apply R.r_p2_31
  | with_reducible apply R.r_p10_18
  | with_reducible apply R.r_p10_30
  | with_reducible refine R.r_mod (by omega) ?_
  | with_reducible refine R.r_div (by omega) ?_
  | with_reducible refine R.r_mulR (by omega) ?_
  | with_reducible refine R.r_mulL (by omega) ?_
  | with_reducible refine R.r_iteY (by decide +kernel) ?_
  | with_reducible refine R.r_iteF (by decide +kernel) ?_
  | with_reducible refine R.r_isi R.isi_int ?_
  | with_reducible refine R.r_isi R.isi_intB ?_)
local macro_rules | `(tactic| walk_at "go") => `(tactic| repeat (walk_at "s1"))

set_option hygiene false
local macro_rules | `(tactic| walk_at "m1") => `(tactic| first
  | walk_at "s1"
  | with_reducible apply MM.r_meth
  | with_reducible apply MM.r_make
  | with_reducible apply MM.r_din
  | with_reducible apply MM.r_dnotin
  | with_reducible apply MM.r_dget2
  | with_reducible apply MM.r_dpop1
  | with_reducible apply MM.r_sfld
  | with_reducible apply MM.r_gsub
  | with_reducible apply MM.r_augS
  | with_reducible apply MM.r_ip
  | ((with_reducible refine MM.q_threads ?_ ‹MM.Bd _ _ _ _› ?_); exact hC)
  | ((with_reducible refine MM.q_memories ?_ ‹MM.Bd _ _ _ _› ?_); exact hC)
  | ((with_reducible refine MM.q_ready ?_ ‹MM.Bd _ _ _ _› ?_); exact hC)
  | ((with_reducible refine MM.q_times ?_ ‹MM.Bd _ _ _ _› ?_); exact hC)
  | ((with_reducible refine MM.q_running ?_ ‹MM.Bd _ _ _ _› ?_); exact hC)
  | ((with_reducible refine MM.q_dev ?_ ‹MM.Bd _ _ _ _› ?_); exact hC)
  | ((with_reducible refine MM.q_requests ?_ ‹MM.Bd _ _ _ _› ?_); exact hC)
  | ((with_reducible refine MM.q_cpu ?_ ‹MM.Bd _ _ _ _› ?_); exact hC)
  | ((with_reducible refine MM.q_views ?_ ‹MM.Bd _ _ _ _› ?_); exact hC)
  | ((with_reducible refine MM.q_pid ?_ ‹MM.Bd _ _ _ _› (by first | assumption | omega) ?_); exact hC)
  | ((with_reducible refine MM.q_pc ?_ ‹MM.Bd _ _ _ _› (by first | assumption | omega) ?_); exact hC)
  | ((with_reducible refine MM.q_regs ?_ ‹MM.Bd _ _ _ _› (by first | assumption | omega) ?_); exact hC)
  | ((with_reducible refine MM.q_call ?_ ‹MM.Bd _ _ _ _› (by first | assumption | omega) ?_); exact hC)
  | ((with_reducible refine MM.q_callAt ?_ ‹MM.Bd _ _ _ _› (by first | assumption | omega) ?_); exact hC)
  | with_reducible refine MM.q_ixThs ‹MM.Bd _ _ _ _› (by first | assumption | omega) ?_
  | with_reducible refine MM.q_ixMem ‹MM.Bd _ _ _ _› (by first | assumption | omega) ?_
  | with_reducible refine MM.q_ixTim ‹MM.Bd _ _ _ _› (by first | assumption | omega) ?_
  | with_reducible refine MM.q_ixRun ‹MM.Bd _ _ _ _› (by first | assumption | omega) ?_
  | with_reducible refine MM.q_ixRgs ‹MM.Bd _ _ _ _› ‹MM.WF _ _› (by first | assumption | omega) (by omega) (by omega) ?_
  | with_reducible refine MM.q_lenThs ‹MM.Bd _ _ _ _› ?_
  | ((with_reducible refine MM.q_mBrd ‹MM.Bd _ _ _ _› ?_ ?_); (intro _ _ _ _; rfl))
  | ((with_reducible refine MM.q_mMem ‹MM.Bd _ _ _ _› (by first | assumption | omega) ?_ ?_); (intro _ _ kd'; cases kd' <;> rfl))
  | with_reducible refine ⟨MM.ty_vws ‹MM.Bd _ _ _ _›, ?_⟩
  | with_reducible refine ⟨MM.ty_rdy ‹MM.Bd _ _ _ _›, ?_⟩
  | with_reducible refine ⟨MM.ty_ths ‹MM.Bd _ _ _ _›, ?_⟩
  | with_reducible refine ⟨MM.ty_req ‹MM.Bd _ _ _ _›, ?_⟩)
local macro_rules | `(tactic| walk_at "mgo") => `(tactic| repeat (walk_at "m1"))
set_option hygiene true

namespace K60
open PySem PySem.Spec PyProof.Rows L2
section
variable {P : Program} {w : World} {K : PySem.W.Frag} {mg : Str → Option Value} {base : Heap}
def spRaw (c : MM.Cl) : Sp := fun vs H Q _ => ∃ ad S k i, vs = [.ref (ad (.mem i))] ∧ MM.Ok c ad S H k ∧ i < S.mem.length ∧ ∀ p H', H p = none → Same H H' → H' p = some (.tup ((S.mm i).cells.map V.int)) → Q (.ref p) H'
def spSet (c : MM.Cl) : Sp := fun vs H Q _ => ∃ ad S k i a, vs = [.ref (ad (.mem i)), .int a] ∧ 0 ≤ a ∧ a < 256 ∧ MM.Ok c ad S H k ∧ i < S.mem.length ∧ ∀ H', MM.Bd c ad (S.setMm i ((S.mm i).setStop a)) H' → MM.Mv1 c S ad H H' → Q .non H'
def spClear (c : MM.Cl) : Sp := fun vs H Q _ => ∃ ad S k i a, vs = [.ref (ad (.mem i)), .int a] ∧ 0 ≤ a ∧ a < 256 ∧ MM.Ok c ad S H k ∧ i < S.mem.length ∧ ∀ H', MM.Bd c ad (S.setMm i ((S.mm i).clearStop a)) H' → MM.Mv1 c S ad H H' → Q .non H'
def spStops (c : MM.Cl) : Sp := fun vs H Q _ => ∃ ad S k i, vs = [.ref (ad (.mem i))] ∧ MM.Ok c ad S H k ∧ i < S.mem.length ∧ ∀ (ns : List Int) p H', ns.Perm ((S.mm i).kept.map (·.1)) → ns.Pairwise (· ≤ ·) → H p = none → Same H H' → H' p = some (.lst (ns.map V.int)) → Q (.ref p) H'
end
end K60
end
section
local macro_rules | `(tactic| walk_at "s1") => `(tactic| first
  | ((with_reducible apply R.r_var); · rfl)
  | with_reducible apply R.r_c
  | with_reducible apply R.r_op
  | with_reducible apply R.r_I0
  | with_reducible apply R.r_cb
  | with_reducible apply R.r_cons
  | with_reducible apply R.r_nil
  | with_reducible apply R.r_seq
  | with_reducible apply R.r_asg
  | with_reducible apply R.r_ret
  | with_reducible apply R.r_ifS
  | with_reducible apply R.r_test
  | with_reducible apply R.r_t
  | with_reducible apply R.r_f
  | with_reducible apply R.r_nt
  | with_reducible apply R.r_nf
  | with_reducible apply R.r_bl
  | with_reducible apply R.r_U
  | with_reducible apply R.r_un
  | with_reducible apply R.r_eqI
  | with_reducible apply R.r_eqS
  | with_reducible apply R.r_neI
  | with_reducible apply R.r_neS
  | with_reducible apply R.r_and
  | with_reducible apply R.r_or
  | with_reducible apply R.r_not
  | with_reducible apply R.r_andV
  | with_reducible apply R.r_orV
  | with_reducible apply R.r_notV
  | with_reducible apply R.r_blV
  | with_reducible apply R.r_B
  | with_reducible apply R.r_ifE
  | with_reducible apply R.r_tup
  | with_reducible apply R.r_lst
  | with_reducible apply R.r_call
  | with_reducible apply R.r_drop
  | with_reducible apply R.r_next
  | with_reducible apply R.r_abs
  | with_reducible apply R.r_int1
  | with_reducible apply R.r_int1b
  | with_reducible apply R.r_min2
  | with_reducible apply R.r_bm
  | with_reducible apply R.r_bm0
  | with_reducible apply R.r_dget
  | with_reducible apply R.r_dput
  | with_reducible apply R.r_disp
  | with_reducible apply R.r_pnil
  | with_reducible apply R.r_pcons
  | with_reducible apply R.r_fld
  | with_reducible apply R.r_slice
  | with_reducible apply R.r_nopart
  | with_reducible apply R.r_part
  | with_reducible apply R.r_int
  | with_reducible apply R.r_yes
  | with_reducible apply R.r_retN
  | with_reducible apply R.r_asgG
  | with_reducible apply R.r_gname
  | with_reducible apply R.r_rng1
  | with_reducible apply R.r_brk
  | with_reducible apply R.r_cnt
  | with_reducible apply R.r_m1
  | with_reducible apply R.r_lcr
  | with_reducible apply R.r_p2_63
  | with_reducible apply R.r_p2_64
  | with_reducible apply R.r_p2_32
  | with_reducible apply R.r_p2_31
  | with_reducible apply R.r_p10_18
  | with_reducible apply R.r_p10_30
  | with_reducible refine R.r_mod (by omega) ?_
  | with_reducible refine R.r_div (by omega) ?_
  | with_reducible refine R.r_mulR (by omega) ?_
  | with_reducible refine R.r_mulL (by omega) ?_
  | with_reducible refine R.r_iteY (by decide +kernel) ?_
  | with_reducible refine R.r_iteF (by decide +kernel) ?_
  | with_reducible refine R.r_isi R.isi_int ?_
  | with_reducible refine R.r_isi R.isi_intB ?_)
local macro_rules | `(tactic| walk_at "go") => `(tactic| repeat (walk_at "s1"))

set_option hygiene false
local macro_rules | `(tactic| walk_at "m1") => `(tactic| first
  | walk_at "s1"
  | with_reducible apply MM.r_meth
  | with_reducible apply MM.r_make
  | with_reducible apply MM.r_din
  | with_reducible apply MM.r_dnotin
  | with_reducible apply MM.r_dget2
  | with_reducible apply MM.r_dpop1
  | with_reducible apply MM.r_sfld
  | with_reducible apply MM.r_gsub
  | with_reducible apply MM.r_augS
  | with_reducible apply MM.r_ip
  | ((with_reducible refine MM.q_threads ?_ ‹MM.Bd _ _ _ _› ?_); exact hC)
  | ((with_reducible refine MM.q_memories ?_ ‹MM.Bd _ _ _ _› ?_); exact hC)
  | ((with_reducible refine MM.q_ready ?_ ‹MM.Bd _ _ _ _› ?_); exact hC)
  | ((with_reducible refine MM.q_times ?_ ‹MM.Bd _ _ _ _› ?_); exact hC)
  | ((with_reducible refine MM.q_running ?_ ‹MM.Bd _ _ _ _› ?_); exact hC)
  | ((with_reducible refine MM.q_dev ?_ ‹MM.Bd _ _ _ _› ?_); exact hC)
  | ((with_reducible refine MM.q_requests ?_ ‹MM.Bd _ _ _ _› ?_); exact hC)
  | ((with_reducible refine MM.q_cpu ?_ ‹MM.Bd _ _ _ _› ?_); exact hC)
  | ((with_reducible refine MM.q_views ?_ ‹MM.Bd _ _ _ _› ?_); exact hC)
  | ((with_reducible refine MM.q_pid ?_ ‹MM.Bd _ _ _ _› (by first | assumption | omega) ?_); exact hC)
  | ((with_reducible refine MM.q_pc ?_ ‹MM.Bd _ _ _ _› (by first | assumption | omega) ?_); exact hC)
  | ((with_reducible refine MM.q_regs ?_ ‹MM.Bd _ _ _ _› (by first | assumption | omega) ?_); exact hC)
  | ((with_reducible refine MM.q_call ?_ ‹MM.Bd _ _ _ _› (by first | assumption | omega) ?_); exact hC)
  | ((with_reducible refine MM.q_callAt ?_ ‹MM.Bd _ _ _ _› (by first | assumption | omega) ?_); exact hC)
  | with_reducible refine MM.q_ixThs ‹MM.Bd _ _ _ _› (by first | assumption | omega) ?_
  | with_reducible refine MM.q_ixMem ‹MM.Bd _ _ _ _› (by first | assumption | omega) ?_
  | with_reducible refine MM.q_ixTim ‹MM.Bd _ _ _ _› (by first | assumption | omega) ?_
  | with_reducible refine MM.q_ixRun ‹MM.Bd _ _ _ _› (by first | assumption | omega) ?_
  | with_reducible refine MM.q_ixRgs ‹MM.Bd _ _ _ _› ‹MM.WF _ _› (by first | assumption | omega) (by omega) (by omega) ?_
  | with_reducible refine MM.q_lenThs ‹MM.Bd _ _ _ _› ?_
  | ((with_reducible refine MM.q_mBrd ‹MM.Bd _ _ _ _› ?_ ?_); (intro _ _ _ _; rfl))
  | ((with_reducible refine MM.q_mMem ‹MM.Bd _ _ _ _› (by first | assumption | omega) ?_ ?_); (intro _ _ kd'; cases kd' <;> rfl))
  | with_reducible refine ⟨MM.ty_vws ‹MM.Bd _ _ _ _›, ?_⟩
  | with_reducible refine ⟨MM.ty_rdy ‹MM.Bd _ _ _ _›, ?_⟩
  | with_reducible refine ⟨MM.ty_ths ‹MM.Bd _ _ _ _›, ?_⟩
  | with_reducible refine ⟨MM.ty_req ‹MM.Bd _ _ _ _›, ?_⟩)
local macro_rules | `(tactic| walk_at "mgo") => `(tactic| repeat (walk_at "m1"))
set_option hygiene true

namespace K60
open PySem PySem.Spec PyProof.Rows L2
section
variable {P : Program} {w : World} {K : PySem.W.Frag} {mg : Str → Option Value} {base : Heap} {kd : Bool} {CM : Addr}
theorem ok_Thread_image (T : Txt K mg) (M : MM.MemI P w K mg base (clOf T kd CM)) : FnOk P w K mg base CX0 1 T.p_Thread_image.f T.p_Thread_image.fd ["self"] (MM.spThImage (clOf T kd CM)) := by
  have hC := bdC T M
  refine T.p_Thread_image.F.ok sc_Thread_image (fun vs H Q E h => ?_) (fun cdv A outer s H vs Q E hr h => ?_)
  · obtain ⟨ad, S, k, i, rfl, _⟩ := h
    rfl
  · obtain ⟨ad, S, k, i, rfl, O, hi, q⟩ := h
    have B := O.B
    refine ⟨_, (pss_one (ps_ret (pe_tup (pa_cons (pe_fld (pv 0) rfl) (pa_cons (pe_fld (pv 0) rfl) (pa_cons (pe_callTy MM.cTupOf (by rfl) T.m_tuple (by decide +kernel) (pa_cons (pe_fld (pv 0) rfl) pa_nil)) (pa_cons (pe_fld (pv 0) rfl) pa_nil))))))), ?_⟩
    walk_at "mgo"
    refine ⟨_, _, rfl, .inl ⟨R.sqL (B.rgs (MM.th_get hi)).1, fun r hr' => ?_⟩⟩
    generalize h1 : upd _ r _ = H1
    obtain ⟨s1, x1⟩ := MM.new2 h1 hr'
    have B1 := B.same s1
    walk_at "mgo"
    refine MM.q_cond hC B1 hi fun c0 e0 => ?_
    walk_at "mgo"
    refine ⟨Nat.le_of_ble_eq_true rfl, fun p hp => ?_⟩
    generalize h2 : upd _ p _ = H2
    obtain ⟨s2, x2⟩ := MM.new2 h2 hp
    walk_at "mgo"
    exact q p H2 (s1.trans s2) ⟨r, c0, x2, s2 _ _ x1, s2 _ _ e0⟩
theorem ok_Board_state (T : Txt K mg) (M : MM.MemI P w K mg base (clOf T kd CM)) : FnOk P w K mg base CX0 3 T.p_Board_state.f T.p_Board_state.fd ["self"] (MM.spState K (clOf T kd CM)) := by
  have hC := bdC T M
  refine T.p_Board_state.F.ok sc_Board_state (fun vs H Q E h => ?_) (fun cdv A outer s H vs Q E hr h => ?_)
  · obtain ⟨ad, S, k, rfl, _⟩ := h
    rfl
  · obtain ⟨ad, S, k, rfl, O, q⟩ := h
    have B := O.B
    have W := O.W
    refine ⟨_, (pss_cons (ps_set (i := 1) sc_Board_state.nd rfl (.inl rfl) (pe_callTy MM.cTupOf (by rfl) T.m_tuple (by decide +kernel) (pa_cons (pe_lc (own := [("memory", 2)]) (g := gName 2) (tt := tYes) rfl sc_Board_state.nd (pi_list (pe_fld (pv 0) rfl)) (blkOk_by (own := [("memory", 2)]) (N := N_Board_state) (sc := defScope s_Board_state) (by decide +kernel)) (fun _ _ _ _ _ => (pg_name (i := 2) sc_Board_state.nd rfl (.inl rfl))) (fun _ _ _ _ _ => pts_nil) (fun _ _ _ _ _ => (pe_meth0 (pv 2) M.cc M.m_image M.ok_image (hr.mono (by decide)) M.b_image .nil pass0))) pa_nil)))
(pss_cons (ps_set (i := 3) sc_Board_state.nd rfl (.inl rfl) (pe_callTy MM.cTupOf (by rfl) T.m_tuple (by decide +kernel) (pa_cons (pe_lc (own := [("thread", 4)]) (g := gName 4) (tt := tYes) rfl sc_Board_state.nd (pi_list (pe_fld (pv 0) rfl)) (blkOk_by (own := [("thread", 4)]) (N := N_Board_state) (sc := defScope s_Board_state) (by decide +kernel)) (fun _ _ _ _ _ => (pg_name (i := 4) sc_Board_state.nd rfl (.inl rfl))) (fun _ _ _ _ _ => pts_nil) (fun _ _ _ _ _ => (pe_meth0 (pv 4) T.c_Thread.cl T.p_Thread_image.me (ok_Thread_image T M) (hr.mono (by decide)) T.p_Thread_image.b .nil pass0))) pa_nil)))
(pss_cons (ps_set (i := 5) sc_Board_state.nd rfl (.inl rfl) (pe_callTy MM.cTupOf (by rfl) T.m_tuple (by decide +kernel) (pa_cons (pe_lc (own := [("time", 6), ("tid", 7)]) (g := gTup _ 2 (gCons (gName 6) (gCons (gName 7) gNil))) (tt := tYes) rfl sc_Board_state.nd (pi_zip (by rfl) T.m_zip (pa_cons (pe_fld (pv 0) rfl) (pa_cons (pe_fld (pv 0) rfl) pa_nil))) (blkOk_by (own := [("time", 6), ("tid", 7)]) (N := N_Board_state) (sc := defScope s_Board_state) (by decide +kernel)) (fun _ _ _ _ _ => (pg_tup rfl (pgs_cons (pg_name (i := 6) sc_Board_state.nd rfl (.inl rfl)) (pgs_cons (pg_name (i := 7) sc_Board_state.nd rfl (.inl rfl)) pgs_nil)))) (fun _ _ _ _ _ => pts_nil) (fun _ _ _ _ _ => (pe_tup (pa_cons (pv 6) (pa_cons (pv 7) pa_nil))))) pa_nil)))
(pss_cons (ps_set (i := 8) sc_Board_state.nd rfl (.inl rfl) (pe_tup (pa_cons (pe_fld (pv 0) rfl) (pa_cons (pe_callTy MM.cTupOf (by rfl) T.m_tuple (by decide +kernel) (pa_cons (pe_fld (pv 0) rfl) pa_nil)) pa_nil))))
(pss_one (ps_ret (pe_tup (pa_cons (pv 1) (pa_cons (pv 3) (pa_cons (pe_callTy MM.cTupOf (by rfl) T.m_tuple (by decide +kernel) (pa_cons (pe_fld (pv 0) rfl) pa_nil)) (pa_cons (pv 5) (pa_cons (pv 8) pa_nil)))))))))))), ?_⟩
    walk_at "mgo"
    refine MM.r_lcL ?_
    walk_at "mgo"
    refine ⟨_, rfl, ⟨_, R.sqL B.memAt⟩, ?_⟩
    refine MM.lc_go (walk_list (xs := (List.range S.mem.length).map fun i => V.ref (ad (.mem i)))) (fun D i H' => ∃ ims : List Addr, H' D = some (.lst (ims.map V.ref)) ∧ Same H H' ∧ MM.All2 (MM.ImAt H') ims (S.mem.take i)) ?_ ?_ ?_ ?_
    · intro D hD
      exact ⟨[], upd_same, R.same_new hD, .nil⟩
    · rintro D i H' hD ⟨ims, e, s, al⟩
      exact R.sqL (s _ _ B.memAt)
    · rintro D i x H1 H1' hD hi ⟨ims, e, s, al⟩ ⟨rfl, ex⟩
      have hi : i < S.mem.length := by rwa [List.length_map, List.length_range] at hi
      rw [List.getElem?_map, List.getElem?_range hi] at ex
      obtain rfl := Option.some.inj ex
      refine ⟨rfl, R.r_yes (iteT ?_)⟩
      walk_at "mgo"
      refine MM.q_mMem (B.same s) hi (by intro _ _ kd'; cases kd' <;> rfl) ?_
      walk_at "mgo"
      refine ⟨ad, S, k, i, rfl, O.same s, hi, fun p H2 hp s2 e2 => ?_⟩
      refine ⟨_, s2 _ _ e, R.size_lt ?_, ims ++ [p], ?_, ?_, ?_⟩
      · rw [List.length_map, al.length, List.length_take]
        have := W.nm
        omega
      · rw [upd_same, List.map_append]; rfl
      · intro b o hb
        rw [upd_ne (ne_of_none hb hD)]
        exact s2 _ _ (s _ _ hb)
      · rw [MM.take_snoc (MM.mm_get hi)]
        have kt : MM.KeepT H2 (upd H2 D (.lst ((ims.map V.ref) ++ [.ref p]))) := MM.KeepT.upd (s2 _ _ e) (fun _ => nofun)
        exact MM.All2.snoc (R := MM.ImAt _) (kt _ _ e2) (al.imp fun a m z => kt _ _ (s2 _ _ z))
    · rintro D H1 hD ⟨ims, e, s, al⟩
      rw [List.length_map, List.length_range, List.take_length] at al
      walk_at "mgo"
      refine ⟨_, _, rfl, .inl ⟨R.sqL e, fun pm hpm => ?_⟩⟩
      generalize h2 : upd _ pm _ = H2
      obtain ⟨s2, x2⟩ := MM.new2 h2 hpm
      have S2 := s.trans s2
      have al2 : MM.All2 (MM.ImAt H2) ims S.mem := al.imp fun a m z => s2 _ _ z
      have B2 := B.same S2
      clear e s al hD h2 s2 hpm
      walk_at "mgo"
      refine MM.r_lcL ?_
      walk_at "mgo"
      refine ⟨_, rfl, ⟨_, R.sqL B2.thsAt⟩, ?_⟩
      refine MM.lc_go (walk_list (xs := (List.range S.ths.length).map fun i => V.ref (ad (.thr i)))) (fun D i H' => ∃ ts : List Addr, H' D = some (.lst (ts.map V.ref)) ∧ Same H2 H' ∧ MM.All2 (MM.ThAt H') ts (S.ths.take i)) ?_ ?_ ?_ ?_
      · intro D hD
        exact ⟨[], upd_same, R.same_new hD, .nil⟩
      · rintro D i H' hD ⟨ts, e, s, al⟩
        exact R.sqL (s _ _ B2.thsAt)
      · rintro D i x H3 H3' hD hi ⟨ts, e, s, al⟩ ⟨rfl, ex⟩
        have hi : i < S.ths.length := by rwa [List.length_map, List.length_range] at hi
        rw [List.getElem?_map, List.getElem?_range hi] at ex
        obtain rfl := Option.some.inj ex
        refine ⟨rfl, R.r_yes (iteT ?_)⟩
        walk_at "mgo"
        have B3 := B2.same s
        obtain ⟨dx3, c3, e3, _⟩ := B3.thr (MM.th_get hi)
        refine ⟨_, dx3, _, rfl, e3, rfl, ?_⟩
        walk_at "mgo"
        refine ⟨ad, S, k, i, rfl, O.same (S2.trans s), hi, fun p H4 s4 e4 => ?_⟩
        refine ⟨_, s4 _ _ e, R.size_lt ?_, ts ++ [p], ?_, ?_, ?_⟩
        · rw [List.length_map, al.length, List.length_take]
          have := W.nt
          omega
        · rw [upd_same, List.map_append]; rfl
        · intro b o hb
          rw [upd_ne (ne_of_none hb hD)]
          exact s4 _ _ (s _ _ hb)
        · rw [MM.take_snoc (MM.th_get hi)]
          have kt : MM.KeepT H4 (upd H4 D (.lst ((ts.map V.ref) ++ [.ref p]))) := MM.KeepT.upd (s4 _ _ e) (fun _ => nofun)
          exact MM.All2.snoc (R := MM.ThAt _) (e4.keep kt) (al.imp fun a m z => (z.same s4).keep kt)
      · rintro D H3 hD ⟨ts, e, s, al⟩
        rw [List.length_map, List.length_range, List.take_length] at al
        walk_at "mgo"
        refine ⟨_, _, rfl, .inl ⟨R.sqL e, fun pt hpt => ?_⟩⟩
        generalize h4 : upd _ pt _ = H4
        obtain ⟨s4, x4⟩ := MM.new2 h4 hpt
        have S4 := S2.trans (s.trans s4)
        have al4 : MM.All2 (MM.ThAt H4) ts S.ths := al.imp fun a m z => z.same s4
        have al2 : MM.All2 (MM.ImAt H4) ims S.mem := al2.imp fun a m z => s4 _ _ (s _ _ z)
        have x2 := s4 _ _ (s _ _ x2)
        have B4 := B.same S4
        clear e s al hD h4 s4 hpt B2 S2
        walk_at "mgo"
        refine MM.r_lcZ ?_
        walk_at "mgo"
        refine ⟨_, _, _, _, rfl, R.sqL B4.tim.1, R.sqL B4.rn.1, ?_⟩
        have hz : (S.times.zip S.run).length = S.rates.length := by rw [List.length_zip, W.tim, W.rn]; omega
        refine MM.lc_go (walk_zip (n := S.rates.length) (xs := S.times.map V.int) (ys := S.run.map V.int) (by rw [List.length_map, List.length_map, W.tim, W.rn]; omega)) (fun D i H' => ∃ ps : List Addr, H' D = some (.lst (ps.map V.ref)) ∧ Same H4 H' ∧ MM.All2 (MM.PrAt H') ps ((S.times.zip S.run).take i)) ?_ ?_ ?_ ?_
        · intro D hD
          exact ⟨[], upd_same, R.same_new hD, .nil⟩
        · rintro D i H' hD ⟨ps, e, s, al⟩
          exact ⟨R.sqL (s _ _ B4.tim.1), R.sqL (s _ _ B4.rn.1)⟩
        · rintro D i x H5 H5' hD hi ⟨ps, e, s, al⟩ ⟨t5, x5, y5, rfl, ht5, rfl, ex, ey⟩
          have hx : (S.times.map V.int)[i]? = some x5 := ex
          have hy : (S.run.map V.int)[i]? = some y5 := ey
          have hi1 : i < S.times.length := by rw [W.tim]; exact hi
          have hi2 : i < S.run.length := by rw [W.rn]; exact hi
          rw [MM.getD_get hi1] at hx
          rw [MM.getD_get hi2] at hy
          obtain rfl := Option.some.inj hx
          obtain rfl := Option.some.inj hy
          have ez : (S.times.zip S.run)[i]? = some (S.times.getD i 0, S.run.getD i 0) := by
            rw [List.getElem?_zip_eq_some]
            exact ⟨MM.getD_some hi1, MM.getD_some hi2⟩
          generalize S.times.getD i 0 = tt at *
          generalize S.run.getD i 0 = rr at *
          refine ⟨t5, _, rfl, R.sqT upd_same, rfl, _, _, rfl, _, _, rfl, rfl, ?_⟩
          generalize h6 : upd _ t5 _ = H6
          obtain ⟨s6, x6⟩ := MM.new2 h6 ht5
          refine ⟨rfl, R.r_yes (iteT ?_)⟩
          walk_at "mgo"
          refine ⟨Nat.le_of_ble_eq_true rfl, fun p hp => ?_⟩
          generalize h7 : upd _ p _ = H7
          obtain ⟨s7, x7⟩ := MM.new2 h7 hp
          refine ⟨_, s7 _ _ (s6 _ _ e), R.size_lt ?_, ps ++ [p], ?_, ?_, ?_⟩
          · rw [List.length_map, al.length, List.length_take]
            have hr4 := W.nr
            omega
          · rw [upd_same, List.map_append]; rfl
          · intro b o hb
            rw [upd_ne (ne_of_none hb hD)]
            exact s7 _ _ (s6 _ _ (s _ _ hb))
          · rw [MM.take_snoc ez]
            have kt : MM.KeepT H7 (upd H7 D (.lst ((ps.map V.ref) ++ [.ref p]))) := MM.KeepT.upd (s7 _ _ (s6 _ _ e)) (fun _ => nofun)
            exact MM.All2.snoc (R := MM.PrAt _) (kt _ _ x7) (al.imp fun a m z => kt _ _ (s7 _ _ (s6 _ _ z)))
        · rintro D H5 hD ⟨ps, e, s, al⟩
          rw [← hz, List.take_length] at al
          walk_at "mgo"
          refine ⟨_, _, rfl, .inl ⟨R.sqL e, fun pp hpp => ?_⟩⟩
          generalize h6 : upd _ pp _ = H6
          obtain ⟨s6, x6⟩ := MM.new2 h6 hpp
          have S6 := S4.trans (s.trans s6)
          have B6 := B.same S6
          walk_at "mgo"
          obtain ⟨rq, erq, alq, _⟩ := B6.req
          refine ⟨_, _, rfl, .inl ⟨R.sqL erq, fun pq hpq => ?_⟩⟩
          generalize h7 : upd _ pq _ = H7
          obtain ⟨s7, x7⟩ := MM.new2 h7 hpq
          walk_at "mgo"
          refine ⟨Nat.le_of_ble_eq_true rfl, fun pd hpd => ?_⟩
          generalize h8 : upd _ pd _ = H8
          obtain ⟨s8, x8⟩ := MM.new2 h8 hpd
          have B8 := (B6.same s7).same s8
          walk_at "mgo"
          refine ⟨_, _, rfl, .inl ⟨R.sqL B8.rdy.1, fun py hpy => ?_⟩⟩
          generalize h9 : upd _ py _ = H9
          obtain ⟨s9, x9⟩ := MM.new2 h9 hpy
          walk_at "mgo"
          refine ⟨Nat.le_of_ble_eq_true rfl, fun pz hpz => ?_⟩
          generalize hA : upd _ pz _ = HA
          obtain ⟨sA, xA⟩ := MM.new2 hA hpz
          have s6A := s7.trans (s8.trans (s9.trans sA))
          have s4A := (s.trans s6).trans s6A
          refine q pz pm ims _ HA (S6.trans s6A) xA (s4A _ _ x2) (al2.imp fun _ _ z => s4A _ _ z) ?_
          refine .tup (R.sqT xA) (.cons (.tup (R.sqT (s4A _ _ x2)) (MM.dp_all2 (R := MM.ImAt HA) (fun _ _ z => MM.dp_im z) (al2.imp fun _ _ z => s4A _ _ z)))
            (.cons (.tup (R.sqT (s4A _ _ x4)) (MM.dp_all2 (R := MM.ThAt HA) (fun _ _ z => MM.dp_th z) (al4.imp fun _ _ z => z.same s4A)))
            (.cons (.tup (R.sqT (sA _ _ x9)) (_root_.D.all_map fun _ _ => .int _))
            (.cons (.tup (R.sqT (s6A _ _ x6)) (MM.dp_all2 (R := MM.PrAt HA) (fun _ _ z => MM.dp_pr z) (al.imp fun _ _ z => s6A _ _ (s6 _ _ z))))
            (.cons (.tup (R.sqT (sA _ _ (s9 _ _ x8))) (.cons (.int _) (.cons (.tup (R.sqT (sA _ _ (s9 _ _ (s8 _ _ x7)))) (MM.dp_all2 (R := MM.RqAt HA) (fun _ _ z => MM.dp_rq z) (alq.imp fun _ _ z => s6A _ _ z))) .nil))) .nil)))))
end
end K60
end
section
local macro_rules | `(tactic| walk_at "s1") => `(tactic| first
  | ((with_reducible apply R.r_var); · rfl)
  | with_reducible apply R.r_c
  | with_reducible apply R.r_op
  | with_reducible apply R.r_I0
  | with_reducible apply R.r_cb
  | with_reducible apply R.r_cons
  | with_reducible apply R.r_nil
  | with_reducible apply R.r_seq
  | with_reducible apply R.r_asg
  | with_reducible apply R.r_ret
  | with_reducible apply R.r_ifS
  | with_reducible apply R.r_test
  | with_reducible apply R.r_t
  | with_reducible apply R.r_f
  | with_reducible apply R.r_nt
  | with_reducible apply R.r_nf
  | with_reducible apply R.r_bl
  | with_reducible apply R.r_U
  | with_reducible apply R.r_un
  | with_reducible apply R.r_eqI
  | with_reducible apply R.r_eqS
  | with_reducible apply R.r_neI
  | with_reducible apply R.r_neS
  | with_reducible apply R.r_and
  | with_reducible apply R.r_or
  | with_reducible apply R.r_not
  | with_reducible apply R.r_andV
  | with_reducible apply R.r_orV
  | with_reducible apply R.r_notV
  | with_reducible apply R.r_blV
  | with_reducible apply R.r_B
  | with_reducible apply R.r_ifE
  | with_reducible apply R.r_tup
  | with_reducible apply R.r_lst
  | with_reducible apply R.r_call
  | with_reducible apply R.r_drop
  | with_reducible apply R.r_next
  | with_reducible apply R.r_abs
  | with_reducible apply R.r_int1
  | with_reducible apply R.r_int1b
  | with_reducible apply R.r_min2
  | with_reducible apply R.r_bm
  | with_reducible apply R.r_bm0
  | with_reducible apply R.r_dget
  | with_reducible apply R.r_dput
  | with_reducible apply R.r_disp
  | with_reducible apply R.r_pnil
  | with_reducible apply R.r_pcons
  | with_reducible apply R.r_fld
  | with_reducible apply R.r_slice
  | with_reducible apply R.r_nopart
  | with_reducible apply R.r_part
  | with_reducible apply R.r_int
  | with_reducible apply R.r_yes
  | with_reducible apply R.r_retN
  | with_reducible apply R.r_asgG
  | with_reducible apply R.r_gname
  | with_reducible apply R.r_rng1
  | with_reducible apply R.r_brk
  | with_reducible apply R.r_cnt
  | with_reducible apply R.r_m1
  | with_reducible apply R.r_lcr
  | with_reducible apply R.r_p2_63
  | with_reducible apply R.r_p2_64
  | with_reducible apply R.r_p2_32
  | with_reducible apply R.r_p2_31
  | with_reducible apply R.r_p10_18
  | with_reducible apply R.r_p10_30
  | with_reducible refine R.r_mod (by omega) ?_
  | with_reducible refine R.r_div (by omega) ?_
  | with_reducible refine R.r_mulR (by omega) ?_
  | with_reducible refine R.r_mulL (by omega) ?_
  | with_reducible refine R.r_iteY (by decide +kernel) ?_
  | with_reducible refine R.r_iteF (by decide +kernel) ?_
  | with_reducible refine R.r_isi R.isi_int ?_
  | with_reducible refine R.r_isi R.isi_intB ?_)
local macro_rules | `(tactic| walk_at "go") => `(tactic| repeat (walk_at "s1"))

set_option hygiene false
local macro_rules | `(tactic| walk_at "m1") => `(tactic| first
  | walk_at "s1"
  | with_reducible apply MM.r_meth
  | with_reducible apply MM.r_make
  | with_reducible apply MM.r_din
  | with_reducible apply MM.r_dnotin
  | with_reducible apply MM.r_dget2
  | with_reducible apply MM.r_dpop1
  | with_reducible apply MM.r_sfld
  | with_reducible apply MM.r_gsub
  | with_reducible apply MM.r_augS
  | with_reducible apply MM.r_ip
  | ((with_reducible refine MM.q_threads ?_ ‹MM.Bd _ _ _ _› ?_); exact hC)
  | ((with_reducible refine MM.q_memories ?_ ‹MM.Bd _ _ _ _› ?_); exact hC)
  | ((with_reducible refine MM.q_ready ?_ ‹MM.Bd _ _ _ _› ?_); exact hC)
  | ((with_reducible refine MM.q_times ?_ ‹MM.Bd _ _ _ _› ?_); exact hC)
  | ((with_reducible refine MM.q_running ?_ ‹MM.Bd _ _ _ _› ?_); exact hC)
  | ((with_reducible refine MM.q_dev ?_ ‹MM.Bd _ _ _ _› ?_); exact hC)
  | ((with_reducible refine MM.q_requests ?_ ‹MM.Bd _ _ _ _› ?_); exact hC)
  | ((with_reducible refine MM.q_cpu ?_ ‹MM.Bd _ _ _ _› ?_); exact hC)
  | ((with_reducible refine MM.q_views ?_ ‹MM.Bd _ _ _ _› ?_); exact hC)
  | ((with_reducible refine MM.q_pid ?_ ‹MM.Bd _ _ _ _› (by first | assumption | omega) ?_); exact hC)
  | ((with_reducible refine MM.q_pc ?_ ‹MM.Bd _ _ _ _› (by first | assumption | omega) ?_); exact hC)
  | ((with_reducible refine MM.q_regs ?_ ‹MM.Bd _ _ _ _› (by first | assumption | omega) ?_); exact hC)
  | ((with_reducible refine MM.q_call ?_ ‹MM.Bd _ _ _ _› (by first | assumption | omega) ?_); exact hC)
  | ((with_reducible refine MM.q_callAt ?_ ‹MM.Bd _ _ _ _› (by first | assumption | omega) ?_); exact hC)
  | with_reducible refine MM.q_ixThs ‹MM.Bd _ _ _ _› (by first | assumption | omega) ?_
  | with_reducible refine MM.q_ixMem ‹MM.Bd _ _ _ _› (by first | assumption | omega) ?_
  | with_reducible refine MM.q_ixTim ‹MM.Bd _ _ _ _› (by first | assumption | omega) ?_
  | with_reducible refine MM.q_ixRun ‹MM.Bd _ _ _ _› (by first | assumption | omega) ?_
  | with_reducible refine MM.q_ixRgs ‹MM.Bd _ _ _ _› ‹MM.WF _ _› (by first | assumption | omega) (by omega) (by omega) ?_
  | with_reducible refine MM.q_lenThs ‹MM.Bd _ _ _ _› ?_
  | ((with_reducible refine MM.q_mBrd ‹MM.Bd _ _ _ _› ?_ ?_); (intro _ _ _ _; rfl))
  | ((with_reducible refine MM.q_mMem ‹MM.Bd _ _ _ _› (by first | assumption | omega) ?_ ?_); (intro _ _ kd'; cases kd' <;> rfl))
  | with_reducible refine ⟨MM.ty_vws ‹MM.Bd _ _ _ _›, ?_⟩
  | with_reducible refine ⟨MM.ty_rdy ‹MM.Bd _ _ _ _›, ?_⟩
  | with_reducible refine ⟨MM.ty_ths ‹MM.Bd _ _ _ _›, ?_⟩
  | with_reducible refine ⟨MM.ty_req ‹MM.Bd _ _ _ _›, ?_⟩)
local macro_rules | `(tactic| walk_at "mgo") => `(tactic| repeat (walk_at "m1"))
set_option hygiene true

namespace K60
open PySem PySem.Spec PyProof.Rows L2
section
variable {P : Program} {w : World} {K : PySem.W.Frag} {mg : Str → Option Value} {base : Heap} {kd : Bool} {CM : Addr}
def spFilled (K : PySem.W.Frag) : Sp := fun vs H Q _ => ∃ (p : Addr) (ns : List Int), vs = [.ref p] ∧ H p = some (.tup (ns.map V.int)) ∧ ns.length ≤ 256 ∧ ∀ l H', H l = none → Same H H' → H' l = some (.lst ((MM.fill ns).map V.int)) → Q (.ref l) H'
theorem ok_filled (T : Txt K mg) : FnOk P w K mg base CX0 1 T.p_filled.f T.p_filled.fd ["program"] (spFilled K) := by
  refine T.p_filled.F.ok sc_filled (fun vs H Q E h => ?_) (fun cdv A outer s H vs Q E hr h => ?_)
  · obtain ⟨p, ns, rfl, _⟩ := h
    rfl
  · obtain ⟨p, ns, rfl, hp, hl, q⟩ := h
    refine ⟨_, (pss_cons (ps_set (i := 1) sc_filled.nd rfl (.inl rfl) (pe_slice sl_list (pe_callTy MM.cListOf (by rfl) T.m_list (by decide +kernel) (pa_cons (pv 0) pa_nil)) po_none (po_some (pe_glob (by rfl) T.c_ADDRESSES T.r_ADDRESSES))))
(pss_one (ps_ret (pe_op op_cat (pv 1) (pe_op op_rep (pe_lst (pa_cons pe_int pa_nil)) (pe_op op_sub (pe_glob (by rfl) T.c_ADDRESSES T.r_ADDRESSES) (pe_callB R.cLenS (by rfl) T.m_len (by decide +kernel) (pa_cons (pv 1) pa_nil)))))))), ?_⟩
    walk_at "mgo"
    refine ⟨_, _, rfl, .inr (R.sqT hp), fun l1 hl1 => ?_⟩
    generalize h1 : upd _ l1 _ = H1
    obtain ⟨s1, x1⟩ := MM.new2 h1 hl1
    walk_at "mgo"
    refine ⟨_, _, rfl, R.sqL x1, fun l2 hl2 => ?_⟩
    rw [MM.cut256 (by rw [List.length_map]; exact hl)]
    generalize h2 : upd _ l2 _ = H2
    obtain ⟨s2, x2⟩ := MM.new2 h2 hl2
    walk_at "mgo"
    refine ⟨Nat.le_of_ble_eq_true rfl, fun l3 hl3 => ?_⟩
    generalize h3 : upd _ l3 _ = H3
    obtain ⟨s3, x3⟩ := MM.new2 h3 hl3
    walk_at "mgo"
    refine R.r_lenL (R.sqL (s3 _ _ x2)) ?_
    rw [List.length_map]
    walk_at "mgo"
    refine ⟨_, _, _, rfl, rfl, x3, by omega, by omega, R.size_of (by show 1 * _ ≤ _; omega), fun l4 hl4 => ?_⟩
    generalize h4 : upd _ l4 _ = H4
    obtain ⟨s4, x4⟩ := MM.new2 h4 hl4
    refine ⟨_, _, _, _, rfl, rfl, s4 _ _ (s3 _ _ x2), x4, R.size_of (by rw [MM.flat_rep, List.length_map, List.length_replicate]; omega), fun l5 hl5 => ?_⟩
    have S4 := s1.trans (s2.trans (s3.trans s4))
    refine q l5 _ (S4.free hl5) (S4.trans (R.same_new hl5)) ?_
    rw [upd_same, MM.flat_rep]
    show some (HO.lst (ns.map V.int ++ List.replicate ((256 : Int) - (ns.length : Int)).toNat (V.int 0))) = some (HO.lst ((ns ++ List.replicate (256 - ns.length) 0).map V.int))
    rw [List.map_append, List.map_replicate, show ((256 : Int) - (ns.length : Int)).toNat = 256 - ns.length by omega]
def spMemInit (kd : Bool) (CM : Addr) : Sp := fun vs H Q _ => ∃ (x dx p : Addr) (ns : List Int), vs = [.ref x, .ref p] ∧ H x = some (.ins CM dx []) ∧ H p = some (.tup (ns.map V.int)) ∧ ns.length ≤ 256 ∧
  ∀ H' (r : MM.MR), r.x = x → R.Mv x H H' → H r.cl = none → (kd = true → H r.kp = none ∧ r.kp ≠ r.cl) → MM.MrOk kd CM H' ns r → Q .non H'
theorem ok_PlainMemory___init__ (T : Txt K mg) : FnOk P w K mg base CX0 2 T.p_PlainMemory___init__.f T.p_PlainMemory___init__.fd ["self", "program"] (spMemInit false T.c_PlainMemory.a) := by
  refine T.p_PlainMemory___init__.F.ok sc_PlainMemory___init__ (fun vs H Q E h => ?_) (fun cdv A outer s H vs Q E hr h => ?_)
  · obtain ⟨x, dx, p, ns, rfl, _⟩ := h
    rfl
  · obtain ⟨x, dx, p, ns, rfl, hx, hp, hl, q⟩ := h
    refine ⟨_, (pss_one (ps_fld (pv 0) (pe_call (ok_filled T) (hr.mono (by decide)) (by rfl) T.p_filled.g T.p_filled.F.kp T.p_filled.b .nil pass0 (pa_cons (pv 1) pa_nil)) rfl)), ?_⟩
    walk_at "mgo"
    refine ⟨p, ns, rfl, hp, hl, fun l H1 hl1 s1 x1 => ?_⟩
    walk_at "mgo"
    have lx : l ≠ x := fun z => by rw [z, hx] at hl1; cases hl1
    refine ⟨x, _, dx, _, rfl, s1 _ _ hx, T.c_PlainMemory.cl, T.n_PlainMemory.cells, Nat.lt_of_sub_eq_succ rfl, ?_⟩
    refine q _ ⟨x, dx, l, 0⟩ rfl ((R.Mv.of s1).trans R.Mv.upd) hl1 (fun h => nomatch h) ⟨upd_same, ?_, fun h => nomatch h⟩
    show upd H1 x _ l = _
    rw [upd_ne lx]
    exact x1
/-- a board is made over the memories at mL -/
def spBdInit (c : MM.Cl) : Sp := fun vs H Q _ => ∃ (x dx mL rt : Addr) (mrs : List MM.MR) (progs : List (List Int)) (rates : List Int), vs = [.ref x, .ref mL, .ref rt] ∧ H x = some (.ins c.CB dx []) ∧ H mL = some (.lst ((mrs.map (·.x)).map V.ref)) ∧ H rt = some (.tup (rates.map V.int)) ∧
  progs.length ≤ 4 ∧ rates.length ≤ 4 ∧ MM.All2 (MM.MrOk c.kd c.CM H) progs mrs ∧ MM.Occ H (x :: mL :: MM.mL c.kd mrs) ∧
  ∀ ad H', MM.Bd c ad (MM.S0 progs rates) H' → ad .brd = x → ad .memL = mL → R.Mv x H H' → (∀ t, ad t ∈ x :: mL :: MM.mL c.kd mrs ∨ H (ad t) = none) → Q .non H'
theorem ok_Board___init__ (T : Txt K mg) : FnOk P w K mg base CX0 3 T.p_Board___init__.f T.p_Board___init__.fd ["self", "memories", "rates"] (spBdInit (clOf T kd CM)) := by
  refine T.p_Board___init__.F.ok sc_Board___init__ (fun vs H Q E h => ?_) (fun cdv A outer s H vs Q E hr h => ?_)
  · obtain ⟨x, dx, mL, rt, mrs, progs, rates, rfl, _⟩ := h
    rfl
  · obtain ⟨x, dx, mL, rt, mrs, progs, rates, rfl, hx, hm, hrt, hp4, hr4, al, oc, q⟩ := h
    have hlm := al.length
    refine ⟨_, (pss_cons (ps_fld (pv 0) (pv 1) rfl)
(pss_cons (ps_fld (pv 0) (pe_callTy MM.cTupOf (by rfl) T.m_tuple (by decide +kernel) (pa_cons (pv 2) pa_nil)) rfl)
(pss_cons (ps_fld (pv 0) (pe_lc (own := [("pid", 3)]) (g := gName 3) (tt := tYes) rfl sc_Board___init__.nd (pi_range1 rfl T.m_range (pa_cons (pe_callB R.cLenS (by rfl) T.m_len (by decide +kernel) (pa_cons (pv 1) pa_nil)) pa_nil)) (blkOk_by (own := [("pid", 3)]) (N := N_Board___init__) (sc := defScope s_Board___init__) (by decide +kernel)) (fun _ _ _ _ _ => (pg_name (i := 3) sc_Board___init__.nd rfl (.inl rfl))) (fun _ _ _ _ _ => pts_nil) (fun _ _ _ _ _ => (pe_make T.p_Thread___init__.M (ok_Thread___init__ T) (hr.mono (by decide)) (by rfl) T.c_Thread.g T.p_Thread___init__.b .nil pass0 (pa_cons (pv 3) (pa_cons pe_int (pa_cons pe_int pa_nil)))))) rfl)
(pss_cons (ps_fld (pv 0) (pe_listRg rfl (by rfl) T.m_list (prg_1 (by rfl) T.m_range (pe_callB R.cLenS (by rfl) T.m_len (by decide +kernel) (pa_cons (pv 1) pa_nil)))) rfl)
(pss_cons (ps_fld (pv 0) (pe_op op_rep (pe_lst (pa_cons pe_int pa_nil)) (pe_callB R.cLenS (by rfl) T.m_len (by decide +kernel) (pa_cons (pe_fld (pv 0) rfl) pa_nil))) rfl)
(pss_cons (ps_fld (pv 0) (pe_op op_rep (pe_lst (pa_cons (pe_un un_neg pe_int) pa_nil)) (pe_callB R.cLenS (by rfl) T.m_len (by decide +kernel) (pa_cons (pe_fld (pv 0) rfl) pa_nil))) rfl)
(pss_cons (ps_fld (pv 0) pe_int rfl)
(pss_cons (ps_fld (pv 0) (pe_lst pa_nil) rfl)
(pss_cons (ps_fld (pv 0) pe_int rfl)
(pss_one (ps_fld (pv 0) (pe_lst pa_nil) rfl))))))))))), ?_⟩
    have nmx : mL ≠ x := fun z => by rw [z, hx] at hm; cases hm
    have nrx : rt ≠ x := fun z => by rw [z, hx] at hrt; cases hrt
    walk_at "mgo"
    refine ⟨x, _, dx, _, rfl, hx, T.c_Board.cl, T.n_Board.memories, Nat.lt_of_sub_eq_succ rfl, ?_⟩
    generalize h1 : upd _ x _ = H1
    obtain ⟨m1, e1⟩ := MM.st2 h1
    walk_at "mgo"
    refine ⟨_, _, rfl, .inr ⟨R.sqT (m1 _ _ hrt nrx), ?_⟩⟩
    walk_at "mgo"
    refine ⟨x, _, dx, _, rfl, e1, T.c_Board.cl, T.n_Board.rates, Nat.lt_of_sub_eq_succ rfl, ?_⟩
    generalize h2 : upd _ x _ = H2
    obtain ⟨m2, e2⟩ := MM.st2 h2
    have M2 := m1.trans m2
    walk_at "mgo"
    refine R.r_lenL (R.sqL (M2 _ _ hm nmx)) ?_
    rw [List.length_map, List.length_map]
    walk_at "mgo"
    refine MM.r_LcR (by omega) ?_
    have oc2 : MM.Occ H2 (x :: mL :: MM.mL kd mrs) := oc.mono (MM.there_mv M2 ⟨_, e2⟩)
    rw [← hlm]
    refine MM.lc_go walk_range (fun D i H' => MM.TL T.c_Thread.a (x :: mL :: MM.mL kd mrs) H2 D i H') ?_ ?_ ?_ ?_
    · intro D hD
      exact MM.TL.start hD oc2
    · intros; trivial
    · rintro D i y H3 H3' hD hi tl ⟨rfl, rfl⟩
      refine ⟨rfl, R.r_yes (iteT ?_)⟩
      walk_at "mgo"
      intro y dy hy hdy hne
      refine ⟨y, dy, i, 0, 0, by show [V.ref y, V.int (0 + (i : Int)), V.int 0, V.int 0] = _; rw [Int.zero_add], upd_same, fun H4 rg cv m4 hrg f1 f2 f3 => ⟨rfl, ?_⟩⟩
      obtain ⟨acc, ea, la, tl'⟩ := tl.step hD hy hdy hne m4 hrg f1 f2 f3
      exact ⟨acc, ea, R.size_lt (by omega), tl'⟩
    · rintro D H3 hD ⟨trs, ht, eD, s3, hT, oc3, fr3⟩
      have e3 := s3 _ _ e2
      have nDx : D ≠ x := (ne_of_none e2 hD).symm
      walk_at "mgo"
      refine ⟨x, _, dx, _, rfl, e3, T.c_Board.cl, T.n_Board.threads, Nat.lt_of_sub_eq_succ rfl, ?_⟩
      generalize h4 : upd _ x _ = H4
      obtain ⟨m4, e4⟩ := MM.st2 h4
      have M4 := (M2.trans (R.Mv.of s3)).trans m4
      have o4 := oc3.mono (MM.there_mv m4 ⟨_, e4⟩)
      walk_at "mgo"
      refine MM.r_lstRg ?_
      walk_at "mgo"
      refine R.r_lenL (R.sqL (M4 _ _ hm nmx)) ?_
      rw [List.length_map, List.length_map, ← hlm]
      refine ⟨_, rfl, ⟨by omega, by omega, by omega, by omega, by omega⟩, fun rL hrL => ?_⟩
      have erv : rgV 0 (progs.length : Int) = (List.range progs.length).map fun i : Nat => V.int (i : Int) := by
        unfold rgV
        rw [Int.sub_zero, Int.toNat_natCast]
        refine List.map_congr_left fun i _ => ?_
        rw [Int.zero_add]
      rw [erv]
      generalize h5 : upd _ rL _ = H5
      obtain ⟨s5, x5⟩ := MM.new2 h5 hrL
      have o5 := o4.add (H' := H5) hrL (MM.there_same s5) ⟨_, x5⟩
      have nrLx : rL ≠ x := (ne_of_none e4 hrL).symm
      walk_at "mgo"
      refine ⟨x, _, dx, _, rfl, s5 _ _ e4, T.c_Board.cl, T.n_Board.ready, Nat.lt_of_sub_eq_succ rfl, ?_⟩
      generalize h6 : upd _ x _ = H6
      obtain ⟨m6, e6⟩ := MM.st2 h6
      have o6 := o5.mono (MM.there_mv m6 ⟨_, e6⟩)
      have M6 := (M4.trans (R.Mv.of s5)).trans m6
      walk_at "mgo"
      refine ⟨Nat.le_of_ble_eq_true rfl, fun z1 hz1 => ?_⟩
      generalize h7 : upd _ z1 _ = H7
      obtain ⟨s7, x7⟩ := MM.new2 h7 hz1
      walk_at "mgo"
      refine ⟨x, _, dx, _, _, rfl, s7 _ _ e6, T.c_Board.cl, T.n_Board.rates, rfl, ?_⟩
      walk_at "mgo"
      refine R.r_lenT (R.sqT (s7 _ _ (M6 _ _ hrt nrx))) ?_
      rw [List.length_map]
      refine ⟨_, _, _, rfl, rfl, x7, by omega, by omega, R.size_of (by show 1 * _ ≤ _; omega), fun tiL htiL => ?_⟩
      rw [MM.flat_rep, Int.toNat_natCast]
      generalize h8 : upd _ tiL _ = H8
      obtain ⟨s8, x8⟩ := MM.new2 h8 htiL
      have o8 := (o6.mono (MM.there_same s7)).add (H' := H8) htiL (MM.there_same s8) ⟨_, x8⟩
      have ntix : tiL ≠ x := (ne_of_none (s7 _ _ e6) htiL).symm
      walk_at "mgo"
      refine ⟨x, _, dx, _, rfl, s8 _ _ (s7 _ _ e6), T.c_Board.cl, T.n_Board.times, Nat.lt_of_sub_eq_succ rfl, ?_⟩
      generalize h9 : upd _ x _ = H9
      obtain ⟨m9, e9⟩ := MM.st2 h9
      have o9 := o8.mono (MM.there_mv m9 ⟨_, e9⟩)
      have M9 := (M6.trans (R.Mv.of (s7.trans s8))).trans m9
      walk_at "mgo"
      refine ⟨Nat.le_of_ble_eq_true rfl, fun z2 hz2 => ?_⟩
      generalize hA : upd _ z2 _ = HA
      obtain ⟨sA, xA⟩ := MM.new2 hA hz2
      walk_at "mgo"
      refine ⟨x, _, dx, _, _, rfl, sA _ _ e9, T.c_Board.cl, T.n_Board.rates, rfl, ?_⟩
      walk_at "mgo"
      refine R.r_lenT (R.sqT (sA _ _ (M9 _ _ hrt nrx))) ?_
      rw [List.length_map]
      refine ⟨_, _, _, rfl, rfl, xA, by omega, by omega, R.size_of (by show 1 * _ ≤ _; omega), fun ruL hruL => ?_⟩
      rw [MM.flat_rep, Int.toNat_natCast]
      generalize hB : upd _ ruL _ = HB
      obtain ⟨sB, xB⟩ := MM.new2 hB hruL
      have oB := (o9.mono (MM.there_same sA)).add (H' := HB) hruL (MM.there_same sB) ⟨_, xB⟩
      have nrux : ruL ≠ x := (ne_of_none (sA _ _ e9) hruL).symm
      walk_at "mgo"
      refine ⟨x, _, dx, _, rfl, sB _ _ (sA _ _ e9), T.c_Board.cl, T.n_Board.running, Nat.lt_of_sub_eq_succ rfl, ?_⟩
      generalize hC : upd _ x _ = HC
      obtain ⟨mC, eC⟩ := MM.st2 hC
      have oC := oB.mono (MM.there_mv mC ⟨_, eC⟩)
      have MC := (M9.trans (R.Mv.of (sA.trans sB))).trans mC
      walk_at "mgo"
      refine ⟨x, _, dx, _, rfl, eC, T.c_Board.cl, T.n_Board.device_value, Nat.lt_of_sub_eq_succ rfl, ?_⟩
      generalize hD' : upd _ x _ = HD
      obtain ⟨mD, eD'⟩ := MM.st2 hD'
      have oD := oC.mono (MM.there_mv mD ⟨_, eD'⟩)
      walk_at "mgo"
      refine ⟨Nat.zero_le _, fun rqL hrqL => ?_⟩
      generalize hE : upd _ rqL _ = HE
      obtain ⟨sE, xE⟩ := MM.new2 hE hrqL
      have oE := oD.add (H' := HE) hrqL (MM.there_same sE) ⟨_, xE⟩
      have nrqx : rqL ≠ x := (ne_of_none eD' hrqL).symm
      walk_at "mgo"
      refine ⟨x, _, dx, _, rfl, sE _ _ eD', T.c_Board.cl, T.n_Board.requests, Nat.lt_of_sub_eq_succ rfl, ?_⟩
      generalize hF : upd _ x _ = HF
      obtain ⟨mF, eF⟩ := MM.st2 hF
      have oF := oE.mono (MM.there_mv mF ⟨_, eF⟩)
      walk_at "mgo"
      refine ⟨x, _, dx, _, rfl, eF, T.c_Board.cl, T.n_Board.cpu, Nat.lt_of_sub_eq_succ rfl, ?_⟩
      generalize hG : upd _ x _ = HG
      obtain ⟨mG, eG⟩ := MM.st2 hG
      have oG := oF.mono (MM.there_mv mG ⟨_, eG⟩)
      walk_at "mgo"
      refine ⟨Nat.zero_le _, fun vL hvL => ?_⟩
      generalize hI : upd _ vL _ = HI
      obtain ⟨sI, xI⟩ := MM.new2 hI hvL
      have oI := oG.add (H' := HI) hvL (MM.there_same sI) ⟨_, xI⟩
      have nvx : vL ≠ x := (ne_of_none eG hvL).symm
      walk_at "mgo"
      refine ⟨x, _, dx, _, rfl, sI _ _ eG, T.c_Board.cl, T.n_Board.views, Nat.lt_of_sub_eq_succ rfl, ?_⟩
      generalize hJ : upd _ x _ = HJ
      obtain ⟨mJ, eJ⟩ := MM.st2 hJ
      have oJ := oI.mono (MM.there_mv mJ ⟨_, eJ⟩)
      have ZG : R.Mv x HG HJ := (R.Mv.of sI).trans mJ
      have ZE : R.Mv x HE HJ := mF.trans (mG.trans ZG)
      have ZC : R.Mv x HC HJ := mD.trans ((R.Mv.of sE).trans ZE)
      have ZB : R.Mv x HB HJ := mC.trans ZC
      have Z8 : R.Mv x H8 HJ := m9.trans ((R.Mv.of (sA.trans sB)).trans ZB)
      have Z5 : R.Mv x H5 HJ := m6.trans ((R.Mv.of (s7.trans s8)).trans Z8)
      have Z4 : R.Mv x H4 HJ := (R.Mv.of s5).trans Z5
      have Z3 : R.Mv x H3 HJ := m4.trans Z4
      have ZH : R.Mv x H HJ := M4.trans Z4
      have MF : R.Mv x H HG := ((MC.trans (mD.trans (R.Mv.of sE))).trans mF).trans mG
      have nx : ∀ a ∈ D :: MM.tL trs, a ≠ x := fun a ha z => by
        have := fr3 a ha
        rw [z, e2] at this
        cases this
      have hd := (List.nodup_cons.mp oc.nd).1
      have nm : ∀ a ∈ mL :: MM.mL kd mrs, a ≠ x := fun a ha z => hd (by rw [← z]; exact ha)
      refine q (MM.adOf x mL D rL tiL ruL rqL vL (trs.map (·.x)) (trs.map (·.rg)) (mrs.map (·.x)) (mrs.map (·.cl)) (if kd then mrs.map (·.kp) else [])) HJ ?_ rfl rfl ZH ?_
      · refine MM.bd_start (c := clOf T kd CM) ht (fun i r h => ?_) ?_ eJ (ZH _ _ hrt nrx) (ZH _ _ hm nmx) (Z3 _ _ eD nDx) (Z5 _ _ x5 nrLx) ?_ ?_ (ZE _ _ xE nrqx) (mJ _ _ xI nvx) (oJ.perm ?_)
        · obtain ⟨a1, a2, a3⟩ := hT i r h
          have hmr := List.mem_of_getElem? h
          have ncv : r.cv ≠ x := fun z => by
            rw [z, e3] at a3
            cases a3
          exact ⟨Z3 _ _ a1 (nx _ (List.mem_cons_of_mem _ (List.mem_append_left _ (List.mem_map_of_mem hmr)))), Z3 _ _ a2 (nx _ (List.mem_cons_of_mem _ (List.mem_append_right _ (List.mem_map_of_mem hmr)))), Z3 _ _ a3 ncv⟩
        · have key : ∀ {ps : List (List Int)} {ms : List MM.MR}, MM.All2 (MM.MrOk kd CM H) ps ms → (∀ m ∈ ms, m.x ≠ x ∧ m.cl ≠ x ∧ (kd = true → m.kp ≠ x)) → MM.All2 (MM.MrOk kd CM HJ) ps ms := fun a => by
            induction a with
            | nil => intro _; exact .nil
            | cons r1 _ ih =>
              intro h
              obtain ⟨n1, n2, n3⟩ := h _ List.mem_cons_self
              exact .cons ⟨ZH _ _ r1.1 n1, ZH _ _ r1.2.1 n2, fun k => ZH _ _ (r1.2.2 k) (n3 k)⟩ (ih fun m hm => h m (List.mem_cons_of_mem _ hm))
          refine key al fun m hm => ⟨nm _ (List.mem_cons_of_mem _ (List.mem_append_left _ (List.mem_append_left _ (List.mem_map_of_mem hm)))), nm _ (List.mem_cons_of_mem _ (List.mem_append_left _ (List.mem_append_right _ (List.mem_map_of_mem hm)))), fun k => nm _ (List.mem_cons_of_mem _ (List.mem_append_right _ (by rw [if_pos k]; exact List.mem_map_of_mem hm)))⟩
        · have := Z8 _ _ x8 ntix
          rw [List.map_replicate]
          exact this
        · have := ZB _ _ xB nrux
          rw [List.map_replicate]
          exact this
        · rw [List.perm_iff_count]
          intro a
          simp only [MM.tL, MM.mL, List.count_cons, List.count_append, List.count_nil, List.cons_append, List.nil_append]
          omega
      · intro t
        have h := MM.ad_in (b := x) (mL := mL) (tL := D) (rL := rL) (tiL := tiL) (ruL := ruL) (rqL := rqL) (vL := vL) (ts := trs.map (·.x)) (rs := trs.map (·.rg)) (ms := mrs.map (·.x)) (cs := mrs.map (·.cl)) (ks := if kd then mrs.map (·.kp) else []) t
        generalize MM.adOf x mL D rL tiL ruL rqL vL (trs.map (·.x)) (trs.map (·.rg)) (mrs.map (·.x)) (mrs.map (·.cl)) (if kd then mrs.map (·.kp) else []) t = a at h
        have hn : ∀ b ∈ D :: MM.tL trs, H b = none := fun b hb => MM.mv_back M2 (fr3 b hb) (nx b hb)
        simp only [List.cons_append, List.nil_append, List.mem_cons, List.mem_append] at h
        rcases h with h | h | h | h | h | h | h | h | ((((h | h) | h) | h) | h)
        · exact .inl (by rw [h]; exact List.mem_cons_self)
        · exact .inl (by rw [h]; exact List.mem_cons_of_mem _ List.mem_cons_self)
        · rw [h]; exact .inr (hn _ List.mem_cons_self)
        · rw [h]; exact .inr (MM.mv_back M4 hrL nrLx)
        · rw [h]; exact .inr (MM.mv_back M6 ((s7).free htiL) ntix)
        · rw [h]; exact .inr (MM.mv_back M9 (sA.free hruL) nrux)
        · rw [h]; exact .inr (MM.mv_back (MC.trans mD) hrqL nrqx)
        · rw [h]; exact .inr (MM.mv_back MF hvL nvx)
        · exact .inr (hn _ (List.mem_cons_of_mem _ (List.mem_append_left _ h)))
        · exact .inr (hn _ (List.mem_cons_of_mem _ (List.mem_append_right _ h)))
        · exact .inl (List.mem_cons_of_mem _ (List.mem_cons_of_mem _ (List.mem_append_left _ (List.mem_append_left _ h))))
        · exact .inl (List.mem_cons_of_mem _ (List.mem_cons_of_mem _ (List.mem_append_left _ (List.mem_append_right _ h))))
        · exact .inl (List.mem_cons_of_mem _ (List.mem_cons_of_mem _ (List.mem_append_right _ h)))
end
end K60
end
section
local macro_rules | `(tactic| walk_at "s1") => `(tactic| first
  | ((with_reducible apply R.r_var); · rfl)
  | with_reducible apply R.r_c
  | with_reducible apply R.r_op
  | with_reducible apply R.r_I0
  | with_reducible apply R.r_cb
  | with_reducible apply R.r_cons
  | with_reducible apply R.r_nil
  | with_reducible apply R.r_seq
  | with_reducible apply R.r_asg
  | with_reducible apply R.r_ret
  | with_reducible apply R.r_ifS
  | with_reducible apply R.r_test
  | with_reducible apply R.r_t
  | with_reducible apply R.r_f
  | with_reducible apply R.r_nt
  | with_reducible apply R.r_nf
  | with_reducible apply R.r_bl
  | with_reducible apply R.r_U
  | with_reducible apply R.r_un
  | with_reducible apply R.r_eqI
  | with_reducible apply R.r_eqS
  | with_reducible apply R.r_neI
  | with_reducible apply R.r_neS
  | with_reducible apply R.r_and
  | with_reducible apply R.r_or
  | with_reducible apply R.r_not
  | with_reducible apply R.r_andV
  | with_reducible apply R.r_orV
  | with_reducible apply R.r_notV
  | with_reducible apply R.r_blV
  | with_reducible apply R.r_B
  | with_reducible apply R.r_ifE
  | with_reducible apply R.r_tup
  | with_reducible apply R.r_lst
  | with_reducible apply R.r_call
  | with_reducible apply R.r_drop
  | with_reducible apply R.r_next
  | with_reducible apply R.r_abs
  | with_reducible apply R.r_int1
  | with_reducible apply R.r_int1b
  | with_reducible apply R.r_min2
  | with_reducible apply R.r_bm
  | with_reducible apply R.r_bm0
  | with_reducible apply R.r_dget
  | with_reducible apply R.r_dput
  | with_reducible apply R.r_disp
  | with_reducible apply R.r_pnil
  | with_reducible apply R.r_pcons
  | with_reducible apply R.r_fld
  | with_reducible apply R.r_slice
  | with_reducible apply R.r_nopart
  | with_reducible apply R.r_part
  | with_reducible apply R.r_int
  | with_reducible apply R.r_yes
  | with_reducible apply R.r_retN
  | with_reducible apply R.r_asgG
  | with_reducible apply R.r_gname
  | with_reducible apply R.r_rng1
  | with_reducible apply R.r_brk
  | with_reducible apply R.r_cnt
  | with_reducible apply R.r_m1
  | with_reducible apply R.r_lcr
  | with_reducible apply R.r_p2_63
  | with_reducible apply R.r_p2_64
  | with_reducible apply R.r_p2_32
  | with_reducible apply R.r_p2_31
  | with_reducible apply R.r_p10_18
  | with_reducible apply R.r_p10_30
  | with_reducible refine R.r_mod (by omega) ?_
  | with_reducible refine R.r_div (by omega) ?_
  | with_reducible refine R.r_mulR (by omega) ?_
  | with_reducible refine R.r_mulL (by omega) ?_
  | with_reducible refine R.r_iteY (by decide +kernel) ?_
  | with_reducible refine R.r_iteF (by decide +kernel) ?_
  | with_reducible refine R.r_isi R.isi_int ?_
  | with_reducible refine R.r_isi R.isi_intB ?_)
local macro_rules | `(tactic| walk_at "go") => `(tactic| repeat (walk_at "s1"))

set_option hygiene false
local macro_rules | `(tactic| walk_at "m1") => `(tactic| first
  | walk_at "s1"
  | with_reducible apply MM.r_meth
  | with_reducible apply MM.r_make
  | with_reducible apply MM.r_din
  | with_reducible apply MM.r_dnotin
  | with_reducible apply MM.r_dget2
  | with_reducible apply MM.r_dpop1
  | with_reducible apply MM.r_sfld
  | with_reducible apply MM.r_gsub
  | with_reducible apply MM.r_augS
  | with_reducible apply MM.r_ip
  | ((with_reducible refine MM.q_threads ?_ ‹MM.Bd _ _ _ _› ?_); exact hC)
  | ((with_reducible refine MM.q_memories ?_ ‹MM.Bd _ _ _ _› ?_); exact hC)
  | ((with_reducible refine MM.q_ready ?_ ‹MM.Bd _ _ _ _› ?_); exact hC)
  | ((with_reducible refine MM.q_times ?_ ‹MM.Bd _ _ _ _› ?_); exact hC)
  | ((with_reducible refine MM.q_running ?_ ‹MM.Bd _ _ _ _› ?_); exact hC)
  | ((with_reducible refine MM.q_dev ?_ ‹MM.Bd _ _ _ _› ?_); exact hC)
  | ((with_reducible refine MM.q_requests ?_ ‹MM.Bd _ _ _ _› ?_); exact hC)
  | ((with_reducible refine MM.q_cpu ?_ ‹MM.Bd _ _ _ _› ?_); exact hC)
  | ((with_reducible refine MM.q_views ?_ ‹MM.Bd _ _ _ _› ?_); exact hC)
  | ((with_reducible refine MM.q_pid ?_ ‹MM.Bd _ _ _ _› (by first | assumption | omega) ?_); exact hC)
  | ((with_reducible refine MM.q_pc ?_ ‹MM.Bd _ _ _ _› (by first | assumption | omega) ?_); exact hC)
  | ((with_reducible refine MM.q_regs ?_ ‹MM.Bd _ _ _ _› (by first | assumption | omega) ?_); exact hC)
  | ((with_reducible refine MM.q_call ?_ ‹MM.Bd _ _ _ _› (by first | assumption | omega) ?_); exact hC)
  | ((with_reducible refine MM.q_callAt ?_ ‹MM.Bd _ _ _ _› (by first | assumption | omega) ?_); exact hC)
  | with_reducible refine MM.q_ixThs ‹MM.Bd _ _ _ _› (by first | assumption | omega) ?_
  | with_reducible refine MM.q_ixMem ‹MM.Bd _ _ _ _› (by first | assumption | omega) ?_
  | with_reducible refine MM.q_ixTim ‹MM.Bd _ _ _ _› (by first | assumption | omega) ?_
  | with_reducible refine MM.q_ixRun ‹MM.Bd _ _ _ _› (by first | assumption | omega) ?_
  | with_reducible refine MM.q_ixRgs ‹MM.Bd _ _ _ _› ‹MM.WF _ _› (by first | assumption | omega) (by omega) (by omega) ?_
  | with_reducible refine MM.q_lenThs ‹MM.Bd _ _ _ _› ?_
  | ((with_reducible refine MM.q_mBrd ‹MM.Bd _ _ _ _› ?_ ?_); (intro _ _ _ _; rfl))
  | ((with_reducible refine MM.q_mMem ‹MM.Bd _ _ _ _› (by first | assumption | omega) ?_ ?_); (intro _ _ kd'; cases kd' <;> rfl))
  | with_reducible refine ⟨MM.ty_vws ‹MM.Bd _ _ _ _›, ?_⟩
  | with_reducible refine ⟨MM.ty_rdy ‹MM.Bd _ _ _ _›, ?_⟩
  | with_reducible refine ⟨MM.ty_ths ‹MM.Bd _ _ _ _›, ?_⟩
  | with_reducible refine ⟨MM.ty_req ‹MM.Bd _ _ _ _›, ?_⟩)
local macro_rules | `(tactic| walk_at "mgo") => `(tactic| repeat (walk_at "m1"))
set_option hygiene true

local macro_rules | `(tactic| walk_at "m1") => `(tactic| with_reducible apply MM.r_chain)
namespace K60
open PySem PySem.Spec PyProof.Rows L2
section
variable {P : Program} {w : World} {K : PySem.W.Frag} {mg : Str → Option Value} {base : Heap}
/-- a machine is made -/
def spMach (c : MM.Cl) (C : Addr) (fs : (MM.Tg → Addr) → List (Str × V)) : Sp := fun vs H Q _ => ∃ (x dx pg rt : Addr) (progs : List (List Int)) (rates : List Int), vs = [.ref x, .ref pg, .ref rt] ∧ H x = some (.ins C dx []) ∧ MM.PgAt H pg progs ∧ H rt = some (.tup (rates.map V.int)) ∧
  progs.length ≤ 4 ∧ rates.length ≤ 4 ∧ (∀ p ∈ progs, p.length ≤ 256) ∧
  ∀ ad H', MM.Bd c ad (MM.S0 progs rates) H' → R.Mv x H H' → H' x = some (.ins C dx (fs ad)) → (∀ t, H (ad t) = none) → Q .non H'
theorem ok_Machine___init__ (T : Txt K mg) : FnOk P w K mg base CX0 5 T.p_Machine___init__.f T.p_Machine___init__.fd ["self", "programs", "rates"] (spMach (cP T) T.c_Machine.a fun ad => [("board", .ref (ad .brd))]) := by
  refine T.p_Machine___init__.F.ok sc_Machine___init__ (fun vs H Q E h => ?_) (fun cdv A outer s H vs Q E hr h => ?_)
  · obtain ⟨x, dx, pg, rt, progs, rates, rfl, _⟩ := h
    rfl
  · obtain ⟨x, dx, pg, rt, progs, rates, rfl, hx, ⟨ps, hpg, alp⟩, hrt, hp4, hr4, hp256, q⟩ := h
    have hlp := alp.length
    refine ⟨_, (pss_one (ps_fld (pv 0) (pe_make T.p_Board___init__.M (ok_Board___init__ (kd := false) (CM := T.c_PlainMemory.a) T) (hr.mono (by decide)) (by rfl) T.c_Board.g T.p_Board___init__.b .nil pass0 (pa_cons (pe_lc (own := [("program", 3)]) (g := gName 3) (tt := tYes) rfl sc_Machine___init__.nd (pi_tup (pv 1)) (blkOk_by (own := [("program", 3)]) (N := N_Machine___init__) (sc := defScope s_Machine___init__) (by decide +kernel)) (fun _ _ _ _ _ => (pg_name (i := 3) sc_Machine___init__.nd rfl (.inl rfl))) (fun _ _ _ _ _ => pts_nil) (fun _ _ _ _ _ => (pe_make T.p_PlainMemory___init__.M (ok_PlainMemory___init__ T) (hr.mono (by decide)) (by rfl) T.c_PlainMemory.g T.p_PlainMemory___init__.b .nil pass0 (pa_cons (pv 3) pa_nil)))) (pa_cons (pv 2) pa_nil))) rfl)), ?_⟩
    walk_at "mgo"
    refine MM.r_lcT ?_
    walk_at "mgo"
    refine ⟨pg, rfl, ⟨_, R.sqT hpg⟩, ?_⟩
    refine MM.lc_go (walk_tup (xs := ps.map V.ref)) (fun D i H' => MM.ML false T.c_PlainMemory.a H D (progs.take i) H') ?_ ?_ ?_ ?_
    · intro D hD
      exact MM.ML.start hD
    · rintro D i H' hD ⟨mrs, _, s, _⟩
      exact R.sqT (s _ _ hpg)
    · rintro D i y H1 H1' hD hi ml ⟨rfl, ey⟩
      have hi : i < ps.length := by rwa [List.length_map] at hi
      have hi2 : i < progs.length := by omega
      obtain ⟨a, ea, et⟩ := alp.get (List.getElem?_eq_getElem hi2)
      rw [List.getElem?_map, ea] at ey
      obtain rfl := Option.some.inj ey
      have s1 : Same H H1' := by obtain ⟨mrs, _, s, _⟩ := ml; exact s
      refine ⟨rfl, R.r_yes (iteT ?_)⟩
      walk_at "mgo"
      intro y dy hy hdy hne
      have ea2 := s1 _ _ et
      refine ⟨y, dy, a, progs[i], rfl, upd_same, by rw [upd_ne (ne_of_none ea2 hy), upd_ne (ne_of_none ea2 hdy)]; exact ea2, hp256 _ (List.getElem_mem hi2), fun H4 r e1 mv hcl hkp ok => ⟨rfl, ?_⟩⟩
      obtain ⟨acc, eac, lac, ml'⟩ := ml.step hD hy hdy hne e1 mv hcl hkp ok
      rw [← MM.take_snoc (List.getElem?_eq_getElem hi2)] at ml'
      exact ⟨acc, eac, R.size_lt (by rw [lac, List.length_take]; omega), ml'⟩
    · rintro D H1 hD ⟨mrs, eD, s1, al, oc, fr⟩
      have hll : progs.take (ps.map V.ref).length = progs := by rw [List.length_map, hlp, List.take_length]
      rw [hll] at al
      walk_at "mgo"
      intro b db hb hdb hne
      have s2 : Same H1 (upd (upd H1 db (.own b)) b (.ins T.c_Board.a db [])) := fun c o h => by rw [upd_ne (ne_of_none h hb), upd_ne (ne_of_none h hdb)]; exact h
      refine ⟨b, db, D, rt, mrs, progs, rates, rfl, upd_same, s2 _ _ eD, s2 _ _ (s1 _ _ hrt), hp4, hr4, al.imp fun _ _ z => z.same s2, oc.add hb (MM.there_same s2) ⟨_, upd_same⟩, fun ad H2 B2 eb em mv2 hin => ⟨rfl, ?_⟩⟩
      have hb0 : H b = none := s1.free hb
      have nbx : b ≠ x := fun z => by rw [z, s1 _ _ hx] at hb; cases hb
      have e2 : H2 x = some (.ins T.c_Machine.a dx []) := mv2 _ _ (s2 _ _ (s1 _ _ hx)) nbx.symm
      have h0 : ∀ t, H (ad t) = none := fun t => by
        rcases hin t with h | h
        · rcases List.mem_cons.mp h with z | z
          · rw [z]; exact hb0
          · exact fr _ z
        · exact s1.free (s2.free h)
      walk_at "mgo"
      refine ⟨x, _, dx, _, rfl, e2, T.c_Machine.cl, T.n_Machine.board, Nat.lt_of_sub_eq_succ rfl, ?_⟩
      have nx : ∀ t, ad t ≠ x := fun t z => by
        have := h0 t
        rw [z, hx] at this
        cases this
      have mv3 : R.Mv x H2 (upd H2 x (.ins T.c_Machine.a dx (putF "board" (.ref b) []))) := R.Mv.upd
      refine q ad _ (B2.mv mv3 nx (fun xs z => by rw [e2] at z; cases z)) ((fun c o h n => ?_)) (by rw [upd_same, ← eb]; rfl) h0
      rw [upd_ne n]
      exact mv2 _ _ (s2 _ _ (s1 _ _ h)) (ne_of_none h hb0)
/-- a call that goes to the board -/
def spOn (C : Addr) (sp : Sp) : Sp := fun vs H Q E => ∃ (ad : MM.Tg → Addr) (x dx : Addr) (fs : List (Str × V)) (ws : List V), vs = .ref x :: ws ∧ H x = some (.ins C dx fs) ∧ fs.lookup ("board" : Str) = some (V.ref (ad .brd)) ∧ sp (.ref (ad .brd) :: ws) H Q E
end
end K60
end
section
local macro_rules | `(tactic| walk_at "s1") => `(tactic| first
  | ((with_reducible apply R.r_var); · rfl)
  | with_reducible apply R.r_c
  | with_reducible apply R.r_op
  | with_reducible apply R.r_I0
  | with_reducible apply R.r_cb
  | with_reducible apply R.r_cons
  | with_reducible apply R.r_nil
  | with_reducible apply R.r_seq
  | with_reducible apply R.r_asg
  | with_reducible apply R.r_ret
  | with_reducible apply R.r_ifS
  | with_reducible apply R.r_test
  | with_reducible apply R.r_t
  | with_reducible apply R.r_f
  | with_reducible apply R.r_nt
  | with_reducible apply R.r_nf
  | with_reducible apply R.r_bl
  | with_reducible apply R.r_U
  | with_reducible apply R.r_un
  | with_reducible apply R.r_eqI
  | with_reducible apply R.r_eqS
  | with_reducible apply R.r_neI
  | with_reducible apply R.r_neS
  | with_reducible apply R.r_and
  | with_reducible apply R.r_or
  | with_reducible apply R.r_not
  | with_reducible apply R.r_andV
  | with_reducible apply R.r_orV
  | with_reducible apply R.r_notV
  | with_reducible apply R.r_blV
  | with_reducible apply R.r_B
  | with_reducible apply R.r_ifE
  | with_reducible apply R.r_tup
  | with_reducible apply R.r_lst
  | with_reducible apply R.r_call
  | with_reducible apply R.r_drop
  | with_reducible apply R.r_next
  | with_reducible apply R.r_abs
  | with_reducible apply R.r_int1
  | with_reducible apply R.r_int1b
  | with_reducible apply R.r_min2
  | with_reducible apply R.r_bm
  | with_reducible apply R.r_bm0
  | with_reducible apply R.r_dget
  | with_reducible apply R.r_dput
  | with_reducible apply R.r_disp
  | with_reducible apply R.r_pnil
  | with_reducible apply R.r_pcons
  | with_reducible apply R.r_fld
  | with_reducible apply R.r_slice
  | with_reducible apply R.r_nopart
  | with_reducible apply R.r_part
  | with_reducible apply R.r_int
  | with_reducible apply R.r_yes
  | with_reducible apply R.r_retN
  | with_reducible apply R.r_asgG
  | with_reducible apply R.r_gname
  | with_reducible apply R.r_rng1
  | with_reducible apply R.r_brk
  | with_reducible apply R.r_cnt
  | with_reducible apply R.r_m1
  | with_reducible apply R.r_lcr
  | with_reducible apply R.r_p2_63
  | with_reducible apply R.r_p2_64
  | with_reducible apply R.r_p2_32
  | with_reducible apply R.r_p2_31
  | with_reducible apply R.r_p10_18
  | with_reducible apply R.r_p10_30
  | with_reducible refine R.r_mod (by omega) ?_
  | with_reducible refine R.r_div (by omega) ?_
  | with_reducible refine R.r_mulR (by omega) ?_
  | with_reducible refine R.r_mulL (by omega) ?_
  | with_reducible refine R.r_iteY (by decide +kernel) ?_
  | with_reducible refine R.r_iteF (by decide +kernel) ?_
  | with_reducible refine R.r_isi R.isi_int ?_
  | with_reducible refine R.r_isi R.isi_intB ?_)
local macro_rules | `(tactic| walk_at "go") => `(tactic| repeat (walk_at "s1"))

set_option hygiene false
local macro_rules | `(tactic| walk_at "m1") => `(tactic| first
  | walk_at "s1"
  | with_reducible apply MM.r_meth
  | with_reducible apply MM.r_make
  | with_reducible apply MM.r_din
  | with_reducible apply MM.r_dnotin
  | with_reducible apply MM.r_dget2
  | with_reducible apply MM.r_dpop1
  | with_reducible apply MM.r_sfld
  | with_reducible apply MM.r_gsub
  | with_reducible apply MM.r_augS
  | with_reducible apply MM.r_ip
  | ((with_reducible refine MM.q_threads ?_ ‹MM.Bd _ _ _ _› ?_); exact hC)
  | ((with_reducible refine MM.q_memories ?_ ‹MM.Bd _ _ _ _› ?_); exact hC)
  | ((with_reducible refine MM.q_ready ?_ ‹MM.Bd _ _ _ _› ?_); exact hC)
  | ((with_reducible refine MM.q_times ?_ ‹MM.Bd _ _ _ _› ?_); exact hC)
  | ((with_reducible refine MM.q_running ?_ ‹MM.Bd _ _ _ _› ?_); exact hC)
  | ((with_reducible refine MM.q_dev ?_ ‹MM.Bd _ _ _ _› ?_); exact hC)
  | ((with_reducible refine MM.q_requests ?_ ‹MM.Bd _ _ _ _› ?_); exact hC)
  | ((with_reducible refine MM.q_cpu ?_ ‹MM.Bd _ _ _ _› ?_); exact hC)
  | ((with_reducible refine MM.q_views ?_ ‹MM.Bd _ _ _ _› ?_); exact hC)
  | ((with_reducible refine MM.q_pid ?_ ‹MM.Bd _ _ _ _› (by first | assumption | omega) ?_); exact hC)
  | ((with_reducible refine MM.q_pc ?_ ‹MM.Bd _ _ _ _› (by first | assumption | omega) ?_); exact hC)
  | ((with_reducible refine MM.q_regs ?_ ‹MM.Bd _ _ _ _› (by first | assumption | omega) ?_); exact hC)
  | ((with_reducible refine MM.q_call ?_ ‹MM.Bd _ _ _ _› (by first | assumption | omega) ?_); exact hC)
  | ((with_reducible refine MM.q_callAt ?_ ‹MM.Bd _ _ _ _› (by first | assumption | omega) ?_); exact hC)
  | with_reducible refine MM.q_ixThs ‹MM.Bd _ _ _ _› (by first | assumption | omega) ?_
  | with_reducible refine MM.q_ixMem ‹MM.Bd _ _ _ _› (by first | assumption | omega) ?_
  | with_reducible refine MM.q_ixTim ‹MM.Bd _ _ _ _› (by first | assumption | omega) ?_
  | with_reducible refine MM.q_ixRun ‹MM.Bd _ _ _ _› (by first | assumption | omega) ?_
  | with_reducible refine MM.q_ixRgs ‹MM.Bd _ _ _ _› ‹MM.WF _ _› (by first | assumption | omega) (by omega) (by omega) ?_
  | with_reducible refine MM.q_lenThs ‹MM.Bd _ _ _ _› ?_
  | ((with_reducible refine MM.q_mBrd ‹MM.Bd _ _ _ _› ?_ ?_); (intro _ _ _ _; rfl))
  | ((with_reducible refine MM.q_mMem ‹MM.Bd _ _ _ _› (by first | assumption | omega) ?_ ?_); (intro _ _ kd'; cases kd' <;> rfl))
  | with_reducible refine ⟨MM.ty_vws ‹MM.Bd _ _ _ _›, ?_⟩
  | with_reducible refine ⟨MM.ty_rdy ‹MM.Bd _ _ _ _›, ?_⟩
  | with_reducible refine ⟨MM.ty_ths ‹MM.Bd _ _ _ _›, ?_⟩
  | with_reducible refine ⟨MM.ty_req ‹MM.Bd _ _ _ _›, ?_⟩)
local macro_rules | `(tactic| walk_at "mgo") => `(tactic| repeat (walk_at "m1"))
set_option hygiene true

local macro_rules | `(tactic| walk_at "m1") => `(tactic| with_reducible apply MM.r_chain)
namespace K60
open PySem PySem.Spec PyProof.Rows L2
section
variable {P : Program} {w : World} {K : PySem.W.Frag} {mg : Str → Option Value} {base : Heap}
theorem ok_Machine_step (T : Txt K mg) : FnOk P w K mg base CX0 9 T.p_Machine_step.f T.p_Machine_step.fd ["self", "pick"] (spOn T.c_Machine.a (MM.spDoPick (cP T))) := by
  refine T.p_Machine_step.F.ok sc_Machine_step (fun vs H Q E h => ?_) (fun cdv A outer s H vs Q E hr h => ?_)
  · obtain ⟨ad, x, dx, fs, ws, rfl, hx, hb, ad', S, k, p, cpu, what, e, _⟩ := h
    obtain ⟨_, rfl⟩ := List.cons.inj e
    rfl
  · obtain ⟨ad, x, dx, fs, ws, rfl, hx, hb, h⟩ := h
    have h' := h
    obtain ⟨ad', S, k, p, cpu, what, e, _⟩ := h'
    obtain ⟨_, rfl⟩ := List.cons.inj e
    refine ⟨_, (pss_one (ps_ret (pe_call (ok_do_pick T (memP T)) (hr.mono (by decide)) (by rfl) T.p_do_pick.g T.p_do_pick.F.kp T.p_do_pick.b .nil pass0 (pa_cons (pe_fld (pv 0) rfl) (pa_cons (pv 1) pa_nil))))), ?_⟩
    walk_at "mgo"
    refine ⟨x, _, dx, fs, _, rfl, hx, T.c_Machine.cl, T.n_Machine.board, hb, ?_⟩
    walk_at "mgo"
    exact h
theorem ok_Machine_state (T : Txt K mg) : FnOk P w K mg base CX0 4 T.p_Machine_state.f T.p_Machine_state.fd ["self"] (spOn T.c_Machine.a (MM.spState K (cP T))) := by
  refine T.p_Machine_state.F.ok sc_Machine_state (fun vs H Q E h => ?_) (fun cdv A outer s H vs Q E hr h => ?_)
  · obtain ⟨ad, x, dx, fs, ws, rfl, hx, hb, ad', S, k, e, _⟩ := h
    obtain ⟨_, rfl⟩ := List.cons.inj e
    rfl
  · obtain ⟨ad, x, dx, fs, ws, rfl, hx, hb, h⟩ := h
    have h' := h
    obtain ⟨ad', S, k, e, O, _⟩ := h'
    obtain ⟨e1, rfl⟩ := List.cons.inj e
    obtain ⟨dB, rtt, eB, _⟩ := O.B.brd
    have e1 : ad .brd = ad' .brd := V.ref.inj e1
    refine ⟨_, (pss_one (ps_ret (pe_meth0 (pe_fld (pv 0) rfl) T.c_Board.cl T.p_Board_state.me (ok_Board_state T (memP T)) (hr.mono (by decide)) T.p_Board_state.b .nil pass0))), ?_⟩
    walk_at "mgo"
    refine ⟨x, _, dx, fs, _, rfl, hx, T.c_Machine.cl, T.n_Machine.board, hb, ?_⟩
    refine ⟨_, dB, _, rfl, by rw [e1]; exact eB, rfl, ?_⟩
    walk_at "mgo"
    exact h
end
end K60
end
section
local macro_rules | `(tactic| walk_at "s1") => `(tactic| first
  | ((with_reducible apply R.r_var); · rfl)
  | with_reducible apply R.r_c
  | with_reducible apply R.r_op
  | with_reducible apply R.r_I0
  | with_reducible apply R.r_cb
  | with_reducible apply R.r_cons
  | with_reducible apply R.r_nil
  | with_reducible apply R.r_seq
  | with_reducible apply R.r_asg
  | with_reducible apply R.r_ret
  | with_reducible apply R.r_ifS
  | with_reducible apply R.r_test
  | with_reducible apply R.r_t
  | with_reducible apply R.r_f
  | with_reducible apply R.r_nt
  | with_reducible apply R.r_nf
  | with_reducible apply R.r_bl
  | with_reducible apply R.r_U
  | with_reducible apply R.r_un
  | with_reducible apply R.r_eqI
  | with_reducible apply R.r_eqS
  | with_reducible apply R.r_neI
  | with_reducible apply R.r_neS
  | with_reducible apply R.r_and
  | with_reducible apply R.r_or
  | with_reducible apply R.r_not
  | with_reducible apply R.r_andV
  | with_reducible apply R.r_orV
  | with_reducible apply R.r_notV
  | with_reducible apply R.r_blV
  | with_reducible apply R.r_B
  | with_reducible apply R.r_ifE
  | with_reducible apply R.r_tup
  | with_reducible apply R.r_lst
  | with_reducible apply R.r_call
  | with_reducible apply R.r_drop
  | with_reducible apply R.r_next
  | with_reducible apply R.r_abs
  | with_reducible apply R.r_int1
  | with_reducible apply R.r_int1b
  | with_reducible apply R.r_min2
  | with_reducible apply R.r_bm
  | with_reducible apply R.r_bm0
  | with_reducible apply R.r_dget
  | with_reducible apply R.r_dput
  | with_reducible apply R.r_disp
  | with_reducible apply R.r_pnil
  | with_reducible apply R.r_pcons
  | with_reducible apply R.r_fld
  | with_reducible apply R.r_slice
  | with_reducible apply R.r_nopart
  | with_reducible apply R.r_part
  | with_reducible apply R.r_int
  | with_reducible apply R.r_yes
  | with_reducible apply R.r_retN
  | with_reducible apply R.r_asgG
  | with_reducible apply R.r_gname
  | with_reducible apply R.r_rng1
  | with_reducible apply R.r_brk
  | with_reducible apply R.r_cnt
  | with_reducible apply R.r_m1
  | with_reducible apply R.r_lcr
  | with_reducible apply R.r_p2_63
  | with_reducible apply R.r_p2_64
  | with_reducible apply R.r_p2_32
  | with_reducible apply R.r_p2_31
  | with_reducible apply R.r_p10_18
  | with_reducible apply R.r_p10_30
  | with_reducible refine R.r_mod (by omega) ?_
  | with_reducible refine R.r_div (by omega) ?_
  | with_reducible refine R.r_mulR (by omega) ?_
  | with_reducible refine R.r_mulL (by omega) ?_
  | with_reducible refine R.r_iteY (by decide +kernel) ?_
  | with_reducible refine R.r_iteF (by decide +kernel) ?_
  | with_reducible refine R.r_isi R.isi_int ?_
  | with_reducible refine R.r_isi R.isi_intB ?_)
local macro_rules | `(tactic| walk_at "go") => `(tactic| repeat (walk_at "s1"))

set_option hygiene false
local macro_rules | `(tactic| walk_at "m1") => `(tactic| first
  | walk_at "s1"
  | with_reducible apply MM.r_meth
  | with_reducible apply MM.r_make
  | with_reducible apply MM.r_din
  | with_reducible apply MM.r_dnotin
  | with_reducible apply MM.r_dget2
  | with_reducible apply MM.r_dpop1
  | with_reducible apply MM.r_sfld
  | with_reducible apply MM.r_gsub
  | with_reducible apply MM.r_augS
  | with_reducible apply MM.r_ip
  | with_reducible apply MM.r_chain
  | with_reducible apply MM.r_daug
  | with_reducible apply MM.r_add
  | with_reducible refine LM.g_mem ‹LM.Lm _ _ _› ?_
  | with_reducible refine LM.g_events ‹LM.Lm _ _ _› ?_
  | with_reducible refine LM.g_time ‹LM.Lm _ _ _› ?_
  | with_reducible refine LM.g_runs ‹LM.Lm _ _ _› ?_
  | with_reducible refine LM.g_threads ‹LM.Lm _ _ _› ?_
  | with_reducible refine LM.g_ready ‹LM.Lm _ _ _› ?_
  | with_reducible refine LM.g_device ‹LM.Lm _ _ _› ?_
  | with_reducible refine LM.g_pid ‹LM.Lm _ _ _› (by first | assumption | omega) ?_
  | with_reducible refine LM.g_pc ‹LM.Lm _ _ _› (by first | assumption | omega) ?_
  | with_reducible refine LM.g_regs ‹LM.Lm _ _ _› (by first | assumption | omega) ?_
  | with_reducible refine LM.x_ths ‹LM.Lm _ _ _› (by first | assumption | omega) ?_
  | with_reducible refine LM.x_mem ‹LM.Lm _ _ _› (by first | assumption | omega) ?_
  | with_reducible refine LM.x_tim ‹LM.Lm _ _ _› (by first | assumption | omega) ?_
  | with_reducible refine LM.x_run ‹LM.Lm _ _ _› (by first | assumption | omega) ?_
  | with_reducible refine LM.x_rg ‹LM.Lm _ _ _› ‹MM.WF _ _› (by first | assumption | omega) (by omega) (by omega) ?_
  | with_reducible refine LM.x_dev0 ‹LM.Lm _ _ _› ?_
  | with_reducible refine LM.x_dev1 ‹LM.Lm _ _ _› ?_
  | with_reducible refine LM.l_ths ‹LM.Lm _ _ _› ?_
  | with_reducible refine ⟨LM.t_rdy ‹LM.Lm _ _ _›, ?_⟩
  | with_reducible refine ⟨LM.t_ths ‹LM.Lm _ _ _›, ?_⟩
  | with_reducible refine ⟨LM.t_ev ‹LM.Lm _ _ _›, ?_⟩
  | with_reducible refine ⟨LM.t_rq ‹LM.Lm _ _ _›, ?_⟩)
local macro_rules | `(tactic| walk_at "mgo") => `(tactic| repeat (walk_at "m1"))
set_option hygiene true

namespace K60
open PySem PySem.Spec PyProof.Rows L2
section
variable {P : Program} {w : World} {K : PySem.W.Frag} {mg : Str → Option Value} {base : Heap}
theorem ok_law_tell (T : Txt K mg) : FnOk P w K mg base CX0 1 T.p_law_tell.f T.p_law_tell.fd ["m", "kind", "cpu", "tid", "at", "args"] LM.spTell := by
  refine T.p_law_tell.F.ok sc_law_tell (fun vs H Q E h => ?_) (fun cdv A outer s H vs Q E hr h => ?_)
  · obtain ⟨ad, S, k, O, _, ⟨kind, tid, at', args, g, rfl, _⟩ | ⟨g, rfl, _⟩⟩ := h
    · rfl
    · rfl
  · obtain ⟨ad, S, k, O, hk, ⟨kind, tid, at', args, g, rfl, hg, ht, q⟩ | ⟨g, rfl, hg, q⟩⟩ := h
    · have B := O.B
      have W := O.W
      have hcpu : S.cpu < S.times.length := by rw [W.tim]; exact W.cpu
      refine ⟨_, (pss_cons (ps_set (i := 6) sc_law_tell.nd rfl (.inl rfl) (pe_un un_neg pe_int))
(pss_cons (ps_set (i := 7) sc_law_tell.nd rfl (.inl rfl) (pe_tup (pa_cons pe_int (pa_cons pe_int (pa_cons pe_int (pa_cons pe_int pa_nil))))))
(pss_cons (ps_set (i := 8) sc_law_tell.nd rfl (.inl rfl) (pe_tup pa_nil))
(pss_cons (ps_if (pt_cmpR op_ge (pv 3) pe_int (nomark _))
 (pss_cons (ps_set (i := 6) sc_law_tell.nd rfl (.inl rfl) (pe_dget (hu_of hr) (pe_ix ix_list (pe_dget (hu_of hr) (pv 0) pe_str (fun _ _ => rfl)) (pv 3) (fun _ _ => rfl)) pe_str (fun _ _ => rfl)))
(pss_cons (ps_set (i := 7) sc_law_tell.nd rfl (.inl rfl) (pe_callTy MM.cTupOf (by rfl) T.m_tuple (by decide +kernel) (pa_cons (pe_dget (hu_of hr) (pe_ix ix_list (pe_dget (hu_of hr) (pv 0) pe_str (fun _ _ => rfl)) (pv 3) (fun _ _ => rfl)) pe_str (fun _ _ => rfl)) pa_nil)))
(pss_one (ps_set (i := 8) sc_law_tell.nd rfl (.inl rfl) (pe_callTy MM.cTupOf (by rfl) T.m_tuple (by decide +kernel) (pa_cons (pe_ix ix_list (pe_dget (hu_of hr) (pv 0) pe_str (fun _ _ => rfl)) (pv 6) (fun _ _ => rfl)) pa_nil))))))
 pss_nil)
(pss_one (ps_expr (pe_bm PySem.F.plainAttrs_list PySem.F.slot_list_append PySem.F.type_list_append mt_append (pe_dget (hu_of hr) (pv 0) pe_str (fun _ _ => rfl)) (pa_cons (pe_tup (pa_cons (pe_tup (pa_cons (pv 1) (pa_cons (pv 2) (pa_cons (pe_ix ix_list (pe_dget (hu_of hr) (pv 0) pe_str (fun _ _ => rfl)) (pv 2) (fun _ _ => rfl)) (pa_cons (pv 6) (pa_cons (pv 3) (pa_cons (pv 4) (pa_cons (pv 5) pa_nil)))))))) (pa_cons (pv 7) (pa_cons (pv 8) pa_nil)))) pa_nil)))))))), ?_⟩
      walk_at "mgo"
      refine ⟨Nat.le_of_ble_eq_true rfl, fun p1 hp1 => ?_⟩
      generalize hu : upd _ p1 _ = H1
      obtain ⟨s1, x1⟩ := MM.new2 hu hp1
      have B := B.same s1
      clear hu
      walk_at "mgo"
      refine ⟨Nat.zero_le _, fun p2 hp2 => ?_⟩
      generalize hu : upd _ p2 _ = H2
      obtain ⟨s2, x2⟩ := MM.new2 hu hp2
      have B := B.same s2
      clear hu
      have hpid : (S.th tid).pid < S.mem.length := (W.tok ht).pid
      walk_at "mgo"
      refine R.r_iteY (Int.natCast_nonneg tid) ?_
      walk_at "mgo"
      refine ⟨_, _, rfl, .inl ⟨R.sqL (B.at_rg ht), fun p3 hp3 => ?_⟩⟩
      generalize hu : upd _ p3 _ = H3
      obtain ⟨s3, x3⟩ := MM.new2 hu hp3
      have B := B.same s3
      clear hu
      walk_at "mgo"
      refine ⟨_, _, rfl, .inl ⟨R.sqL (B.at_me hpid), fun p4 hp4 => ?_⟩⟩
      generalize hu : upd _ p4 _ = H4
      obtain ⟨s4, x4⟩ := MM.new2 hu hp4
      have B := B.same s4
      clear hu
      walk_at "mgo"
      refine ⟨Nat.le_of_ble_eq_true rfl, fun p5 hp5 => ?_⟩
      generalize hu : upd _ p5 _ = H5
      obtain ⟨s5, x5⟩ := MM.new2 hu hp5
      have B := B.same s5
      clear hu
      walk_at "mgo"
      refine ⟨Nat.le_of_ble_eq_true rfl, fun p6 hp6 => ?_⟩
      generalize hu : upd _ p6 _ = H6
      obtain ⟨s6, x6⟩ := MM.new2 hu hp6
      have B := B.same s6
      clear hu
      walk_at "mgo"
      have hv := W.vw
      have s16 := ((((s1.trans s2).trans s3).trans s4).trans s5).trans s6
      refine LM.a_ev (w := ⟨kind, S.cpu, S.now, (S.th tid).pid, tid, at', args, (S.th tid).regs, (S.mm (S.th tid).pid).img⟩) B (by omega) ⟨p5, p3, p4, g, x6, s6 _ _ x5, s16 _ _ hg, s6 _ _ (s5 _ _ (s4 _ _ x3)), by rw [O.img hpid]; exact s6 _ _ (s5 _ _ x4)⟩ fun H7 B7 m7 => ?_
      walk_at "mgo"
      exact q H7 B7 (LM.Mvl.pre s16 m7)
    · have B := O.B
      have W := O.W
      have hcpu : S.cpu < S.times.length := by rw [W.tim]; exact W.cpu
      refine ⟨_, (pss_cons (ps_set (i := 6) sc_law_tell.nd rfl (.inl rfl) (pe_un un_neg pe_int))
(pss_cons (ps_set (i := 7) sc_law_tell.nd rfl (.inl rfl) (pe_tup (pa_cons pe_int (pa_cons pe_int (pa_cons pe_int (pa_cons pe_int pa_nil))))))
(pss_cons (ps_set (i := 8) sc_law_tell.nd rfl (.inl rfl) (pe_tup pa_nil))
(pss_cons (ps_if (pt_cmpR op_ge (pv 3) pe_int (nomark _))
 (pss_cons (ps_set (i := 6) sc_law_tell.nd rfl (.inl rfl) (pe_dget (hu_of hr) (pe_ix ix_list (pe_dget (hu_of hr) (pv 0) pe_str (fun _ _ => rfl)) (pv 3) (fun _ _ => rfl)) pe_str (fun _ _ => rfl)))
(pss_cons (ps_set (i := 7) sc_law_tell.nd rfl (.inl rfl) (pe_callTy MM.cTupOf (by rfl) T.m_tuple (by decide +kernel) (pa_cons (pe_dget (hu_of hr) (pe_ix ix_list (pe_dget (hu_of hr) (pv 0) pe_str (fun _ _ => rfl)) (pv 3) (fun _ _ => rfl)) pe_str (fun _ _ => rfl)) pa_nil)))
(pss_one (ps_set (i := 8) sc_law_tell.nd rfl (.inl rfl) (pe_callTy MM.cTupOf (by rfl) T.m_tuple (by decide +kernel) (pa_cons (pe_ix ix_list (pe_dget (hu_of hr) (pv 0) pe_str (fun _ _ => rfl)) (pv 6) (fun _ _ => rfl)) pa_nil))))))
 pss_nil)
(pss_one (ps_expr (pe_bm PySem.F.plainAttrs_list PySem.F.slot_list_append PySem.F.type_list_append mt_append (pe_dget (hu_of hr) (pv 0) pe_str (fun _ _ => rfl)) (pa_cons (pe_tup (pa_cons (pe_tup (pa_cons (pv 1) (pa_cons (pv 2) (pa_cons (pe_ix ix_list (pe_dget (hu_of hr) (pv 0) pe_str (fun _ _ => rfl)) (pv 2) (fun _ _ => rfl)) (pa_cons (pv 6) (pa_cons (pv 3) (pa_cons (pv 4) (pa_cons (pv 5) pa_nil)))))))) (pa_cons (pv 7) (pa_cons (pv 8) pa_nil)))) pa_nil)))))))), ?_⟩
      walk_at "mgo"
      refine ⟨Nat.le_of_ble_eq_true rfl, fun p1 hp1 => ?_⟩
      generalize hu : upd _ p1 _ = H1
      obtain ⟨s1, x1⟩ := MM.new2 hu hp1
      have B := B.same s1
      clear hu
      walk_at "mgo"
      refine ⟨Nat.zero_le _, fun p2 hp2 => ?_⟩
      generalize hu : upd _ p2 _ = H2
      obtain ⟨s2, x2⟩ := MM.new2 hu hp2
      have B := B.same s2
      clear hu
      walk_at "mgo"
      refine ⟨Nat.le_of_ble_eq_true rfl, fun p5 hp5 => ?_⟩
      generalize hu : upd _ p5 _ = H5
      obtain ⟨s5, x5⟩ := MM.new2 hu hp5
      have B := B.same s5
      clear hu
      walk_at "mgo"
      refine ⟨Nat.le_of_ble_eq_true rfl, fun p6 hp6 => ?_⟩
      generalize hu : upd _ p6 _ = H6
      obtain ⟨s6, x6⟩ := MM.new2 hu hp6
      have B := B.same s6
      clear hu
      walk_at "mgo"
      have hv := W.vw
      have s16 := ((s1.trans s2).trans s5).trans s6
      refine LM.a_ev (w := ⟨"tick", S.cpu, S.now, -1, -1, -1, [], [0, 0, 0, 0], []⟩) B (by omega) ⟨p5, p1, p2, g, x6, s6 _ _ x5, s16 _ _ hg, s6 _ _ (s5 _ _ (s2 _ _ x1)), s6 _ _ (s5 _ _ x2)⟩ fun H7 B7 m7 => ?_
      walk_at "mgo"
      exact q H7 B7 (LM.Mvl.pre s16 m7)
theorem ok_law_returns (T : Txt K mg) : FnOk P w K mg base CX0 2 T.p_law_returns.f T.p_law_returns.fd ["m", "cpu", "tid", "result"] LM.spRet := by
  refine T.p_law_returns.F.ok sc_law_returns (fun vs H Q E h => ?_) (fun cdv A outer s H vs Q E hr h => ?_)
  · obtain ⟨ad, S, k, tid, res, rfl, _⟩ := h
    rfl
  · obtain ⟨ad, S, k, tid, res, rfl, hres, O, hk, ht, q⟩ := h
    have B := O.B
    have W := O.W
    refine ⟨_, (pss_cons (ps_set (i := 4) sc_law_returns.nd rfl (.inl rfl) (pe_ix ix_list (pe_dget (hu_of hr) (pv 0) pe_str (fun _ _ => rfl)) (pv 2) (fun _ _ => rfl)))
(pss_cons (ps_asg (pv 3) (pg_sub (pe_dget (hu_of hr) (pv 4) pe_str (fun _ _ => rfl)) pe_int set_list))
(pss_cons (ps_expr (pe_call (ok_law_tell T) (hr.mono (by decide)) (by rfl) T.p_law_tell.g T.p_law_tell.F.kp T.p_law_tell.b .nil pass0 (pa_cons (pv 0) (pa_cons pe_str (pa_cons (pv 1) (pa_cons (pv 2) (pa_cons (pe_ix ix_tup (pe_dget (hu_of hr) (pv 4) pe_str (fun _ _ => rfl)) pe_int (fun _ _ => rfl)) (pa_cons (pe_tup (pa_cons (pe_ix ix_tup (pe_dget (hu_of hr) (pv 4) pe_str (fun _ _ => rfl)) pe_int (fun _ _ => rfl)) (pa_cons (pv 3) pa_nil))) pa_nil))))))))
(pss_one (ps_if (pt_cmpR op_ne (pe_ix ix_tup (pe_dget (hu_of hr) (pv 4) pe_str (fun _ _ => rfl)) pe_int (fun _ _ => rfl)) pe_str (nomark _))
 (pss_cons (ps_dput (hu_of hr) (pv 4) pe_str (pe_tup (pa_cons pe_str pa_nil)) rfl)
(pss_one (ps_expr (pe_bm PySem.F.plainAttrs_list PySem.F.slot_list_append PySem.F.type_list_append mt_append (pe_dget (hu_of hr) (pv 0) pe_str (fun _ _ => rfl)) (pa_cons (pv 2) pa_nil)))))
 pss_nil))))), ?_⟩
    walk_at "mgo"
    refine LM.s_rg B W ht (by decide) (by decide) fun H1 B1 m1 => ?_
    have W1 := W.setReg (j := (0 : Int).toNat) ht hres
    have s1 : MM.Sm S (MM.setReg S tid (0 : Int).toNat res) := MM.Sm.up
    have ht1 : tid < (MM.setReg S tid (0 : Int).toNat res).ths.length := by rw [MM.len_setReg]; exact ht
    have O1 := O.to B1 W1 O.hk s1
    walk_at "mgo"
    refine LM.g_call B1 ht1 fun c1 e1 => ?_
    walk_at "mgo"
    refine R.r_ixT (R.sqT e1) rfl ?_
    walk_at "mgo"
    refine LM.g_call B1 ht1 fun c2 e2 => ?_
    walk_at "mgo"
    refine R.r_ixT (R.sqT e2) rfl ?_
    walk_at "mgo"
    refine ⟨Nat.le_of_ble_eq_true rfl, fun g hg => ?_⟩
    generalize hu : upd _ g _ = H2
    obtain ⟨s2, x2⟩ := MM.new2 hu hg
    refine ⟨ad, _, _, O1.same s2, by omega, .inl ⟨"return", tid, _, [_, res], g, rfl, x2, ht1, fun H3 B3 m3 => ?_⟩⟩
    have m4 : LM.Mv0 S ad H H3 := LM.Mv0.after m1 (LM.Mvl.pre s2 m3) MM.len_setReg s1.nm
    have hc : (MM.setReg S tid (0 : Int).toNat res).th tid = { S.th tid with regs := (S.th tid).regs.set (0 : Int).toNat res } := MM.up_th ht
    walk_at "mgo"
    refine LM.g_is B3 ht1 fun c0 e0 => ?_
    rw [MM.tell_th, hc] at e0
    walk_at "mgo"
    refine R.r_ixT (R.sqT e0) (MM.cond_0 _) ?_
    walk_at "mgo"
    unfold MM.returnCall at q
    refine R.r_iteN (fun e => ?_) (fun e => ?_)
    · rw [if_neg (fun z => e ((MM.name_run _).mpr z))] at q
      walk_at "mgo"
      refine ⟨Nat.le_of_ble_eq_true rfl, fun p hp => ?_⟩
      generalize hv : upd _ p _ = H4
      obtain ⟨s4, x4⟩ := MM.new2 hv hp
      have B4 := B3.same s4
      walk_at "mgo"
      refine LM.p_is (cd := .ready) B4 ht1 x4 fun H5 B5 m5 => ?_
      have W3 : MM.WF (MM.tell (MM.setReg S tid (0 : Int).toNat res) "return" tid ((MM.setReg S tid (0 : Int).toNat res).th tid).callAt [((MM.setReg S tid (0 : Int).toNat res).th tid).call, res]) (k + 1) := W1.tell
      have hr5 := W3.rdl
      walk_at "mgo"
      refine LM.a_rdy B5 (by show List.length _ < _; exact Nat.lt_of_le_of_lt hr5 (by omega)) fun H6 B6 m6 => ?_
      walk_at "mgo"
      have m5' : LM.Mv0 S ad H H5 := LM.Mv0.after m4 (LM.Mvl.pre s4 m5) MM.len_setReg s1.nm
      exact q H6 B6 (LM.Mv0.after m5' m6 (by rw [LM.len_setCond]; exact MM.len_setReg) s1.nm)
    · rw [if_pos ((MM.name_run _).mp e)] at q
      walk_at "mgo"
      exact q H3 B3 m4
theorem ok_law_off (T : Txt K mg) : FnOk P w K mg base CX0 2 T.p_law_off.f T.p_law_off.fd ["m", "cpu", "tid", "condition", "reason"] LM.spOff := by
  refine T.p_law_off.F.ok sc_law_off (fun vs H Q E h => ?_) (fun cdv A outer s H vs Q E hr h => ?_)
  · obtain ⟨ad, S, k, tid, cd, c1, r, rfl, _⟩ := h
    rfl
  · obtain ⟨ad, S, k, tid, cd, c1, r, rfl, hc1, hcd, O, hk, ht, q⟩ := h
    have B := O.B
    have W := O.W
    have hcpu : S.cpu < S.run.length := by rw [W.rn]; exact W.cpu
    refine ⟨_, (pss_cons (ps_dput (hu_of hr) (pe_ix ix_list (pe_dget (hu_of hr) (pv 0) pe_str (fun _ _ => rfl)) (pv 2) (fun _ _ => rfl)) pe_str (pv 3) rfl)
(pss_cons (ps_asg (pe_un un_neg pe_int) (pg_sub (pe_dget (hu_of hr) (pv 0) pe_str (fun _ _ => rfl)) (pv 1) set_list))
(pss_cons (ps_if (pt_cmpR (op_eqD hr.units) (pv 3) (pe_tup (pa_cons pe_str pa_nil)) (nomark _))
 (pss_one (ps_expr (pe_bm PySem.F.plainAttrs_list PySem.F.slot_list_append PySem.F.type_list_append mt_append (pe_dget (hu_of hr) (pv 0) pe_str (fun _ _ => rfl)) (pa_cons (pv 2) pa_nil))))
 pss_nil)
(pss_one (ps_expr (pe_call (ok_law_tell T) (hr.mono (by decide)) (by rfl) T.p_law_tell.g T.p_law_tell.F.kp T.p_law_tell.b .nil pass0 (pa_cons (pv 0) (pa_cons pe_str (pa_cons (pv 1) (pa_cons (pv 2) (pa_cons (pe_dget (hu_of hr) (pe_ix ix_list (pe_dget (hu_of hr) (pv 0) pe_str (fun _ _ => rfl)) (pv 2) (fun _ _ => rfl)) pe_str (fun _ _ => rfl)) (pa_cons (pe_tup (pa_cons (pv 4) pa_nil)) pa_nil)))))))))))), ?_⟩
    walk_at "mgo"
    refine LM.p_is B ht hc1 fun H1 B1 m1 => ?_
    walk_at "mgo"
    refine LM.s_run B1 (i := S.cpu) hcpu fun H2 B2 m2 => ?_
    walk_at "mgo"
    have B2 : LM.Lm ad (MM.endRun S tid cd) H2 := B2
    have W2 : MM.WF (MM.endRun S tid cd) k := W.endRun ht hcd
    have ht2 : tid < (MM.endRun S tid cd).ths.length := by rw [MM.len_endRun]; exact ht
    have m2' : LM.Mv0 S ad H H2 := LM.Mv0.after m1 m2 LM.len_setCond rfl
    have O2 := O.to B2 W2 O.hk MM.Sm.endRun
    refine ⟨Nat.le_of_ble_eq_true rfl, fun p hp => ?_⟩
    generalize hu : upd _ p _ = H3
    obtain ⟨s3, x3⟩ := MM.new2 hu hp
    have O3 := O2.same s3
    have B3 := O3.B
    refine D.r_eqD (p := LM.isReady cd = true) (MM.dp_cond (s3 _ _ (m2'.kt _ _ hc1))) (.tup (R.sqT x3) (.cons (.str _) .nil)) (MM.sh_cond _) (.tup (k := 0) (.cons (.str (by decide +kernel)) .nil)) (by decide) (by decide) LM.cond_ready ?_
    walk_at "mgo"
    refine R.r_ite (fun e => ?_) (fun e => ?_)
    · obtain ⟨rfl, eo⟩ := LM.offS_r (S := S) (t := tid) (r := r) e
      rw [eo] at q
      walk_at "mgo"
      refine LM.a_rdy B3 (by exact Nat.lt_of_le_of_lt W2.rdl (by omega)) fun H4 B4 m4 => ?_
      have m4' : LM.Mv0 S ad H H4 := LM.Mv0.after m2' (LM.Mvl.pre s3 m4) MM.len_endRun rfl
      have W4 : MM.WF { MM.endRun S tid .ready with ready := (MM.endRun S tid .ready).ready ++ [tid] } (k + 1) := W2.ready ht2
      have O4 : LM.LOk ad { MM.endRun S tid .ready with ready := (MM.endRun S tid .ready).ready ++ [tid] } H4 (k + 1) := O3.to B4 W4 (by omega) ⟨Nat.le_refl _, rfl, rfl, rfl⟩
      have ht4 : tid < ({ MM.endRun S tid .ready with ready := (MM.endRun S tid .ready).ready ++ [tid] } : MM.MS).ths.length := ht2
      generalize e4 : ({ MM.endRun S tid .ready with ready := (MM.endRun S tid .ready).ready ++ [tid] } : MM.MS) = S4 at *
      walk_at "mgo"
      refine ⟨Nat.le_of_ble_eq_true rfl, fun g hg => ?_⟩
      generalize hv : upd _ g _ = H5
      obtain ⟨s5, x5⟩ := MM.new2 hv hg
      refine ⟨ad, S4, _, O4.same s5, by omega, .inl ⟨"off", tid, _, [r], g, by rw [← e4]; rfl, x5, ht4, fun H6 B6 m6 => ?_⟩⟩
      walk_at "mgo"
      subst e4
      exact q H6 B6 (LM.Mv0.after m4' (LM.Mvl.pre s5 m6) MM.len_endRun rfl)
    · rw [LM.offS_n e] at q
      walk_at "mgo"
      refine ⟨Nat.le_of_ble_eq_true rfl, fun g hg => ?_⟩
      generalize hv : upd _ g _ = H5
      obtain ⟨s5, x5⟩ := MM.new2 hv hg
      refine ⟨ad, _, _, O3.same s5, by omega, .inl ⟨"off", tid, _, [r], g, rfl, x5, ht2, fun H6 B6 m6 => ?_⟩⟩
      walk_at "mgo"
      exact q H6 B6 (LM.Mv0.after m2' (LM.Mvl.pre (s3.trans s5) m6) MM.len_endRun rfl)
theorem ok_law_ends (T : Txt K mg) : FnOk P w K mg base CX0 3 T.p_law_ends.f T.p_law_ends.fd ["m", "cpu", "tid", "at", "code"] LM.spEnds := by
  refine T.p_law_ends.F.ok sc_law_ends (fun vs H Q E h => ?_) (fun cdv A outer s H vs Q E hr h => ?_)
  · obtain ⟨ad, S, k, tid, at', code, rfl, _⟩ := h
    rfl
  · obtain ⟨ad, S, k, tid, at', code, rfl, hcode, O, hk, ht, q⟩ := h
    have B := O.B
    have W := O.W
    have hcpu : S.cpu < S.run.length := by rw [W.rn]; exact W.cpu
    refine ⟨_, (pss_cons (ps_expr (pe_call (ok_law_tell T) (hr.mono (by decide)) (by rfl) T.p_law_tell.g T.p_law_tell.F.kp T.p_law_tell.b .nil pass0 (pa_cons (pv 0) (pa_cons pe_str (pa_cons (pv 1) (pa_cons (pv 2) (pa_cons (pv 3) (pa_cons (pe_tup (pa_cons (pv 4) pa_nil)) pa_nil))))))))
(pss_cons (ps_dput (hu_of hr) (pe_ix ix_list (pe_dget (hu_of hr) (pv 0) pe_str (fun _ _ => rfl)) (pv 2) (fun _ _ => rfl)) pe_str (pe_tup (pa_cons pe_str (pa_cons (pv 4) pa_nil))) rfl)
(pss_cons (ps_asg (pe_un un_neg pe_int) (pg_sub (pe_dget (hu_of hr) (pv 0) pe_str (fun _ _ => rfl)) (pv 1) set_list))
(pss_one (ps_for PassesOwn.never rfl (pi_range1 rfl T.m_range (pa_cons (pe_callB R.cLenS (by rfl) T.m_len (by decide +kernel) (pa_cons (pe_dget (hu_of hr) (pv 0) pe_str (fun _ _ => rfl)) pa_nil)) pa_nil)) (pg_name (i := 5) sc_law_ends.nd rfl (.inl rfl))
 (pss_one (ps_if (pt_cmpR (op_eqD hr.units) (pe_dget (hu_of hr) (pe_ix ix_list (pe_dget (hu_of hr) (pv 0) pe_str (fun _ _ => rfl)) (pv 5) (fun _ _ => rfl)) pe_str (fun _ _ => rfl)) (pe_tup (pa_cons pe_str (pa_cons (pv 2) pa_nil))) (nomark _))
 (pss_one (ps_expr (pe_call (ok_law_returns T) (hr.mono (by decide)) (by rfl) T.p_law_returns.g T.p_law_returns.F.kp T.p_law_returns.b .nil pass0 (pa_cons (pv 0) (pa_cons (pv 1) (pa_cons (pv 5) (pa_cons (pv 4) pa_nil)))))))
 pss_nil))))))), ?_⟩
    walk_at "mgo"
    refine ⟨Nat.le_of_ble_eq_true rfl, fun g hg => ?_⟩
    generalize hu : upd _ g _ = H1
    obtain ⟨s1, x1⟩ := MM.new2 hu hg
    refine ⟨ad, S, k, O.same s1, by omega, .inl ⟨"end", tid, at', [code], g, rfl, x1, ht, fun H2 B2 m2 => ?_⟩⟩
    have m2' : LM.Mv0 S ad H H2 := LM.Mvl.pre s1 m2
    have O2 := O.to B2 (W.tell (kd := "end") (t := tid) (a := at') (r := [code])) (by omega) MM.Sm.tell
    have ht2 : tid < (MM.tell S "end" tid at' [code]).ths.length := ht
    walk_at "mgo"
    refine ⟨Nat.le_of_ble_eq_true rfl, fun c1 hc1 => ?_⟩
    generalize hv : upd _ c1 _ = H3
    obtain ⟨s3, x3⟩ := MM.new2 hv hc1
    have O3 := O2.same s3
    have B3 := O3.B
    walk_at "mgo"
    refine LM.p_is (cd := .ended code) B3 ht2 x3 fun H4 B4 m4 => ?_
    have m4' : LM.Mv0 S ad H H4 := LM.Mv0.after m2' (LM.Mvl.pre s3 m4) rfl rfl
    walk_at "mgo"
    refine LM.s_run B4 (i := S.cpu) hcpu fun H5 B5 m5 => ?_
    have B5 : LM.Lm ad (MM.endRun (MM.tell S "end" tid at' [code]) tid (.ended code)) H5 := B5
    have m5' : LM.Mv0 S ad H H5 := LM.Mv0.after m4' m5 LM.len_setCond rfl
    have W5 := O2.W.endRun (t := tid) (cd := .ended code) ht2 hcode
    have sm5 : MM.Sm S (MM.endRun (MM.tell S "end" tid at' [code]) tid (.ended code)) := MM.Sm.tell.trans MM.Sm.endRun
    have l5 : (MM.endRun (MM.tell S "end" tid at' [code]) tid (.ended code)).ths.length = S.ths.length := MM.len_endRun
    have eT : MM.endThread S tid at' code = MM.turns (MM.wakeOne tid code) (MM.endRun (MM.tell S "end" tid at' [code]) tid (.ended code)) S.ths.length := rfl
    rw [eT] at q
    have ecpu : (MM.endRun (MM.tell S "end" tid at' [code]) tid (.ended code)).cpu = S.cpu := rfl
    generalize MM.endRun (MM.tell S "end" tid at' [code]) tid (.ended code) = S5 at B5 W5 sm5 l5 q ecpu
    have tk := MM.turns_ok (f := MM.wakeOne tid code) (fun _ _ => MM.len_wakeOne) (fun _ _ => MM.Sm.wakeOne) (fun _ _ _ w h => w.wakeOne h hcode) W5
    have hn := W.nt
    walk_at "mgo"
    refine R.r_rngL (fun i σ H' => ∃ y5, σ = [some (.ref (ad .m)), some (.int (S.cpu : Int)), some (.int (tid : Int)), some (.int at'), some (.int code), y5] ∧ LM.Lm ad (MM.turns (MM.wakeOne tid code) S5 i) H' ∧ LM.Mv0 S ad H H') (by omega) ?_ ?_ ?_
    · exact ⟨_, rfl, B5, m5'⟩
    · rintro i σ H6 hi ⟨y5, rfl, B6, m6⟩
      have hi : i < S5.ths.length := by omega
      obtain ⟨li, si, wi⟩ := tk i (by omega)
      have hi' : i < (MM.turns (MM.wakeOne tid code) S5 i).ths.length := by omega
      have hcp : (MM.turns (MM.wakeOne tid code) S5 i).cpu = S.cpu := si.cp.trans ecpu
      rw [MM.turns_succ]
      walk_at "mgo"
      refine LM.g_is B6 hi' fun c0 e0 => ?_
      walk_at "mgo"
      refine ⟨Nat.le_of_ble_eq_true rfl, fun g2 hg2 => ?_⟩
      generalize hw : upd _ g2 _ = H7
      obtain ⟨s7, x7⟩ := MM.new2 hw hg2
      refine D.r_eqD (MM.dp_cond (s7 _ _ e0)) (.tup (R.sqT x7) (.cons (.str _) (.cons (.int _) .nil))) (MM.sh_cond _) (.tup (k := 0) (.cons (.str (by decide +kernel)) (.cons (.int _) .nil))) (by decide) (by decide) MM.cond_wait ?_
      walk_at "mgo"
      have B7 := B6.same s7
      have m7 : LM.Mv0 S ad H H7 := LM.Mvl.end' m6 (Nat.le_refl _) (Nat.le_refl _) s7
      have sS : MM.Sm S (MM.turns (MM.wakeOne tid code) S5 i) := sm5.trans si
      have lS : (MM.turns (MM.wakeOne tid code) S5 i).ths.length = S.ths.length := li.trans l5
      generalize MM.turns (MM.wakeOne tid code) S5 i = Si at *
      refine R.r_ite (fun e => ?_) (fun e => ?_)
      · walk_at "mgo"
        refine ⟨ad, Si, _, i, code, by rw [hcp]; rfl, hcode, O.to B7 wi (by omega) sS, by omega, hi', fun H8 B8 m8 => ?_⟩
        walk_at "mgo"
        refine ⟨_, rfl, ?_, LM.Mv0.after m7 m8 lS sS.nm⟩
        unfold MM.wakeOne
        rw [if_pos e]
        exact B8
      · walk_at "mgo"
        refine ⟨_, rfl, ?_, m7⟩
        unfold MM.wakeOne
        rw [if_neg e]
        exact B7
    · rintro σ H6 ⟨y5, rfl, B6, m6⟩
      rw [Int.toNat_natCast, l5] at B6
      exact q H6 B6 m6
theorem ok_law_begin (T : Txt K mg) : FnOk P w K mg base CX0 1 T.p_law_begin.f T.p_law_begin.fd ["m", "pid", "pc", "first"] LM.spBegin := by
  refine T.p_law_begin.F.ok sc_law_begin (fun vs H Q E h => ?_) (fun cdv A outer s H vs Q E hr h => ?_)
  · obtain ⟨ad, S, k, pid, pc, first, rfl, _⟩ := h
    rfl
  · obtain ⟨ad, S, k, pid, pc, first, rfl, O, hk, q⟩ := h
    have B := O.B
    have W := O.W
    refine ⟨_, (pss_cons (ps_expr (pe_bm PySem.F.plainAttrs_list PySem.F.slot_list_append PySem.F.type_list_append mt_append (pe_dget (hu_of hr) (pv 0) pe_str (fun _ _ => rfl)) (pa_cons (pe_disp (pps_cons pe_str (pv 1) (pps_cons pe_str (pv 2) (pps_cons pe_str (pe_lst (pa_cons (pv 3) (pa_cons pe_int (pa_cons pe_int (pa_cons pe_int pa_nil))))) (pps_cons pe_str (pe_tup (pa_cons pe_str pa_nil)) (pps_cons pe_str (pe_tup (pa_cons pe_int (pa_cons pe_int pa_nil))) pps_nil))))) (by rfl) (by rfl) (fun z => by cases z) (by decide)) pa_nil)))
(pss_one (ps_expr (pe_bm PySem.F.plainAttrs_list PySem.F.slot_list_append PySem.F.type_list_append mt_append (pe_dget (hu_of hr) (pv 0) pe_str (fun _ _ => rfl)) (pa_cons (pe_op op_sub (pe_callB R.cLenS (by rfl) T.m_len (by decide +kernel) (pa_cons (pe_dget (hu_of hr) (pv 0) pe_str (fun _ _ => rfl)) pa_nil)) pe_int) pa_nil))))), ?_⟩
    walk_at "mgo"
    intro d hd
    generalize hu : upd _ d _ = H1
    obtain ⟨s1, x1⟩ := MM.new2 hu hd
    clear hu
    walk_at "mgo"
    refine ⟨Nat.le_of_ble_eq_true rfl, fun r hr1 => ?_⟩
    generalize hu : upd _ r _ = H2
    obtain ⟨s2, x2⟩ := MM.new2 hu hr1
    clear hu
    walk_at "mgo"
    refine ⟨Nat.le_of_ble_eq_true rfl, fun c0 hc0 => ?_⟩
    generalize hu : upd _ c0 _ = H3
    obtain ⟨s3, x3⟩ := MM.new2 hu hc0
    clear hu
    walk_at "mgo"
    refine ⟨Nat.le_of_ble_eq_true rfl, fun c1 hc1 => ?_⟩
    generalize hu : upd _ c1 _ = H4
    obtain ⟨s4, x4⟩ := MM.new2 hu hc1
    clear hu
    walk_at "mgo"
    refine ⟨s4 _ _ (s3 _ _ (s2 _ _ x1)), LM.tD r c0 c1 ⟨pid, pc, [first, 0, 0, 0], .ready, 0, 0⟩, rfl, Nat.le_of_ble_eq_true rfl, ?_⟩
    have hr0 : H r = none := s1.free hr1
    have hdr : d ≠ r := fun z => by rw [z, hr1] at x1; cases x1
    have hd0 : d ≠ c0 := fun z => by rw [z, s2.free hc0] at x1; cases x1
    have hd1 : d ≠ c1 := fun z => by rw [z, s2.free (s3.free hc1)] at x1; cases x1
    have s5 : Same H (upd H4 d (.dK (mergeK [] (LM.tD r c0 c1 ⟨pid, pc, [first, 0, 0, 0], .ready, 0, 0⟩)))) := fun b o hb => by
      rw [upd_ne (ne_of_none hb hd)]
      exact s4 _ _ (s3 _ _ (s2 _ _ (s1 _ _ hb)))
    have ed : upd H4 d (.dK (mergeK [] (LM.tD r c0 c1 ⟨pid, pc, [first, 0, 0, 0], .ready, 0, 0⟩))) d = some (.dK (LM.tD r c0 c1 ⟨pid, pc, [first, 0, 0, 0], .ready, 0, 0⟩)) := upd_same
    have er : upd H4 d (.dK (mergeK [] (LM.tD r c0 c1 ⟨pid, pc, [first, 0, 0, 0], .ready, 0, 0⟩))) r = some (.lst (([first, 0, 0, 0] : List Int).map V.int)) := by rw [upd_ne hdr.symm]; exact s4 _ _ (s3 _ _ x2)
    have e0 : upd H4 d (.dK (mergeK [] (LM.tD r c0 c1 ⟨pid, pc, [first, 0, 0, 0], .ready, 0, 0⟩))) c0 = some (.tup (MM.condV .ready)) := by rw [upd_ne hd0.symm]; exact s4 _ _ x3
    have e1 : LM.ClAt (upd H4 d (.dK (mergeK [] (LM.tD r c0 c1 ⟨pid, pc, [first, 0, 0, 0], .ready, 0, 0⟩)))) c1 ⟨pid, pc, [first, 0, 0, 0], .ready, 0, 0⟩ := by
      show upd H4 d _ c1 = _
      rw [upd_ne hd1.symm]; exact x4
    generalize upd H4 d (.dK (mergeK [] (LM.tD r c0 c1 ⟨pid, pc, [first, 0, 0, 0], .ready, 0, 0⟩))) = H5 at *
    obtain ⟨old, eo, lo, B6, m6⟩ := B.addTh s5 hd hr0 hdr ed er e0 e1
    generalize LM.adE (LM.adE ad (.th S.ths.length) d) (.rg S.ths.length) r = ad' at B6 m6
    have hn := W.nt
    have hrl := W.rdl
    walk_at "mgo"
    refine ⟨_, _, _, rfl, rfl, eo, R.size_lt (by rw [lo]; omega), ?_⟩
    generalize upd H5 (ad .thsL) (.lst (old ++ [.ref d])) = H6 at B6 m6 ⊢
    rw [← m6.ag .m rfl trivial]
    walk_at "mgo"
    rw [show (((({ S with ths := S.ths ++ [⟨pid, pc, [first, 0, 0, 0], .ready, 0, 0⟩] } : MM.MS).ths.length : Nat) : Int) - 1) = ((S.ths.length : Nat) : Int) by
      show (((S.ths ++ [_]).length : Nat) : Int) - 1 = _
      rw [List.length_append]
      show ((S.ths.length + 1 : Nat) : Int) - 1 = _
      omega]
    refine LM.a_rdy B6 (by exact Nat.lt_of_le_of_lt hrl (by omega)) fun H7 B7 m7 => ?_
    walk_at "mgo"
    have m7' : LM.Mvl (S.ths.length + 1) S.mem.length ad' (S.ths.length + 1) S.mem.length ad' H6 H7 := by
      have z : LM.Mvl (S.ths ++ ([⟨pid, pc, [first, 0, 0, 0], .ready, 0, 0⟩] : List MM.Th)).length S.mem.length ad' (S.ths ++ ([⟨pid, pc, [first, 0, 0, 0], .ready, 0, 0⟩] : List MM.Th)).length S.mem.length ad' H6 H7 := m7
      rw [List.length_append] at z
      exact z
    exact q ad' H7 B7 (LM.Mvl.trans (Nat.le_succ _) (Nat.le_refl _) m6 m7')
end
end K60
end
section
local macro_rules | `(tactic| walk_at "s1") => `(tactic| first
  | ((with_reducible apply R.r_var); · rfl)
  | with_reducible apply R.r_c
  | with_reducible apply R.r_op
  | with_reducible apply R.r_I0
  | with_reducible apply R.r_cb
  | with_reducible apply R.r_cons
  | with_reducible apply R.r_nil
  | with_reducible apply R.r_seq
  | with_reducible apply R.r_asg
  | with_reducible apply R.r_ret
  | with_reducible apply R.r_ifS
  | with_reducible apply R.r_test
  | with_reducible apply R.r_t
  | with_reducible apply R.r_f
  | with_reducible apply R.r_nt
  | with_reducible apply R.r_nf
  | with_reducible apply R.r_bl
  | with_reducible apply R.r_U
  | with_reducible apply R.r_un
  | with_reducible apply R.r_eqI
  | with_reducible apply R.r_eqS
  | with_reducible apply R.r_neI
  | with_reducible apply R.r_neS
  | with_reducible apply R.r_and
  | with_reducible apply R.r_or
  | with_reducible apply R.r_not
  | with_reducible apply R.r_andV
  | with_reducible apply R.r_orV
  | with_reducible apply R.r_notV
  | with_reducible apply R.r_blV
  | with_reducible apply R.r_B
  | with_reducible apply R.r_ifE
  | with_reducible apply R.r_tup
  | with_reducible apply R.r_lst
  | with_reducible apply R.r_call
  | with_reducible apply R.r_drop
  | with_reducible apply R.r_next
  | with_reducible apply R.r_abs
  | with_reducible apply R.r_int1
  | with_reducible apply R.r_int1b
  | with_reducible apply R.r_min2
  | with_reducible apply R.r_bm
  | with_reducible apply R.r_bm0
  | with_reducible apply R.r_dget
  | with_reducible apply R.r_dput
  | with_reducible apply R.r_disp
  | with_reducible apply R.r_pnil
  | with_reducible apply R.r_pcons
  | with_reducible apply R.r_fld
  | with_reducible apply R.r_slice
  | with_reducible apply R.r_nopart
  | with_reducible apply R.r_part
  | with_reducible apply R.r_int
  | with_reducible apply R.r_yes
  | with_reducible apply R.r_retN
  | with_reducible apply R.r_asgG
  | with_reducible apply R.r_gname
  | with_reducible apply R.r_rng1
  | with_reducible apply R.r_brk
  | with_reducible apply R.r_cnt
  | with_reducible apply R.r_m1
  | with_reducible apply R.r_lcr
  | with_reducible apply R.r_p2_63
  | with_reducible apply R.r_p2_64
  | with_reducible apply R.r_p2_32
  | with_reducible apply R.r_p2_31
  | with_reducible apply R.r_p10_18
  | with_reducible apply R.r_p10_30
  | with_reducible refine R.r_mod (by omega) ?_
  | with_reducible refine R.r_div (by omega) ?_
  | with_reducible refine R.r_mulR (by omega) ?_
  | with_reducible refine R.r_mulL (by omega) ?_
  | with_reducible refine R.r_iteY (by decide +kernel) ?_
  | with_reducible refine R.r_iteF (by decide +kernel) ?_
  | with_reducible refine R.r_isi R.isi_int ?_
  | with_reducible refine R.r_isi R.isi_intB ?_)
local macro_rules | `(tactic| walk_at "go") => `(tactic| repeat (walk_at "s1"))

set_option hygiene false
local macro_rules | `(tactic| walk_at "m1") => `(tactic| first
  | walk_at "s1"
  | with_reducible apply MM.r_meth
  | with_reducible apply MM.r_make
  | with_reducible apply MM.r_din
  | with_reducible apply MM.r_dnotin
  | with_reducible apply MM.r_dget2
  | with_reducible apply MM.r_dpop1
  | with_reducible apply MM.r_sfld
  | with_reducible apply MM.r_gsub
  | with_reducible apply MM.r_augS
  | with_reducible apply MM.r_ip
  | with_reducible apply MM.r_chain
  | with_reducible apply MM.r_daug
  | with_reducible apply MM.r_add
  | with_reducible refine LM.g_mem ‹LM.Lm _ _ _› ?_
  | with_reducible refine LM.g_events ‹LM.Lm _ _ _› ?_
  | with_reducible refine LM.g_time ‹LM.Lm _ _ _› ?_
  | with_reducible refine LM.g_runs ‹LM.Lm _ _ _› ?_
  | with_reducible refine LM.g_threads ‹LM.Lm _ _ _› ?_
  | with_reducible refine LM.g_ready ‹LM.Lm _ _ _› ?_
  | with_reducible refine LM.g_device ‹LM.Lm _ _ _› ?_
  | with_reducible refine LM.g_pid ‹LM.Lm _ _ _› (by first | assumption | omega) ?_
  | with_reducible refine LM.g_pc ‹LM.Lm _ _ _› (by first | assumption | omega) ?_
  | with_reducible refine LM.g_regs ‹LM.Lm _ _ _› (by first | assumption | omega) ?_
  | with_reducible refine LM.x_ths ‹LM.Lm _ _ _› (by first | assumption | omega) ?_
  | with_reducible refine LM.x_mem ‹LM.Lm _ _ _› (by first | assumption | omega) ?_
  | with_reducible refine LM.x_tim ‹LM.Lm _ _ _› (by first | assumption | omega) ?_
  | with_reducible refine LM.x_run ‹LM.Lm _ _ _› (by first | assumption | omega) ?_
  | with_reducible refine LM.x_rg ‹LM.Lm _ _ _› ‹MM.WF _ _› (by first | assumption | omega) (by omega) (by omega) ?_
  | with_reducible refine LM.x_dev0 ‹LM.Lm _ _ _› ?_
  | with_reducible refine LM.x_dev1 ‹LM.Lm _ _ _› ?_
  | with_reducible refine LM.l_ths ‹LM.Lm _ _ _› ?_
  | with_reducible refine ⟨LM.t_rdy ‹LM.Lm _ _ _›, ?_⟩
  | with_reducible refine ⟨LM.t_ths ‹LM.Lm _ _ _›, ?_⟩
  | with_reducible refine ⟨LM.t_ev ‹LM.Lm _ _ _›, ?_⟩
  | with_reducible refine ⟨LM.t_rq ‹LM.Lm _ _ _›, ?_⟩)
local macro_rules | `(tactic| walk_at "mgo") => `(tactic| repeat (walk_at "m1"))
set_option hygiene true

namespace K60
open PySem PySem.Spec PyProof.Rows L2
section
variable {P : Program} {w : World} {K : PySem.W.Frag} {mg : Str → Option Value} {base : Heap}
theorem ok_law_call (T : Txt K mg) : FnOk P w K mg base CX0 4 T.p_law_call.f T.p_law_call.fd ["m", "cpu", "tid", "at", "number"] LM.spCall := by
  refine T.p_law_call.F.ok sc_law_call (fun vs H Q E h => ?_) (fun cdv A outer s H vs Q E hr h => ?_)
  · obtain ⟨ad, S, k, tid, a, n, rfl, _⟩ := h
    rfl
  · obtain ⟨ad, S0, k, tid, a, n, rfl, O0, hk, ht0, q⟩ := h
    have B0 := O0.B
    have W0 := O0.W
    refine ⟨_, (pss_cons (ps_set (i := 5) sc_law_call.nd rfl (.inl rfl) (pe_ix ix_list (pe_dget (hu_of hr) (pv 0) pe_str (fun _ _ => rfl)) (pv 2) (fun _ _ => rfl)))
(pss_cons (ps_set (i := 6) sc_law_call.nd rfl (.inl rfl) (pe_ix ix_list (pe_dget (hu_of hr) (pv 5) pe_str (fun _ _ => rfl)) pe_int (fun _ _ => rfl)))
(pss_cons (ps_dput (hu_of hr) (pv 5) pe_str (pe_tup (pa_cons (pv 4) (pa_cons (pv 3) pa_nil))) rfl)
(pss_cons (ps_expr (pe_call (ok_law_tell T) (hr.mono (by decide)) (by rfl) T.p_law_tell.g T.p_law_tell.F.kp T.p_law_tell.b .nil pass0 (pa_cons (pv 0) (pa_cons pe_str (pa_cons (pv 1) (pa_cons (pv 2) (pa_cons (pv 3) (pa_cons (pe_tup (pa_cons (pv 4) (pa_cons (pv 6) (pa_cons (pe_ix ix_list (pe_dget (hu_of hr) (pv 5) pe_str (fun _ _ => rfl)) pe_int (fun _ _ => rfl)) pa_nil)))) pa_nil))))))))
(pss_one (ps_if (pt_cmpR op_eq (pv 4) pe_int (nomark _))
 (pss_one (ps_expr (pe_call (ok_law_ends T) (hr.mono (by decide)) (by rfl) T.p_law_ends.g T.p_law_ends.F.kp T.p_law_ends.b .nil pass0 (pa_cons (pv 0) (pa_cons (pv 1) (pa_cons (pv 2) (pa_cons (pv 3) (pa_cons (pv 6) pa_nil))))))))
 (pss_one (ps_if (pt_cmpR op_eq (pv 4) pe_int (nomark _))
 (pss_cons (ps_expr (pe_call (ok_law_returns T) (hr.mono (by decide)) (by rfl) T.p_law_returns.g T.p_law_returns.F.kp T.p_law_returns.b .nil pass0 (pa_cons (pv 0) (pa_cons (pv 1) (pa_cons (pv 2) (pa_cons pe_int pa_nil))))))
(pss_one (ps_expr (pe_call (ok_law_off T) (hr.mono (by decide)) (by rfl) T.p_law_off.g T.p_law_off.F.kp T.p_law_off.b .nil pass0 (pa_cons (pv 0) (pa_cons (pv 1) (pa_cons (pv 2) (pa_cons (pe_tup (pa_cons pe_str pa_nil)) (pa_cons pe_int pa_nil)))))))))
 (pss_one (ps_if (pt_cmpR op_eq (pv 4) pe_int (nomark _))
 (pss_one (ps_expr (pe_call (ok_law_off T) (hr.mono (by decide)) (by rfl) T.p_law_off.g T.p_law_off.F.kp T.p_law_off.b .nil pass0 (pa_cons (pv 0) (pa_cons (pv 1) (pa_cons (pv 2) (pa_cons (pe_tup (pa_cons pe_str (pa_cons (pv 1) (pa_cons (pe_op op_add (pe_ix ix_list (pe_dget (hu_of hr) (pv 0) pe_str (fun _ _ => rfl)) (pv 1) (fun _ _ => rfl)) (pv 6)) pa_nil)))) (pa_cons pe_int pa_nil))))))))
 (pss_one (ps_if (pt_cmpR op_in_seq (pv 4) (pe_lst (pa_cons pe_int (pa_cons pe_int pa_nil))) rfl)
 (pss_cons (ps_expr (pe_bm PySem.F.plainAttrs_list PySem.F.slot_list_append PySem.F.type_list_append mt_append (pe_ix ix_list (pe_dget (hu_of hr) (pv 0) pe_str (fun _ _ => rfl)) pe_int (fun _ _ => rfl)) (pa_cons (pe_tup (pa_cons (pv 2) (pa_cons (pv 4) (pa_cons (pv 6) pa_nil)))) pa_nil)))
(pss_one (ps_expr (pe_call (ok_law_off T) (hr.mono (by decide)) (by rfl) T.p_law_off.g T.p_law_off.F.kp T.p_law_off.b .nil pass0 (pa_cons (pv 0) (pa_cons (pv 1) (pa_cons (pv 2) (pa_cons (pe_tup (pa_cons pe_str pa_nil)) (pa_cons pe_int pa_nil)))))))))
 (pss_one (ps_if ((pw_and (pt_cmpR op_eq (pv 4) pe_int (nomark _)) (pw_and1 (pt_cmpR op_lt (pe_callB R.cLenS (by rfl) T.m_len (by decide +kernel) (pa_cons (pe_dget (hu_of hr) (pv 0) pe_str (fun _ _ => rfl)) pa_nil)) pe_int (nomark _))))).pt
 (pss_cons (ps_expr (pe_call (ok_law_begin T) (hr.mono (by decide)) (by rfl) T.p_law_begin.g T.p_law_begin.F.kp T.p_law_begin.b .nil pass0 (pa_cons (pv 0) (pa_cons (pe_dget (hu_of hr) (pv 5) pe_str (fun _ _ => rfl)) (pa_cons (pe_op op_mod (pe_callTy R.cInt1 (by rfl) T.m_int (by decide +kernel) (pa_cons (pv 6) pa_nil)) pe_int) (pa_cons (pe_ix ix_list (pe_dget (hu_of hr) (pv 5) pe_str (fun _ _ => rfl)) pe_int (fun _ _ => rfl)) pa_nil))))))
(pss_one (ps_expr (pe_call (ok_law_returns T) (hr.mono (by decide)) (by rfl) T.p_law_returns.g T.p_law_returns.F.kp T.p_law_returns.b .nil pass0 (pa_cons (pv 0) (pa_cons (pv 1) (pa_cons (pv 2) (pa_cons (pe_op op_sub (pe_callB R.cLenS (by rfl) T.m_len (by decide +kernel) (pa_cons (pe_dget (hu_of hr) (pv 0) pe_str (fun _ _ => rfl)) pa_nil)) pe_int) pa_nil))))))))
 (pss_one (ps_if ((pw_and (pt_cmpR op_eq (pv 4) pe_int (nomark _)) (pw_and (pt_cmpR op_lt (pv 6) (pe_callB R.cLenS (by rfl) T.m_len (by decide +kernel) (pa_cons (pe_dget (hu_of hr) (pv 0) pe_str (fun _ _ => rfl)) pa_nil)) (nomark _)) (pw_and1 (pt_cmpR op_ne (pv 6) (pv 2) (nomark _)))))).pt
 (pss_cons (ps_set (i := 7) sc_law_call.nd rfl (.inl rfl) (pe_dget (hu_of hr) (pe_ix ix_list (pe_dget (hu_of hr) (pv 0) pe_str (fun _ _ => rfl)) (pv 6) (fun _ _ => rfl)) pe_str (fun _ _ => rfl)))
(pss_one (ps_if (pt_cmpR op_eq (pe_ix ix_tup (pv 7) pe_int (fun _ _ => rfl)) pe_str (nomark _))
 (pss_one (ps_expr (pe_call (ok_law_returns T) (hr.mono (by decide)) (by rfl) T.p_law_returns.g T.p_law_returns.F.kp T.p_law_returns.b .nil pass0 (pa_cons (pv 0) (pa_cons (pv 1) (pa_cons (pv 2) (pa_cons (pe_ix ix_tup (pv 7) pe_int (fun _ _ => rfl)) pa_nil)))))))
 (pss_one (ps_expr (pe_call (ok_law_off T) (hr.mono (by decide)) (by rfl) T.p_law_off.g T.p_law_off.F.kp T.p_law_off.b .nil pass0 (pa_cons (pv 0) (pa_cons (pv 1) (pa_cons (pv 2) (pa_cons (pe_tup (pa_cons pe_str (pa_cons (pv 6) pa_nil))) (pa_cons pe_int pa_nil)))))))))))
 (pss_one (ps_expr (pe_call (ok_law_returns T) (hr.mono (by decide)) (by rfl) T.p_law_returns.g T.p_law_returns.F.kp T.p_law_returns.b .nil pass0 (pa_cons (pv 0) (pa_cons (pv 1) (pa_cons (pv 2) (pa_cons pe_int pa_nil))))))))))))))))))))))), ?_⟩
    walk_at "mgo"
    refine ⟨Nat.le_of_ble_eq_true rfl, fun c1 hc1 => ?_⟩
    generalize hu : upd _ c1 _ = Ha
    obtain ⟨sa, xa⟩ := MM.new2 hu hc1
    clear hu
    have Ba := B0.same sa
    walk_at "mgo"
    refine LM.p_call Ba ht0 xa fun H1 B1 m1 => ?_
    have W1 : MM.WF (S0.up tid fun t => { t with call := n, callAt := a }) k := W0.up { W0.tok ht0 with }
    have m01 : LM.Mv0 S0 ad H H1 := LM.Mvl.pre sa m1
    have sm1 : MM.Sm S0 (S0.up tid fun t => { t with call := n, callAt := a }) := MM.Sm.up
    have l1 : (S0.up tid fun t => { t with call := n, callAt := a }).ths.length = S0.ths.length := MM.up_len
    have ht1 : tid < (S0.up tid fun t => { t with call := n, callAt := a }).ths.length := by rw [MM.up_len]; exact ht0
    have O1 := O0.to B1 W1 O0.hk sm1
    have er : MM.reg S0 tid (0 : Int).toNat = MM.reg (S0.up tid fun t => { t with call := n, callAt := a }) tid 0 := by
      unfold MM.reg
      rw [MM.up_th ht0]
      rfl
    have ec : (S0.up tid fun t => { t with call := n, callAt := a }).cpu = S0.cpu := rfl
    rw [er]
    obtain ⟨D, hD⟩ : ∃ D, D = MM.doCall S0 tid n a := ⟨_, rfl⟩
    rw [← hD] at q
    unfold MM.doCall at hD
    dsimp only at hD
    clear Ba B0 xa hc1 sa m1
    generalize (S0.up tid fun t => { t with call := n, callAt := a }) = S1 at *
    walk_at "mgo"
    refine ⟨Nat.le_of_ble_eq_true rfl, fun g hg => ?_⟩
    generalize hu : upd _ g _ = H2
    obtain ⟨s2, x2⟩ := MM.new2 hu hg
    clear hu
    refine ⟨ad, S1, k, O1.same s2, by omega, .inl ⟨"entry", tid, a, [n, MM.reg S1 tid 0, MM.reg S1 tid 1], g, by rw [ec]; rfl, x2, ht1, fun H3 B3 m3 => ?_⟩⟩
    have O := O1.to B3 (W1.tell (kd := "entry") (t := tid) (a := a) (r := [n, MM.reg S1 tid 0, MM.reg S1 tid 1])) (by omega) MM.Sm.tell
    have m03 : LM.Mv0 S0 ad H H3 := LM.Mv0.after m01 (LM.Mvl.pre s2 m3) l1 sm1.nm
    have ht : tid < (MM.tell S1 "entry" tid a [n, MM.reg S1 tid 0, MM.reg S1 tid 1]).ths.length := ht1
    have sm := sm1.trans (MM.Sm.tell (S := S1) (kd := "entry") (t := tid) (a := a) (r := [n, MM.reg S1 tid 0, MM.reg S1 tid 1]))
    have l3 : (MM.tell S1 "entry" tid a [n, MM.reg S1 tid 0, MM.reg S1 tid 1]).ths.length = S0.ths.length := l1
    have ec3 : (MM.tell S1 "entry" tid a [n, MM.reg S1 tid 0, MM.reg S1 tid 1]).cpu = S0.cpu := ec
    have er3 : MM.reg S1 tid 0 = MM.reg (MM.tell S1 "entry" tid a [n, MM.reg S1 tid 0, MM.reg S1 tid 1]) tid 0 := rfl
    rw [er3, ← ec3]
    clear er er3 ec B1 m01 W1 O1 ht1 l1 sm1 x2 s2 hg m3
    generalize MM.tell S1 "entry" tid a [n, MM.reg S1 tid 0, MM.reg S1 tid 1] = S at *
    have B := O.B
    have W := O.W
    have hpos := MM.reg_pos (j := 0) W ht
    have hcpu : S.cpu < S.times.length := by rw [W.tim]; exact W.cpu
    have qi : D.ths.length = S.ths.length → ∀ H', LM.Lm ad D H' → LM.Mv0 S ad H3 H' → Q .non H' := fun hl H' b m => q ad H' b (by rw [hl, l3]; exact LM.Mv0.after m03 m l3 sm.nm)
    walk_at "mgo"
    refine R.r_ite (fun e => ?_) (fun e => ?_)
    · rw [if_pos e] at hD
      subst hD
      walk_at "mgo"
      exact ⟨ad, S, _, tid, a, _, rfl, hpos, O, by omega, ht, qi (MM.end_ok W ht hpos).1⟩
    rw [if_neg e] at hD
    walk_at "mgo"
    refine R.r_ite (fun e => ?_) (fun e => ?_)
    · rw [if_pos e] at hD
      subst hD
      walk_at "mgo"
      refine ⟨ad, S, _, tid, 0, rfl, by decide, O, by omega, ht, fun H4 B4 m4 => ?_⟩
      have W4 := W.returnCall (r := 0) ht (by decide)
      have ec4 : (MM.returnCall S tid 0).cpu = S.cpu := MM.Sm.returnCall.cp
      have O4 := O.to B4 W4 (by omega) MM.Sm.returnCall
      have ht4 : tid < (MM.returnCall S tid 0).ths.length := by rw [MM.len_returnCall]; exact ht
      walk_at "mgo"
      refine ⟨Nat.le_of_ble_eq_true rfl, fun c1 hc1 => ?_⟩
      generalize hu : upd _ c1 _ = H5
      obtain ⟨s5, x5⟩ := MM.new2 hu hc1
      refine ⟨ad, _, _, tid, .ready, c1, 2, by rw [ec4]; rfl, x5, trivial, O4.same s5, by omega, ht4, fun H6 B6 m6 => ?_⟩
      walk_at "mgo"
      exact qi ((MM.goLast_ok W4 ht4).1.trans MM.len_returnCall) H6 B6 (LM.Mv0.after m4 (LM.Mvl.pre s5 m6) MM.len_returnCall MM.Sm.returnCall.nm)
    rw [if_neg e] at hD
    walk_at "mgo"
    refine R.r_ite (fun e => ?_) (fun e => ?_)
    · rw [if_pos e] at hD
      subst hD
      walk_at "mgo"
      refine ⟨Nat.le_of_ble_eq_true rfl, fun c1 hc1 => ?_⟩
      generalize hu : upd _ c1 _ = H5
      obtain ⟨s5, x5⟩ := MM.new2 hu hc1
      refine ⟨ad, S, _, tid, .sleeping S.cpu (S.now + MM.reg S tid 0), c1, 3, rfl, x5, trivial, O.same s5, by omega, ht, fun H6 B6 m6 => ?_⟩
      walk_at "mgo"
      exact qi (MM.leave_ok W ht (show MM.condOk (.sleeping S.cpu (S.now + MM.reg S tid 0)) from trivial)).1 H6 B6 (LM.Mvl.pre s5 m6)
    rw [if_neg e] at hD
    walk_at "mgo"
    refine ⟨Nat.le_of_ble_eq_true rfl, fun t4 ht4 => ?_⟩
    generalize hu : upd _ t4 _ = H4
    obtain ⟨s4, x4⟩ := MM.new2 hu ht4
    have O4 := O.same s4
    have B4 := O4.B
    clear hu
    refine LM.r_inL x4 rfl rfl MM.in2I ?_
    walk_at "mgo"
    refine R.r_ite (fun e => ?_) (fun e => ?_)
    · rw [if_pos e] at hD
      subst hD
      walk_at "mgo"
      refine ⟨Nat.le_of_ble_eq_true rfl, fun r5 hr5 => ?_⟩
      generalize hu : upd _ r5 _ = H5
      obtain ⟨s5, x5⟩ := MM.new2 hu hr5
      clear hu
      have B5 := B4.same s5
      walk_at "mgo"
      have hrq := W.rql
      refine LM.a_rq (q := (tid, n, MM.reg S tid 0)) B5 (by omega) x5 fun H6 B6 m6 => ?_
      walk_at "mgo"
      refine ⟨Nat.le_of_ble_eq_true rfl, fun c1 hc1 => ?_⟩
      generalize hu : upd _ c1 _ = H7
      obtain ⟨s7, x7⟩ := MM.new2 hu hc1
      have W6 : MM.WF { S with reqs := S.reqs ++ [(tid, n, MM.reg S tid 0)] } (k + 1 + 1) := { W.mono (Nat.le_succ _) with
        rq := fun q hq => by
          rcases List.mem_append.mp hq with z | z
          · exact W.rq q z
          · rw [List.mem_singleton.mp z]
            exact ⟨ht, hpos⟩
        rql := by show (S.reqs ++ [_]).length ≤ k + 1 + 1; rw [List.length_append]; exact Nat.succ_le_succ W.rql }
      have sm6 : MM.Sm S { S with reqs := S.reqs ++ [(tid, n, MM.reg S tid 0)] } := MM.sm_of rfl rfl rfl rfl
      refine ⟨ad, { S with reqs := S.reqs ++ [(tid, n, MM.reg S tid 0)] }, k + 1 + 1, tid, .asking, c1, 4, rfl, x7, trivial, (O4.to B6 W6 (by omega) sm6).same s7, by omega, ht, fun H8 B8 m8 => ?_⟩
      walk_at "mgo"
      exact qi (MM.leave_ok W6 ht (show MM.condOk .asking from trivial)).1 H8 B8 (LM.Mv0.after (LM.Mvl.pre (s4.trans s5) m6) (LM.Mvl.pre s7 m8) rfl rfl)
    rw [if_neg e] at hD
    walk_at "mgo"
    have ret : D = MM.returnCall S tid 65535 → LM.spRet [.ref (ad .m), .int (S.cpu : Int), .int (tid : Int), .int 65535] H4 Q E0 := fun hD => by
      subst hD
      exact ⟨ad, S, _, tid, 65535, rfl, by decide, O4, by omega, ht, fun H' b m => qi MM.len_returnCall H' b (LM.Mvl.pre s4 m)⟩
    refine R.r_ite (fun e5 => ?_) (fun e5 => ?_)
    · rw [if_pos e5] at hD
      walk_at "mgo"
      refine R.r_ite (fun e8 => ?_) (fun e8 => ?_)
      · rw [if_neg (by omega)] at hD
        subst hD
        have hpid := (W.tok ht).pid
        walk_at "mgo"
        refine ⟨ad, S, _, (S.th tid).pid, _, _, rfl, O4, by omega, fun ad' H5 B5 m5 => ?_⟩
        have em : ad' .m = ad .m := m5.ag .m rfl trivial
        obtain ⟨l5, s5, W5⟩ := MM.addThread_ok (p := (S.th tid).pid) (pc := MM.reg S tid 0 % 256) (f := MM.reg S tid 1) W (by omega) hpid (MM.reg_pos W ht)
        have B5 : LM.Lm ad' (MM.addThread S (S.th tid).pid (MM.reg S tid 0 % 256) (MM.reg S tid 1)) H5 := B5
        have O5 := O4.to B5 W5 (by omega) s5
        have ec5 : (MM.addThread S (S.th tid).pid (MM.reg S tid 0 % 256) (MM.reg S tid 1)).cpu = S.cpu := rfl
        have nm5 := (sm.trans s5).nm
        generalize MM.addThread S (S.th tid).pid (MM.reg S tid 0 % 256) (MM.reg S tid 1) = A5 at *
        rw [← em]
        walk_at "mgo"
        rw [show ((A5.ths.length : Nat) : Int) - 1 = ((S.ths.length : Nat) : Int) by rw [l5]; omega]
        refine ⟨ad', A5, _, tid, _, by rw [ec5]; rfl, by omega, O5, by omega, by omega, fun H6 B6 m6 => ?_⟩
        walk_at "mgo"
        have m5' : LM.Mvl S0.ths.length S0.mem.length ad (S0.ths.length + 1) S0.mem.length ad' H4 H5 := by
          rw [l3, sm.nm] at m5
          exact m5
        have m6' : LM.Mvl (S0.ths.length + 1) S0.mem.length ad' (S0.ths.length + 1) S0.mem.length ad' H5 H6 := by
          have z : LM.Mvl A5.ths.length A5.mem.length ad' A5.ths.length A5.mem.length ad' H5 H6 := m6
          rw [l5, l3, nm5] at z
          exact z
        refine q ad' H6 B6 ?_
        rw [MM.len_returnCall, l5, l3]
        exact LM.Mvl.trans (Nat.le_succ _) (Nat.le_refl _) (LM.Mvl.trans (Nat.le_refl _) (Nat.le_refl _) m03 (LM.Mvl.pre s4 m5')) m6'
      · rw [if_pos (by omega)] at hD
        walk_at "mgo"
        refine R.r_iteF (by omega) ?_
        walk_at "mgo"
        exact ret hD
    rw [if_neg e5] at hD
    walk_at "mgo"
    refine R.r_ite (fun e6 => ?_) (fun e6 => ?_)
    · rw [if_pos e6] at hD
      unfold MM.waitFor at hD
      obtain ⟨f, hf⟩ := Int.eq_ofNat_of_zero_le hpos
      rw [hf] at hD ⊢
      walk_at "mgo"
      refine R.r_ite (fun el => ?_) (fun el => ?_)
      · walk_at "mgo"
        refine R.r_iteN (fun en => ?_) (fun en => ?_)
        · have hf1 : f < S.ths.length := by omega
          rw [if_neg (by omega), Int.toNat_natCast] at hD
          walk_at "mgo"
          refine LM.g_is B4 hf1 fun c0 e0 => ?_
          walk_at "mgo"
          refine R.r_ixT (R.sqT e0) (MM.cond_0 _) ?_
          walk_at "mgo"
          refine R.r_ite (fun e1 => ?_) (fun e1 => ?_)
          · obtain ⟨kk, ek⟩ := MM.cond_ended.mp e1
            have hkk := (W.tok hf1).cond
            rw [ek] at hD e0 hkk
            subst hD
            walk_at "mgo"
            refine R.r_ixT (i := 1) (v := .int kk) (R.sqT e0) rfl ?_
            walk_at "mgo"
            exact ⟨ad, S, _, tid, kk, rfl, hkk, O4, by omega, ht, fun H' b m => qi MM.len_returnCall H' b (LM.Mvl.pre s4 m)⟩
          · have ek : MM.condEnded (S.th f).cond = none := by
              cases z : (S.th f).cond with
              | ended kk => exact absurd (MM.cond_ended.mpr ⟨kk, z⟩) e1
              | _ => rfl
            rw [ek] at hD
            subst hD
            walk_at "mgo"
            refine ⟨Nat.le_of_ble_eq_true rfl, fun c1 hc1 => ?_⟩
            generalize hu : upd _ c1 _ = H5
            obtain ⟨s5, x5⟩ := MM.new2 hu hc1
            refine ⟨ad, S, _, tid, .waiting f, c1, 5, rfl, x5, trivial, O4.same s5, by omega, ht, fun H6 B6 m6 => ?_⟩
            walk_at "mgo"
            exact qi (MM.leave_ok W ht (show MM.condOk (.waiting f) from trivial)).1 H6 B6 (LM.Mvl.pre (s4.trans s5) m6)
        · rw [if_pos (.inr en)] at hD
          walk_at "mgo"
          exact ret hD
      · rw [if_pos (.inl (by omega))] at hD
        walk_at "mgo"
        exact ret hD
    · rw [if_neg e6] at hD
      walk_at "mgo"
      exact ret hD
end
end K60
end
section
local macro_rules | `(tactic| walk_at "s1") => `(tactic| first
  | ((with_reducible apply R.r_var); · rfl)
  | with_reducible apply R.r_c
  | with_reducible apply R.r_op
  | with_reducible apply R.r_I0
  | with_reducible apply R.r_cb
  | with_reducible apply R.r_cons
  | with_reducible apply R.r_nil
  | with_reducible apply R.r_seq
  | with_reducible apply R.r_asg
  | with_reducible apply R.r_ret
  | with_reducible apply R.r_ifS
  | with_reducible apply R.r_test
  | with_reducible apply R.r_t
  | with_reducible apply R.r_f
  | with_reducible apply R.r_nt
  | with_reducible apply R.r_nf
  | with_reducible apply R.r_bl
  | with_reducible apply R.r_U
  | with_reducible apply R.r_un
  | with_reducible apply R.r_eqI
  | with_reducible apply R.r_eqS
  | with_reducible apply R.r_neI
  | with_reducible apply R.r_neS
  | with_reducible apply R.r_and
  | with_reducible apply R.r_or
  | with_reducible apply R.r_not
  | with_reducible apply R.r_andV
  | with_reducible apply R.r_orV
  | with_reducible apply R.r_notV
  | with_reducible apply R.r_blV
  | with_reducible apply R.r_B
  | with_reducible apply R.r_ifE
  | with_reducible apply R.r_tup
  | with_reducible apply R.r_lst
  | with_reducible apply R.r_call
  | with_reducible apply R.r_drop
  | with_reducible apply R.r_next
  | with_reducible apply R.r_abs
  | with_reducible apply R.r_int1
  | with_reducible apply R.r_int1b
  | with_reducible apply R.r_min2
  | with_reducible apply R.r_bm
  | with_reducible apply R.r_bm0
  | with_reducible apply R.r_dget
  | with_reducible apply R.r_dput
  | with_reducible apply R.r_disp
  | with_reducible apply R.r_pnil
  | with_reducible apply R.r_pcons
  | with_reducible apply R.r_fld
  | with_reducible apply R.r_slice
  | with_reducible apply R.r_nopart
  | with_reducible apply R.r_part
  | with_reducible apply R.r_int
  | with_reducible apply R.r_yes
  | with_reducible apply R.r_retN
  | with_reducible apply R.r_asgG
  | with_reducible apply R.r_gname
  | with_reducible apply R.r_rng1
  | with_reducible apply R.r_brk
  | with_reducible apply R.r_cnt
  | with_reducible apply R.r_m1
  | with_reducible apply R.r_lcr
  | with_reducible apply R.r_p2_63
  | with_reducible apply R.r_p2_64
  | with_reducible apply R.r_p2_32
  | with_reducible apply R.r_p2_31
  | with_reducible apply R.r_p10_18
  | with_reducible apply R.r_p10_30
  | with_reducible refine R.r_mod (by omega) ?_
  | with_reducible refine R.r_div (by omega) ?_
  | with_reducible refine R.r_mulR (by omega) ?_
  | with_reducible refine R.r_mulL (by omega) ?_
  | with_reducible refine R.r_iteY (by decide +kernel) ?_
  | with_reducible refine R.r_iteF (by decide +kernel) ?_
  | with_reducible refine R.r_isi R.isi_int ?_
  | with_reducible refine R.r_isi R.isi_intB ?_)
local macro_rules | `(tactic| walk_at "go") => `(tactic| repeat (walk_at "s1"))

set_option hygiene false
local macro_rules | `(tactic| walk_at "m1") => `(tactic| first
  | walk_at "s1"
  | with_reducible apply MM.r_meth
  | with_reducible apply MM.r_make
  | with_reducible apply MM.r_din
  | with_reducible apply MM.r_dnotin
  | with_reducible apply MM.r_dget2
  | with_reducible apply MM.r_dpop1
  | with_reducible apply MM.r_sfld
  | with_reducible apply MM.r_gsub
  | with_reducible apply MM.r_augS
  | with_reducible apply MM.r_ip
  | with_reducible apply MM.r_chain
  | with_reducible apply MM.r_daug
  | with_reducible apply MM.r_add
  | with_reducible refine LM.g_mem ‹LM.Lm _ _ _› ?_
  | with_reducible refine LM.g_events ‹LM.Lm _ _ _› ?_
  | with_reducible refine LM.g_time ‹LM.Lm _ _ _› ?_
  | with_reducible refine LM.g_runs ‹LM.Lm _ _ _› ?_
  | with_reducible refine LM.g_threads ‹LM.Lm _ _ _› ?_
  | with_reducible refine LM.g_ready ‹LM.Lm _ _ _› ?_
  | with_reducible refine LM.g_device ‹LM.Lm _ _ _› ?_
  | with_reducible refine LM.g_pid ‹LM.Lm _ _ _› (by first | assumption | omega) ?_
  | with_reducible refine LM.g_pc ‹LM.Lm _ _ _› (by first | assumption | omega) ?_
  | with_reducible refine LM.g_regs ‹LM.Lm _ _ _› (by first | assumption | omega) ?_
  | with_reducible refine LM.x_ths ‹LM.Lm _ _ _› (by first | assumption | omega) ?_
  | with_reducible refine LM.x_mem ‹LM.Lm _ _ _› (by first | assumption | omega) ?_
  | with_reducible refine LM.x_tim ‹LM.Lm _ _ _› (by first | assumption | omega) ?_
  | with_reducible refine LM.x_run ‹LM.Lm _ _ _› (by first | assumption | omega) ?_
  | with_reducible refine LM.x_rg ‹LM.Lm _ _ _› ‹MM.WF _ _› (by first | assumption | omega) (by omega) (by omega) ?_
  | with_reducible refine LM.x_dev0 ‹LM.Lm _ _ _› ?_
  | with_reducible refine LM.x_dev1 ‹LM.Lm _ _ _› ?_
  | with_reducible refine LM.l_ths ‹LM.Lm _ _ _› ?_
  | with_reducible refine ⟨LM.t_rdy ‹LM.Lm _ _ _›, ?_⟩
  | with_reducible refine ⟨LM.t_ths ‹LM.Lm _ _ _›, ?_⟩
  | with_reducible refine ⟨LM.t_ev ‹LM.Lm _ _ _›, ?_⟩
  | with_reducible refine ⟨LM.t_rq ‹LM.Lm _ _ _›, ?_⟩)
local macro_rules | `(tactic| walk_at "mgo") => `(tactic| repeat (walk_at "m1"))
set_option hygiene true

namespace K60
open PySem PySem.Spec PyProof.Rows L2
section
variable {P : Program} {w : World} {K : PySem.W.Frag} {mg : Str → Option Value} {base : Heap}
theorem ok_law_instruction (T : Txt K mg) : FnOk P w K mg base CX0 5 T.p_law_instruction.f T.p_law_instruction.fd ["m", "cpu", "tid"] LM.spInsn := by
  refine T.p_law_instruction.F.ok sc_law_instruction (fun vs H Q E h => ?_) (fun cdv A outer s H vs Q E hr h => ?_)
  · obtain ⟨ad, S, k, tid, rfl, _⟩ := h
    rfl
  · obtain ⟨ad, S0, k, tid, rfl, O0, pc0, hk, ht0, q⟩ := h
    have B := O0.B
    have W := O0.W
    have hpid := (W.tok ht0).pid
    obtain ⟨p0, p1⟩ := pc0.pc _ (MM.th_mem ht0)
    refine ⟨_, (pss_cons (ps_set (i := 3) sc_law_instruction.nd rfl (.inl rfl) (pe_ix ix_list (pe_dget (hu_of hr) (pv 0) pe_str (fun _ _ => rfl)) (pv 2) (fun _ _ => rfl)))
(pss_cons (ps_set (i := 4) sc_law_instruction.nd rfl (.inl rfl) (pe_ix ix_list (pe_dget (hu_of hr) (pv 0) pe_str (fun _ _ => rfl)) (pe_dget (hu_of hr) (pv 3) pe_str (fun _ _ => rfl)) (fun _ _ => rfl)))
(pss_cons (ps_set (i := 5) sc_law_instruction.nd rfl (.inl rfl) (pe_dget (hu_of hr) (pv 3) pe_str (fun _ _ => rfl)))
(pss_cons (ps_set (i := 6) sc_law_instruction.nd rfl (.inl rfl) (pe_ix ix_list (pv 4) (pv 5) (fun _ _ => rfl)))
(pss_cons (ps_set (i := 7) sc_law_instruction.nd rfl (.inl rfl) (pe_ix ix_list (pv 4) (pe_op op_mod (pe_callTy R.cInt1 (by rfl) T.m_int (by decide +kernel) (pa_cons (pe_op op_add (pv 5) pe_int) pa_nil)) pe_int) (fun _ _ => rfl)))
(pss_cons (ps_set (i := 8) sc_law_instruction.nd rfl (.inl rfl) (pe_ix ix_list (pv 4) (pe_op op_mod (pe_callTy R.cInt1 (by rfl) T.m_int (by decide +kernel) (pa_cons (pe_op op_add (pv 5) pe_int) pa_nil)) pe_int) (fun _ _ => rfl)))
(pss_cons (ps_set (i := 9) sc_law_instruction.nd rfl (.inl rfl) (pe_dget (hu_of hr) (pv 3) pe_str (fun _ _ => rfl)))
(pss_cons (ps_if (pt_cmpR op_le (pv 6) pe_int (nomark _))
 (pss_one (ps_dput (hu_of hr) (pv 3) pe_str (pe_op op_mod (pe_callTy R.cInt1 (by rfl) T.m_int (by decide +kernel) (pa_cons (pe_op op_add (pv 5) (pe_ix ix_list (pe_lst (pa_cons pe_int (pa_cons pe_int (pa_cons pe_int (pa_cons pe_int (pa_cons pe_int (pa_cons pe_int (pa_cons pe_int (pa_cons pe_int (pa_cons pe_int (pa_cons pe_int (pa_cons pe_int (pa_cons pe_int (pa_cons pe_int pa_nil)))))))))))))) (pv 6) (fun _ _ => rfl))) pa_nil)) pe_int) rfl))
 pss_nil)
(pss_cons (ps_set (i := 10) sc_law_instruction.nd rfl (.inl rfl) (pe_dget (hu_of hr) (pv 3) pe_str (fun _ _ => rfl)))
(pss_cons (ps_expr (pe_call (ok_law_tell T) (hr.mono (by decide)) (by rfl) T.p_law_tell.g T.p_law_tell.F.kp T.p_law_tell.b .nil pass0 (pa_cons (pv 0) (pa_cons pe_str (pa_cons (pv 1) (pa_cons (pv 2) (pa_cons (pv 5) (pa_cons (pe_tup (pa_cons (pv 6) pa_nil)) pa_nil))))))))
(pss_cons (ps_set (i := 11) sc_law_instruction.nd rfl (.inl rfl) (pe_op op_mod (pe_callTy R.cInt1 (by rfl) T.m_int (by decide +kernel) (pa_cons (pe_op op_fdiv (pv 7) pe_int) pa_nil)) pe_int))
(pss_cons (ps_set (i := 12) sc_law_instruction.nd rfl (.inl rfl) (pe_op op_mod (pe_callTy R.cInt1 (by rfl) T.m_int (by decide +kernel) (pa_cons (pv 7) pa_nil)) pe_int))
(pss_one (ps_if (pt_cmpR op_gt (pv 6) pe_int (nomark _))
 (pss_cons (ps_expr (pe_call (ok_law_tell T) (hr.mono (by decide)) (by rfl) T.p_law_tell.g T.p_law_tell.F.kp T.p_law_tell.b .nil pass0 (pa_cons (pv 0) (pa_cons pe_str (pa_cons (pv 1) (pa_cons (pv 2) (pa_cons (pv 5) (pa_cons (pe_tup (pa_cons (pv 6) pa_nil)) pa_nil))))))))
(pss_one (ps_expr (pe_call (ok_law_ends T) (hr.mono (by decide)) (by rfl) T.p_law_ends.g T.p_law_ends.F.kp T.p_law_ends.b .nil pass0 (pa_cons (pv 0) (pa_cons (pv 1) (pa_cons (pv 2) (pa_cons (pv 5) (pa_cons pe_int pa_nil)))))))))
 (pss_one (ps_if (pt_cmpR op_eq (pv 6) pe_int (nomark _))
 (pss_one (ps_expr (pe_call (ok_law_ends T) (hr.mono (by decide)) (by rfl) T.p_law_ends.g T.p_law_ends.F.kp T.p_law_ends.b .nil pass0 (pa_cons (pv 0) (pa_cons (pv 1) (pa_cons (pv 2) (pa_cons (pv 5) (pa_cons pe_int pa_nil))))))))
 (pss_one (ps_if (pt_cmpR op_eq (pv 6) pe_int (nomark _))
 (pss_one (ps_asg (pv 8) (pg_sub (pv 9) (pv 12) set_list)))
 (pss_one (ps_if (pt_cmpR op_eq (pv 6) pe_int (nomark _))
 (pss_one (ps_asg (pe_op op_mod (pe_callTy R.cInt1 (by rfl) T.m_int (by decide +kernel) (pa_cons (pe_op op_add (pe_ix ix_list (pv 9) (pv 11) (fun _ _ => rfl)) (pe_ix ix_list (pv 9) (pv 12) (fun _ _ => rfl))) pa_nil)) pe_int) (pg_sub (pv 9) (pv 11) set_list)))
 (pss_one (ps_if (pt_cmpR op_eq (pv 6) pe_int (nomark _))
 (pss_one (ps_asg (pe_op op_mod (pe_callTy R.cInt1 (by rfl) T.m_int (by decide +kernel) (pa_cons (pe_op op_sub (pe_op op_add (pe_ix ix_list (pv 9) (pv 11) (fun _ _ => rfl)) pe_int) (pe_ix ix_list (pv 9) (pv 12) (fun _ _ => rfl))) pa_nil)) pe_int) (pg_sub (pv 9) (pv 11) set_list)))
 (pss_one (ps_if (pt_cmpR op_eq (pv 6) pe_int (nomark _))
 (pss_one (ps_asg (pe_ix ix_list (pv 9) (pv 12) (fun _ _ => rfl)) (pg_sub (pv 9) (pv 11) set_list)))
 (pss_one (ps_if (pt_cmpR op_eq (pv 6) pe_int (nomark _))
 (pss_one (ps_asg (pe_ix ix_list (pv 4) (pe_op op_mod (pe_callTy R.cInt1 (by rfl) T.m_int (by decide +kernel) (pa_cons (pe_ix ix_list (pv 9) (pv 12) (fun _ _ => rfl)) pa_nil)) pe_int) (fun _ _ => rfl)) (pg_sub (pv 9) (pv 11) set_list)))
 (pss_one (ps_if (pt_cmpR op_eq (pv 6) pe_int (nomark _))
 (pss_one (ps_asg (pe_op op_mod (pe_callTy R.cInt1 (by rfl) T.m_int (by decide +kernel) (pa_cons (pe_ix ix_list (pv 9) (pv 11) (fun _ _ => rfl)) pa_nil)) pe_int) (pg_sub (pv 4) (pe_op op_mod (pe_callTy R.cInt1 (by rfl) T.m_int (by decide +kernel) (pa_cons (pe_ix ix_list (pv 9) (pv 12) (fun _ _ => rfl)) pa_nil)) pe_int) set_list)))
 (pss_one (ps_if ((pw_or (pt_cmpR op_eq (pv 6) pe_int (nomark _)) (pw_or1 (pt_cmpR op_eq (pv 6) pe_int (nomark _))))).pt
 (pss_cons (ps_dput (hu_of hr) (pv 3) pe_str (pv 7) rfl)
(pss_one (ps_if (pt_cmpR op_eq (pv 6) pe_int (nomark _))
 (pss_one (ps_asg (pv 10) (pg_sub (pv 9) pe_int set_list)))
 pss_nil)))
 (pss_one (ps_if ((pw_or (pt_cmpR op_eq (pv 6) pe_int (nomark _)) (pw_or1 (pt_cmpR op_eq (pv 6) pe_int (nomark _))))).pt
 (pss_one (ps_if (pt_cmpR op_eq (pe_cmpR op_eq (pe_ix ix_list (pv 9) (pv 12) (fun _ _ => rfl)) pe_int (nomark _)) (pe_cmpR op_eq (pv 6) pe_int (nomark _)) (nomark _))
 (pss_one (ps_dput (hu_of hr) (pv 3) pe_str (pv 8) rfl))
 pss_nil))
 (pss_one (ps_if (pt_cmpR op_eq (pv 6) pe_int (nomark _))
 (pss_one (ps_expr (pe_call (ok_law_call T) (hr.mono (by decide)) (by rfl) T.p_law_call.g T.p_law_call.F.kp T.p_law_call.b .nil pass0 (pa_cons (pv 0) (pa_cons (pv 1) (pa_cons (pv 2) (pa_cons (pv 5) (pa_cons (pv 7) pa_nil))))))))
 (pss_one (ps_dput (hu_of hr) (pv 3) pe_str (pe_op op_mod (pe_callTy R.cInt1 (by rfl) T.m_int (by decide +kernel) (pa_cons (pe_ix ix_list (pv 9) pe_int (fun _ _ => rfl)) pa_nil)) pe_int) rfl)))))))))))))))))))))))))))))))))))), ?_⟩
    walk_at "mgo"
    refine LM.x_ld0 O0 hpid p0 p1 ?_
    walk_at "mgo"
    refine LM.x_ld O0 hpid ?_
    walk_at "mgo"
    refine LM.x_ld O0 hpid ?_
    obtain ⟨c0, c1⟩ := pc0.load (i := (S0.th tid).pid) (a := (S0.th tid).pc)
    obtain ⟨vx0, vx1⟩ := pc0.load (i := (S0.th tid).pid) (a := (S0.th tid).pc + 1)
    obtain ⟨vy0, vy1⟩ := pc0.load (i := (S0.th tid).pid) (a := (S0.th tid).pc + 2)
    obtain ⟨D, hD⟩ : ∃ D, D = MM.doInsn false S0 tid := ⟨_, rfl⟩
    rw [← hD] at q
    unfold MM.doInsn at hD
    dsimp only at hD
    rw [if_pos (show MM.Mm.tells false (S0.mm (S0.th tid).pid) (S0.th tid).pc = true from rfl)] at hD
    generalize hcd : (S0.mm (S0.th tid).pid).load (S0.th tid).pc = code at *
    generalize hx : (S0.mm (S0.th tid).pid).load ((S0.th tid).pc + 1) = x at *
    generalize hy : (S0.mm (S0.th tid).pid).load ((S0.th tid).pc + 2) = y at *
    walk_at "mgo"
    refine R.r_ite (fun e => ?_) (fun e => ?_)
    · walk_at "mgo"
      refine ⟨Nat.le_of_ble_eq_true rfl, fun l hl => ?_⟩
      generalize hu : upd _ l _ = H1
      obtain ⟨s1, x1⟩ := MM.new2 hu hl
      clear hu
      have x1 : H1 l = some (.lst (MM.lens.map V.int)) := x1
      have B1 := B.same s1
      walk_at "mgo"
      refine R.r_ixL (R.sqL x1) (R.at_nat c0 (MM.getD_get (by show code.toNat < 13; omega))) ?_
      walk_at "mgo"
      refine LM.p_pc B1 ht0 fun H2 B2 m2 => ?_
      have m2' : LM.Mv0 S0 ad H H2 := LM.Mvl.pre s1 m2
      generalize hbe : ((S0.th tid).pc + MM.lens.getD code.toNat 0) % 256 = beh at *
      have be0 : 0 ≤ beh := by rw [← hbe]; exact Int.emod_nonneg _ (by decide)
      have l2 : (S0.up tid fun t => { t with pc := beh }).ths.length = S0.ths.length := MM.up_len
      have ht2 : tid < (S0.up tid fun t => { t with pc := beh }).ths.length := by rw [l2]; exact ht0
      have W2 : MM.WF (S0.up tid fun t => { t with pc := beh }) k := W.up { W.tok ht0 with }
      have O2 := O0.to B2 W2 O0.hk MM.Sm.up
      have epc : ((S0.up tid fun t => { t with pc := beh }).th tid).pc = beh := by rw [MM.up_th ht0]
      walk_at "mgo"
      rw [epc]
      refine ⟨Nat.le_of_ble_eq_true rfl, fun g hg => ?_⟩
      generalize hu : upd _ g _ = H3
      obtain ⟨s3, x3⟩ := MM.new2 hu hg
      clear hu
      refine ⟨ad, _, k, O2.same s3, by omega, .inl ⟨"insn", tid, (S0.th tid).pc, [code], g, rfl, x3, ht2, fun H4 B4 m4 => ?_⟩⟩
      have m4' : LM.Mv0 S0 ad H H4 := LM.Mv0.after m2' (LM.Mvl.pre s3 m4) l2 rfl
      have W4 := W2.tell (kd := "insn") (t := tid) (a := (S0.th tid).pc) (r := [code])
      have sm4 : MM.Sm S0 (MM.tell (S0.up tid fun t => { t with pc := beh }) "insn" tid (S0.th tid).pc [code]) := MM.Sm.up.trans MM.Sm.tell
      have O4 := O0.to B4 W4 (by omega) sm4
      have ht4 : tid < (MM.tell (S0.up tid fun t => { t with pc := beh }) "insn" tid (S0.th tid).pc [code]).ths.length := ht2
      have l4 : (MM.tell (S0.up tid fun t => { t with pc := beh }) "insn" tid (S0.th tid).pc [code]).ths.length = S0.ths.length := l2
      have ec4 : (MM.tell (S0.up tid fun t => { t with pc := beh }) "insn" tid (S0.th tid).pc [code]).cpu = S0.cpu := rfl
      have eU : MM.tell (S0.up tid fun t => { t with pc := beh }) "insn" tid (S0.th tid).pc [code] = (MM.tell S0 "insn" tid (S0.th tid).pc [code]).up tid fun t => { t with pc := beh } := LM.tell_up ht0 (fun _ => rfl) (fun _ => rfl)
      rw [if_neg (by omega)] at hD
      clear B2 m2 O2 W2 ht2 l2 x3 s3 m4
      walk_at "mgo"
      refine R.r_iteF (by omega) ?_
      walk_at "mgo"
      have hpid4 : (S0.th tid).pid < S0.mem.length := hpid
      have htT : tid < (MM.tell S0 "insn" tid (S0.th tid).pc [code]).ths.length := ht0
      have epid : ((MM.tell S0 "insn" tid (S0.th tid).pc [code]).th tid).pid = (S0.th tid).pid := rfl
      have eregs : ((MM.tell S0 "insn" tid (S0.th tid).pc [code]).th tid).regs = (S0.th tid).regs := rfl
      have emm : ∀ i, (MM.tell S0 "insn" tid (S0.th tid).pc [code]).mm i = S0.mm i := fun _ => rfl
      have nmT : (MM.tell S0 "insn" tid (S0.th tid).pc [code]).mem.length = S0.mem.length := rfl
      have plT : ((S0.mm (S0.th tid).pid)).kept = [] := O0.nil hpid
      rw [eU] at W4 sm4 O4 ht4 l4 ec4
      clear eU B1 B
      generalize MM.tell S0 "insn" tid (S0.th tid).pc [code] = U at *
      rw [eregs] at hD
      have eS : ∀ v, (U.up tid fun t => { t with pc := beh }).up tid (fun t => { t with pc := v }) = U.up tid fun t => { t with pc := v } := fun v => LM.up_up htT
      have npc : ¬ (code = 7 ∨ code = 11) → ¬ code = 12 → ¬ code = 8 → ¬ code = 9 → MM.nextPc (S0.th tid).regs code x y beh = beh := fun a b c d => by
        unfold MM.nextPc
        rw [if_neg a, if_neg b, if_neg (fun z => z.elim (fun w => c w.1) (fun w => d w.1))]
      have qi : D.ths.length = S0.ths.length → ∀ H', LM.Lm ad D H' → LM.Mv0 (U.up tid fun t => { t with pc := beh }) ad H4 H' → Q .non H' := fun hl H' b m => q ad H' b (by rw [hl]; exact LM.Mv0.after m4' m l4 sm4.nm)
      walk_at "mgo"
      refine R.r_ite (fun e0 => ?_) (fun e0 => ?_)
      · rw [if_pos e0, npc (by omega) (by omega) (by omega) (by omega)] at hD
        subst hD
        walk_at "mgo"
        refine ⟨ad, _, _, tid, _, 0, by rw [ec4]; rfl, by decide, O4, by omega, ht4, fun H5 B5 m5 => ?_⟩
        walk_at "mgo"
        exact qi ((MM.end_ok W4 ht4 (by decide)).1.trans l4) H5 B5 m5
      rw [if_neg e0] at hD
      have hpid' : (S0.th tid).pid < (U.up tid fun t => { t with pc := beh }).mem.length := by
        show _ < U.mem.length
        rw [nmT]
        exact hpid
      have ep2 : ((U.up tid fun t => { t with pc := beh }).th tid).pid = (S0.th tid).pid := by rw [MM.up_th htT]; exact epid
      have B4 := O4.B
      have mv : code ≤ 6 → D = MM.move (U.up tid fun t => { t with pc := beh }) tid code x y := fun h => by
        rw [hD, if_neg (by omega), if_neg (by omega), npc (by omega) (by omega) (by omega) (by omega)]
      unfold MM.move at mv
      dsimp only at mv
      rw [ep2] at mv
      walk_at "mgo"
      refine R.r_ite (fun e1 => ?_) (fun e1 => ?_)
      · have hD := mv (by omega)
        rw [if_pos e1] at hD
        subst hD
        walk_at "mgo"
        refine LM.s_rg B4 W4 ht4 (by omega) (by omega) fun H5 B5 m5 => ?_
        exact qi (LM.len_setReg.trans l4) H5 B5 m5
      walk_at "mgo"
      refine R.r_ite (fun e2 => ?_) (fun e2 => ?_)
      · have hD := mv (by omega)
        rw [if_neg e1, if_pos e2] at hD
        subst hD
        walk_at "mgo"
        refine LM.s_rg B4 W4 ht4 (by omega) (by omega) fun H5 B5 m5 => ?_
        exact qi (LM.len_setReg.trans l4) H5 B5 m5
      walk_at "mgo"
      refine R.r_ite (fun e3 => ?_) (fun e3 => ?_)
      · have hD := mv (by omega)
        rw [if_neg e1, if_neg e2, if_pos e3] at hD
        subst hD
        walk_at "mgo"
        have ea : ∀ a b : Int, (a + 65536 - b) % 65536 = (a - b) % 65536 := fun a b => by omega
        rw [ea]
        refine LM.s_rg B4 W4 ht4 (by omega) (by omega) fun H5 B5 m5 => ?_
        exact qi (LM.len_setReg.trans l4) H5 B5 m5
      walk_at "mgo"
      refine R.r_ite (fun e4 => ?_) (fun e4 => ?_)
      · have hD := mv (by omega)
        rw [if_neg e1, if_neg e2, if_neg e3, if_pos e4] at hD
        subst hD
        walk_at "mgo"
        refine LM.s_rg B4 W4 ht4 (by omega) (by omega) fun H5 B5 m5 => ?_
        exact qi (LM.len_setReg.trans l4) H5 B5 m5
      walk_at "mgo"
      refine R.r_ite (fun e5 => ?_) (fun e5 => ?_)
      · have hD := mv (by omega)
        rw [if_neg e1, if_neg e2, if_neg e3, if_neg e4, if_pos e5] at hD
        subst hD
        walk_at "mgo"
        refine LM.x_ld O4 hpid' ?_
        walk_at "mgo"
        refine LM.s_rg B4 W4 ht4 (by omega) (by omega) fun H5 B5 m5 => ?_
        exact qi (LM.len_setReg.trans l4) H5 B5 m5
      walk_at "mgo"
      refine R.r_ite (fun e6 => ?_) (fun e6 => ?_)
      · have hD := mv (by omega)
        rw [if_neg e1, if_neg e2, if_neg e3, if_neg e4, if_neg e5, if_pos e6, LM.store_plain (O4.nil hpid')] at hD
        subst hD
        walk_at "mgo"
        refine LM.s_me B4 W4 hpid' (Int.emod_nonneg _ (by decide)) (Int.emod_lt_of_pos _ (by decide)) fun H5 B5 m5 => ?_
        exact qi l4 H5 B5 m5
      clear mv
      walk_at "mgo"
      have set7 : ∀ v (G : Hp → Prop), (∀ H', LM.Lm ad (U.up tid fun t => { t with pc := v }) H' → LM.Mv0 (U.up tid fun t => { t with pc := beh }) ad H4 H' → G H') → ∃ a H', V.ref (ad (.th tid)) = .ref a ∧ DPut H4 a (.str "pc") (.int v) H' ∧ G H' := fun v G h => LM.p_pc B4 ht4 fun H5 B5 m5 => h H5 (by rw [← eS v]; exact B5) m5
      have lU : ∀ v, (U.up tid fun t => { t with pc := v }).ths.length = S0.ths.length := fun v => by rw [MM.up_len, ← l4, MM.up_len]
      have mvx : ∀ T : MM.MS, 7 ≤ code → MM.move T tid code x y = T := fun T h => by
        unfold MM.move
        dsimp only
        rw [if_neg e1, if_neg e2, if_neg e3, if_neg e4, if_neg e5, if_neg e6]
      refine R.r_ite (fun e7 => ?_) (fun e7 => ?_)
      · have en : MM.nextPc (S0.th tid).regs code x y beh = x := by
          unfold MM.nextPc
          rw [if_pos (.inl e7)]
        rw [if_neg (by omega), if_neg (by omega), mvx _ (by omega), en] at hD
        subst hD
        walk_at "mgo"
        refine set7 x _ fun H5 B5 m5 => ?_
        walk_at "mgo"
        refine R.r_iteF (by omega) ?_
        walk_at "mgo"
        exact qi (lU x) H5 B5 m5
      walk_at "mgo"
      refine R.r_ite (fun e11 => ?_) (fun e11 => ?_)
      · have en : MM.nextPc (S0.th tid).regs code x y beh = x := by
          unfold MM.nextPc
          rw [if_pos (.inr e11)]
        rw [if_neg (by omega), if_pos e11, en] at hD
        subst hD
        walk_at "mgo"
        refine set7 x _ fun H5 B5 m5 => ?_
        walk_at "mgo"
        refine R.r_iteY e11 ?_
        walk_at "mgo"
        have htx : tid < (U.up tid fun t => { t with pc := x }).ths.length := by rw [lU]; exact ht0
        have Wx : MM.WF (U.up tid fun t => { t with pc := x }) (k + 1) := by
          rw [← eS x]
          exact W4.up { W4.tok ht4 with }
        refine LM.s_rg B5 Wx htx (by decide) (by decide) fun H6 B6 m6 => ?_
        exact qi (LM.len_setReg.trans (lU x)) H6 B6 (LM.Mv0.after m5 m6 (by rw [lU, l4]) rfl)
      walk_at "mgo"
      have erg : ∀ n, MM.reg (U.up tid fun t => { t with pc := beh }) tid n = (S0.th tid).regs.getD n 0 := fun n => by
        unfold MM.reg
        rw [MM.up_th htT]
        exact congrArg (fun l => List.getD l n 0) eregs
      have stay : MM.nextPc (S0.th tid).regs code x y beh = beh → D = (U.up tid fun t => { t with pc := MM.nextPc (S0.th tid).regs code x y beh }) → Q .non H4 := fun en hD => by
        rw [en] at hD
        subst hD
        exact qi l4 H4 B4 LM.Mvl.refl
      refine R.r_ite (fun e8 => ?_) (fun e8 => ?_)
      · rw [if_neg (by omega), if_neg (by omega), mvx _ (by omega)] at hD
        walk_at "mgo"
        refine LM.r_eqB ?_
        walk_at "mgo"
        rw [erg]
        by_cases z : (S0.th tid).regs.getD (x % 4).toNat 0 = 0
        · refine R.r_iteY (by rw [decide_eq_true z, decide_eq_true e8]) ?_
          have en : MM.nextPc (S0.th tid).regs code x y beh = y := by
            unfold MM.nextPc
            rw [if_neg (by omega), if_neg (by omega), if_pos (.inl ⟨e8, z⟩)]
          rw [en] at hD
          subst hD
          walk_at "mgo"
          exact set7 y _ fun H5 B5 m5 => qi (lU y) H5 B5 m5
        · refine R.r_iteF (by rw [decide_eq_false z, decide_eq_true e8]; exact Bool.false_ne_true) ?_
          walk_at "mgo"
          refine stay ?_ hD
          unfold MM.nextPc
          rw [if_neg (by omega), if_neg (by omega), if_neg (fun w => w.elim (fun v => z v.2) (fun v => by omega))]
      walk_at "mgo"
      refine R.r_ite (fun e9 => ?_) (fun e9 => ?_)
      · rw [if_neg (by omega), if_neg (by omega), mvx _ (by omega)] at hD
        walk_at "mgo"
        refine LM.r_eqB ?_
        walk_at "mgo"
        rw [erg]
        by_cases z : (S0.th tid).regs.getD (x % 4).toNat 0 = 0
        · refine R.r_iteF (by rw [decide_eq_true z, decide_eq_false e8]; exact fun h => Bool.false_ne_true h.symm) ?_
          walk_at "mgo"
          refine stay ?_ hD
          unfold MM.nextPc
          rw [if_neg (by omega), if_neg (by omega), if_neg (fun w => w.elim (fun v => e8 v.1) (fun v => v.2 z))]
        · refine R.r_iteY (by rw [decide_eq_false z, decide_eq_false e8]) ?_
          have en : MM.nextPc (S0.th tid).regs code x y beh = y := by
            unfold MM.nextPc
            rw [if_neg (by omega), if_neg (by omega), if_pos (.inr ⟨e9, z⟩)]
          rw [en] at hD
          subst hD
          walk_at "mgo"
          exact set7 y _ fun H5 B5 m5 => qi (lU y) H5 B5 m5
      walk_at "mgo"
      refine R.r_ite (fun e10 => ?_) (fun e10 => ?_)
      · rw [if_pos e10, npc (by omega) (by omega) (by omega) (by omega)] at hD
        subst hD
        walk_at "mgo"
        refine ⟨ad, _, _, tid, _, x, by rw [ec4]; rfl, O4, by omega, ht4, fun ad' H5 B5 m5 => ?_⟩
        walk_at "mgo"
        rw [l4, sm4.nm] at m5
        exact q ad' H5 B5 (LM.Mvl.trans (Nat.le_refl _) (Nat.le_refl _) m4' m5)
      · have e12 : code = 12 := by omega
        have en : MM.nextPc (S0.th tid).regs code x y beh = (S0.th tid).regs.getD 3 0 % 256 := by
          unfold MM.nextPc
          rw [if_neg (by omega), if_pos e12]
        rw [if_neg (by omega), if_neg (by omega), mvx _ (by omega), en] at hD
        subst hD
        walk_at "mgo"
        rw [erg]
        exact set7 _ _ fun H5 B5 m5 => qi (lU _) H5 B5 m5
    · rw [if_pos (by omega)] at hD
      walk_at "mgo"
      refine ⟨Nat.le_of_ble_eq_true rfl, fun g hg => ?_⟩
      generalize hu : upd _ g _ = H3
      obtain ⟨s3, x3⟩ := MM.new2 hu hg
      clear hu
      refine ⟨ad, S0, k, O0.same s3, by omega, .inl ⟨"insn", tid, (S0.th tid).pc, [code], g, rfl, x3, ht0, fun H4 B4 m4 => ?_⟩⟩
      have O4 := O0.to B4 (W.tell (kd := "insn") (t := tid) (a := (S0.th tid).pc) (r := [code])) (by omega) MM.Sm.tell
      have m4' : LM.Mv0 S0 ad H H4 := LM.Mvl.pre s3 m4
      walk_at "mgo"
      refine R.r_iteY (by omega) ?_
      walk_at "mgo"
      refine ⟨Nat.le_of_ble_eq_true rfl, fun g5 hg5 => ?_⟩
      generalize hu : upd _ g5 _ = H5
      obtain ⟨s5, x5⟩ := MM.new2 hu hg5
      clear hu
      refine ⟨ad, _, _, O4.same s5, by omega, .inl ⟨"fault", tid, (S0.th tid).pc, [code], g5, rfl, x5, ht0, fun H6 B6 m6 => ?_⟩⟩
      have O6 := O4.to B6 (O4.W.tell (kd := "fault") (t := tid) (a := (S0.th tid).pc) (r := [code])) (by omega) MM.Sm.tell
      have m6' : LM.Mv0 S0 ad H H6 := LM.Mv0.after m4' (LM.Mvl.pre s5 m6) rfl rfl
      walk_at "mgo"
      refine ⟨ad, MM.tell (MM.tell S0 "insn" tid (S0.th tid).pc [code]) "fault" tid (S0.th tid).pc [code], _, tid, (S0.th tid).pc, 65535, rfl, by decide, O6, by omega, ht0, fun H7 B7 m7 => ?_⟩
      walk_at "mgo"
      subst hD
      refine q ad H7 B7 ?_
      rw [(MM.end_ok O6.W (t := tid) (a := (S0.th tid).pc) (cd := 65535) ht0 (by decide)).1]
      exact LM.Mv0.after m6' m7 rfl rfl
end
end K60
end
section
local macro_rules | `(tactic| walk_at "s1") => `(tactic| first
  | ((with_reducible apply R.r_var); · rfl)
  | with_reducible apply R.r_c
  | with_reducible apply R.r_op
  | with_reducible apply R.r_I0
  | with_reducible apply R.r_cb
  | with_reducible apply R.r_cons
  | with_reducible apply R.r_nil
  | with_reducible apply R.r_seq
  | with_reducible apply R.r_asg
  | with_reducible apply R.r_ret
  | with_reducible apply R.r_ifS
  | with_reducible apply R.r_test
  | with_reducible apply R.r_t
  | with_reducible apply R.r_f
  | with_reducible apply R.r_nt
  | with_reducible apply R.r_nf
  | with_reducible apply R.r_bl
  | with_reducible apply R.r_U
  | with_reducible apply R.r_un
  | with_reducible apply R.r_eqI
  | with_reducible apply R.r_eqS
  | with_reducible apply R.r_neI
  | with_reducible apply R.r_neS
  | with_reducible apply R.r_and
  | with_reducible apply R.r_or
  | with_reducible apply R.r_not
  | with_reducible apply R.r_andV
  | with_reducible apply R.r_orV
  | with_reducible apply R.r_notV
  | with_reducible apply R.r_blV
  | with_reducible apply R.r_B
  | with_reducible apply R.r_ifE
  | with_reducible apply R.r_tup
  | with_reducible apply R.r_lst
  | with_reducible apply R.r_call
  | with_reducible apply R.r_drop
  | with_reducible apply R.r_next
  | with_reducible apply R.r_abs
  | with_reducible apply R.r_int1
  | with_reducible apply R.r_int1b
  | with_reducible apply R.r_min2
  | with_reducible apply R.r_bm
  | with_reducible apply R.r_bm0
  | with_reducible apply R.r_dget
  | with_reducible apply R.r_dput
  | with_reducible apply R.r_disp
  | with_reducible apply R.r_pnil
  | with_reducible apply R.r_pcons
  | with_reducible apply R.r_fld
  | with_reducible apply R.r_slice
  | with_reducible apply R.r_nopart
  | with_reducible apply R.r_part
  | with_reducible apply R.r_int
  | with_reducible apply R.r_yes
  | with_reducible apply R.r_retN
  | with_reducible apply R.r_asgG
  | with_reducible apply R.r_gname
  | with_reducible apply R.r_rng1
  | with_reducible apply R.r_brk
  | with_reducible apply R.r_cnt
  | with_reducible apply R.r_m1
  | with_reducible apply R.r_lcr
  | with_reducible apply R.r_p2_63
  | with_reducible apply R.r_p2_64
  | with_reducible apply R.r_p2_32
  | with_reducible apply R.r_p2_31
  | with_reducible apply R.r_p10_18
  | with_reducible apply R.r_p10_30
  | with_reducible refine R.r_mod (by omega) ?_
  | with_reducible refine R.r_div (by omega) ?_
  | with_reducible refine R.r_mulR (by omega) ?_
  | with_reducible refine R.r_mulL (by omega) ?_
  | with_reducible refine R.r_iteY (by decide +kernel) ?_
  | with_reducible refine R.r_iteF (by decide +kernel) ?_
  | with_reducible refine R.r_isi R.isi_int ?_
  | with_reducible refine R.r_isi R.isi_intB ?_)
local macro_rules | `(tactic| walk_at "go") => `(tactic| repeat (walk_at "s1"))

set_option hygiene false
local macro_rules | `(tactic| walk_at "m1") => `(tactic| first
  | walk_at "s1"
  | with_reducible apply MM.r_meth
  | with_reducible apply MM.r_make
  | with_reducible apply MM.r_din
  | with_reducible apply MM.r_dnotin
  | with_reducible apply MM.r_dget2
  | with_reducible apply MM.r_dpop1
  | with_reducible apply MM.r_sfld
  | with_reducible apply MM.r_gsub
  | with_reducible apply MM.r_augS
  | with_reducible apply MM.r_ip
  | with_reducible apply MM.r_chain
  | with_reducible apply MM.r_daug
  | with_reducible apply MM.r_add
  | with_reducible refine LM.g_mem ‹LM.Lm _ _ _› ?_
  | with_reducible refine LM.g_events ‹LM.Lm _ _ _› ?_
  | with_reducible refine LM.g_time ‹LM.Lm _ _ _› ?_
  | with_reducible refine LM.g_runs ‹LM.Lm _ _ _› ?_
  | with_reducible refine LM.g_threads ‹LM.Lm _ _ _› ?_
  | with_reducible refine LM.g_ready ‹LM.Lm _ _ _› ?_
  | with_reducible refine LM.g_device ‹LM.Lm _ _ _› ?_
  | with_reducible refine LM.g_pid ‹LM.Lm _ _ _› (by first | assumption | omega) ?_
  | with_reducible refine LM.g_pc ‹LM.Lm _ _ _› (by first | assumption | omega) ?_
  | with_reducible refine LM.g_regs ‹LM.Lm _ _ _› (by first | assumption | omega) ?_
  | with_reducible refine LM.x_ths ‹LM.Lm _ _ _› (by first | assumption | omega) ?_
  | with_reducible refine LM.x_mem ‹LM.Lm _ _ _› (by first | assumption | omega) ?_
  | with_reducible refine LM.x_tim ‹LM.Lm _ _ _› (by first | assumption | omega) ?_
  | with_reducible refine LM.x_run ‹LM.Lm _ _ _› (by first | assumption | omega) ?_
  | with_reducible refine LM.x_rg ‹LM.Lm _ _ _› ‹MM.WF _ _› (by first | assumption | omega) (by omega) (by omega) ?_
  | with_reducible refine LM.x_dev0 ‹LM.Lm _ _ _› ?_
  | with_reducible refine LM.x_dev1 ‹LM.Lm _ _ _› ?_
  | with_reducible refine LM.l_ths ‹LM.Lm _ _ _› ?_
  | with_reducible refine ⟨LM.t_rdy ‹LM.Lm _ _ _›, ?_⟩
  | with_reducible refine ⟨LM.t_ths ‹LM.Lm _ _ _›, ?_⟩
  | with_reducible refine ⟨LM.t_ev ‹LM.Lm _ _ _›, ?_⟩
  | with_reducible refine ⟨LM.t_rq ‹LM.Lm _ _ _›, ?_⟩)
local macro_rules | `(tactic| walk_at "mgo") => `(tactic| repeat (walk_at "m1"))
set_option hygiene true

namespace K60
open PySem PySem.Spec PyProof.Rows L2
section
variable {P : Program} {w : World} {K : PySem.W.Frag} {mg : Str → Option Value} {base : Heap}
def spStep : Sp := fun vs H Q _ => ∃ ad S k p cpu what, vs = [.ref (ad LM.Tg.m), .ref p] ∧ H p = some (.tup [.int ((cpu : Nat) : Int), .str what]) ∧ LM.LOk ad S H k ∧ LM.PcOk S ∧ k ≤ 49000 ∧ cpu < S.rates.length ∧
  ∀ ad' H', LM.Lm ad' (MM.doPick false { S with views := [] } cpu what) H' → LM.Mvl S.ths.length S.mem.length ad (MM.doPick false { S with views := [] } cpu what).ths.length S.mem.length ad' H H' → Q .non H'
theorem ok_law_step (T : Txt K mg) : FnOk P w K mg base CX0 6 T.p_law_step.f T.p_law_step.fd ["m", "pick"] spStep := by
  refine T.p_law_step.F.ok sc_law_step (fun vs H Q E h => ?_) (fun cdv A outer s H vs Q E hr h => ?_)
  · obtain ⟨ad, S, k, p, cpu, what, rfl, _⟩ := h
    rfl
  · obtain ⟨ad, S, k, p, cpu, what, rfl, hp, O, pc, hk, hcpu, q⟩ := h
    have B := O.B
    have W := O.W
    refine ⟨_, (pss_cons (ps_asg (pv 1) (pg_tup rfl (pgs_cons (pg_name (i := 2) sc_law_step.nd rfl (.inl rfl)) (pgs_cons (pg_name (i := 3) sc_law_step.nd rfl (.inl rfl)) pgs_nil))))
(pss_cons (ps_dput (hu_of hr) (pv 0) pe_str (pe_lst pa_nil) rfl)
(pss_cons (ps_augS (pe_dget (hu_of hr) (pv 0) pe_str (fun _ _ => rfl)) (pv 2) MM.get_list (pe_ix ix_tup (pe_dget (hu_of hr) (pv 0) pe_str (fun _ _ => rfl)) (pv 2) (fun _ _ => rfl)) ip_add set_list)
(pss_cons (ps_for PassesOwn.never rfl (pi_range1 rfl T.m_range (pa_cons (pe_callB R.cLenS (by rfl) T.m_len (by decide +kernel) (pa_cons (pe_dget (hu_of hr) (pv 0) pe_str (fun _ _ => rfl)) pa_nil)) pa_nil)) (pg_name (i := 4) sc_law_step.nd rfl (.inl rfl))
 (pss_cons (ps_set (i := 5) sc_law_step.nd rfl (.inl rfl) (pe_dget (hu_of hr) (pe_ix ix_list (pe_dget (hu_of hr) (pv 0) pe_str (fun _ _ => rfl)) (pv 4) (fun _ _ => rfl)) pe_str (fun _ _ => rfl)))
(pss_one (ps_if ((pw_and (pt_cmpR (op_eqD hr.units) (pe_slice sl_tupA (pv 5) po_none (po_some pe_int)) (pe_tup (pa_cons pe_str (pa_cons (pv 2) pa_nil))) (nomark _)) (pw_and1 (pt_cmpR op_le (pe_ix ix_tup (pv 5) pe_int (fun _ _ => rfl)) (pe_ix ix_list (pe_dget (hu_of hr) (pv 0) pe_str (fun _ _ => rfl)) (pv 2) (fun _ _ => rfl)) (nomark _))))).pt
 (pss_one (ps_expr (pe_call (ok_law_returns T) (hr.mono (by decide)) (by rfl) T.p_law_returns.g T.p_law_returns.F.kp T.p_law_returns.b .nil pass0 (pa_cons (pv 0) (pa_cons (pv 2) (pa_cons (pv 4) (pa_cons pe_int pa_nil)))))))
 pss_nil))))
(pss_cons (ps_set (i := 4) sc_law_step.nd rfl (.inl rfl) (pe_ix ix_list (pe_dget (hu_of hr) (pv 0) pe_str (fun _ _ => rfl)) (pv 2) (fun _ _ => rfl)))
(pss_one (ps_if ((pw_and (pt_cmpR op_eq (pv 3) pe_str (nomark _)) (pw_and1 (pt_cmpR op_ge (pv 4) pe_int (nomark _))))).pt
 (pss_one (ps_expr (pe_call (ok_law_instruction T) (hr.mono (by decide)) (by rfl) T.p_law_instruction.g T.p_law_instruction.F.kp T.p_law_instruction.b .nil pass0 (pa_cons (pv 0) (pa_cons (pv 2) (pa_cons (pv 4) pa_nil))))))
 (pss_one (ps_if ((pw_and (pt_cmpR op_eq (pv 3) pe_str (nomark _)) (pw_and1 (pt_cmpR (op_neD hr.units) (pe_dget (hu_of hr) (pv 0) pe_str (fun _ _ => rfl)) (pe_lst pa_nil) (nomark _))))).pt
 (pss_cons (ps_set (i := 4) sc_law_step.nd rfl (.inl rfl) (pe_ix ix_list (pe_dget (hu_of hr) (pv 0) pe_str (fun _ _ => rfl)) pe_int (fun _ _ => rfl)))
(pss_cons (ps_dput (hu_of hr) (pv 0) pe_str (pe_slice sl_list (pe_dget (hu_of hr) (pv 0) pe_str (fun _ _ => rfl)) (po_some pe_int) po_none) rfl)
(pss_cons (ps_asg (pv 4) (pg_sub (pe_dget (hu_of hr) (pv 0) pe_str (fun _ _ => rfl)) (pv 2) set_list))
(pss_cons (ps_dput (hu_of hr) (pe_ix ix_list (pe_dget (hu_of hr) (pv 0) pe_str (fun _ _ => rfl)) (pv 4) (fun _ _ => rfl)) pe_str (pe_tup (pa_cons pe_str (pa_cons (pv 2) pa_nil))) rfl)
(pss_one (ps_expr (pe_call (ok_law_tell T) (hr.mono (by decide)) (by rfl) T.p_law_tell.g T.p_law_tell.F.kp T.p_law_tell.b .nil pass0 (pa_cons (pv 0) (pa_cons pe_str (pa_cons (pv 2) (pa_cons (pv 4) (pa_cons (pe_dget (hu_of hr) (pe_ix ix_list (pe_dget (hu_of hr) (pv 0) pe_str (fun _ _ => rfl)) (pv 4) (fun _ _ => rfl)) pe_str (fun _ _ => rfl)) (pa_cons (pe_tup pa_nil) pa_nil)))))))))))))
 (pss_one (ps_if (pt_cmpR op_eq (pv 3) pe_str (nomark _))
 (pss_cons (ps_expr (pe_call (ok_law_tell T) (hr.mono (by decide)) (by rfl) T.p_law_tell.g T.p_law_tell.F.kp T.p_law_tell.b .nil pass0 (pa_cons (pv 0) (pa_cons pe_str (pa_cons (pv 2) (pa_cons (pe_un un_neg pe_int) (pa_cons (pe_un un_neg pe_int) (pa_cons (pe_tup pa_nil) pa_nil))))))))
(pss_one (ps_if (pt_cmpR op_ge (pv 4) pe_int (nomark _))
 (pss_one (ps_expr (pe_call (ok_law_off T) (hr.mono (by decide)) (by rfl) T.p_law_off.g T.p_law_off.F.kp T.p_law_off.b .nil pass0 (pa_cons (pv 0) (pa_cons (pv 2) (pa_cons (pv 4) (pa_cons (pe_tup (pa_cons pe_str pa_nil)) (pa_cons pe_int pa_nil))))))))
 pss_nil)))
 (pss_one (ps_if ((pw_and (pt_cmpR op_eq (pv 3) pe_str (nomark _)) (pw_and1 (pt_cmpR (op_neD hr.units) (pe_ix ix_list (pe_dget (hu_of hr) (pv 0) pe_str (fun _ _ => rfl)) pe_int (fun _ _ => rfl)) (pe_lst pa_nil) (nomark _))))).pt
 (pss_cons (ps_asg (pe_ix ix_list (pe_ix ix_list (pe_dget (hu_of hr) (pv 0) pe_str (fun _ _ => rfl)) pe_int (fun _ _ => rfl)) pe_int (fun _ _ => rfl)) (pg_tup rfl (pgs_cons (pg_name (i := 6) sc_law_step.nd rfl (.inl rfl)) (pgs_cons (pg_name (i := 7) sc_law_step.nd rfl (.inl rfl)) (pgs_cons (pg_name (i := 8) sc_law_step.nd rfl (.inl rfl)) pgs_nil)))))
(pss_cons (ps_set (i := 9) sc_law_step.nd rfl (.inl rfl) (pe_ix ix_list (pe_dget (hu_of hr) (pv 0) pe_str (fun _ _ => rfl)) pe_int (fun _ _ => rfl)))
(pss_cons (ps_dput (hu_of hr) (pv 0) pe_str (pe_lst (pa_cons (pe_ix ix_list (pe_dget (hu_of hr) (pv 0) pe_str (fun _ _ => rfl)) pe_int (fun _ _ => rfl)) (pa_cons (pe_slice sl_list (pe_ix ix_list (pe_dget (hu_of hr) (pv 0) pe_str (fun _ _ => rfl)) pe_int (fun _ _ => rfl)) (po_some pe_int) po_none) pa_nil))) rfl)
(C8.pss_cut (ps_if (pt_cmpR op_eq (pv 7) pe_int (nomark _))
 (pss_cons (ps_asg (pv 8) (pg_sub (pe_dget (hu_of hr) (pv 0) pe_str (fun _ _ => rfl)) pe_int set_list))
(pss_one (ps_set (i := 9) sc_law_step.nd rfl (.inl rfl) pe_int)))
 pss_nil)
(pss_cons (ps_expr (pe_call (ok_law_tell T) (hr.mono (by decide)) (by rfl) T.p_law_tell.g T.p_law_tell.F.kp T.p_law_tell.b .nil pass0 (pa_cons (pv 0) (pa_cons pe_str (pa_cons (pv 2) (pa_cons (pv 6) (pa_cons (pe_ix ix_tup (pe_dget (hu_of hr) (pe_ix ix_list (pe_dget (hu_of hr) (pv 0) pe_str (fun _ _ => rfl)) (pv 6) (fun _ _ => rfl)) pe_str (fun _ _ => rfl)) pe_int (fun _ _ => rfl)) (pa_cons (pe_tup (pa_cons (pv 7) pa_nil)) pa_nil))))))))
(pss_one (ps_expr (pe_call (ok_law_returns T) (hr.mono (by decide)) (by rfl) T.p_law_returns.g T.p_law_returns.F.kp T.p_law_returns.b .nil pass0 (pa_cons (pv 0) (pa_cons (pv 2) (pa_cons (pv 6) (pa_cons (pv 9) pa_nil))))))))))))
 pss_nil))))))))))))), ?_⟩
    walk_at "mgo"
    refine ⟨p, _, rfl, R.sqT hp, rfl, _, _, rfl, _, _, rfl, rfl, ?_⟩
    walk_at "mgo"
    refine ⟨Nat.zero_le _, fun pe hpe => ?_⟩
    generalize hu : upd _ pe _ = H1
    obtain ⟨s1, x1⟩ := MM.new2 hu hpe
    clear hu
    walk_at "mgo"
    obtain ⟨kvs, kvs', em, hl, hpk, B2, m2⟩ := B.newEv s1 hpe x1
    refine R.r_dputS em hl hpk ?_
    generalize upd H1 (ad .m) (.dK kvs') = H2 at B2 m2 ⊢
    generalize LM.adE ad .evL pe = a1 at B2 m2
    have ea : ∀ t, LM.fixed t = true → LM.dom S.ths.length S.mem.length t → a1 t = ad t := m2.ag
    rw [← ea .m rfl trivial]
    have B2 : LM.Lm a1 { S with views := [], cpu := cpu } H2 := ⟨B2.ex⟩
    have hti : cpu < S.times.length := by rw [W.tim]; exact hcpu
    walk_at "mgo"
    refine ⟨_, _, _, _, rfl, rfl, R.sqL B2.at_tim, by omega, MM.getD_get hti, ?_⟩
    walk_at "mgo"
    refine LM.g_rates B2 fun rt er => ?_
    walk_at "mgo"
    refine R.r_ixT (R.sqT er) (atI_nat (MM.getD_get hcpu)) ?_
    walk_at "mgo"
    refine LM.s_tim B2 (i := cpu) hti fun H3 B3 m3 => ?_
    have B3 : LM.Lm a1 (MM.begin' { S with views := [] } cpu) H3 := B3
    have W1 : MM.WF ({ S with views := [] } : MM.MS) k := { W with vw := Nat.zero_le _ }
    have W3 := MM.begin_ok W1 hcpu
    have pc3 : LM.PcOk (MM.begin' { S with views := [] } cpu) := pc.mk' rfl rfl
    have O3 : LM.LOk a1 (MM.begin' { S with views := [] } cpu) H3 k := ⟨B3, W3, O.hk, O.pl⟩
    have m3' : LM.Mvl S.ths.length S.mem.length ad S.ths.length S.mem.length a1 H H3 := LM.Mvl.trans (Nat.le_refl _) (Nat.le_refl _) m2 m3
    have l3 : (MM.begin' { S with views := [] } cpu).ths.length = S.ths.length := rfl
    have n3 : (MM.begin' { S with views := [] } cpu).mem.length = S.mem.length := rfl
    have c3 : (MM.begin' { S with views := [] } cpu).cpu = cpu := rfl
    unfold MM.doPick at q
    dsimp only at q
    generalize MM.begin' { S with views := [] } cpu = S3 at *
    have hn := W3.nt
    have tk := MM.turns_ok (f := MM.wakeIf) MM.wakeIf_ok.1 MM.wakeIf_ok.2.1 MM.wakeIf_ok.2.2 W3
    walk_at "mgo"
    refine R.r_rngL (fun i σ H' => ∃ y4 y5, σ = [some (.ref (a1 .m)), some (.ref p), some (.int (cpu : Int)), some (.str what), y4, y5, none, none, none, none] ∧ LM.Lm a1 (MM.turns MM.wakeIf S3 i) H' ∧ LM.Mv0 S3 a1 H3 H') (by omega) ?_ ?_ ?_
    · exact ⟨_, _, rfl, B3, LM.Mvl.refl⟩
    · rintro i σ H4 hi ⟨y4, y5, rfl, B4, m4⟩
      have hi : i < S3.ths.length := by omega
      obtain ⟨li, si, wi⟩ := tk i (by omega)
      have hi' : i < (MM.turns MM.wakeIf S3 i).ths.length := by omega
      have ec : (MM.turns MM.wakeIf S3 i).cpu = cpu := si.cp.trans c3
      have hti4 : cpu < (MM.turns MM.wakeIf S3 i).times.length := by rw [wi.tim, si.rt, ← W3.tim, W3.tim, ← c3]; exact W3.cpu
      rw [MM.turns_succ]
      have O4 : LM.LOk a1 (MM.turns MM.wakeIf S3 i) H4 (k + i) := O3.to B4 wi (by omega) si
      have lS := li
      have nS := si.nm
      generalize MM.turns MM.wakeIf S3 i = Si at *
      walk_at "mgo"
      refine LM.g_is B4 hi' fun c0 e0 => ?_
      walk_at "mgo"
      refine LM.sl_cond e0 fun p2 H5 s5 x5 => ?_
      walk_at "mgo"
      refine ⟨Nat.le_of_ble_eq_true rfl, fun g hg => ?_⟩
      generalize hu : upd _ g _ = H6
      obtain ⟨s6, x6⟩ := MM.new2 hu hg
      clear hu
      have s46 := s5.trans s6
      have O6 := O4.same s46
      have B6 := O6.B
      have m6 : LM.Mv0 S3 a1 H3 H6 := LM.Mvl.end' m4 (Nat.le_refl _) (Nat.le_refl _) s46
      have no : ∀ y5, ¬ MM.sleepsTo Si.cpu Si.now (Si.th i).cond = true → ∃ y4 y5', [some (V.ref (a1 .m)), some (.ref p), some (.int (cpu : Int)), some (.str what), some (.int (i : Int)), y5, none, none, none, none] = [some (.ref (a1 .m)), some (.ref p), some (.int (cpu : Int)), some (.str what), y4, y5', none, none, none, none] ∧ LM.Lm a1 (MM.wakeIf Si i) H6 ∧ LM.Mv0 S3 a1 H3 H6 := fun y5 e =>
        ⟨_, _, rfl, by unfold MM.wakeIf; rw [if_neg e]; exact B6, m6⟩
      refine LM.eq_sleep (s6 _ _ x5) x6 ?_
      walk_at "mgo"
      cases hs : LM.slp (cpu : Int) (Si.th i).cond with
      | false =>
        walk_at "mgo"
        refine no _ fun z => ?_
        have q9 : ¬ LM.slp (cpu : Int) (Si.th i).cond = true := by rw [hs]; exact Bool.false_ne_true
        refine q9 (LM.slp_iff.mpr ?_)
        cases hc : (Si.th i).cond with
        | sleeping c u =>
          rw [hc] at z
          have z : (decide (c = Si.cpu) && decide (u ≤ Si.now)) = true := z
          rw [Bool.and_eq_true, decide_eq_true_iff] at z
          exact ⟨u, by rw [z.1, ec]⟩
        | _ => rw [hc] at z; cases z
      | true =>
        obtain ⟨u, hc⟩ := LM.slp_iff.mp hs
        rw [hc] at e0 no
        walk_at "mgo"
        refine R.r_ixT (i := 2) (v := .int u) (R.sqT (s46 _ _ e0)) rfl ?_
        walk_at "mgo"
        refine R.r_ite (fun e3 => ?_) (fun e3 => ?_)
        · walk_at "mgo"
          refine ⟨a1, Si, _, i, 0, by rw [ec]; rfl, by decide, O6, by omega, hi', fun H7 B7 m7 => ?_⟩
          walk_at "mgo"
          refine ⟨_, _, rfl, ?_, LM.Mv0.after m6 m7 lS nS⟩
          unfold MM.wakeIf
          rw [if_pos (by
            rw [hc]
            show (decide (cpu = Si.cpu) && decide (u ≤ Si.now)) = true
            rw [decide_eq_true ec.symm, decide_eq_true (show u ≤ Si.now by unfold MM.MS.now; rw [ec]; exact e3)]
            rfl)]
          exact B7
        · walk_at "mgo"
          refine no _ ?_
          show ¬ (decide (cpu = Si.cpu) && decide (u ≤ Si.now)) = true
          rw [decide_eq_false (show ¬ u ≤ Si.now by unfold MM.MS.now; rw [ec]; exact e3), Bool.and_false]
          exact Bool.false_ne_true
    · rintro σ H4 ⟨y4, y5, rfl, B4, m4⟩
      rw [Int.toNat_natCast, ← MM.wake_turns] at B4
      obtain ⟨lw, sw, Ww⟩ := MM.wake_ok W3
      have Ow := O3.to B4 Ww (by omega) sw
      have pcw := pc3.wake
      have ecw : (MM.wake S3).cpu = cpu := sw.cp.trans c3
      have mw : LM.Mvl S.ths.length S.mem.length ad S.ths.length S.mem.length a1 H H4 := by
        have z : LM.Mvl S3.ths.length S3.mem.length a1 S3.ths.length S3.mem.length a1 H3 H4 := m4
        rw [l3, n3] at z
        exact LM.Mvl.trans (Nat.le_refl _) (Nat.le_refl _) m3' z
      have lw' : (MM.wake S3).ths.length = S.ths.length := lw.trans l3
      have nw' : (MM.wake S3).mem.length = S.mem.length := sw.nm.trans n3
      generalize MM.wake S3 = Sw at *
      have hrn : cpu < Sw.run.length := by rw [Ww.rn, ← ecw]; exact Ww.cpu
      walk_at "mgo"
      have er : Sw.run.getD cpu 0 = MM.runs Sw := by unfold MM.runs; rw [ecw]
      rw [er]
      by_cases es : what = "step"
      · subst es
        rw [if_pos rfl] at q
        unfold MM.doStep at q
        refine R.r_iteY rfl ?_
        walk_at "mgo"
        refine R.r_ite (fun e => ?_) (fun e => ?_)
        · rw [if_pos e] at q
          have hr := MM.runs_lt Ww
          obtain ⟨t, ht⟩ := Int.eq_ofNat_of_zero_le e
          rw [ht] at q hr ⊢
          walk_at "mgo"
          refine ⟨a1, Sw, _, t, by rw [ecw]; rfl, Ow, pcw, by omega, by omega, fun a2 H5 B5 m5 => ?_⟩
          walk_at "mgo"
          rw [Int.toNat_natCast] at q
          rw [lw', nw'] at m5
          exact q a2 H5 B5 (LM.Mvl.trans (Nat.le_refl _) (Nat.le_refl _) mw m5)
        · rw [if_neg e] at q
          walk_at "mgo"
          refine ⟨Nat.zero_le _, fun l1 hl1 => ?_⟩
          generalize hu : upd _ l1 _ = H5
          obtain ⟨s5, x5⟩ := MM.new2 hu hl1
          clear hu
          have O5 := Ow.same s5
          have B5 := O5.B
          refine D.r_neD (p := Sw.ready = []) (LM.dp_rdy B5) (.lst (R.sqL x5) .nil) LM.sh_rdy (.lst D.Sh.nil : D.Sh 1 _) (by decide) (by decide) ⟨fun z => List.map_eq_nil_iff.mp (PyData.list.inj z), fun z => by rw [z]; rfl⟩ ?_
          walk_at "mgo"
          cases hrd : Sw.ready with
          | nil =>
            rw [hrd] at q
            refine R.r_iteN (fun z => absurd rfl z) (fun _ => ?_)
            walk_at "mgo"
            have q2 : ∀ H', LM.Lm a1 Sw H' → LM.Mvl S.ths.length S.mem.length ad S.ths.length S.mem.length a1 H H' → Q .non H' := fun H' b m => q a1 H' b (by rw [lw']; exact m)
            exact q2 H5 B5 (LM.Mvl.end' mw (Nat.le_refl _) (Nat.le_refl _) s5)
          | cons t r =>
            rw [hrd] at q
            refine R.r_iteN (fun z => ?_) (fun z => nomatch z)
            have hrdy := B5.at_rdy
            rw [hrd] at hrdy
            walk_at "mgo"
            refine R.r_ixL (v := .int (t : Int)) (R.sqL hrdy) (R.at_nat (by decide) rfl) ?_
            walk_at "mgo"
            have htr : t < Sw.ths.length := Ww.rd t (by rw [hrd]; exact List.mem_cons_self)
            refine ⟨_, _, rfl, R.sqL hrdy, fun p6 hp6 => ?_⟩
            rw [List.map_cons, LM.cut_tail]
            generalize hu : upd _ p6 _ = H6
            obtain ⟨s6, x6⟩ := MM.new2 hu hp6
            clear hu
            walk_at "mgo"
            obtain ⟨kvs, kvs', em, hl, hpk, B7, m7⟩ := B5.newRdy (l := r) s6 hp6 x6
            refine R.r_dputS em hl hpk ?_
            generalize upd H6 (a1 .m) (.dK kvs') = H7 at B7 m7 ⊢
            generalize LM.adE a1 .rdyL p6 = a2 at B7 m7
            rw [← m7.ag .m rfl trivial]
            have W7 : MM.WF { Sw with ready := r } (k + 8) := { Ww with rd := fun i hi => Ww.rd i (by rw [hrd]; exact List.mem_cons_of_mem _ hi), rdl := Nat.le_trans (by rw [hrd]; exact Nat.le_succ _) Ww.rdl }
            have O7 : LM.LOk a2 { Sw with ready := r } H7 (k + 8) := Ow.to B7 W7 (by omega) (MM.sm_of rfl rfl rfl rfl)
            have ht7 : t < ({ Sw with ready := r } : MM.MS).ths.length := htr
            walk_at "mgo"
            refine LM.s_run B7 (i := cpu) hrn fun H8 B8 m8 => ?_
            walk_at "mgo"
            refine ⟨Nat.le_of_ble_eq_true rfl, fun c1 hc1 => ?_⟩
            generalize hu : upd _ c1 _ = H9
            obtain ⟨s9, x9⟩ := MM.new2 hu hc1
            clear hu
            have B9 := B8.same s9
            walk_at "mgo"
            refine LM.p_is (cd := .running cpu) B9 htr x9 fun HA BA mA => ?_
            have eb : MM.beginRun { Sw with ready := r } t = MM.tell ({ MM.setCond { Sw with ready := r } t (.running cpu) with run := Sw.run.set cpu t } : MM.MS) "on" t (({ MM.setCond { Sw with ready := r } t (.running cpu) with run := Sw.run.set cpu t } : MM.MS).th t).pc [] := by
              unfold MM.beginRun
              dsimp only
              rw [ecw]
            have BA : LM.Lm a2 ({ MM.setCond { Sw with ready := r } t (.running cpu) with run := Sw.run.set cpu t } : MM.MS) HA := BA
            have WA : MM.WF ({ MM.setCond { Sw with ready := r } t (.running cpu) with run := Sw.run.set cpu t } : MM.MS) (k + 8) := (W7.setCond ht7 (show MM.condOk (.running cpu) from trivial)).runSet (by
              show ((t : Nat) : Int) < ((Sw.ths.set t _).length : Int)
              rw [List.length_set]
              exact Int.ofNat_lt.mpr htr)
            have lA : ({ MM.setCond { Sw with ready := r } t (.running cpu) with run := Sw.run.set cpu t } : MM.MS).ths.length = Sw.ths.length := List.length_set
            have OA : LM.LOk a2 _ HA (k + 8) := Ow.to BA WA (by omega) (MM.sm_of lA rfl rfl rfl)
            have m8a : LM.Mvl Sw.ths.length Sw.mem.length a1 Sw.ths.length Sw.mem.length a2 H5 HA := by
              have mA' : LM.Mvl Sw.ths.length Sw.mem.length a2 Sw.ths.length Sw.mem.length a2 H8 HA := LM.Mvl.pre s9 mA
              exact LM.Mvl.trans (Nat.le_refl _) (Nat.le_refl _) m7 (LM.Mvl.trans (Nat.le_refl _) (Nat.le_refl _) m8 mA')
            dsimp only at q
            rw [eb] at q
            have nA : ({ MM.setCond { Sw with ready := r } t (.running cpu) with run := Sw.run.set cpu t } : MM.MS).mem.length = Sw.mem.length := rfl
            have ecA : ({ MM.setCond { Sw with ready := r } t (.running cpu) with run := Sw.run.set cpu t } : MM.MS).cpu = cpu := ecw
            generalize ({ MM.setCond { Sw with ready := r } t (.running cpu) with run := Sw.run.set cpu t } : MM.MS) = SA at *
            have htA : t < SA.ths.length := by rw [lA]; exact htr
            walk_at "mgo"
            refine ⟨Nat.zero_le _, fun g hg => ?_⟩
            generalize hu : upd _ g _ = HB
            obtain ⟨sB, xB⟩ := MM.new2 hu hg
            clear hu
            refine ⟨a2, SA, _, OA.same sB, by omega, .inl ⟨"on", t, (SA.th t).pc, [], g, by rw [ecA]; rfl, xB, htA, fun HC BC mC => ?_⟩⟩
            walk_at "mgo"
            refine q a2 HC BC ?_
            show LM.Mvl _ _ ad SA.ths.length _ a2 H HC
            have mC' : LM.Mvl Sw.ths.length Sw.mem.length a2 Sw.ths.length Sw.mem.length a2 HB HC := by
              have z : LM.Mvl SA.ths.length SA.mem.length a2 SA.ths.length SA.mem.length a2 HB HC := mC
              rw [lA, nA] at z
              exact z
            have tot : LM.Mvl Sw.ths.length Sw.mem.length a1 Sw.ths.length Sw.mem.length a2 H4 HC := LM.Mvl.pre s5 (LM.Mvl.trans (Nat.le_refl _) (Nat.le_refl _) m8a (LM.Mvl.pre sB mC'))
            rw [lA, lw']
            rw [lw', nw'] at tot
            exact LM.Mvl.trans (Nat.le_refl _) (Nat.le_refl _) mw tot
      · rw [if_neg es] at q
        refine R.r_iteF es ?_
        walk_at "mgo"
        refine R.r_iteF es ?_
        walk_at "mgo"
        refine R.r_ite (fun e2 => ?_) (fun e2 => ?_)
        · rw [if_pos e2] at q
          unfold MM.doTimer at q
          dsimp only at q
          have ern : MM.runs (MM.tellTick Sw) = MM.runs Sw := rfl
          rw [ern] at q
          walk_at "mgo"
          refine ⟨Nat.zero_le _, fun g hg => ?_⟩
          generalize hu : upd _ g _ = H5
          obtain ⟨s5, x5⟩ := MM.new2 hu hg
          clear hu
          refine ⟨a1, Sw, _, Ow.same s5, by omega, .inr ⟨g, by rw [ecw]; rfl, x5, fun H6 B6 m6 => ?_⟩⟩
          have W6 := Ww.tellTick
          have O6 := Ow.to B6 W6 (by omega) (MM.sm_of rfl rfl rfl rfl)
          have m06 : LM.Mvl S.ths.length S.mem.length ad S.ths.length S.mem.length a1 H H6 := by
            have z : LM.Mvl Sw.ths.length Sw.mem.length a1 Sw.ths.length Sw.mem.length a1 H5 H6 := m6
            rw [lw', nw'] at z
            exact LM.Mvl.trans (Nat.le_refl _) (Nat.le_refl _) mw (LM.Mvl.pre s5 z)
          walk_at "mgo"
          refine R.r_ite (fun e => ?_) (fun e => ?_)
          · rw [if_pos e] at q
            have hr := MM.runs_lt Ww
            obtain ⟨t, ht⟩ := Int.eq_ofNat_of_zero_le e
            rw [ht, Int.toNat_natCast] at q
            rw [ht] at hr ⊢
            have htT : t < (MM.tellTick Sw).ths.length := by show t < Sw.ths.length; omega
            walk_at "mgo"
            refine ⟨Nat.le_of_ble_eq_true rfl, fun c1 hc1 => ?_⟩
            generalize hu : upd _ c1 _ = H7
            obtain ⟨s7, x7⟩ := MM.new2 hu hc1
            clear hu
            refine ⟨a1, MM.tellTick Sw, _, t, .ready, c1, 1, by rw [← ecw]; rfl, x7, trivial, O6.same s7, by omega, htT, fun H8 B8 m8 => ?_⟩
            walk_at "mgo"
            refine q a1 H8 B8 ?_
            rw [(MM.goLast_ok W6 htT).1]
            show LM.Mvl _ _ ad Sw.ths.length _ a1 H H8
            have z : LM.Mvl Sw.ths.length Sw.mem.length a1 Sw.ths.length Sw.mem.length a1 H7 H8 := m8
            rw [lw', nw'] at z
            rw [lw']
            exact LM.Mvl.trans (Nat.le_refl _) (Nat.le_refl _) m06 (LM.Mvl.pre s7 z)
          · rw [if_neg e] at q
            walk_at "mgo"
            refine q a1 H6 B6 ?_
            show LM.Mvl _ _ ad Sw.ths.length _ a1 H H6
            rw [lw']
            exact m06
        · rw [if_neg e2] at q
          walk_at "mgo"
          refine R.r_ite (fun e3 => ?_) (fun e3 => ?_)
          · rw [if_pos e3] at q
            walk_at "mgo"
            refine ⟨Nat.zero_le _, fun l1 hl1 => ?_⟩
            generalize hu : upd _ l1 _ = H5
            obtain ⟨s5, x5⟩ := MM.new2 hu hl1
            clear hu
            have O5 := Ow.same s5
            have B5 := O5.B
            have mw5 := LM.Mvl.end' mw (Nat.le_refl _) (Nat.le_refl _) s5
            obtain ⟨rq, erq, al⟩ := B5.at_rq
            refine D.r_neD (p := Sw.reqs = []) (.lst (R.sqL erq) (MM.dp_all2 (fun a x h => MM.dp_rq h) al)) (.lst (R.sqL x5) .nil) (.lst LM.sh_rqs : D.Sh 2 _) (.lst D.Sh.nil : D.Sh 1 _) (by decide) (by decide) ⟨fun z => List.map_eq_nil_iff.mp (PyData.list.inj z), fun z => by rw [z]; rfl⟩ ?_
            unfold MM.doRequest at q
            cases hrq : Sw.reqs with
            | nil =>
              rw [hrq] at q
              walk_at "mgo"
              refine R.r_iteN (fun z => absurd rfl z) (fun _ => ?_)
              walk_at "mgo"
              exact q a1 H5 B5 (by rw [lw']; exact mw5)
            | cons q0 r =>
              obtain ⟨tid, call, number⟩ := q0
              have hq := Ww.rq (tid, call, number) (by rw [hrq]; exact List.mem_cons_self)
              rw [hrq] at q al
              dsimp only at q
              obtain ⟨a0, rq', rfl, ra, al'⟩ : ∃ a0 rq', rq = a0 :: rq' ∧ MM.RqAt H5 a0 (tid, call, number) ∧ MM.All2 (MM.RqAt H5) rq' r := by
                cases al with
                | cons x y => exact ⟨_, _, rfl, x, y⟩
              walk_at "mgo"
              refine R.r_iteN (fun z => ?_) (fun z => nomatch z)
              walk_at "mgo"
              refine R.r_ixL (v := .ref a0) (R.sqL erq) (R.at_nat (by decide) rfl) ?_
              walk_at "mgo"
              have ra : H5 a0 = some (.tup [.int ((tid : Nat) : Int), .int call, .int number]) := ra
              refine ⟨a0, _, rfl, R.sqT ra, rfl, _, _, rfl, _, _, rfl, _, _, rfl, rfl, ?_⟩
              walk_at "mgo"
              refine ⟨_, _, rfl, R.sqL erq, fun p6 hp6 => ?_⟩
              rw [List.map_cons, LM.cut_tail]
              generalize hu : upd _ p6 _ = H6
              obtain ⟨s6, x6⟩ := MM.new2 hu hp6
              clear hu
              walk_at "mgo"
              refine ⟨Nat.le_of_ble_eq_true rfl, fun p7 hp7 => ?_⟩
              generalize hu : upd _ p7 _ = H7
              obtain ⟨s7, x7⟩ := MM.new2 hu hp7
              clear hu
              have hp75 : H5 p7 = none := by
                cases e : H5 p7 with
                | none => rfl
                | some o => rw [s6 _ _ e] at hp7; cases hp7
              have h67 : p7 ≠ p6 := ne_of_none x6 hp7 |>.symm
              walk_at "mgo"
              obtain ⟨kvs, kvs', em, hl, hpk, B8, m8⟩ := B5.newDev (v := Sw.dev) (s6.trans s7) hp75 hp6 h67 x7 (s7 _ _ x6) (al'.imp fun _ _ z => s7 _ _ (s6 _ _ z))
              refine R.r_dputS em hl hpk ?_
              generalize upd H7 (a1 .m) (.dK kvs') = H8 at B8 m8 ⊢
              generalize LM.adE (LM.adE a1 .reqL p6) .devL p7 = a2 at B8 m8
              rw [← m8.ag .m rfl trivial]
              have B8 : LM.Lm a2 { Sw with reqs := r } H8 := B8
              have W8 : MM.WF { Sw with reqs := r } (k + 8) := { Ww with
                rq := fun q hq => Ww.rq q (by rw [hrq]; exact List.mem_cons_of_mem _ hq)
                rql := by have := Ww.rql; rw [hrq, List.length_cons] at this; show r.length ≤ k + 8; omega }
              have sm8 : MM.Sm Sw { Sw with reqs := r } := MM.sm_of rfl rfl rfl rfl
              have mw8 : LM.Mvl S.ths.length S.mem.length ad S.ths.length S.mem.length a2 H H8 := by
                have z : LM.Mvl Sw.ths.length Sw.mem.length a1 Sw.ths.length Sw.mem.length a2 H5 H8 := m8
                rw [lw', nw'] at z
                exact LM.Mvl.trans (Nat.le_refl _) (Nat.le_refl _) mw5 z
              walk_at "mgo"
              refine R.r_cut (fun σ H' => ∃ S2 y1 y2 y3, S2 = (if call = 3 then { Sw with reqs := r, dev := number } else { Sw with reqs := r } : MM.MS) ∧ σ = [some (.ref (a2 .m)), some (.ref p), some (.int (cpu : Int)), y1, y2, y3, some (.int (tid : Int)), some (.int call), some (.int number), some (.int (if call = 3 then 0 else Sw.dev))] ∧ LM.Lm a2 S2 H' ∧ LM.Mvl S.ths.length S.mem.length ad S.ths.length S.mem.length a2 H H') ?_ ?_
              · walk_at "mgo"
                refine R.r_ite (fun e => ?_) (fun e => ?_)
                · walk_at "mgo"
                  refine LM.s_dev B8 fun H9 B9 m9 => ?_
                  walk_at "mgo"
                  refine ⟨_, _, _, _, by rw [if_pos e], by rw [if_pos e]; rfl, B9, ?_⟩
                  have z : LM.Mvl Sw.ths.length Sw.mem.length a2 Sw.ths.length Sw.mem.length a2 H8 H9 := m9
                  rw [lw', nw'] at z
                  exact LM.Mvl.trans (Nat.le_refl _) (Nat.le_refl _) mw8 z
                · walk_at "mgo"
                  exact ⟨_, _, _, _, by rw [if_neg e], by rw [if_neg e]; rfl, B8, mw8⟩
              · rintro σ H9 ⟨S2, y1, y2, y3, eS, rfl, B9, m9⟩
                rw [← eS] at q
                obtain ⟨sm2, W2, et⟩ : MM.Sm Sw S2 ∧ MM.WF S2 (k + 8) ∧ S2.ths = Sw.ths := by
                  rw [eS]
                  split
                  · exact ⟨MM.sm_of rfl rfl rfl rfl, { W8 with dev := hq.2 }, rfl⟩
                  · exact ⟨sm8, W8, rfl⟩
                have ec2 : S2.cpu = cpu := sm2.cp.trans ecw
                have ht : tid < S2.ths.length := by rw [et]; exact hq.1
                have hv : 0 ≤ (if call = 3 then (0 : Int) else Sw.dev) := by
                  split
                  · decide
                  · exact Ww.dev
                have l2 : S2.ths.length = S.ths.length := by rw [et]; exact lw'
                have n2 : S2.mem.length = S.mem.length := sm2.nm.trans nw'
                have O2 := Ow.to B9 W2 (by omega) sm2
                walk_at "mgo"
                refine LM.g_call B9 ht fun c1 e1 => ?_
                walk_at "mgo"
                refine R.r_ixT (R.sqT e1) rfl ?_
                walk_at "mgo"
                refine ⟨Nat.le_of_ble_eq_true rfl, fun g hg => ?_⟩
                generalize hu : upd _ g _ = HA
                obtain ⟨sA, xA⟩ := MM.new2 hu hg
                clear hu
                refine ⟨a2, S2, _, O2.same sA, by omega, .inl ⟨"done", tid, _, [call], g, by rw [ec2]; rfl, xA, ht, fun HB BB mB => ?_⟩⟩
                have WB := W2.tell (kd := "done") (t := tid) (a := (S2.th tid).callAt) (r := [call])
                have OB := O2.to BB WB (by omega) MM.Sm.tell
                walk_at "mgo"
                refine ⟨a2, _, _, tid, _, by rw [← ec2]; rfl, hv, OB, by omega, ht, fun HC BC mC => ?_⟩
                walk_at "mgo"
                refine q a2 HC BC ?_
                have mB' := LM.Mvl.pre sA mB
                have mBC : LM.Mv0 S2 a2 H9 HC := LM.Mv0.after mB' mC rfl rfl
                have lC : (MM.returnCall (MM.tell S2 "done" tid (S2.th tid).callAt [call]) tid (if call = 3 then (0 : Int) else Sw.dev)).ths.length = S.ths.length := (MM.len_returnCall).trans l2
                have z : LM.Mvl S2.ths.length S2.mem.length a2 S2.ths.length S2.mem.length a2 H9 HC := mBC
                rw [l2, n2] at z
                rw [lC]
                exact LM.Mvl.trans (Nat.le_refl _) (Nat.le_refl _) m9 z
          · rw [if_neg e3] at q
            walk_at "mgo"
            exact q a1 H4 B4 (by rw [lw']; exact mw)
end
end K60
end
section
local macro_rules | `(tactic| walk_at "s1") => `(tactic| first
  | ((with_reducible apply R.r_var); · rfl)
  | with_reducible apply R.r_c
  | with_reducible apply R.r_op
  | with_reducible apply R.r_I0
  | with_reducible apply R.r_cb
  | with_reducible apply R.r_cons
  | with_reducible apply R.r_nil
  | with_reducible apply R.r_seq
  | with_reducible apply R.r_asg
  | with_reducible apply R.r_ret
  | with_reducible apply R.r_ifS
  | with_reducible apply R.r_test
  | with_reducible apply R.r_t
  | with_reducible apply R.r_f
  | with_reducible apply R.r_nt
  | with_reducible apply R.r_nf
  | with_reducible apply R.r_bl
  | with_reducible apply R.r_U
  | with_reducible apply R.r_un
  | with_reducible apply R.r_eqI
  | with_reducible apply R.r_eqS
  | with_reducible apply R.r_neI
  | with_reducible apply R.r_neS
  | with_reducible apply R.r_and
  | with_reducible apply R.r_or
  | with_reducible apply R.r_not
  | with_reducible apply R.r_andV
  | with_reducible apply R.r_orV
  | with_reducible apply R.r_notV
  | with_reducible apply R.r_blV
  | with_reducible apply R.r_B
  | with_reducible apply R.r_ifE
  | with_reducible apply R.r_tup
  | with_reducible apply R.r_lst
  | with_reducible apply R.r_call
  | with_reducible apply R.r_drop
  | with_reducible apply R.r_next
  | with_reducible apply R.r_abs
  | with_reducible apply R.r_int1
  | with_reducible apply R.r_int1b
  | with_reducible apply R.r_min2
  | with_reducible apply R.r_bm
  | with_reducible apply R.r_bm0
  | with_reducible apply R.r_dget
  | with_reducible apply R.r_dput
  | with_reducible apply R.r_disp
  | with_reducible apply R.r_pnil
  | with_reducible apply R.r_pcons
  | with_reducible apply R.r_fld
  | with_reducible apply R.r_slice
  | with_reducible apply R.r_nopart
  | with_reducible apply R.r_part
  | with_reducible apply R.r_int
  | with_reducible apply R.r_yes
  | with_reducible apply R.r_retN
  | with_reducible apply R.r_asgG
  | with_reducible apply R.r_gname
  | with_reducible apply R.r_rng1
  | with_reducible apply R.r_brk
  | with_reducible apply R.r_cnt
  | with_reducible apply R.r_m1
  | with_reducible apply R.r_lcr
  | with_reducible apply R.r_p2_63
  | with_reducible apply R.r_p2_64
  | with_reducible apply R.r_p2_32
  | with_reducible apply R.r_p2_31
  | with_reducible apply R.r_p10_18
  | with_reducible apply R.r_p10_30
  | with_reducible refine R.r_mod (by omega) ?_
  | with_reducible refine R.r_div (by omega) ?_
  | with_reducible refine R.r_mulR (by omega) ?_
  | with_reducible refine R.r_mulL (by omega) ?_
  | with_reducible refine R.r_iteY (by decide +kernel) ?_
  | with_reducible refine R.r_iteF (by decide +kernel) ?_
  | with_reducible refine R.r_isi R.isi_int ?_
  | with_reducible refine R.r_isi R.isi_intB ?_)
local macro_rules | `(tactic| walk_at "go") => `(tactic| repeat (walk_at "s1"))

set_option hygiene false
local macro_rules | `(tactic| walk_at "m1") => `(tactic| first
  | walk_at "s1"
  | with_reducible apply MM.r_meth
  | with_reducible apply MM.r_make
  | with_reducible apply MM.r_din
  | with_reducible apply MM.r_dnotin
  | with_reducible apply MM.r_dget2
  | with_reducible apply MM.r_dpop1
  | with_reducible apply MM.r_sfld
  | with_reducible apply MM.r_gsub
  | with_reducible apply MM.r_augS
  | with_reducible apply MM.r_ip
  | with_reducible apply MM.r_chain
  | with_reducible apply MM.r_daug
  | with_reducible apply MM.r_add
  | with_reducible refine LM.g_mem ‹LM.Lm _ _ _› ?_
  | with_reducible refine LM.g_events ‹LM.Lm _ _ _› ?_
  | with_reducible refine LM.g_time ‹LM.Lm _ _ _› ?_
  | with_reducible refine LM.g_runs ‹LM.Lm _ _ _› ?_
  | with_reducible refine LM.g_threads ‹LM.Lm _ _ _› ?_
  | with_reducible refine LM.g_ready ‹LM.Lm _ _ _› ?_
  | with_reducible refine LM.g_device ‹LM.Lm _ _ _› ?_
  | with_reducible refine LM.g_pid ‹LM.Lm _ _ _› (by first | assumption | omega) ?_
  | with_reducible refine LM.g_pc ‹LM.Lm _ _ _› (by first | assumption | omega) ?_
  | with_reducible refine LM.g_regs ‹LM.Lm _ _ _› (by first | assumption | omega) ?_
  | with_reducible refine LM.x_ths ‹LM.Lm _ _ _› (by first | assumption | omega) ?_
  | with_reducible refine LM.x_mem ‹LM.Lm _ _ _› (by first | assumption | omega) ?_
  | with_reducible refine LM.x_tim ‹LM.Lm _ _ _› (by first | assumption | omega) ?_
  | with_reducible refine LM.x_run ‹LM.Lm _ _ _› (by first | assumption | omega) ?_
  | with_reducible refine LM.x_rg ‹LM.Lm _ _ _› ‹MM.WF _ _› (by first | assumption | omega) (by omega) (by omega) ?_
  | with_reducible refine LM.x_dev0 ‹LM.Lm _ _ _› ?_
  | with_reducible refine LM.x_dev1 ‹LM.Lm _ _ _› ?_
  | with_reducible refine LM.l_ths ‹LM.Lm _ _ _› ?_
  | with_reducible refine ⟨LM.t_rdy ‹LM.Lm _ _ _›, ?_⟩
  | with_reducible refine ⟨LM.t_ths ‹LM.Lm _ _ _›, ?_⟩
  | with_reducible refine ⟨LM.t_ev ‹LM.Lm _ _ _›, ?_⟩
  | with_reducible refine ⟨LM.t_rq ‹LM.Lm _ _ _›, ?_⟩)
local macro_rules | `(tactic| walk_at "mgo") => `(tactic| repeat (walk_at "m1"))
set_option hygiene true

namespace K60
open PySem PySem.Spec PyProof.Rows L2
section
variable {P : Program} {w : World} {K : PySem.W.Frag} {mg : Str → Option Value} {base : Heap}
theorem ok_law_model (T : Txt K mg) : FnOk P w K mg base CX0 2 T.p_law_model.f T.p_law_model.fd ["programs", "rates"] LM.spModel := by
  refine T.p_law_model.F.ok sc_law_model (fun vs H Q E h => ?_) (fun cdv A outer s H vs Q E hr h => ?_)
  · obtain ⟨pg, rt, progs, rates, rfl, _⟩ := h
    rfl
  · obtain ⟨pg, rt, progs, rates, rfl, ⟨ps, hpg, alp⟩, hrt, hp4, hr4, hr0, hpb, q⟩ := h
    have hlp := alp.length
    refine ⟨_, (pss_cons (ps_set (i := 2) sc_law_model.nd rfl (.inl rfl) (pe_disp (pps_cons pe_str (pe_lc (own := [("program", 3)]) (g := gName 3) (tt := tYes) rfl sc_law_model.nd (pi_tup (pv 0)) (blkOk_by (own := [("program", 3)]) (N := N_law_model) (sc := defScope s_law_model) (by decide +kernel)) (fun _ _ _ _ _ => (pg_name (i := 3) sc_law_model.nd rfl (.inl rfl))) (fun _ _ _ _ _ => pts_nil) (fun _ _ _ _ _ => (pe_op op_cat (pe_callTy (R.cListOfK (K0 := K) rfl) (by rfl) T.m_list (by decide +kernel) (pa_cons (pv 3) pa_nil)) (pe_op op_rep (pe_lst (pa_cons pe_int pa_nil)) (pe_op op_sub pe_int (pe_callB (R.cLenSK (K0 := K) rfl) (by rfl) T.m_len (by decide +kernel) (pa_cons (pv 3) pa_nil))))))) (pps_cons pe_str (pv 1) (pps_cons pe_str (pe_lst pa_nil) pps_nil))) (by rfl) (by rfl) (fun z => by cases z) (by decide)))
(pss_cons (ps_dput (hu_of hr) (pv 2) pe_str (pe_lc (own := [("rate", 4)]) (g := gName 4) (tt := tYes) rfl sc_law_model.nd (pi_tup (pv 1)) (blkOk_by (own := [("rate", 4)]) (N := N_law_model) (sc := defScope s_law_model) (by decide +kernel)) (fun _ _ _ _ _ => (pg_name (i := 4) sc_law_model.nd rfl (.inl rfl))) (fun _ _ _ _ _ => pts_nil) (fun _ _ _ _ _ => pe_int)) rfl)
(pss_cons (ps_dput (hu_of hr) (pv 2) pe_str (pe_lc (own := [("rate", 4)]) (g := gName 4) (tt := tYes) rfl sc_law_model.nd (pi_tup (pv 1)) (blkOk_by (own := [("rate", 4)]) (N := N_law_model) (sc := defScope s_law_model) (by decide +kernel)) (fun _ _ _ _ _ => (pg_name (i := 4) sc_law_model.nd rfl (.inl rfl))) (fun _ _ _ _ _ => pts_nil) (fun _ _ _ _ _ => (pe_un un_neg pe_int))) rfl)
(pss_cons (ps_dput (hu_of hr) (pv 2) pe_str (pe_lst pa_nil) rfl)
(pss_cons (ps_dput (hu_of hr) (pv 2) pe_str (pe_lst pa_nil) rfl)
(pss_cons (ps_dput (hu_of hr) (pv 2) pe_str (pe_lst (pa_cons pe_int (pa_cons (pe_lst pa_nil) pa_nil))) rfl)
(pss_cons (ps_for PassesOwn.never rfl (pi_range1 rfl T.m_range (pa_cons (pe_callB R.cLenS (by rfl) T.m_len (by decide +kernel) (pa_cons (pv 0) pa_nil)) pa_nil)) (pg_name (i := 5) sc_law_model.nd rfl (.inl rfl))
 (pss_one (ps_expr (pe_call (ok_law_begin T) (hr.mono (by decide)) (by rfl) T.p_law_begin.g T.p_law_begin.F.kp T.p_law_begin.b .nil pass0 (pa_cons (pv 2) (pa_cons (pv 5) (pa_cons pe_int (pa_cons pe_int pa_nil))))))))
(pss_one (ps_ret (pv 2)))))))))), ?_⟩
    walk_at "mgo"
    intro pm hpm
    walk_at "mgo"
    refine MM.r_lcT ?_
    walk_at "mgo"
    have s1 := R.same_new (o := .dK []) hpm
    generalize hu : upd H pm (.dK []) = H1 at s1 ⊢
    refine ⟨pg, rfl, ⟨_, R.sqT (s1 _ _ hpg)⟩, ?_⟩
    refine MM.lc_go (walk_tup (xs := ps.map V.ref)) (fun D i H' => LM.Ms H pm progs D i H') ?_ ?_ ?_ ?_
    · intro D hD
      exact LM.Ms.start hpm hu.symm hD
    · rintro D i H' hD ⟨ad, N, _⟩
      exact R.sqT (N.s _ _ hpg)
    · rintro D i y H2 H2' hD hi ml ⟨rfl, ey⟩
      have hi : i < ps.length := by rwa [List.length_map] at hi
      have hi2 : i < progs.length := by omega
      obtain ⟨a, ea, et⟩ := alp.get (List.getElem?_eq_getElem hi2)
      rw [List.getElem?_map, ea] at ey
      obtain rfl := Option.some.inj ey
      have s2 : Same H H2' := by obtain ⟨_, N, _⟩ := ml; exact N.s
      have hl := (hpb _ (List.getElem_mem hi2)).1
      refine ⟨rfl, R.r_yes (iteT ?_)⟩
      walk_at "mgo"
      refine ⟨_, _, rfl, .inr (R.sqT (s2 _ _ et)), fun l1 hl1 => ?_⟩
      generalize h1 : upd _ l1 _ = H3
      obtain ⟨s3, x3⟩ := MM.new2 h1 hl1
      clear h1
      walk_at "mgo"
      refine ⟨Nat.le_of_ble_eq_true rfl, fun l3 hl3 => ?_⟩
      generalize h3 : upd _ l3 _ = H4
      obtain ⟨s4, x4⟩ := MM.new2 h3 hl3
      clear h3
      walk_at "mgo"
      refine R.r_lenT (R.sqT (s4 _ _ (s3 _ _ (s2 _ _ et)))) ?_
      rw [List.length_map]
      walk_at "mgo"
      refine ⟨_, _, _, rfl, rfl, x4, by omega, by omega, R.size_of (by show 1 * _ ≤ _; omega), fun l4 hl4 => ?_⟩
      generalize h4 : upd _ l4 _ = H5
      obtain ⟨s5, x5⟩ := MM.new2 h4 hl4
      clear h4
      refine ⟨_, _, _, _, rfl, rfl, s5 _ _ (s4 _ _ x3), x5, R.size_of (by rw [MM.flat_rep, List.length_map, List.length_replicate]; omega), fun l5 hl5 => ?_⟩
      have s25 := s3.trans (s4.trans s5)
      have e5 : upd H5 l5 (.lst (List.map V.int progs[i] ++ (List.replicate ((256 : Int) - (progs[i].length : Int)).toNat [V.int 0]).flatten)) l5 = some (.lst ((MM.fill progs[i]).map V.int)) := by
        rw [upd_same, MM.flat_rep]
        show some (HO.lst (progs[i].map V.int ++ List.replicate ((256 : Int) - (progs[i].length : Int)).toNat (V.int 0))) = some (HO.lst ((progs[i] ++ List.replicate (256 - progs[i].length) 0).map V.int))
        rw [List.map_append, List.map_replicate, show ((256 : Int) - (progs[i].length : Int)).toNat = 256 - progs[i].length by omega]
      obtain ⟨acc, eac, lac, ml'⟩ := ml.step (List.getElem?_eq_getElem hi2) (s25.trans (R.same_new hl5)) (s25.free hl5) e5
      exact ⟨acc, eac, R.size_lt (by omega), ml'⟩
    · rintro D H2 hD ⟨ad, N, e1, e2⟩
      rw [show (List.map V.ref ps).length = progs.length by rw [List.length_map, hlp]] at N
      subst e2
      walk_at "mgo"
      refine ⟨Nat.zero_le _, fun pe hpe => ?_⟩
      generalize hv : upd _ pe _ = H3
      obtain ⟨s3, x3⟩ := MM.new2 hv hpe
      clear hv
      walk_at "mgo"
      obtain ⟨em, em1, nx⟩ := N.dput (t := .evL) e1 rfl (by nofun) s3 hpe x3
      refine ⟨em, [(.inr "mem", .ref (ad .memL)), (.inr "rates", .ref rt), (.inr "events", .ref pe)], rfl, Nat.le_of_ble_eq_true rfl, ?_⟩
      have N4 := nx (mergeK [] [(.inr "mem", .ref (ad .memL)), (.inr "rates", .ref rt), (.inr "events", .ref pe)])
      generalize upd H3 pm _ = H4 at N4 ⊢
      clear nx em
      walk_at "mgo"
      refine MM.r_lcT ?_
      walk_at "mgo"
      refine ⟨rt, rfl, ⟨_, R.sqT (N4.s _ _ hrt)⟩, ?_⟩
      refine MM.lc_go (walk_tup (xs := rates.map V.int)) (fun D i H' => H' D = some (.lst ((List.replicate i (0 : Int)).map V.int)) ∧ Same H4 H') ?_ ?_ ?_ ?_
      · intro D hD
        exact ⟨upd_same, R.same_new hD⟩
      · rintro D i H' hD ⟨_, s⟩
        exact R.sqT (s _ _ (N4.s _ _ hrt))
      · rintro D i y H5 H5' hD hi ⟨eD, s⟩ ⟨rfl, _⟩
        refine ⟨rfl, R.r_yes (iteT ?_)⟩
        walk_at "mgo"
        refine ⟨_, eD, R.size_lt (by rw [List.length_map, List.length_replicate]; rw [List.length_map] at hi; omega), ?_, LM.same_acc hD s⟩
        rw [upd_same, List.replicate_succ', List.map_append]
        rfl
      rintro D5 H5 hD5 ⟨eD5, s5⟩
      rw [List.length_map] at eD5
      walk_at "mgo"
      obtain ⟨em, em2, nx⟩ := N4.dput (t := .timL) em1 LM.ctE_m (by nofun) s5 hD5 eD5
      refine R.r_dputS em (Nat.le_of_ble_eq_true rfl) rfl ?_
      have N6 := nx (putK (mergeK [] [(.inr "mem", .ref (ad .memL)), (.inr "rates", .ref rt), (.inr "events", .ref pe)]) (Sum.inr "time" : Key) (.ref D5))
      generalize upd H5 pm _ = H6 at N6 ⊢
      clear nx em
      walk_at "mgo"
      refine MM.r_lcT ?_
      walk_at "mgo"
      refine ⟨rt, rfl, ⟨_, R.sqT (N6.s _ _ hrt)⟩, ?_⟩
      refine MM.lc_go (walk_tup (xs := rates.map V.int)) (fun D i H' => H' D = some (.lst ((List.replicate i (-1 : Int)).map V.int)) ∧ Same H6 H') ?_ ?_ ?_ ?_
      · intro D hD
        exact ⟨upd_same, R.same_new hD⟩
      · rintro D i H' hD ⟨_, s⟩
        exact R.sqT (s _ _ (N6.s _ _ hrt))
      · rintro D i y H7 H7' hD hi ⟨eD, s⟩ ⟨rfl, _⟩
        refine ⟨rfl, R.r_yes (iteT ?_)⟩
        walk_at "mgo"
        refine ⟨_, eD, R.size_lt (by rw [List.length_map, List.length_replicate]; rw [List.length_map] at hi; omega), ?_, LM.same_acc hD s⟩
        rw [upd_same, List.replicate_succ', List.map_append]
        rfl
      rintro D7 H7 hD7 ⟨eD7, s7⟩
      rw [List.length_map] at eD7
      walk_at "mgo"
      obtain ⟨em, em3, nx⟩ := N6.dput (t := .runL) em2 LM.ctE_m (by nofun) s7 hD7 eD7
      refine R.r_dputS em (Nat.le_of_ble_eq_true rfl) rfl ?_
      have N8 := nx (putK (putK (mergeK [] [(.inr "mem", .ref (ad .memL)), (.inr "rates", .ref rt), (.inr "events", .ref pe)]) (Sum.inr "time" : Key) (.ref D5)) (Sum.inr "runs" : Key) (.ref D7))
      generalize upd H7 pm _ = H8 at N8 ⊢
      clear nx em
      walk_at "mgo"
      refine ⟨Nat.zero_le _, fun p9 hp9 => ?_⟩
      generalize hv : upd _ p9 _ = H9
      obtain ⟨s9, x9⟩ := MM.new2 hv hp9
      clear hv
      walk_at "mgo"
      obtain ⟨em, em4, nx⟩ := N8.dput (t := .thsL) em3 LM.ctE_m (by nofun) s9 hp9 x9
      refine R.r_dputS em (Nat.le_of_ble_eq_true rfl) rfl ?_
      have NA := nx (putK (putK (putK (mergeK [] [(.inr "mem", .ref (ad .memL)), (.inr "rates", .ref rt), (.inr "events", .ref pe)]) (Sum.inr "time" : Key) (.ref D5)) (Sum.inr "runs" : Key) (.ref D7)) (Sum.inr "threads" : Key) (.ref p9))
      generalize upd H9 pm _ = HA at NA ⊢
      clear nx em
      walk_at "mgo"
      refine ⟨Nat.zero_le _, fun pB hpB => ?_⟩
      generalize hv : upd _ pB _ = HB
      obtain ⟨sB, xB⟩ := MM.new2 hv hpB
      clear hv
      walk_at "mgo"
      obtain ⟨em, em5, nx⟩ := NA.dput (t := .rdyL) em4 LM.ctE_m (by nofun) sB hpB xB
      refine R.r_dputS em (Nat.le_of_ble_eq_true rfl) rfl ?_
      have NC := nx (putK (putK (putK (putK (mergeK [] [(.inr "mem", .ref (ad .memL)), (.inr "rates", .ref rt), (.inr "events", .ref pe)]) (Sum.inr "time" : Key) (.ref D5)) (Sum.inr "runs" : Key) (.ref D7)) (Sum.inr "threads" : Key) (.ref p9)) (Sum.inr "ready" : Key) (.ref pB))
      generalize upd HB pm _ = HC at NC ⊢
      clear nx em
      walk_at "mgo"
      refine ⟨Nat.zero_le _, fun pD hpD => ?_⟩
      generalize hv : upd _ pD _ = HD
      obtain ⟨sD, xD⟩ := MM.new2 hv hpD
      clear hv
      have ND := NC.add .reqL sD hpD xD
      walk_at "mgo"
      refine ⟨Nat.le_of_ble_eq_true rfl, fun pE hpE => ?_⟩
      generalize hv : upd _ pE _ = HE
      obtain ⟨sE, xE⟩ := MM.new2 hv hpE
      clear hv
      walk_at "mgo"
      obtain ⟨em, em6, nx⟩ := ND.dput (t := .devL) (pm := pm) em5 rfl (by nofun) sE hpE xE
      refine R.r_dputS em (Nat.le_of_ble_eq_true rfl) rfl ?_
      have NF := nx (putK (putK (putK (putK (putK (mergeK [] [(.inr "mem", .ref (ad .memL)), (.inr "rates", .ref rt), (.inr "events", .ref pe)]) (Sum.inr "time" : Key) (.ref D5)) (Sum.inr "runs" : Key) (.ref D7)) (Sum.inr "threads" : Key) (.ref p9)) (Sum.inr "ready" : Key) (.ref pB)) (Sum.inr "device" : Key) (.ref pE))
      generalize upd HE pm _ = HF at NF ⊢
      clear nx em
      obtain ⟨adF, B0, f0, e0⟩ : ∃ a, LM.Lm a (LM.S0i progs rates 0) HF ∧ (∀ u, LM.dom 0 progs.length u → H (a u) = none) ∧ a .m = pm := by
        obtain ⟨x, y⟩ := LM.lm_start (rates := rates) (progs := progs) (rt := rt) NF (NF.s _ _ hrt) (fun u => by
          cases u with
          | memL =>
            show some (HO.lst ((List.range (List.map _ progs).length).map _)) = some (HO.lst ((List.range progs.length).map _))
            rw [List.length_map]
            rfl
          | me j => exact LM.S0_me
          | _ => rfl)
        exact ⟨_, x, y, em6⟩
      have sF := NF.s
      clear NF em6 xE hpE xD hpD ND NC em5 xB hpB NA em4 x9 hp9 N8 em3 eD7 hD7 N6 em2 eD5 hD5 N4 em1 x3 hpe N
      have hpb' : ∀ p ∈ progs, p.length ≤ 256 ∧ ∀ b ∈ p, 0 ≤ b := fun p hp => ⟨(hpb p hp).1, fun b hb => ((hpb p hp).2 b hb).1⟩
      walk_at "mgo"
      refine R.r_lenT (R.sqT (sF _ _ hpg)) ?_
      rw [List.length_map, hlp]
      walk_at "mgo"
      refine R.r_rngL (fun i σ H' => ∃ y3 y4 y5 a, σ = [some (.ref pg), some (.ref rt), some (.ref pm), y3, y4, y5] ∧ LM.Lm a (LM.S0i progs rates i) H' ∧ Same H H' ∧ (∀ u, LM.dom i progs.length u → H (a u) = none) ∧ a .m = pm) (by omega) ?_ ?_ ?_
      · exact ⟨_, _, _, adF, rfl, B0, sF, f0, e0⟩
      · rintro i σ H1 hi ⟨y3, y4, y5, a, rfl, B, s, fr, ea⟩
        have hi : i < progs.length := by omega
        have hnt : (LM.S0i progs rates i).ths.length = i := by show ((List.range i).map MM.th0).length = i; rw [List.length_map, List.length_range]
        have hnm : (LM.S0i progs rates i).mem.length = progs.length := List.length_map _
        walk_at "mgo"
        refine ⟨a, LM.S0i progs rates i, 8, i, 0, 0, by rw [ea]; rfl, ⟨B, LM.S0i_wf hp4 hr4 hr0 hpb' (by omega), by decide, LM.S0_plain⟩, by decide, fun a' H2 B2 m2 => ?_⟩
        rw [LM.S0i_add] at B2
        rw [hnt, hnm] at m2
        walk_at "mgo"
        refine ⟨_, _, _, a', rfl, B2, fun b o e => m2.fr _ _ (s _ _ e) ?_, fun u d => ?_, (m2.ag .m rfl trivial).trans ea⟩
        · rintro ⟨t, d, et⟩
          have z := fr t d
          rw [et, e] at z
          cases z
        · rcases m2.nw _ ⟨u, d, rfl⟩ with ⟨t, dt, et⟩ | z
          · rw [← et]; exact fr t dt
          · exact s.free z
      · rintro σ H1 ⟨y3, y4, y5, a, rfl, B, s, fr, ea⟩
        rw [Int.toNat_natCast] at B fr
        walk_at "mgo"
        rw [← ea]
        exact q a H1 B s fr
end
end K60
end
section
local macro_rules | `(tactic| walk_at "s1") => `(tactic| first
  | ((with_reducible apply R.r_var); · rfl)
  | with_reducible apply R.r_c
  | with_reducible apply R.r_op
  | with_reducible apply R.r_I0
  | with_reducible apply R.r_cb
  | with_reducible apply R.r_cons
  | with_reducible apply R.r_nil
  | with_reducible apply R.r_seq
  | with_reducible apply R.r_asg
  | with_reducible apply R.r_ret
  | with_reducible apply R.r_ifS
  | with_reducible apply R.r_test
  | with_reducible apply R.r_t
  | with_reducible apply R.r_f
  | with_reducible apply R.r_nt
  | with_reducible apply R.r_nf
  | with_reducible apply R.r_bl
  | with_reducible apply R.r_U
  | with_reducible apply R.r_un
  | with_reducible apply R.r_eqI
  | with_reducible apply R.r_eqS
  | with_reducible apply R.r_neI
  | with_reducible apply R.r_neS
  | with_reducible apply R.r_and
  | with_reducible apply R.r_or
  | with_reducible apply R.r_not
  | with_reducible apply R.r_andV
  | with_reducible apply R.r_orV
  | with_reducible apply R.r_notV
  | with_reducible apply R.r_blV
  | with_reducible apply R.r_B
  | with_reducible apply R.r_ifE
  | with_reducible apply R.r_tup
  | with_reducible apply R.r_lst
  | with_reducible apply R.r_call
  | with_reducible apply R.r_drop
  | with_reducible apply R.r_next
  | with_reducible apply R.r_abs
  | with_reducible apply R.r_int1
  | with_reducible apply R.r_int1b
  | with_reducible apply R.r_min2
  | with_reducible apply R.r_bm
  | with_reducible apply R.r_bm0
  | with_reducible apply R.r_dget
  | with_reducible apply R.r_dput
  | with_reducible apply R.r_disp
  | with_reducible apply R.r_pnil
  | with_reducible apply R.r_pcons
  | with_reducible apply R.r_fld
  | with_reducible apply R.r_slice
  | with_reducible apply R.r_nopart
  | with_reducible apply R.r_part
  | with_reducible apply R.r_int
  | with_reducible apply R.r_yes
  | with_reducible apply R.r_retN
  | with_reducible apply R.r_asgG
  | with_reducible apply R.r_gname
  | with_reducible apply R.r_rng1
  | with_reducible apply R.r_brk
  | with_reducible apply R.r_cnt
  | with_reducible apply R.r_m1
  | with_reducible apply R.r_lcr
  | with_reducible apply R.r_p2_63
  | with_reducible apply R.r_p2_64
  | with_reducible apply R.r_p2_32
  | with_reducible apply R.r_p2_31
  | with_reducible apply R.r_p10_18
  | with_reducible apply R.r_p10_30
  | with_reducible refine R.r_mod (by omega) ?_
  | with_reducible refine R.r_div (by omega) ?_
  | with_reducible refine R.r_mulR (by omega) ?_
  | with_reducible refine R.r_mulL (by omega) ?_
  | with_reducible refine R.r_iteY (by decide +kernel) ?_
  | with_reducible refine R.r_iteF (by decide +kernel) ?_
  | with_reducible refine R.r_isi R.isi_int ?_
  | with_reducible refine R.r_isi R.isi_intB ?_)
local macro_rules | `(tactic| walk_at "go") => `(tactic| repeat (walk_at "s1"))

set_option hygiene false
local macro_rules | `(tactic| walk_at "m1") => `(tactic| first
  | walk_at "s1"
  | with_reducible apply MM.r_meth
  | with_reducible apply MM.r_make
  | with_reducible apply MM.r_din
  | with_reducible apply MM.r_dnotin
  | with_reducible apply MM.r_dget2
  | with_reducible apply MM.r_dpop1
  | with_reducible apply MM.r_sfld
  | with_reducible apply MM.r_gsub
  | with_reducible apply MM.r_augS
  | with_reducible apply MM.r_ip
  | ((with_reducible refine MM.q_threads ?_ ‹MM.Bd _ _ _ _› ?_); exact hC)
  | ((with_reducible refine MM.q_memories ?_ ‹MM.Bd _ _ _ _› ?_); exact hC)
  | ((with_reducible refine MM.q_ready ?_ ‹MM.Bd _ _ _ _› ?_); exact hC)
  | ((with_reducible refine MM.q_times ?_ ‹MM.Bd _ _ _ _› ?_); exact hC)
  | ((with_reducible refine MM.q_running ?_ ‹MM.Bd _ _ _ _› ?_); exact hC)
  | ((with_reducible refine MM.q_dev ?_ ‹MM.Bd _ _ _ _› ?_); exact hC)
  | ((with_reducible refine MM.q_requests ?_ ‹MM.Bd _ _ _ _› ?_); exact hC)
  | ((with_reducible refine MM.q_cpu ?_ ‹MM.Bd _ _ _ _› ?_); exact hC)
  | ((with_reducible refine MM.q_views ?_ ‹MM.Bd _ _ _ _› ?_); exact hC)
  | ((with_reducible refine MM.q_pid ?_ ‹MM.Bd _ _ _ _› (by first | assumption | omega) ?_); exact hC)
  | ((with_reducible refine MM.q_pc ?_ ‹MM.Bd _ _ _ _› (by first | assumption | omega) ?_); exact hC)
  | ((with_reducible refine MM.q_regs ?_ ‹MM.Bd _ _ _ _› (by first | assumption | omega) ?_); exact hC)
  | ((with_reducible refine MM.q_call ?_ ‹MM.Bd _ _ _ _› (by first | assumption | omega) ?_); exact hC)
  | ((with_reducible refine MM.q_callAt ?_ ‹MM.Bd _ _ _ _› (by first | assumption | omega) ?_); exact hC)
  | with_reducible refine MM.q_ixThs ‹MM.Bd _ _ _ _› (by first | assumption | omega) ?_
  | with_reducible refine MM.q_ixMem ‹MM.Bd _ _ _ _› (by first | assumption | omega) ?_
  | with_reducible refine MM.q_ixTim ‹MM.Bd _ _ _ _› (by first | assumption | omega) ?_
  | with_reducible refine MM.q_ixRun ‹MM.Bd _ _ _ _› (by first | assumption | omega) ?_
  | with_reducible refine MM.q_ixRgs ‹MM.Bd _ _ _ _› ‹MM.WF _ _› (by first | assumption | omega) (by omega) (by omega) ?_
  | with_reducible refine MM.q_lenThs ‹MM.Bd _ _ _ _› ?_
  | ((with_reducible refine MM.q_mBrd ‹MM.Bd _ _ _ _› ?_ ?_); (intro _ _ _ _; rfl))
  | ((with_reducible refine MM.q_mMem ‹MM.Bd _ _ _ _› (by first | assumption | omega) ?_ ?_); (intro _ _ kd'; cases kd' <;> rfl))
  | with_reducible refine ⟨MM.ty_vws ‹MM.Bd _ _ _ _›, ?_⟩
  | with_reducible refine ⟨MM.ty_rdy ‹MM.Bd _ _ _ _›, ?_⟩
  | with_reducible refine ⟨MM.ty_ths ‹MM.Bd _ _ _ _›, ?_⟩
  | with_reducible refine ⟨MM.ty_req ‹MM.Bd _ _ _ _›, ?_⟩)
local macro_rules | `(tactic| walk_at "mgo") => `(tactic| repeat (walk_at "m1"))
set_option hygiene true

local macro_rules | `(tactic| walk_at "m1") => `(tactic| first | with_reducible apply MM.r_chain | with_reducible apply MM.r_daug | with_reducible apply MM.r_add)
namespace K60
open PySem PySem.Spec PyProof.Rows L2
section
variable {P : Program} {w : World} {K : PySem.W.Frag} {mg : Str → Option Value} {base : Heap}
def Grow (H : Hp) (p : Addr) (n : Nat) (H' : Hp) : Prop := Same H H' ∧ ∃ ds : List Int, H' p = some (.lst (ds.map V.int)) ∧ ds.length ≤ n
theorem Grow.app {H H' : Hp} {p : Addr} {n m : Nat} {ds : List Int} {v : Int} (hp : H p = none) (sm : Same H H') (e : H' p = some (.lst (ds.map V.int))) (hl : ds.length ≤ n) (hm : n + 1 ≤ m) : Grow H p m (upd H' p (.lst (ds.map V.int ++ [.int v]))) := by
  refine ⟨fun b o hb => ?_, ds ++ [v], ?_, ?_⟩
  · rw [upd_ne (ne_of_none hb hp)]
    exact sm b o hb
  · rw [upd_same, List.map_append]
    rfl
  · rw [List.length_append]
    show ds.length + 1 ≤ m
    omega
theorem ok_law_draws (T : Txt K mg) : FnOk P w K mg base CX0 1 T.p_law_draws.f T.p_law_draws.fd ["script", "many"] (MM.spDraws K) := by
  refine T.p_law_draws.F.ok sc_law_draws (fun vs H Q E h => ?_) (fun cdv A outer s H vs Q E hr h => ?_)
  · obtain ⟨a, ns, many, rfl, _⟩ := h
    rfl
  · obtain ⟨a, ns, many, rfl, hS, hlen, hm0, hm1, q⟩ := h
    refine ⟨_, (pss_cons (ps_set (i := 2) sc_law_draws.nd rfl (.inl rfl) (pe_lst pa_nil))
(pss_cons (ps_set (i := 3) sc_law_draws.nd rfl (.inl rfl) pe_int)
(pss_cons (ps_for PassesOwn.never rfl (pi_range1 rfl T.m_range (pa_cons (pe_callB R.cLenS (by rfl) T.m_len (by decide +kernel) (pa_cons (pv 0) pa_nil)) pa_nil)) (pg_name (i := 4) sc_law_draws.nd rfl (.inl rfl))
 (pss_cons (ps_set (i := 5) sc_law_draws.nd rfl (.inl rfl) (pe_callB R.cAbs (by rfl) T.m_abs (by decide +kernel) (pa_cons (pe_callTy R.cInt1 (by rfl) T.m_int (by decide +kernel) (pa_cons (pe_ix ix_list (pv 0) (pv 4) (fun _ _ => rfl)) pa_nil)) pa_nil)))
(pss_cons (ps_set (i := 3) sc_law_draws.nd rfl (.inl rfl) (pe_op op_mod (pe_callTy R.cInt1 (by rfl) T.m_int (by decide +kernel) (pa_cons (pe_op op_add (pe_op op_add (pe_op op_mul (pv 3) pe_int) (pe_op op_mod (pv 5) pe_int)) (pv 4)) pa_nil)) pe_int))
(pss_cons (ps_set (i := 6) sc_law_draws.nd rfl (.inl rfl) pe_int)
(C8.pss_cut (ps_if (pt_cmpR op_ge (pv 5) (pe_op op_pow pe_int pe_int) (nomark _))
 (pss_one (ps_set (i := 6) sc_law_draws.nd rfl (.inl rfl) (pv 5)))
 (pss_cons (ps_expr (pe_bm PySem.F.plainAttrs_list PySem.F.slot_list_append PySem.F.type_list_append mt_append (pv 2) (pa_cons (pe_op op_mod (pe_callTy R.cInt1 (by rfl) T.m_int (by decide +kernel) (pa_cons (pv 5) pa_nil)) pe_int) pa_nil)))
(pss_one (ps_expr (pe_bm PySem.F.plainAttrs_list PySem.F.slot_list_append PySem.F.type_list_append mt_append (pv 2) (pa_cons (pe_op op_mod (pe_op op_mod (pe_callTy R.cInt1 (by rfl) T.m_int (by decide +kernel) (pa_cons (pe_op op_add (pe_op op_mul (pv 3) pe_int) pe_int) pa_nil)) pe_int) pe_int) pa_nil))))))
(pss_one (ps_for PassesOwn.never rfl (pi_range1 rfl T.m_range (pa_cons pe_int pa_nil)) (pg_name (i := 7) sc_law_draws.nd rfl (.inl rfl))
 (pss_one (ps_if (pt_cmpR op_gt (pv 6) pe_int (nomark _))
 (pss_cons (ps_expr (pe_bm PySem.F.plainAttrs_list PySem.F.slot_list_append PySem.F.type_list_append mt_append (pv 2) (pa_cons (pe_op op_mod (pe_callTy R.cInt1 (by rfl) T.m_int (by decide +kernel) (pa_cons (pv 6) pa_nil)) pe_int) pa_nil)))
(pss_one (ps_set (i := 6) sc_law_draws.nd rfl (.inl rfl) (pe_op op_fdiv (pv 6) pe_int))))
 pss_nil)))))))))
(pss_cons (ps_for PassesOwn.never rfl (pi_range1 rfl T.m_range (pa_cons (pv 1) pa_nil)) (pg_name (i := 4) sc_law_draws.nd rfl (.inl rfl))
 (pss_cons (ps_set (i := 3) sc_law_draws.nd rfl (.inl rfl) (pe_op op_mod (pe_callTy R.cInt1 (by rfl) T.m_int (by decide +kernel) (pa_cons (pe_op op_add (pe_op op_add (pe_op op_mul (pv 3) pe_int) (pv 4)) pe_int) pa_nil)) pe_int))
(pss_one (ps_expr (pe_bm PySem.F.plainAttrs_list PySem.F.slot_list_append PySem.F.type_list_append mt_append (pv 2) (pa_cons (pe_op op_mod (pe_callTy R.cInt1 (by rfl) T.m_int (by decide +kernel) (pa_cons (pv 3) pa_nil)) pe_int) pa_nil))))))
(pss_one (ps_ret (pe_slice sl_list (pv 2) po_none (po_some (pv 1))))))))), ?_⟩
    walk_at "mgo"
    refine ⟨Nat.zero_le _, fun p hp => ?_⟩
    have sm : Same H (upd H p (.lst [])) := R.same_new hp
    walk_at "mgo"
    refine R.r_lenL (sm.seq hS) ?_
    walk_at "mgo"
    rw [List.length_map]
    refine R.r_rngL (fun k σ H' => ∃ y3 y4 y5 y6 y7, σ = [some (.ref a), some (.int many), some (.ref p), y3, y4, y5, y6, y7] ∧ (∃ z, y3 = some (.int z)) ∧ Grow H p (62 * k) H') (by omega) ?_ ?_ ?_
    · exact ⟨_, _, _, _, _, rfl, ⟨_, rfl⟩, sm, [], upd_same, Nat.le_refl _⟩
    · rintro k σ H1 hk ⟨y3, y4, y5, y6, y7, rfl, ⟨z, rfl⟩, s1, ds, e1, l1⟩
      have hk1 : k < ns.length := by omega
      have g : (ns.map V.int)[k]? = some (.int ns[k]) := by
        rw [List.getElem?_map, List.getElem?_eq_getElem hk1]
        rfl
      walk_at "mgo"
      refine R.r_ixL (s1.seq hS) (atI_nat g) ?_
      walk_at "mgo"
      refine R.r_cut (fun σ H' => ∃ c m r y7, σ = [some (.ref a), some (.int many), some (.ref p), some (.int m), some (.int (k : Int)), some (.int c), some (.int r), y7] ∧ Grow H p (62 * k + 2) H') ?_ ?_
      · walk_at "mgo"
        refine R.r_ite (fun e => ?_) (fun e => ?_)
        · walk_at "mgo"
          exact ⟨_, _, _, _, rfl, s1, ds, e1, by omega⟩
        · walk_at "mgo"
          refine ⟨.inl ⟨rfl, _, R.sqL e1⟩, ?_⟩
          walk_at "mgo"
          refine ⟨_, _, _, rfl, rfl, e1, R.size_lt (by rw [List.length_map]; omega), ?_⟩
          obtain ⟨s2, ds2, e2, l2⟩ := Grow.app (m := 62 * k + 1) (v := (if ns[k] < 0 then -ns[k] else ns[k]) % 997) hp s1 e1 l1 (by omega)
          walk_at "mgo"
          refine ⟨.inl ⟨rfl, _, R.sqL e2⟩, ?_⟩
          walk_at "mgo"
          refine ⟨_, _, _, rfl, rfl, e2, R.size_lt (by rw [List.length_map]; omega), ?_⟩
          walk_at "mgo"
          exact ⟨_, _, _, _, rfl, Grow.app hp s2 e2 l2 (by omega)⟩
      · rintro σ H2 ⟨c, m, r, y7, rfl, s2, ds2, e2, l2⟩
        walk_at "mgo"
        refine R.r_rngL (fun t σ H' => ∃ r y7, σ = [some (.ref a), some (.int many), some (.ref p), some (.int m), some (.int (k : Int)), some (.int c), some (.int r), y7] ∧ Grow H p (62 * k + 2 + t) H') (by decide) ?_ ?_ ?_
        · exact ⟨_, _, rfl, s2, ds2, e2, by omega⟩
        · rintro t σ H3 ht ⟨r, y7, rfl, s3, ds3, e3, l3⟩
          walk_at "mgo"
          refine R.r_ite (fun e' => ?_) (fun e' => ?_)
          · walk_at "mgo"
            refine ⟨.inl ⟨rfl, _, R.sqL e3⟩, ?_⟩
            walk_at "mgo"
            refine ⟨_, _, _, rfl, rfl, e3, R.size_lt (by rw [List.length_map]; omega), ?_⟩
            walk_at "mgo"
            exact ⟨_, _, rfl, Grow.app hp s3 e3 l3 (by omega)⟩
          · walk_at "mgo"
            exact ⟨_, _, rfl, s3, ds3, e3, by omega⟩
        · rintro σ H3 ⟨r, y7, rfl, s3, ds3, e3, l3⟩
          exact ⟨_, _, _, _, _, rfl, ⟨_, rfl⟩, s3, ds3, e3, by omega⟩
    · rintro σ H1 ⟨y3, y4, y5, y6, y7, rfl, ⟨z, rfl⟩, s1, ds, e1, l1⟩
      walk_at "mgo"
      refine R.r_rngL (fun k σ H' => ∃ z y4, σ = [some (.ref a), some (.int many), some (.ref p), some (.int z), y4, y5, y6, y7] ∧ Grow H p (62 * 63 + k) H') (by omega) ?_ ?_ ?_
      · exact ⟨_, _, rfl, s1, ds, e1, by omega⟩
      · rintro t σ H3 ht ⟨r, y4, rfl, s3, ds3, e3, l3⟩
        walk_at "mgo"
        refine ⟨.inl ⟨rfl, _, R.sqL e3⟩, ?_⟩
        walk_at "mgo"
        refine ⟨_, _, _, rfl, rfl, e3, R.size_lt (by rw [List.length_map]; omega), ?_⟩
        walk_at "mgo"
        exact ⟨_, _, rfl, Grow.app hp s3 e3 l3 (by omega)⟩
      · rintro σ H3 ⟨r, y4, rfl, s3, ds3, e3, l3⟩
        walk_at "mgo"
        refine ⟨_, _, rfl, R.sqL e3, fun p2 hp2 => ?_⟩
        obtain ⟨ds', ec, lc⟩ := MM.cut_pre (ds := ds3) hm0 hm1
        rw [ec]
        exact q p2 ds' _ (s3.trans (R.same_new hp2)) (s3.free hp2) upd_same lc
theorem ok_law_next (T : Txt K mg) : FnOk P w K mg base CX0 1 T.p_law_next.f T.p_law_next.fd ["w", "many"] MM.spNext := by
  refine T.p_law_next.F.ok sc_law_next (fun vs H Q E h => ?_) (fun cdv A outer s H vs Q E hr h => ?_)
  · obtain ⟨a, dl, many, rfl, _⟩ := h
    rfl
  · obtain ⟨pw, dl, many, rfl, hm, ⟨at', ds, ew, ed, h0, hl⟩, q⟩ := h
    refine ⟨_, (pss_cons (ps_daug (hu_of hr) (pv 0) pe_str pe_int in_add (fun _ _ _ => rfl))
(pss_cons (ps_if (pt_cmpR op_gt (pe_dget (hu_of hr) (pv 0) pe_str (fun _ _ => rfl)) (pe_callB R.cLenS (by rfl) T.m_len (by decide +kernel) (pa_cons (pe_dget (hu_of hr) (pv 0) pe_str (fun _ _ => rfl)) pa_nil)) (nomark _))
 (pss_one (ps_ret pe_int))
 pss_nil)
(pss_one (ps_ret (pe_op op_mod (pe_callTy R.cInt1 (by rfl) T.m_int (by decide +kernel) (pa_cons (pe_ix ix_list (pe_dget (hu_of hr) (pv 0) pe_str (fun _ _ => rfl)) (pe_op op_sub (pe_dget (hu_of hr) (pv 0) pe_str (fun _ _ => rfl)) pe_int) (fun _ _ => rfl)) pa_nil)) (pv 1)))))), ?_⟩
    walk_at "mgo"
    refine ⟨pw, .int at', rfl, DGet.k (k := (Sum.inr "at" : Key)) ew, ?_⟩
    walk_at "mgo"
    refine ⟨_, DPut.k (k := (Sum.inr "at" : Key)) ew (by show 2 < sizeLine; decide), ?_⟩
    have ne : pw ≠ dl := fun z => by rw [z, ed] at ew; cases ew
    have e1 : upd H pw (.dK (putK (MM.wdD dl at') (Sum.inr "at" : Key) (.int (at' + 1)))) = upd H pw (.dK (MM.wdD dl (at' + 1))) := by
      refine congrArg (fun z => upd H pw (.dK z)) ?_
      rfl
    rw [e1]
    have ew1 : upd H pw (.dK (MM.wdD dl (at' + 1))) pw = some (.dK (MM.wdD dl (at' + 1))) := upd_same
    have ed1 : upd H pw (.dK (MM.wdD dl (at' + 1))) dl = some (.lst (ds.map V.int)) := by rw [upd_ne ne.symm]; exact ed
    have gw : MM.Gw pw dl H (upd H pw (.dK (MM.wdD dl (at' + 1)))) := ⟨R.Mv.upd, at' + 1, ds, ew1, ed1, by omega, hl⟩
    generalize upd H pw (.dK (MM.wdD dl (at' + 1))) = H1 at *
    walk_at "mgo"
    refine R.r_dgetS (v := .int (at' + 1)) ew1 rfl ?_
    walk_at "mgo"
    refine R.r_dgetS (v := .ref dl) ew1 rfl ?_
    walk_at "mgo"
    refine R.r_lenL (R.sqL ed1) ?_
    walk_at "mgo"
    rw [List.length_map]
    refine R.r_ite (fun e => ?_) (fun e => ?_)
    · walk_at "mgo"
      exact q _ 0 (by omega) hm gw
    · walk_at "mgo"
      refine R.r_dgetS (v := .ref dl) ew1 rfl ?_
      walk_at "mgo"
      refine R.r_dgetS (v := .int (at' + 1)) ew1 rfl ?_
      walk_at "mgo"
      refine R.r_ixL (R.sqL ed1) (R.at_nat (by omega) (MM.getD_get (by omega))) ?_
      walk_at "mgo"
      exact q _ _ (Int.emod_nonneg _ (by omega)) (Int.emod_lt_of_pos _ hm) gw
end
end K60
end
section
local macro_rules | `(tactic| walk_at "s1") => `(tactic| first
  | ((with_reducible apply R.r_var); · rfl)
  | with_reducible apply R.r_c
  | with_reducible apply R.r_op
  | with_reducible apply R.r_I0
  | with_reducible apply R.r_cb
  | with_reducible apply R.r_cons
  | with_reducible apply R.r_nil
  | with_reducible apply R.r_seq
  | with_reducible apply R.r_asg
  | with_reducible apply R.r_ret
  | with_reducible apply R.r_ifS
  | with_reducible apply R.r_test
  | with_reducible apply R.r_t
  | with_reducible apply R.r_f
  | with_reducible apply R.r_nt
  | with_reducible apply R.r_nf
  | with_reducible apply R.r_bl
  | with_reducible apply R.r_U
  | with_reducible apply R.r_un
  | with_reducible apply R.r_eqI
  | with_reducible apply R.r_eqS
  | with_reducible apply R.r_neI
  | with_reducible apply R.r_neS
  | with_reducible apply R.r_and
  | with_reducible apply R.r_or
  | with_reducible apply R.r_not
  | with_reducible apply R.r_andV
  | with_reducible apply R.r_orV
  | with_reducible apply R.r_notV
  | with_reducible apply R.r_blV
  | with_reducible apply R.r_B
  | with_reducible apply R.r_ifE
  | with_reducible apply R.r_tup
  | with_reducible apply R.r_lst
  | with_reducible apply R.r_call
  | with_reducible apply R.r_drop
  | with_reducible apply R.r_next
  | with_reducible apply R.r_abs
  | with_reducible apply R.r_int1
  | with_reducible apply R.r_int1b
  | with_reducible apply R.r_min2
  | with_reducible apply R.r_bm
  | with_reducible apply R.r_bm0
  | with_reducible apply R.r_dget
  | with_reducible apply R.r_dput
  | with_reducible apply R.r_disp
  | with_reducible apply R.r_pnil
  | with_reducible apply R.r_pcons
  | with_reducible apply R.r_fld
  | with_reducible apply R.r_slice
  | with_reducible apply R.r_nopart
  | with_reducible apply R.r_part
  | with_reducible apply R.r_int
  | with_reducible apply R.r_yes
  | with_reducible apply R.r_retN
  | with_reducible apply R.r_asgG
  | with_reducible apply R.r_gname
  | with_reducible apply R.r_rng1
  | with_reducible apply R.r_brk
  | with_reducible apply R.r_cnt
  | with_reducible apply R.r_m1
  | with_reducible apply R.r_lcr
  | with_reducible apply R.r_p2_63
  | with_reducible apply R.r_p2_64
  | with_reducible apply R.r_p2_32
  | with_reducible apply R.r_p2_31
  | with_reducible apply R.r_p10_18
  | with_reducible apply R.r_p10_30
  | with_reducible refine R.r_mod (by omega) ?_
  | with_reducible refine R.r_div (by omega) ?_
  | with_reducible refine R.r_mulR (by omega) ?_
  | with_reducible refine R.r_mulL (by omega) ?_
  | with_reducible refine R.r_iteY (by decide +kernel) ?_
  | with_reducible refine R.r_iteF (by decide +kernel) ?_
  | with_reducible refine R.r_isi R.isi_int ?_
  | with_reducible refine R.r_isi R.isi_intB ?_)
local macro_rules | `(tactic| walk_at "go") => `(tactic| repeat (walk_at "s1"))

set_option hygiene false
local macro_rules | `(tactic| walk_at "m1") => `(tactic| first
  | walk_at "s1"
  | with_reducible apply MM.r_meth
  | with_reducible apply MM.r_make
  | with_reducible apply MM.r_din
  | with_reducible apply MM.r_dnotin
  | with_reducible apply MM.r_dget2
  | with_reducible apply MM.r_dpop1
  | with_reducible apply MM.r_sfld
  | with_reducible apply MM.r_gsub
  | with_reducible apply MM.r_augS
  | with_reducible apply MM.r_ip
  | ((with_reducible refine MM.q_threads ?_ ‹MM.Bd _ _ _ _› ?_); exact hC)
  | ((with_reducible refine MM.q_memories ?_ ‹MM.Bd _ _ _ _› ?_); exact hC)
  | ((with_reducible refine MM.q_ready ?_ ‹MM.Bd _ _ _ _› ?_); exact hC)
  | ((with_reducible refine MM.q_times ?_ ‹MM.Bd _ _ _ _› ?_); exact hC)
  | ((with_reducible refine MM.q_running ?_ ‹MM.Bd _ _ _ _› ?_); exact hC)
  | ((with_reducible refine MM.q_dev ?_ ‹MM.Bd _ _ _ _› ?_); exact hC)
  | ((with_reducible refine MM.q_requests ?_ ‹MM.Bd _ _ _ _› ?_); exact hC)
  | ((with_reducible refine MM.q_cpu ?_ ‹MM.Bd _ _ _ _› ?_); exact hC)
  | ((with_reducible refine MM.q_views ?_ ‹MM.Bd _ _ _ _› ?_); exact hC)
  | ((with_reducible refine MM.q_pid ?_ ‹MM.Bd _ _ _ _› (by first | assumption | omega) ?_); exact hC)
  | ((with_reducible refine MM.q_pc ?_ ‹MM.Bd _ _ _ _› (by first | assumption | omega) ?_); exact hC)
  | ((with_reducible refine MM.q_regs ?_ ‹MM.Bd _ _ _ _› (by first | assumption | omega) ?_); exact hC)
  | ((with_reducible refine MM.q_call ?_ ‹MM.Bd _ _ _ _› (by first | assumption | omega) ?_); exact hC)
  | ((with_reducible refine MM.q_callAt ?_ ‹MM.Bd _ _ _ _› (by first | assumption | omega) ?_); exact hC)
  | with_reducible refine MM.q_ixThs ‹MM.Bd _ _ _ _› (by first | assumption | omega) ?_
  | with_reducible refine MM.q_ixMem ‹MM.Bd _ _ _ _› (by first | assumption | omega) ?_
  | with_reducible refine MM.q_ixTim ‹MM.Bd _ _ _ _› (by first | assumption | omega) ?_
  | with_reducible refine MM.q_ixRun ‹MM.Bd _ _ _ _› (by first | assumption | omega) ?_
  | with_reducible refine MM.q_ixRgs ‹MM.Bd _ _ _ _› ‹MM.WF _ _› (by first | assumption | omega) (by omega) (by omega) ?_
  | with_reducible refine MM.q_lenThs ‹MM.Bd _ _ _ _› ?_
  | ((with_reducible refine MM.q_mBrd ‹MM.Bd _ _ _ _› ?_ ?_); (intro _ _ _ _; rfl))
  | ((with_reducible refine MM.q_mMem ‹MM.Bd _ _ _ _› (by first | assumption | omega) ?_ ?_); (intro _ _ kd'; cases kd' <;> rfl))
  | with_reducible refine ⟨MM.ty_vws ‹MM.Bd _ _ _ _›, ?_⟩
  | with_reducible refine ⟨MM.ty_rdy ‹MM.Bd _ _ _ _›, ?_⟩
  | with_reducible refine ⟨MM.ty_ths ‹MM.Bd _ _ _ _›, ?_⟩
  | with_reducible refine ⟨MM.ty_req ‹MM.Bd _ _ _ _›, ?_⟩)
local macro_rules | `(tactic| walk_at "mgo") => `(tactic| repeat (walk_at "m1"))
set_option hygiene true

namespace K60
open PySem PySem.Spec PyProof.Rows L2
section
variable {P : Program} {w : World} {K : PySem.W.Frag} {mg : Str → Option Value} {base : Heap}
theorem ok_law_pick (T : Txt K mg) : FnOk P w K mg base CX0 2 T.p_law_pick.f T.p_law_pick.fd ["w", "cpus"] LM.spPick2 := by
  refine T.p_law_pick.F.ok sc_law_pick (fun vs H Q E h => ?_) (fun cdv A outer s H vs Q E hr h => ?_)
  · obtain ⟨a, dl, many, rfl, _⟩ := h
    rfl
  · obtain ⟨pw, dl, cpus, rfl, hm, hw, q⟩ := h
    refine ⟨_, (pss_one (ps_ret (pe_tup (pa_cons (pe_call (ok_law_next T) (hr.mono (by decide)) (by rfl) T.p_law_next.g T.p_law_next.F.kp T.p_law_next.b .nil pass0 (pa_cons (pv 0) (pa_cons (pv 1) pa_nil))) (pa_cons (pe_ix ix_list (pe_lst (pa_cons pe_str (pa_cons pe_str (pa_cons pe_str (pa_cons pe_str (pa_cons pe_str (pa_cons pe_str (pa_cons pe_str (pa_cons pe_str pa_nil))))))))) (pe_call (ok_law_next T) (hr.mono (by decide)) (by rfl) T.p_law_next.g T.p_law_next.F.kp T.p_law_next.b .nil pass0 (pa_cons (pv 0) (pa_cons pe_int pa_nil))) (fun _ _ => rfl)) pa_nil))))), ?_⟩
    walk_at "mgo"
    refine ⟨pw, dl, cpus, rfl, hm, hw, fun H1 c c0 c1 g1 => ?_⟩
    walk_at "mgo"
    refine ⟨Nat.le_of_ble_eq_true rfl, fun l hl => ?_⟩
    generalize h2 : upd _ l _ = H2
    obtain ⟨s2, x2⟩ := MM.new2 h2 hl
    have g2 := g1.sm s2
    walk_at "mgo"
    refine ⟨pw, dl, 8, rfl, by decide, g2.2, fun H3 i i0 i1 g3 => ?_⟩
    have x3 : H3 l = some (.lst (MM.Pks.map V.str)) := g3.1 _ _ x2 (g1.2.ne hl).1
    obtain ⟨what, hwm, ew⟩ := MM.pickV (f := V.str) (xs := MM.Pks) i0 i1
    refine R.r_ixL (R.sqL x3) ew ?_
    walk_at "mgo"
    refine ⟨Nat.le_of_ble_eq_true rfl, fun p hp => ?_⟩
    walk_at "mgo"
    exact q _ p c what ((g2.trans g3).sm (R.same_new hp)) upd_same c0 c1 hwm
theorem ok_law_program (T : Txt K mg) : FnOk P w K mg base CX0 2 T.p_law_program.f T.p_law_program.fd ["w"] LM.spProg3 := by
  refine T.p_law_program.F.ok sc_law_program (fun vs H Q E h => ?_) (fun cdv A outer s H vs Q E hr h => ?_)
  · obtain ⟨a, dl, rfl, _⟩ := h
    rfl
  · obtain ⟨pw, dl, rfl, hw, q⟩ := h
    refine ⟨_, (pss_cons (ps_set (i := 1) sc_law_program.nd rfl (.inl rfl) (pe_lst pa_nil))
(pss_cons (ps_for PassesOwn.never rfl (pi_range1 rfl T.m_range (pa_cons (pe_op op_add pe_int (pe_call (ok_law_next T) (hr.mono (by decide)) (by rfl) T.p_law_next.g T.p_law_next.F.kp T.p_law_next.b .nil pass0 (pa_cons (pv 0) (pa_cons pe_int pa_nil)))) pa_nil)) (pg_name (i := 2) sc_law_program.nd rfl (.inl rfl))
 (pss_cons (ps_set (i := 3) sc_law_program.nd rfl (.inl rfl) (pe_call (ok_law_next T) (hr.mono (by decide)) (by rfl) T.p_law_next.g T.p_law_next.F.kp T.p_law_next.b .nil pass0 (pa_cons (pv 0) (pa_cons pe_int pa_nil))))
(pss_one (ps_if (pt_cmpR op_lt (pv 3) pe_int (nomark _))
 (pss_one (ps_set (i := 1) sc_law_program.nd rfl (.inl rfl) (pe_op op_cat (pv 1) (pe_lst (pa_cons pe_int (pa_cons (pe_call (ok_law_next T) (hr.mono (by decide)) (by rfl) T.p_law_next.g T.p_law_next.F.kp T.p_law_next.b .nil pass0 (pa_cons (pv 0) (pa_cons pe_int pa_nil))) (pa_cons (pe_ix ix_list (pe_lst (pa_cons (pe_call (ok_law_next T) (hr.mono (by decide)) (by rfl) T.p_law_next.g T.p_law_next.F.kp T.p_law_next.b .nil pass0 (pa_cons (pv 0) (pa_cons pe_int pa_nil))) (pa_cons (pe_call (ok_law_next T) (hr.mono (by decide)) (by rfl) T.p_law_next.g T.p_law_next.F.kp T.p_law_next.b .nil pass0 (pa_cons (pv 0) (pa_cons pe_int pa_nil))) (pa_cons (pe_call (ok_law_next T) (hr.mono (by decide)) (by rfl) T.p_law_next.g T.p_law_next.F.kp T.p_law_next.b .nil pass0 (pa_cons (pv 0) (pa_cons pe_int pa_nil))) pa_nil)))) (pe_call (ok_law_next T) (hr.mono (by decide)) (by rfl) T.p_law_next.g T.p_law_next.F.kp T.p_law_next.b .nil pass0 (pa_cons (pv 0) (pa_cons pe_int pa_nil))) (fun _ _ => rfl)) pa_nil)))))))
 (pss_one (ps_if (pt_cmpR op_lt (pv 3) pe_int (nomark _))
 (pss_one (ps_set (i := 1) sc_law_program.nd rfl (.inl rfl) (pe_op op_cat (pv 1) (pe_lst (pa_cons (pe_op op_add pe_int (pe_call (ok_law_next T) (hr.mono (by decide)) (by rfl) T.p_law_next.g T.p_law_next.F.kp T.p_law_next.b .nil pass0 (pa_cons (pv 0) (pa_cons pe_int pa_nil)))) (pa_cons (pe_call (ok_law_next T) (hr.mono (by decide)) (by rfl) T.p_law_next.g T.p_law_next.F.kp T.p_law_next.b .nil pass0 (pa_cons (pv 0) (pa_cons pe_int pa_nil))) pa_nil))))))
 (pss_one (ps_if (pt_cmpR op_lt (pv 3) pe_int (nomark _))
 (pss_one (ps_set (i := 1) sc_law_program.nd rfl (.inl rfl) (pe_op op_cat (pv 1) (pe_lst (pa_cons (pe_op op_add pe_int (pe_call (ok_law_next T) (hr.mono (by decide)) (by rfl) T.p_law_next.g T.p_law_next.F.kp T.p_law_next.b .nil pass0 (pa_cons (pv 0) (pa_cons pe_int pa_nil)))) (pa_cons (pe_call (ok_law_next T) (hr.mono (by decide)) (by rfl) T.p_law_next.g T.p_law_next.F.kp T.p_law_next.b .nil pass0 (pa_cons (pv 0) (pa_cons pe_int pa_nil))) pa_nil))))))
 (pss_one (ps_if (pt_cmpR op_eq (pv 3) pe_int (nomark _))
 (pss_one (ps_set (i := 1) sc_law_program.nd rfl (.inl rfl) (pe_op op_cat (pv 1) (pe_lst (pa_cons (pe_ix ix_list (pe_lst (pa_cons pe_int (pa_cons pe_int pa_nil))) (pe_call (ok_law_next T) (hr.mono (by decide)) (by rfl) T.p_law_next.g T.p_law_next.F.kp T.p_law_next.b .nil pass0 (pa_cons (pv 0) (pa_cons pe_int pa_nil))) (fun _ _ => rfl)) (pa_cons (pe_call (ok_law_next T) (hr.mono (by decide)) (by rfl) T.p_law_next.g T.p_law_next.F.kp T.p_law_next.b .nil pass0 (pa_cons (pv 0) (pa_cons pe_int pa_nil))) pa_nil))))))
 (pss_one (ps_if (pt_cmpR op_eq (pv 3) pe_int (nomark _))
 (pss_one (ps_set (i := 1) sc_law_program.nd rfl (.inl rfl) (pe_op op_cat (pv 1) (pe_lst (pa_cons (pe_op op_add pe_int (pe_call (ok_law_next T) (hr.mono (by decide)) (by rfl) T.p_law_next.g T.p_law_next.F.kp T.p_law_next.b .nil pass0 (pa_cons (pv 0) (pa_cons pe_int pa_nil)))) (pa_cons (pe_call (ok_law_next T) (hr.mono (by decide)) (by rfl) T.p_law_next.g T.p_law_next.F.kp T.p_law_next.b .nil pass0 (pa_cons (pv 0) (pa_cons pe_int pa_nil))) (pa_cons (pe_call (ok_law_next T) (hr.mono (by decide)) (by rfl) T.p_law_next.g T.p_law_next.F.kp T.p_law_next.b .nil pass0 (pa_cons (pv 0) (pa_cons pe_int pa_nil))) pa_nil)))))))
 (pss_one (ps_if (pt_cmpR op_lt (pv 3) pe_int (nomark _))
 (pss_one (ps_set (i := 1) sc_law_program.nd rfl (.inl rfl) (pe_op op_cat (pv 1) (pe_lst (pa_cons pe_int (pa_cons (pe_call (ok_law_next T) (hr.mono (by decide)) (by rfl) T.p_law_next.g T.p_law_next.F.kp T.p_law_next.b .nil pass0 (pa_cons (pv 0) (pa_cons pe_int pa_nil))) pa_nil))))))
 (pss_one (ps_set (i := 1) sc_law_program.nd rfl (.inl rfl) (pe_op op_cat (pv 1) (pe_lst (pa_cons (pe_ix ix_list (pe_lst (pa_cons pe_int (pa_cons pe_int (pa_cons (pe_call (ok_law_next T) (hr.mono (by decide)) (by rfl) T.p_law_next.g T.p_law_next.F.kp T.p_law_next.b .nil pass0 (pa_cons (pv 0) (pa_cons pe_int pa_nil))) pa_nil)))) (pe_call (ok_law_next T) (hr.mono (by decide)) (by rfl) T.p_law_next.g T.p_law_next.F.kp T.p_law_next.b .nil pass0 (pa_cons (pv 0) (pa_cons pe_int pa_nil))) (fun _ _ => rfl)) pa_nil)))))))))))))))))))
(C8.pss_cut (ps_if (pt_cmpR op_eq (pe_call (ok_law_next T) (hr.mono (by decide)) (by rfl) T.p_law_next.g T.p_law_next.F.kp T.p_law_next.b .nil pass0 (pa_cons (pv 0) (pa_cons pe_int pa_nil))) pe_int (nomark _))
 (pss_one (ps_set (i := 1) sc_law_program.nd rfl (.inl rfl) (pe_op op_cat (pv 1) (pe_lst (pa_cons pe_int (pa_cons (pe_call (ok_law_next T) (hr.mono (by decide)) (by rfl) T.p_law_next.g T.p_law_next.F.kp T.p_law_next.b .nil pass0 (pa_cons (pv 0) (pa_cons pe_int pa_nil))) pa_nil))))))
 pss_nil)
(pss_one (ps_ret (pe_callTy MM.cTupOf (by rfl) T.m_tuple (by decide +kernel) (pa_cons (pv 1) pa_nil))))))), ?_⟩
    walk_at "mgo"
    refine ⟨Nat.zero_le _, fun rl hrl => ?_⟩
    have w0 : LM.Rw3 pw dl H rl 0 0 (upd H rl (.lst [])) := ⟨(MM.Gw.refl hw).sm (R.same_new hrl), [], upd_same, Nat.le_refl _, Nat.le_refl _, fun b hb => nomatch hb⟩
    generalize upd H rl (.lst []) = H0 at *
    walk_at "mgo"
    refine ⟨pw, dl, 26, rfl, by decide, w0.g.2, fun H1 v v0 v1 g1 => ?_⟩
    have w1 := w0.go g1
    walk_at "mgo"
    refine R.r_rngL (fun k σ H' => ∃ rl y2 y3, σ = [some (.ref pw), some (.ref rl), y2, y3] ∧ LM.Rw3 pw dl H rl k (3 * k) H') (by omega) ?_ ?_ ?_
    · exact ⟨_, _, _, rfl, w1⟩
    · rintro k σ H2 hk ⟨rl, y2, y3, rfl, w2⟩
      walk_at "mgo"
      refine ⟨pw, dl, 16, rfl, by decide, w2.g.2, fun H3 tu _ _ g3 => ?_⟩
      have w3 := w2.go g3
      have fin : ∀ p H4, LM.Rw3 pw dl H p (k + 1) (3 * k + 3) H4 → ∃ rl' y2' y3', [some (V.ref pw), some (.ref p), some (.int (k : Int)), some (.int tu)] = [some (.ref pw), some (.ref rl'), y2', y3'] ∧ LM.Rw3 pw dl H rl' (k + 1) (3 * (k + 1)) H4 := fun p H4 wp => ⟨_, _, _, rfl, wp.mono (Nat.le_refl _) (by omega)⟩
      walk_at "mgo"
      refine R.r_ite (fun e => ?_) (fun e => ?_)
      · walk_at "mgo"
        refine ⟨pw, dl, 8, rfl, by decide, w3.g.2, fun H4 a a0 _ g4 => ?_⟩
        walk_at "mgo"
        refine ⟨pw, dl, 60, rfl, by decide, g4.2, fun H5 b b0 _ g5 => ?_⟩
        walk_at "mgo"
        refine ⟨pw, dl, 256, rfl, by decide, g5.2, fun H6 c c0 _ g6 => ?_⟩
        walk_at "mgo"
        refine ⟨pw, dl, 6, rfl, by decide, g6.2, fun H7 d d0 _ g7 => ?_⟩
        walk_at "mgo"
        refine ⟨Nat.le_of_ble_eq_true rfl, fun l hl => ?_⟩
        generalize h8 : upd _ l _ = H8
        obtain ⟨s8, x8⟩ := MM.new2 h8 hl
        walk_at "mgo"
        refine ⟨pw, dl, 3, rfl, by decide, (g7.2.same s8), fun H9 i i0 i1 g9 => ?_⟩
        have x9 : H9 l = some (.lst (([b, c, d] : List Int).map V.int)) := g9.1 _ _ x8 (g7.2.ne hl).1
        obtain ⟨v, hv, ev⟩ := MM.pickV (f := V.int) (xs := [b, c, d]) i0 i1
        refine R.r_ixL (R.sqL x9) ev ?_
        walk_at "mgo"
        refine ⟨Nat.le_of_ble_eq_true rfl, fun l2 hl2 => ?_⟩
        have w9 := (((((w3.go g4).go g5).go g6).go g7).sm s8).go g9
        refine (w9.sm (R.same_new hl2)).cat (zs := [1, a, v]) (m0 := k + 1) (m := 3 * k + 3) upd_same ?_ (by show k + 1 ≤ k + _; exact Nat.add_le_add_left (Nat.succ_le_succ (Nat.zero_le _)) k) (by show 3 * k + 3 ≤ _; omega) (by omega) fun p HA wp => ?_
        · intro x hx
          simp at hx hv
          omega
        · exact fin p HA wp
      walk_at "mgo"
      refine R.r_ite (fun e => ?_) (fun e => ?_)
      · walk_at "mgo"
        refine ⟨pw, dl, 3, rfl, by decide, w3.g.2, fun H4 a a0 _ g4 => ?_⟩
        walk_at "mgo"
        refine ⟨pw, dl, 256, rfl, by decide, g4.2, fun H5 b b0 _ g5 => ?_⟩
        walk_at "mgo"
        refine ⟨Nat.le_of_ble_eq_true rfl, fun l2 hl2 => ?_⟩
        refine (((w3.go g4).go g5).sm (R.same_new hl2)).cat (zs := [2 + a, b]) (m0 := k + 1) (m := 3 * k + 3) upd_same ?_ (by show k + 1 ≤ k + _; exact Nat.add_le_add_left (Nat.succ_le_succ (Nat.zero_le _)) k) (by show 3 * k + 2 ≤ _; omega) (by omega) fun p HA wp => fin p HA wp
        intro x hx
        simp at hx
        omega
      walk_at "mgo"
      refine R.r_ite (fun e => ?_) (fun e => ?_)
      · walk_at "mgo"
        refine ⟨pw, dl, 2, rfl, by decide, w3.g.2, fun H4 a a0 _ g4 => ?_⟩
        walk_at "mgo"
        refine ⟨pw, dl, 256, rfl, by decide, g4.2, fun H5 b b0 _ g5 => ?_⟩
        walk_at "mgo"
        refine ⟨Nat.le_of_ble_eq_true rfl, fun l2 hl2 => ?_⟩
        refine (((w3.go g4).go g5).sm (R.same_new hl2)).cat (zs := [5 + a, b]) (m0 := k + 1) (m := 3 * k + 3) upd_same ?_ (by show k + 1 ≤ k + _; exact Nat.add_le_add_left (Nat.succ_le_succ (Nat.zero_le _)) k) (by show 3 * k + 2 ≤ _; omega) (by omega) fun p HA wp => fin p HA wp
        intro x hx
        simp at hx
        omega
      walk_at "mgo"
      refine R.r_ite (fun e => ?_) (fun e => ?_)
      · walk_at "mgo"
        refine ⟨Nat.le_of_ble_eq_true rfl, fun l hl => ?_⟩
        generalize h8 : upd _ l _ = H8
        obtain ⟨s8, x8⟩ := MM.new2 h8 hl
        walk_at "mgo"
        refine ⟨pw, dl, 2, rfl, by decide, (w3.g.2.same s8), fun H9 i i0 i1 g9 => ?_⟩
        have x9 : H9 l = some (.lst (([7, 11] : List Int).map V.int)) := g9.1 _ _ x8 (w3.g.2.ne hl).1
        obtain ⟨v, hv, ev⟩ := MM.pickV (f := V.int) (xs := [7, 11]) i0 i1
        refine R.r_ixL (R.sqL x9) ev ?_
        walk_at "mgo"
        refine ⟨pw, dl, 70, rfl, by decide, g9.2, fun H5 b b0 _ g5 => ?_⟩
        walk_at "mgo"
        refine ⟨Nat.le_of_ble_eq_true rfl, fun l2 hl2 => ?_⟩
        refine ((((w3.sm s8).go g9).go g5).sm (R.same_new hl2)).cat (zs := [v, b]) (m0 := k + 1) (m := 3 * k + 3) upd_same ?_ (by show k + 1 ≤ k + _; exact Nat.add_le_add_left (Nat.succ_le_succ (Nat.zero_le _)) k) (by show 3 * k + 2 ≤ _; omega) (by omega) fun p HA wp => fin p HA wp
        intro x hx
        simp at hx hv
        omega
      walk_at "mgo"
      refine R.r_ite (fun e => ?_) (fun e => ?_)
      · walk_at "mgo"
        refine ⟨pw, dl, 2, rfl, by decide, w3.g.2, fun H4 a a0 _ g4 => ?_⟩
        walk_at "mgo"
        refine ⟨pw, dl, 256, rfl, by decide, g4.2, fun H5 b b0 _ g5 => ?_⟩
        walk_at "mgo"
        refine ⟨pw, dl, 70, rfl, by decide, g5.2, fun H6 c c0 _ g6 => ?_⟩
        walk_at "mgo"
        refine ⟨Nat.le_of_ble_eq_true rfl, fun l2 hl2 => ?_⟩
        refine ((((w3.go g4).go g5).go g6).sm (R.same_new hl2)).cat (zs := [8 + a, b, c]) (m0 := k + 1) (m := 3 * k + 3) upd_same ?_ (by show k + 1 ≤ k + _; exact Nat.add_le_add_left (Nat.succ_le_succ (Nat.zero_le _)) k) (by show 3 * k + 3 ≤ _; omega) (by omega) fun p HA wp => fin p HA wp
        intro x hx
        simp at hx
        omega
      walk_at "mgo"
      refine R.r_ite (fun e => ?_) (fun e => ?_)
      · walk_at "mgo"
        refine ⟨pw, dl, 9, rfl, by decide, w3.g.2, fun H4 a a0 _ g4 => ?_⟩
        walk_at "mgo"
        refine ⟨Nat.le_of_ble_eq_true rfl, fun l2 hl2 => ?_⟩
        refine ((w3.go g4).sm (R.same_new hl2)).cat (zs := [10, a]) (m0 := k + 1) (m := 3 * k + 3) upd_same ?_ (by show k + 1 ≤ k + _; exact Nat.add_le_add_left (Nat.succ_le_succ (Nat.zero_le _)) k) (by show 3 * k + 2 ≤ _; omega) (by omega) fun p HA wp => fin p HA wp
        intro x hx
        simp at hx
        omega
      · walk_at "mgo"
        refine ⟨pw, dl, 256, rfl, by decide, w3.g.2, fun H4 a a0 _ g4 => ?_⟩
        walk_at "mgo"
        refine ⟨Nat.le_of_ble_eq_true rfl, fun l hl => ?_⟩
        generalize h8 : upd _ l _ = H8
        obtain ⟨s8, x8⟩ := MM.new2 h8 hl
        walk_at "mgo"
        refine ⟨pw, dl, 3, rfl, by decide, (g4.2.same s8), fun H9 i i0 i1 g9 => ?_⟩
        have x9 : H9 l = some (.lst (([12, 0, a] : List Int).map V.int)) := g9.1 _ _ x8 (g4.2.ne hl).1
        obtain ⟨v, hv, ev⟩ := MM.pickV (f := V.int) (xs := [12, 0, a]) i0 i1
        refine R.r_ixL (R.sqL x9) ev ?_
        walk_at "mgo"
        refine ⟨Nat.le_of_ble_eq_true rfl, fun l2 hl2 => ?_⟩
        refine ((((w3.go g4).sm s8).go g9).sm (R.same_new hl2)).cat (zs := [v]) (m0 := k + 1) (m := 3 * k + 3) upd_same ?_ (by show k + 1 ≤ k + _; exact Nat.add_le_add_left (Nat.succ_le_succ (Nat.zero_le _)) k) (by show 3 * k + 1 ≤ _; omega) (by omega) fun p HA wp => fin p HA wp
        intro x hx
        simp at hx hv
        omega
    · rintro σ H2 ⟨rl, y2, y3, rfl, w2⟩
      walk_at "mgo"
      refine R.r_cut (fun σ H' => ∃ rl, σ = [some (.ref pw), some (.ref rl), y2, y3] ∧ LM.Rw3 pw dl H rl 1 256 H') ?_ ?_
      · walk_at "mgo"
        refine ⟨pw, dl, 2, rfl, by decide, w2.g.2, fun H3 z _ _ g3 => ?_⟩
        have w3 := w2.go g3
        walk_at "mgo"
        refine R.r_ite (fun e => ?_) (fun e => ?_)
        · walk_at "mgo"
          refine ⟨pw, dl, 12, rfl, by decide, w3.g.2, fun H4 a a0 _ g4 => ?_⟩
          walk_at "mgo"
          refine ⟨Nat.le_of_ble_eq_true rfl, fun l2 hl2 => ?_⟩
          refine ((w3.go g4).sm (R.same_new hl2)).cat (zs := [7, a]) (m0 := 1) (m := 256) upd_same ?_ (by show 1 ≤ _ + 2; omega) (by show _ + 2 ≤ _; omega) (by omega) fun p HA wp => ⟨p, rfl, wp⟩
          intro x hx
          simp at hx
          omega
        · exact ⟨_, rfl, w3.mono (by omega) (by omega)⟩
      · rintro σ H4 ⟨rl, rfl, w4⟩
        walk_at "mgo"
        obtain ⟨ns, e, l0, l, b⟩ := w4.r
        refine ⟨_, _, rfl, .inl ⟨R.sqL e, fun p hp => ?_⟩⟩
        exact q _ p ns (w4.g.sm (R.same_new hp)) upd_same l0 (by omega) b
theorem ok_law_longer (T : Txt K mg) : FnOk P w K mg base CX0 2 T.p_law_longer.f T.p_law_longer.fd ["w", "program"] LM.spLonger := by
  refine T.p_law_longer.F.ok sc_law_longer (fun vs H Q E h => ?_) (fun cdv A outer s H vs Q E hr h => ?_)
  · obtain ⟨pw, dl, p, ns, rfl, _⟩ := h
    rfl
  · obtain ⟨pw, dl, p, ns, rfl, hw, hp, hn1, hn2, hb, q⟩ := h
    refine ⟨_, (pss_cons (ps_set (i := 2) sc_law_longer.nd rfl (.inl rfl) (pe_call (ok_law_next T) (hr.mono (by decide)) (by rfl) T.p_law_next.g T.p_law_next.F.kp T.p_law_next.b .nil pass0 (pa_cons (pv 0) (pa_cons pe_int pa_nil))))
(pss_cons (ps_if (pt_cmpR op_gt (pv 2) pe_int (nomark _))
 (pss_one (ps_ret (pv 1)))
 pss_nil)
(pss_cons (ps_set (i := 3) sc_law_longer.nd rfl (.inl rfl) (pe_callTy MM.cListOf (by rfl) T.m_list (by decide +kernel) (pa_cons (pv 1) pa_nil)))
(pss_cons (ps_set (i := 4) sc_law_longer.nd rfl (.inl rfl) (pe_op op_sub pe_int (pe_callB R.cLenS (by rfl) T.m_len (by decide +kernel) (pa_cons (pv 3) pa_nil))))
(C8.pss_cut (ps_if (pt_cmpR op_eq (pv 2) pe_int (nomark _))
 (pss_one (ps_set (i := 4) sc_law_longer.nd rfl (.inl rfl) (pe_call (ok_law_next T) (hr.mono (by decide)) (by rfl) T.p_law_next.g T.p_law_next.F.kp T.p_law_next.b .nil pass0 (pa_cons (pv 0) (pa_cons (pe_op op_add (pv 4) pe_int) pa_nil)))))
 pss_nil)
(pss_cons (ps_set (i := 5) sc_law_longer.nd rfl (.inl rfl) (pe_call (ok_law_next T) (hr.mono (by decide)) (by rfl) T.p_law_next.g T.p_law_next.F.kp T.p_law_next.b .nil pass0 (pa_cons (pv 0) (pa_cons pe_int pa_nil))))
(pss_cons (ps_for PassesOwn.never rfl (pi_range1 rfl T.m_range (pa_cons (pv 4) pa_nil)) (pg_name (i := 6) sc_law_longer.nd rfl (.inl rfl))
 (pss_one (ps_expr (pe_bm PySem.F.plainAttrs_list PySem.F.slot_list_append PySem.F.type_list_append mt_append (pv 3) (pa_cons (pe_op op_mod (pe_callTy R.cInt1 (by rfl) T.m_int (by decide +kernel) (pa_cons (pe_op op_add (pv 5) (pe_op op_mul (pe_op op_mul (pv 6) (pv 6)) pe_int)) pa_nil)) (pe_ix ix_list (pe_lst (pa_cons pe_int (pa_cons pe_int pa_nil))) (pe_op op_mod (pe_callTy R.cInt1 (by rfl) T.m_int (by decide +kernel) (pa_cons (pe_op op_fdiv (pv 6) pe_int) pa_nil)) pe_int) (fun _ _ => rfl))) pa_nil)))))
(pss_cons (ps_for PassesOwn.never rfl (pi_range1 rfl T.m_range (pa_cons pe_int pa_nil)) (pg_name (i := 6) sc_law_longer.nd rfl (.inl rfl))
 (pss_one (ps_asg (pe_ix ix_list (pe_lst (pa_cons pe_int (pa_cons pe_int (pa_cons pe_int (pa_cons pe_int pa_nil))))) (pe_call (ok_law_next T) (hr.mono (by decide)) (by rfl) T.p_law_next.g T.p_law_next.F.kp T.p_law_next.b .nil pass0 (pa_cons (pv 0) (pa_cons pe_int pa_nil))) (fun _ _ => rfl)) (pg_sub (pv 3) (pe_call (ok_law_next T) (hr.mono (by decide)) (by rfl) T.p_law_next.g T.p_law_next.F.kp T.p_law_next.b .nil pass0 (pa_cons (pv 0) (pa_cons (pe_callB R.cLenS (by rfl) T.m_len (by decide +kernel) (pa_cons (pv 3) pa_nil)) pa_nil))) set_list))))
(pss_one (ps_ret (pe_callTy MM.cTupOf (by rfl) T.m_tuple (by decide +kernel) (pa_cons (pv 3) pa_nil)))))))))))), ?_⟩
    walk_at "mgo"
    refine ⟨pw, dl, 4, rfl, by decide, hw, fun H1 tu t0 t1 g1 => ?_⟩
    have kt1 := MM.KeepT.gw hw g1
    walk_at "mgo"
    refine R.r_ite (fun e => ?_) (fun e => ?_)
    · walk_at "mgo"
      exact q H1 p ns g1 (kt1 _ _ hp) hn2 hb
    · walk_at "mgo"
      refine ⟨_, _, rfl, .inr (R.sqT (kt1 _ _ hp)), fun rl hrl => ?_⟩
      generalize hu : upd _ rl _ = H2
      obtain ⟨s2, x2⟩ := MM.new2 hu hrl
      clear hu
      have w2 : LM.Rl pw dl H1 rl ns.length H2 := ⟨(MM.Gw.refl g1.2).sm s2, hrl, ns, x2, rfl, hb⟩
      walk_at "mgo"
      refine R.r_lenL (R.sqL x2) ?_
      rw [List.length_map]
      walk_at "mgo"
      refine R.r_cut (fun σ H' => ∃ y5 y6 m, σ = [some (.ref pw), some (.ref p), some (.int tu), some (.ref rl), some (.int m), y5, y6] ∧ 0 ≤ m ∧ m ≤ 256 - (ns.length : Int) ∧ LM.Rl pw dl H1 rl ns.length H') ?_ ?_
      · walk_at "mgo"
        refine R.r_ite (fun e1 => ?_) (fun e1 => ?_)
        · walk_at "mgo"
          refine ⟨pw, dl, _, rfl, by omega, w2.1.2, fun H3 m m0 m1 g3 => ?_⟩
          walk_at "mgo"
          exact ⟨_, _, _, rfl, m0, by omega, w2.go g1.2 g3⟩
        · walk_at "mgo"
          exact ⟨_, _, _, rfl, by omega, Int.le_refl _, w2⟩
      · rintro σ H3 ⟨y5, y6, m, rfl, hm0, hm, w3⟩
        walk_at "mgo"
        refine ⟨pw, dl, 256, rfl, by decide, w3.1.2, fun H4 st st0 st1 g4 => ?_⟩
        have w4 := w3.go g1.2 g4
        walk_at "mgo"
        refine R.r_rngL (fun k σ H' => ∃ y6, σ = [some (.ref pw), some (.ref p), some (.int tu), some (.ref rl), some (.int m), some (.int st), y6] ∧ LM.Rl pw dl H1 rl (ns.length + k) H') (by omega) ?_ ?_ ?_
        · exact ⟨_, rfl, w4⟩
        · rintro k σ H5 hk ⟨y6, rfl, w5⟩
          have hk : (k : Int) < 256 := by omega
          have eL : ∀ H6, LM.Rl pw dl H1 rl (ns.length + k) H6 → tyV K "list" (.ref rl) H6 := fun H6 w6 => by
            obtain ⟨_, _, ns5, e5, _⟩ := w6
            exact .inl ⟨rfl, _, R.sqL e5⟩
          walk_at "mgo"
          refine ⟨eL _ w5, ?_⟩
          walk_at "mgo"
          refine ⟨Nat.le_of_ble_eq_true rfl, fun l6 hl6 => ?_⟩
          generalize hu : upd _ l6 _ = H6
          obtain ⟨s6, x6⟩ := MM.new2 hu hl6
          clear hu
          have w6 := w5.sm s6
          walk_at "mgo"
          obtain ⟨j, hj, ej⟩ := MM.pickV (f := V.int) (xs := [13, 256]) (i := ((k : Int) / 7) % 2) (by omega) (by show _ < 2; omega)
          refine R.r_ixL (R.sqL x6) ej ?_
          have hj : j = 13 ∨ j = 256 := by simpa using hj
          refine R.r_mod (by omega) ?_
          walk_at "mgo"
          have w7 := w6
          obtain ⟨_, _, ns6, e6, l6', b6⟩ := w7
          refine ⟨_, _, _, rfl, rfl, e6, R.size_lt (by rw [List.length_map]; omega), ?_⟩
          have hb6 : ∀ b ∈ ns6 ++ [(st + (k : Int) * (k : Int) * 5) % j], 0 ≤ b ∧ b < 256 := fun b hb => by
            rcases List.mem_append.mp hb with z | z
            · exact b6 b z
            · rw [List.mem_singleton.mp z]
              have z1 := Int.emod_nonneg (st + (k : Int) * (k : Int) * 5) (show j ≠ 0 by omega)
              have z2 := Int.emod_lt_of_pos (st + (k : Int) * (k : Int) * 5) (show 0 < j by omega)
              omega
          have w8 := w6.put (ns := ns6 ++ [(st + (k : Int) * (k : Int) * 5) % j]) (m := ns.length + (k + 1)) g1.2 (by rw [List.length_append, l6']; rfl) hb6
          rw [List.map_append] at w8
          walk_at "mgo"
          exact ⟨_, rfl, w8⟩
        · rintro σ H5 ⟨y6, rfl, w5⟩
          walk_at "mgo"
          refine R.r_rngL (fun k σ H' => ∃ y6, σ = [some (.ref pw), some (.ref p), some (.int tu), some (.ref rl), some (.int m), some (.int st), y6] ∧ LM.Rl pw dl H1 rl (ns.length + m.toNat) H') (by decide) ?_ ?_ ?_
          · exact ⟨_, rfl, w5⟩
          · rintro k σ H6 hk ⟨y6, rfl, w6⟩
            walk_at "mgo"
            refine ⟨Nat.le_of_ble_eq_true rfl, fun l7 hl7 => ?_⟩
            generalize hu : upd _ l7 _ = H7
            obtain ⟨s7, x7⟩ := MM.new2 hu hl7
            clear hu
            have w7 := w6.sm s7
            have n7 := w6.1.2.ne hl7
            walk_at "mgo"
            refine ⟨pw, dl, 4, rfl, by decide, w7.1.2, fun H8 i i0 i1 g8 => ?_⟩
            have w8 := w7.go g1.2 g8
            have x8 : H8 l7 = some (.lst (([7, 11, 10, 1] : List Int).map V.int)) := g8.1 _ _ x7 n7.1
            obtain ⟨v, hv, ev⟩ := MM.pickV (f := V.int) (xs := [7, 11, 10, 1]) i0 i1
            have hv : v = 7 ∨ v = 11 ∨ v = 10 ∨ v = 1 := by simpa using hv
            refine R.r_ixL (R.sqL x8) ev ?_
            walk_at "mgo"
            have w9 := w8
            obtain ⟨_, _, ns8, e8, l8, b8⟩ := w9
            refine R.r_lenL (R.sqL e8) ?_
            rw [List.length_map]
            walk_at "mgo"
            refine ⟨pw, dl, _, rfl, by omega, w8.1.2, fun H9 j j0 j1 g9 => ?_⟩
            have w9 := w8.go g1.2 g9
            have e9 := g9.1 _ _ e8 (w8.ne g1.2).1
            have hb9 : ∀ b ∈ ns8.set j.toNat v, 0 ≤ b ∧ b < 256 := fun b hb => by
              rcases List.mem_or_eq_of_mem_set hb with z | z
              · exact b8 b z
              · omega
            have wA := w9.put (ns := ns8.set j.toNat v) (m := ns.length + m.toNat) g1.2 (by rw [List.length_set]; exact l8) hb9
            refine ⟨_, _, j, j.toNat, rfl, rfl, e9, ?_, ?_⟩
            · unfold ixN
              rw [if_pos j0, if_pos (by rw [List.length_map]; omega)]
            · rw [MM.map_set_int]
              walk_at "mgo"
              exact ⟨_, rfl, wA⟩
          · rintro σ H6 ⟨y6, rfl, w6⟩
            walk_at "mgo"
            have w7 := w6
            obtain ⟨_, _, ns6, e6, l6, b6⟩ := w7
            refine ⟨_, _, rfl, .inl ⟨R.sqL e6, fun p7 hp7 => ?_⟩⟩
            generalize hu : upd _ p7 _ = H7
            obtain ⟨s7, x7⟩ := MM.new2 hu hp7
            exact q H7 p7 ns6 ((g1.trans w6.1).sm s7) x7 (by omega) b6
end
end K60
end
section
local macro_rules | `(tactic| walk_at "s1") => `(tactic| first
  | ((with_reducible apply R.r_var); · rfl)
  | with_reducible apply R.r_c
  | with_reducible apply R.r_op
  | with_reducible apply R.r_I0
  | with_reducible apply R.r_cb
  | with_reducible apply R.r_cons
  | with_reducible apply R.r_nil
  | with_reducible apply R.r_seq
  | with_reducible apply R.r_asg
  | with_reducible apply R.r_ret
  | with_reducible apply R.r_ifS
  | with_reducible apply R.r_test
  | with_reducible apply R.r_t
  | with_reducible apply R.r_f
  | with_reducible apply R.r_nt
  | with_reducible apply R.r_nf
  | with_reducible apply R.r_bl
  | with_reducible apply R.r_U
  | with_reducible apply R.r_un
  | with_reducible apply R.r_eqI
  | with_reducible apply R.r_eqS
  | with_reducible apply R.r_neI
  | with_reducible apply R.r_neS
  | with_reducible apply R.r_and
  | with_reducible apply R.r_or
  | with_reducible apply R.r_not
  | with_reducible apply R.r_andV
  | with_reducible apply R.r_orV
  | with_reducible apply R.r_notV
  | with_reducible apply R.r_blV
  | with_reducible apply R.r_B
  | with_reducible apply R.r_ifE
  | with_reducible apply R.r_tup
  | with_reducible apply R.r_lst
  | with_reducible apply R.r_call
  | with_reducible apply R.r_drop
  | with_reducible apply R.r_next
  | with_reducible apply R.r_abs
  | with_reducible apply R.r_int1
  | with_reducible apply R.r_int1b
  | with_reducible apply R.r_min2
  | with_reducible apply R.r_bm
  | with_reducible apply R.r_bm0
  | with_reducible apply R.r_dget
  | with_reducible apply R.r_dput
  | with_reducible apply R.r_disp
  | with_reducible apply R.r_pnil
  | with_reducible apply R.r_pcons
  | with_reducible apply R.r_fld
  | with_reducible apply R.r_slice
  | with_reducible apply R.r_nopart
  | with_reducible apply R.r_part
  | with_reducible apply R.r_int
  | with_reducible apply R.r_yes
  | with_reducible apply R.r_retN
  | with_reducible apply R.r_asgG
  | with_reducible apply R.r_gname
  | with_reducible apply R.r_rng1
  | with_reducible apply R.r_brk
  | with_reducible apply R.r_cnt
  | with_reducible apply R.r_m1
  | with_reducible apply R.r_lcr
  | with_reducible apply R.r_p2_63
  | with_reducible apply R.r_p2_64
  | with_reducible apply R.r_p2_32
  | with_reducible apply R.r_p2_31
  | with_reducible apply R.r_p10_18
  | with_reducible apply R.r_p10_30
  | with_reducible refine R.r_mod (by omega) ?_
  | with_reducible refine R.r_div (by omega) ?_
  | with_reducible refine R.r_mulR (by omega) ?_
  | with_reducible refine R.r_mulL (by omega) ?_
  | with_reducible refine R.r_iteY (by decide +kernel) ?_
  | with_reducible refine R.r_iteF (by decide +kernel) ?_
  | with_reducible refine R.r_isi R.isi_int ?_
  | with_reducible refine R.r_isi R.isi_intB ?_)
local macro_rules | `(tactic| walk_at "go") => `(tactic| repeat (walk_at "s1"))

set_option hygiene false
local macro_rules | `(tactic| walk_at "m1") => `(tactic| first
  | walk_at "s1"
  | with_reducible apply MM.r_meth
  | with_reducible apply MM.r_make
  | with_reducible apply MM.r_din
  | with_reducible apply MM.r_dnotin
  | with_reducible apply MM.r_dget2
  | with_reducible apply MM.r_dpop1
  | with_reducible apply MM.r_sfld
  | with_reducible apply MM.r_gsub
  | with_reducible apply MM.r_augS
  | with_reducible apply MM.r_ip
  | with_reducible apply MM.r_chain
  | with_reducible apply MM.r_daug
  | with_reducible apply MM.r_add
  | with_reducible refine LM.g_mem ‹LM.Lm _ _ _› ?_
  | with_reducible refine LM.g_events ‹LM.Lm _ _ _› ?_
  | with_reducible refine LM.g_time ‹LM.Lm _ _ _› ?_
  | with_reducible refine LM.g_runs ‹LM.Lm _ _ _› ?_
  | with_reducible refine LM.g_threads ‹LM.Lm _ _ _› ?_
  | with_reducible refine LM.g_ready ‹LM.Lm _ _ _› ?_
  | with_reducible refine LM.g_device ‹LM.Lm _ _ _› ?_
  | with_reducible refine LM.g_pid ‹LM.Lm _ _ _› (by first | assumption | omega) ?_
  | with_reducible refine LM.g_pc ‹LM.Lm _ _ _› (by first | assumption | omega) ?_
  | with_reducible refine LM.g_regs ‹LM.Lm _ _ _› (by first | assumption | omega) ?_
  | with_reducible refine LM.x_ths ‹LM.Lm _ _ _› (by first | assumption | omega) ?_
  | with_reducible refine LM.x_mem ‹LM.Lm _ _ _› (by first | assumption | omega) ?_
  | with_reducible refine LM.x_tim ‹LM.Lm _ _ _› (by first | assumption | omega) ?_
  | with_reducible refine LM.x_run ‹LM.Lm _ _ _› (by first | assumption | omega) ?_
  | with_reducible refine LM.x_rg ‹LM.Lm _ _ _› ‹MM.WF _ _› (by first | assumption | omega) (by omega) (by omega) ?_
  | with_reducible refine LM.x_dev0 ‹LM.Lm _ _ _› ?_
  | with_reducible refine LM.x_dev1 ‹LM.Lm _ _ _› ?_
  | with_reducible refine LM.l_ths ‹LM.Lm _ _ _› ?_
  | with_reducible refine ⟨LM.t_rdy ‹LM.Lm _ _ _›, ?_⟩
  | with_reducible refine ⟨LM.t_ths ‹LM.Lm _ _ _›, ?_⟩
  | with_reducible refine ⟨LM.t_ev ‹LM.Lm _ _ _›, ?_⟩
  | with_reducible refine ⟨LM.t_rq ‹LM.Lm _ _ _›, ?_⟩)
local macro_rules | `(tactic| walk_at "mgo") => `(tactic| repeat (walk_at "m1"))
set_option hygiene true

namespace K60
open PySem PySem.Spec PyProof.Rows L2
section
variable {P : Program} {w : World} {K : PySem.W.Frag} {mg : Str → Option Value} {base : Heap}
theorem ok_law_state (T : Txt K mg) : FnOk P w K mg base CX0 1 T.p_law_state.f T.p_law_state.fd ["m"] (LM.spStateL K) := by
  refine T.p_law_state.F.ok sc_law_state (fun vs H Q E h => ?_) (fun cdv A outer s H vs Q E hr h => ?_)
  · obtain ⟨ad, S, k, rfl, _⟩ := h
    rfl
  · obtain ⟨ad, S, k, rfl, O, q⟩ := h
    have B := O.B
    have W := O.W
    refine ⟨_, (pss_cons (ps_set (i := 1) sc_law_state.nd rfl (.inl rfl) (pe_callTy MM.cTupOf (by rfl) T.m_tuple (by decide +kernel) (pa_cons (pe_lc (own := [("one", 2)]) (g := gName 2) (tt := tYes) rfl sc_law_state.nd (pi_list (pe_dget (hu_of hr) (pv 0) pe_str (fun _ _ => rfl))) (blkOk_by (own := [("one", 2)]) (N := N_law_state) (sc := defScope s_law_state) (by decide +kernel)) (fun _ _ _ _ _ => (pg_name (i := 2) sc_law_state.nd rfl (.inl rfl))) (fun _ _ _ _ _ => pts_nil) (fun _ _ _ _ _ => (pe_tup (pa_cons (pe_dget (hu_of hr) (pv 2) pe_str (fun _ _ => rfl)) (pa_cons (pe_dget (hu_of hr) (pv 2) pe_str (fun _ _ => rfl)) (pa_cons (pe_callTy (R.cTupOfK (K0 := K) rfl) (by rfl) T.m_tuple (by decide +kernel) (pa_cons (pe_dget (hu_of hr) (pv 2) pe_str (fun _ _ => rfl)) pa_nil)) (pa_cons (pe_dget (hu_of hr) (pv 2) pe_str (fun _ _ => rfl)) pa_nil))))))) pa_nil)))
(pss_cons (ps_set (i := 3) sc_law_state.nd rfl (.inl rfl) (pe_callTy MM.cTupOf (by rfl) T.m_tuple (by decide +kernel) (pa_cons (pe_lc (own := [("k", 4)]) (g := gName 4) (tt := tYes) rfl sc_law_state.nd (pi_range1 rfl T.m_range (pa_cons (pe_callB R.cLenS (by rfl) T.m_len (by decide +kernel) (pa_cons (pe_dget (hu_of hr) (pv 0) pe_str (fun _ _ => rfl)) pa_nil)) pa_nil)) (blkOk_by (own := [("k", 4)]) (N := N_law_state) (sc := defScope s_law_state) (by decide +kernel)) (fun _ _ _ _ _ => (pg_name (i := 4) sc_law_state.nd rfl (.inl rfl))) (fun _ _ _ _ _ => pts_nil) (fun _ _ _ _ _ => (pe_tup (pa_cons (pe_ix (R.ixLK (K0 := K) rfl) (pe_dget (hu_of hr) (pv 0) pe_str (fun _ _ => rfl)) (pv 4) (fun _ _ => rfl)) (pa_cons (pe_ix (R.ixLK (K0 := K) rfl) (pe_dget (hu_of hr) (pv 0) pe_str (fun _ _ => rfl)) (pv 4) (fun _ _ => rfl)) pa_nil))))) pa_nil)))
(pss_cons (ps_set (i := 5) sc_law_state.nd rfl (.inl rfl) (pe_callTy MM.cTupOf (by rfl) T.m_tuple (by decide +kernel) (pa_cons (pe_lc (own := [("mem", 6)]) (g := gName 6) (tt := tYes) rfl sc_law_state.nd (pi_list (pe_dget (hu_of hr) (pv 0) pe_str (fun _ _ => rfl))) (blkOk_by (own := [("mem", 6)]) (N := N_law_state) (sc := defScope s_law_state) (by decide +kernel)) (fun _ _ _ _ _ => (pg_name (i := 6) sc_law_state.nd rfl (.inl rfl))) (fun _ _ _ _ _ => pts_nil) (fun _ _ _ _ _ => (pe_callTy (R.cTupOfK (K0 := K) rfl) (by rfl) T.m_tuple (by decide +kernel) (pa_cons (pv 6) pa_nil)))) pa_nil)))
(pss_one (ps_ret (pe_tup (pa_cons (pv 5) (pa_cons (pv 1) (pa_cons (pe_callTy MM.cTupOf (by rfl) T.m_tuple (by decide +kernel) (pa_cons (pe_dget (hu_of hr) (pv 0) pe_str (fun _ _ => rfl)) pa_nil)) (pa_cons (pv 3) (pa_cons (pe_tup (pa_cons (pe_ix ix_list (pe_dget (hu_of hr) (pv 0) pe_str (fun _ _ => rfl)) pe_int (fun _ _ => rfl)) (pa_cons (pe_callTy MM.cTupOf (by rfl) T.m_tuple (by decide +kernel) (pa_cons (pe_ix ix_list (pe_dget (hu_of hr) (pv 0) pe_str (fun _ _ => rfl)) pe_int (fun _ _ => rfl)) pa_nil)) pa_nil))) pa_nil))))))))))), ?_⟩
    walk_at "mgo"
    refine MM.r_lcL ?_
    walk_at "mgo"
    refine ⟨_, rfl, ⟨_, R.sqL B.at_thsL⟩, ?_⟩
    refine MM.lc_go (walk_list (xs := (List.range S.ths.length).map fun i => V.ref (ad (.th i)))) (fun D i H' => ∃ ts : List Addr, H' D = some (.lst (ts.map V.ref)) ∧ Same H H' ∧ MM.All2 (MM.ThAt H') ts (S.ths.take i)) ?_ ?_ ?_ ?_
    · intro D hD
      exact ⟨[], upd_same, R.same_new hD, .nil⟩
    · rintro D i H' hD ⟨ts, e, s, al⟩
      exact R.sqL (s _ _ B.at_thsL)
    · rintro D i x H1 H1' hD hi ⟨ts, e, s, al⟩ ⟨rfl, ex⟩
      have hi : i < S.ths.length := by rwa [List.length_map, List.length_range] at hi
      rw [List.getElem?_map, List.getElem?_range hi] at ex
      obtain rfl := Option.some.inj ex
      have B1 := B.same s
      clear B
      refine ⟨rfl, R.r_yes (iteT ?_)⟩
      walk_at "mgo"
      refine ⟨_, _, rfl, .inl ⟨R.sqL (B1.at_rg hi), fun r hr' => ?_⟩⟩
      generalize hu : upd _ r _ = H2
      obtain ⟨s2, x2⟩ := MM.new2 hu hr'
      clear hu
      have B2 := B1.same s2
      walk_at "mgo"
      refine LM.g_is B2 hi fun c0 e0 => ?_
      walk_at "mgo"
      refine ⟨Nat.le_of_ble_eq_true rfl, fun p hp => ?_⟩
      generalize hu : upd _ p _ = H3
      obtain ⟨s3, x3⟩ := MM.new2 hu hp
      clear hu
      have e3 := s3 _ _ (s2 _ _ e)
      refine ⟨_, e3, R.size_lt ?_, ts ++ [p], by rw [upd_same, List.map_append]; rfl, LM.same_acc hD (s.trans (s2.trans s3)), ?_⟩
      · rw [List.length_map, al.length, List.length_take]
        have := W.nt
        omega
      · rw [MM.take_snoc (MM.th_get hi)]
        have kt : MM.KeepT H3 (upd H3 D (.lst ((ts.map V.ref) ++ [.ref p]))) := MM.KeepT.upd e3 (fun _ => nofun)
        have th : MM.ThAt H3 p (S.th i) := ⟨r, c0, x3, s3 _ _ x2, s3 _ _ e0⟩
        exact MM.All2.snoc (R := MM.ThAt _) (th.keep kt) (al.imp fun a m z => (z.same (s2.trans s3)).keep kt)
    · rintro D H1 hD ⟨ts, e, s, al⟩
      rw [List.length_map, List.length_range, List.take_length] at al
      walk_at "mgo"
      refine ⟨_, _, rfl, .inl ⟨R.sqL e, fun pt hpt => ?_⟩⟩
      generalize hu : upd _ pt _ = H2
      obtain ⟨s2, xt⟩ := MM.new2 hu hpt
      clear hu
      have S2 := s.trans s2
      have alt : MM.All2 (MM.ThAt H2) ts S.ths := al.imp fun a m z => z.same s2
      have B2 := B.same S2
      clear e s al hD s2 hpt B
      walk_at "mgo"
      refine LM.g_rates B2 fun rt er => ?_
      walk_at "mgo"
      refine R.r_lenT (R.sqT er) ?_
      rw [List.length_map]
      walk_at "mgo"
      refine MM.r_LcR (n := S.rates.length) (by have := W.nr; omega) ?_
      refine MM.lc_go walk_range (fun D i H' => ∃ ps : List Addr, H' D = some (.lst (ps.map V.ref)) ∧ Same H2 H' ∧ MM.All2 (MM.PrAt H') ps ((S.times.zip S.run).take i)) ?_ (fun _ _ _ _ _ => trivial) ?_ ?_
      · intro D hD
        exact ⟨[], upd_same, R.same_new hD, .nil⟩
      · rintro D i x H3 H3' hD hi ⟨ps, e, s, al⟩ ⟨rfl, ex⟩
        have ex : x = V.int (i : Int) := by
          rw [ex]
          show V.int (0 + _) = _
          rw [Int.zero_add]
        subst ex
        have B3 := B2.same s
        have hi1 : i < S.times.length := by rw [W.tim]; exact hi
        have hi2 : i < S.run.length := by rw [W.rn]; exact hi
        have ez : (S.times.zip S.run)[i]? = some (S.times.getD i 0, S.run.getD i 0) := by
          rw [List.getElem?_zip_eq_some]
          exact ⟨MM.getD_some hi1, MM.getD_some hi2⟩
        clear B2
        refine ⟨rfl, R.r_yes (iteT ?_)⟩
        walk_at "mgo"
        refine ⟨Nat.le_of_ble_eq_true rfl, fun p hp => ?_⟩
        generalize hu : upd _ p _ = H4
        obtain ⟨s4, x4⟩ := MM.new2 hu hp
        clear hu
        have e4 := s4 _ _ e
        refine ⟨_, e4, R.size_lt ?_, ps ++ [p], by rw [upd_same, List.map_append]; rfl, LM.same_acc hD (s.trans s4), ?_⟩
        · rw [List.length_map, al.length, List.length_take]
          have := W.nr
          omega
        · rw [MM.take_snoc ez]
          have kt : MM.KeepT H4 (upd H4 D (.lst ((ps.map V.ref) ++ [.ref p]))) := MM.KeepT.upd e4 (fun _ => nofun)
          exact MM.All2.snoc (R := MM.PrAt _) (kt _ _ x4) (al.imp fun a m z => kt _ _ (s4 _ _ z))
      · rintro D H3 hD ⟨ps, e, s, al⟩
        rw [List.take_of_length_le (by rw [List.length_zip, W.tim, W.rn]; omega)] at al
        walk_at "mgo"
        refine ⟨_, _, rfl, .inl ⟨R.sqL e, fun pr hpr => ?_⟩⟩
        generalize hu : upd _ pr _ = H4
        obtain ⟨s4, xr⟩ := MM.new2 hu hpr
        clear hu
        have s24 := s.trans s4
        have S4 := S2.trans s24
        have alr : MM.All2 (MM.PrAt H4) ps (S.times.zip S.run) := al.imp fun a m z => s4 _ _ z
        have alt4 : MM.All2 (MM.ThAt H4) ts S.ths := alt.imp fun a m z => z.same s24
        have xt4 := s24 _ _ xt
        have B4 := B2.same s24
        clear e s al hD s4 hpr B2 xt alt s24 S2
        walk_at "mgo"
        refine MM.r_lcL ?_
        walk_at "mgo"
        refine ⟨_, rfl, ⟨_, R.sqL B4.at_memL⟩, ?_⟩
        refine MM.lc_go (walk_list (xs := (List.range S.mem.length).map fun i => V.ref (ad (.me i)))) (fun D i H' => ∃ ims : List Addr, H' D = some (.lst (ims.map V.ref)) ∧ Same H4 H' ∧ MM.All2 (MM.ImAt H') ims (S.mem.take i)) ?_ ?_ ?_ ?_
        · intro D hD
          exact ⟨[], upd_same, R.same_new hD, .nil⟩
        · rintro D i H' hD ⟨ims, e, s, al⟩
          exact R.sqL (s _ _ B4.at_memL)
        · rintro D i x H5 H5' hD hi ⟨ims, e, s, al⟩ ⟨rfl, ex⟩
          have hi : i < S.mem.length := by rwa [List.length_map, List.length_range] at hi
          rw [List.getElem?_map, List.getElem?_range hi] at ex
          obtain rfl := Option.some.inj ex
          have B5 := B4.same s
          refine ⟨rfl, R.r_yes (iteT ?_)⟩
          walk_at "mgo"
          refine ⟨_, _, rfl, .inl ⟨R.sqL (B5.at_me hi), fun p hp => ?_⟩⟩
          generalize hu : upd _ p _ = H6
          obtain ⟨s6, x6⟩ := MM.new2 hu hp
          clear hu
          have e6 := s6 _ _ e
          refine ⟨_, e6, R.size_lt ?_, ims ++ [p], by rw [upd_same, List.map_append]; rfl, LM.same_acc hD (s.trans s6), ?_⟩
          · rw [List.length_map, al.length, List.length_take]
            have := W.nm
            omega
          · rw [MM.take_snoc (MM.mm_get hi)]
            have kt : MM.KeepT H6 (upd H6 D (.lst ((ims.map V.ref) ++ [.ref p]))) := MM.KeepT.upd e6 (fun _ => nofun)
            have im : MM.ImAt H6 p (S.mm i) := by
              unfold MM.ImAt
              rw [O.img hi]
              exact x6
            exact MM.All2.snoc (R := MM.ImAt _) (kt _ _ im) (al.imp fun a m z => kt _ _ (s6 _ _ z))
        · rintro D H5 hD ⟨ims, e, s, al⟩
          rw [List.length_map, List.length_range, List.take_length] at al
          walk_at "mgo"
          refine ⟨_, _, rfl, .inl ⟨R.sqL e, fun pm hpm => ?_⟩⟩
          generalize hu : upd _ pm _ = H6
          obtain ⟨s6, xm⟩ := MM.new2 hu hpm
          clear hu
          have s46 := s.trans s6
          have B6 := B4.same s46
          have alm : MM.All2 (MM.ImAt H6) ims S.mem := al.imp fun a m z => s6 _ _ z
          clear B4 e al hD hpm
          walk_at "mgo"
          refine ⟨_, _, rfl, .inl ⟨R.sqL B6.at_rdy, fun py hpy => ?_⟩⟩
          generalize hu : upd _ py _ = H7
          obtain ⟨s7, xy⟩ := MM.new2 hu hpy
          clear hu
          have B7 := B6.same s7
          clear B6
          walk_at "mgo"
          obtain ⟨rq, eq, alq⟩ := B7.at_rq
          refine ⟨_, _, rfl, .inl ⟨R.sqL eq, fun pq hpq => ?_⟩⟩
          generalize hu : upd _ pq _ = H8
          obtain ⟨s8, xq⟩ := MM.new2 hu hpq
          clear hu
          walk_at "mgo"
          refine ⟨Nat.le_of_ble_eq_true rfl, fun pd hpd => ?_⟩
          generalize hu : upd _ pd _ = H9
          obtain ⟨s9, xd⟩ := MM.new2 hu hpd
          clear hu
          walk_at "mgo"
          refine ⟨Nat.le_of_ble_eq_true rfl, fun pA hpA => ?_⟩
          generalize hu : upd _ pA _ = HA
          obtain ⟨sA, xA⟩ := MM.new2 hu hpA
          clear hu
          have s7A := s8.trans (s9.trans sA)
          have s6A := s7.trans s7A
          have s4A := s46.trans s6A
          refine q pA HA (S4.trans s4A) ?_
          exact .tup (R.sqT xA) (.cons (.tup (R.sqT (s6A _ _ xm)) (MM.dp_all2 (fun _ _ h => MM.dp_im h) (alm.imp fun _ _ z => s6A _ _ z)))
            (.cons (.tup (R.sqT (s4A _ _ xt4)) (MM.dp_all2 (fun _ _ h => MM.dp_th h) (alt4.imp fun _ _ z => z.same s4A)))
            (.cons (.tup (R.sqT (s7A _ _ xy)) (_root_.D.all_map fun _ _ => .int _))
            (.cons (.tup (R.sqT (s4A _ _ xr)) (MM.dp_all2 (f := fun p : Int × Int => PyData.tuple [.int p.1, .int p.2]) (fun _ _ h => MM.dp_pr h) (alr.imp fun _ _ z => s4A _ _ z)))
            (.cons (.tup (R.sqT (sA _ _ xd)) (.cons (.int _) (.cons (.tup (R.sqT (sA _ _ (s9 _ _ xq))) (MM.dp_all2 (fun _ _ h => MM.dp_rq h) (alq.imp fun _ _ z => s7A _ _ z))) .nil))) .nil)))))
end
end K60
end
section
local macro_rules | `(tactic| walk_at "s1") => `(tactic| first
  | ((with_reducible apply R.r_var); · rfl)
  | with_reducible apply R.r_c
  | with_reducible apply R.r_op
  | with_reducible apply R.r_I0
  | with_reducible apply R.r_cb
  | with_reducible apply R.r_cons
  | with_reducible apply R.r_nil
  | with_reducible apply R.r_seq
  | with_reducible apply R.r_asg
  | with_reducible apply R.r_ret
  | with_reducible apply R.r_ifS
  | with_reducible apply R.r_test
  | with_reducible apply R.r_t
  | with_reducible apply R.r_f
  | with_reducible apply R.r_nt
  | with_reducible apply R.r_nf
  | with_reducible apply R.r_bl
  | with_reducible apply R.r_U
  | with_reducible apply R.r_un
  | with_reducible apply R.r_eqI
  | with_reducible apply R.r_eqS
  | with_reducible apply R.r_neI
  | with_reducible apply R.r_neS
  | with_reducible apply R.r_and
  | with_reducible apply R.r_or
  | with_reducible apply R.r_not
  | with_reducible apply R.r_andV
  | with_reducible apply R.r_orV
  | with_reducible apply R.r_notV
  | with_reducible apply R.r_blV
  | with_reducible apply R.r_B
  | with_reducible apply R.r_ifE
  | with_reducible apply R.r_tup
  | with_reducible apply R.r_lst
  | with_reducible apply R.r_call
  | with_reducible apply R.r_drop
  | with_reducible apply R.r_next
  | with_reducible apply R.r_abs
  | with_reducible apply R.r_int1
  | with_reducible apply R.r_int1b
  | with_reducible apply R.r_min2
  | with_reducible apply R.r_bm
  | with_reducible apply R.r_bm0
  | with_reducible apply R.r_dget
  | with_reducible apply R.r_dput
  | with_reducible apply R.r_disp
  | with_reducible apply R.r_pnil
  | with_reducible apply R.r_pcons
  | with_reducible apply R.r_fld
  | with_reducible apply R.r_slice
  | with_reducible apply R.r_nopart
  | with_reducible apply R.r_part
  | with_reducible apply R.r_int
  | with_reducible apply R.r_yes
  | with_reducible apply R.r_retN
  | with_reducible apply R.r_asgG
  | with_reducible apply R.r_gname
  | with_reducible apply R.r_rng1
  | with_reducible apply R.r_brk
  | with_reducible apply R.r_cnt
  | with_reducible apply R.r_m1
  | with_reducible apply R.r_lcr
  | with_reducible apply R.r_p2_63
  | with_reducible apply R.r_p2_64
  | with_reducible apply R.r_p2_32
  | with_reducible apply R.r_p2_31
  | with_reducible apply R.r_p10_18
  | with_reducible apply R.r_p10_30
  | with_reducible refine R.r_mod (by omega) ?_
  | with_reducible refine R.r_div (by omega) ?_
  | with_reducible refine R.r_mulR (by omega) ?_
  | with_reducible refine R.r_mulL (by omega) ?_
  | with_reducible refine R.r_iteY (by decide +kernel) ?_
  | with_reducible refine R.r_iteF (by decide +kernel) ?_
  | with_reducible refine R.r_isi R.isi_int ?_
  | with_reducible refine R.r_isi R.isi_intB ?_)
local macro_rules | `(tactic| walk_at "go") => `(tactic| repeat (walk_at "s1"))

set_option hygiene false
local macro_rules | `(tactic| walk_at "m1") => `(tactic| first
  | walk_at "s1"
  | with_reducible apply MM.r_meth
  | with_reducible apply MM.r_make
  | with_reducible apply MM.r_din
  | with_reducible apply MM.r_dnotin
  | with_reducible apply MM.r_dget2
  | with_reducible apply MM.r_dpop1
  | with_reducible apply MM.r_sfld
  | with_reducible apply MM.r_gsub
  | with_reducible apply MM.r_augS
  | with_reducible apply MM.r_ip
  | ((with_reducible refine MM.q_threads ?_ ‹MM.Bd _ _ _ _› ?_); exact hC)
  | ((with_reducible refine MM.q_memories ?_ ‹MM.Bd _ _ _ _› ?_); exact hC)
  | ((with_reducible refine MM.q_ready ?_ ‹MM.Bd _ _ _ _› ?_); exact hC)
  | ((with_reducible refine MM.q_times ?_ ‹MM.Bd _ _ _ _› ?_); exact hC)
  | ((with_reducible refine MM.q_running ?_ ‹MM.Bd _ _ _ _› ?_); exact hC)
  | ((with_reducible refine MM.q_dev ?_ ‹MM.Bd _ _ _ _› ?_); exact hC)
  | ((with_reducible refine MM.q_requests ?_ ‹MM.Bd _ _ _ _› ?_); exact hC)
  | ((with_reducible refine MM.q_cpu ?_ ‹MM.Bd _ _ _ _› ?_); exact hC)
  | ((with_reducible refine MM.q_views ?_ ‹MM.Bd _ _ _ _› ?_); exact hC)
  | ((with_reducible refine MM.q_pid ?_ ‹MM.Bd _ _ _ _› (by first | assumption | omega) ?_); exact hC)
  | ((with_reducible refine MM.q_pc ?_ ‹MM.Bd _ _ _ _› (by first | assumption | omega) ?_); exact hC)
  | ((with_reducible refine MM.q_regs ?_ ‹MM.Bd _ _ _ _› (by first | assumption | omega) ?_); exact hC)
  | ((with_reducible refine MM.q_call ?_ ‹MM.Bd _ _ _ _› (by first | assumption | omega) ?_); exact hC)
  | ((with_reducible refine MM.q_callAt ?_ ‹MM.Bd _ _ _ _› (by first | assumption | omega) ?_); exact hC)
  | with_reducible refine MM.q_ixThs ‹MM.Bd _ _ _ _› (by first | assumption | omega) ?_
  | with_reducible refine MM.q_ixMem ‹MM.Bd _ _ _ _› (by first | assumption | omega) ?_
  | with_reducible refine MM.q_ixTim ‹MM.Bd _ _ _ _› (by first | assumption | omega) ?_
  | with_reducible refine MM.q_ixRun ‹MM.Bd _ _ _ _› (by first | assumption | omega) ?_
  | with_reducible refine MM.q_ixRgs ‹MM.Bd _ _ _ _› ‹MM.WF _ _› (by first | assumption | omega) (by omega) (by omega) ?_
  | with_reducible refine MM.q_lenThs ‹MM.Bd _ _ _ _› ?_
  | ((with_reducible refine MM.q_mBrd ‹MM.Bd _ _ _ _› ?_ ?_); (intro _ _ _ _; rfl))
  | ((with_reducible refine MM.q_mMem ‹MM.Bd _ _ _ _› (by first | assumption | omega) ?_ ?_); (intro _ _ kd'; cases kd' <;> rfl))
  | with_reducible refine ⟨MM.ty_vws ‹MM.Bd _ _ _ _›, ?_⟩
  | with_reducible refine ⟨MM.ty_rdy ‹MM.Bd _ _ _ _›, ?_⟩
  | with_reducible refine ⟨MM.ty_ths ‹MM.Bd _ _ _ _›, ?_⟩
  | with_reducible refine ⟨MM.ty_req ‹MM.Bd _ _ _ _›, ?_⟩)
local macro_rules | `(tactic| walk_at "mgo") => `(tactic| repeat (walk_at "m1"))
set_option hygiene true

local macro_rules | `(tactic| walk_at "m1") => `(tactic| first | with_reducible apply MM.r_chain | with_reducible apply MM.r_daug | with_reducible apply MM.r_add)
namespace K60
open PySem PySem.Spec PyProof.Rows L2
section
variable {P : Program} {w : World} {K : PySem.W.Frag} {mg : Str → Option Value} {base : Heap}
theorem hu65 {A : Around} {k : Nat} (hr : Room k A) : A.units + 65 < cLine := by
  have := hr.un
  omega
/-- both machines, behind some picks -/
structure Lq (T : Txt K mg) (rates : List Int) (pw dl rt x pm : Addr) (ad : LM.Tg → Addr) (ad2 : MM.Tg → Addr) (S : MM.MS) (k : Nat) (H : Hp) : Prop where
  wd : MM.Wd H pw dl
  O : LM.LOk ad S H k
  pc : LM.PcOk S
  B2 : MM.Bd (cP T) ad2 { S with views := [] } H
  ex : ∃ d1, H x = some (.ins T.c_Machine.a d1 [("board", .ref (ad2 .brd))])
  em : ad .m = pm
  hrt : H rt = some (.tup (rates.map V.int))
  er : S.rates = rates
  n1 : ∀ u, LM.dom S.ths.length S.mem.length u → ad u ≠ x ∧ ad u ≠ pw ∧ ad u ≠ dl
  n2 : ∀ t, ad2 t ≠ x ∧ ad2 t ≠ pw ∧ ad2 t ≠ dl
  n3 : ∀ u t, LM.dom S.ths.length S.mem.length u → ad u ≠ ad2 t
  nx : x ≠ pw ∧ x ≠ dl
section
variable {T : Txt K mg} {rates : List Int} {pw dl rt x pm : Addr} {ad : LM.Tg → Addr} {ad2 : MM.Tg → Addr} {S : MM.MS} {k : Nat} {H H' : Hp}
theorem Lq.W1 (h : Lq T rates pw dl rt x pm ad ad2 S k H) : MM.WF ({ S with views := [] } : MM.MS) k := { h.O.W with vw := Nat.zero_le _ }
theorem Lq.O2 (h : Lq T rates pw dl rt x pm ad ad2 S k H) : MM.Ok (cP T) ad2 { S with views := [] } H k := ⟨h.B2, h.W1, h.O.hk, fun _ => h.O.pl⟩
theorem Lq.same (h : Lq T rates pw dl rt x pm ad ad2 S k H) (s : Same H H') : Lq T rates pw dl rt x pm ad ad2 S k H' :=
  { h with wd := h.wd.same s, O := h.O.same s, B2 := h.B2.same s, ex := h.ex.imp fun _ e => s _ _ e, hrt := s _ _ h.hrt }
theorem Lq.gw (h : Lq T rates pw dl rt x pm ad ad2 S k H) (g : MM.Gw pw dl H H') : Lq T rates pw dl rt x pm ad ad2 S k H' := by
  have kt := MM.KeepT.gw h.wd g
  exact { h with wd := g.2, O := h.O.keep (fun u o d e => g.1 _ _ e (h.n1 u d).2.1) kt, B2 := h.B2.move (fun t o e => g.1 _ _ e (h.n2 t).2.1) kt, ex := h.ex.imp fun _ e => g.1 _ _ e h.nx.1, hrt := kt _ _ h.hrt }
theorem Lq.mono {k' : Nat} (h : Lq T rates pw dl rt x pm ad ad2 S k H) (hk : k ≤ k') (hk' : k' ≤ 60000) : Lq T rates pw dl rt x pm ad ad2 S k' H := { h with O := ⟨h.O.B, h.O.W.mono hk, hk', h.O.pl⟩ }
/-- a list that is nobody's changes -/
theorem Lq.put {v : Addr} {o o' : HO} (h : Lq T rates pw dl rt x pm ad ad2 S k H) (e : H v = some o) (ht : ∀ xs, o ≠ .tup xs) (hx : ∀ C d fs, o ≠ .ins C d fs) (hv : v ≠ pw ∧ v ≠ dl) (h1 : ∀ u, LM.dom S.ths.length S.mem.length u → ad u ≠ v) (h2 : ∀ t, ad2 t ≠ v) : Lq T rates pw dl rt x pm ad ad2 S k (upd H v o') := by
  have kt : MM.KeepT H (upd H v o') := MM.KeepT.upd e ht
  exact { h with
    wd := h.wd.mv R.Mv.upd hv.1.symm hv.2.symm
    O := h.O.keep (fun u o d e => by rw [upd_ne (h1 u d)]; exact e) kt
    B2 := h.B2.move (fun t o e => by rw [upd_ne (h2 t)]; exact e) kt
    ex := h.ex.imp fun d e1 => by rw [upd_ne (fun z => by rw [z, e] at e1; exact hx _ _ _ (Option.some.inj e1))]; exact e1
    hrt := kt _ _ h.hrt }
end
def sp_law (K : PySem.W.Frag) : Sp := fun vs H Q _ => ∃ (a : Addr) (ns : List Int), vs = [.ref a] ∧ SqL K H a (ns.map V.int) ∧ ns.length ≤ 63 ∧ ∀ H', Q (.bl true) H'
theorem ok_law (T : Txt K mg) : FnOk P w K mg base CX0 11 T.p_law.f T.p_law.fd ["script"] (sp_law K) := by
  refine T.p_law.F.ok sc_law (fun vs H Q E h => ?_) (fun cdv A outer s H vs Q E hr h => ?_)
  · obtain ⟨a, ns, rfl, _⟩ := h
    rfl
  · obtain ⟨a, ns, rfl, hS, hlen, q⟩ := h
    refine ⟨_, (pss_cons (ps_set (i := 1) sc_law.nd rfl (.inr rfl) (pe_disp (pps_cons pe_str (pe_call (ok_law_draws T) (hr.mono (by decide)) (by rfl) T.p_law_draws.g T.p_law_draws.F.kp T.p_law_draws.b .nil pass0 (pa_cons (pv 0) (pa_cons pe_int pa_nil))) (pps_cons pe_str pe_int pps_nil)) (by rfl) (by rfl) (fun z => by cases z) (by decide)))
(pss_cons (ps_set (i := 2) sc_law.nd rfl (.inl rfl) (pe_callTy MM.cTupOf (by rfl) T.m_tuple (by decide +kernel) (pa_cons (pe_lc (own := [("k", 3)]) (g := gName 3) (tt := tYes) rfl sc_law.nd (pi_range1 rfl T.m_range (pa_cons (pe_op op_add pe_int (pe_call (ok_law_next T) (hr.mono (by decide)) (by rfl) T.p_law_next.g T.p_law_next.F.kp T.p_law_next.b .nil pass0 (pa_cons (pv 1) (pa_cons pe_int pa_nil)))) pa_nil)) (blkOk_by (own := [("k", 3)]) (N := N_law) (sc := defScope s_law) (by decide +kernel)) (fun _ _ _ _ _ => (pg_name (i := 3) sc_law.nd rfl (.inl rfl))) (fun _ _ _ _ _ => pts_nil) (fun _ _ _ _ _ => (pe_call (ok_law_longer T) (hr.mono (by decide)) (by rfl) T.p_law_longer.g T.p_law_longer.F.kp T.p_law_longer.b .nil pass0 (pa_cons (pv 1) (pa_cons (pe_call (ok_law_program T) (hr.mono (by decide)) (by rfl) T.p_law_program.g T.p_law_program.F.kp T.p_law_program.b .nil pass0 (pa_cons (pv 1) pa_nil)) pa_nil))))) pa_nil)))
(pss_cons (ps_set (i := 4) sc_law.nd rfl (.inl rfl) (pe_callTy MM.cTupOf (by rfl) T.m_tuple (by decide +kernel) (pa_cons (pe_lc (own := [("k", 3)]) (g := gName 3) (tt := tYes) rfl sc_law.nd (pi_range1 rfl T.m_range (pa_cons (pe_op op_add pe_int (pe_call (ok_law_next T) (hr.mono (by decide)) (by rfl) T.p_law_next.g T.p_law_next.F.kp T.p_law_next.b .nil pass0 (pa_cons (pv 1) (pa_cons pe_int pa_nil)))) pa_nil)) (blkOk_by (own := [("k", 3)]) (N := N_law) (sc := defScope s_law) (by decide +kernel)) (fun _ _ _ _ _ => (pg_name (i := 3) sc_law.nd rfl (.inl rfl))) (fun _ _ _ _ _ => pts_nil) (fun _ _ _ _ _ => (pe_op op_add pe_int (pe_call (ok_law_next T) (hr.mono (by decide)) (by rfl) T.p_law_next.g T.p_law_next.F.kp T.p_law_next.b .nil pass0 (pa_cons (pv 1) (pa_cons (pe_ix (R.ixLK (K0 := K) rfl) (pe_lst (pa_cons pe_int (pa_cons pe_int pa_nil))) (pe_call (ok_law_next T) (hr.mono (by decide)) (by rfl) T.p_law_next.g T.p_law_next.F.kp T.p_law_next.b .nil pass0 (pa_cons (pv 1) (pa_cons pe_int pa_nil))) (fun _ _ => rfl)) pa_nil)))))) pa_nil)))
(pss_cons (ps_set (i := 5) sc_law.nd rfl (.inl rfl) (pe_make T.p_Machine___init__.M (ok_Machine___init__ T) (hr.mono (by decide)) (by rfl) T.c_Machine.g T.p_Machine___init__.b .nil pass0 (pa_cons (pv 2) (pa_cons (pv 4) pa_nil))))
(pss_cons (ps_set (i := 6) sc_law.nd rfl (.inl rfl) (pe_call (ok_law_model T) (hr.mono (by decide)) (by rfl) T.p_law_model.g T.p_law_model.F.kp T.p_law_model.b .nil pass0 (pa_cons (pv 2) (pa_cons (pv 4) pa_nil))))
(pss_cons (ps_if (pt_cmpR (op_neD hr.units) (pe_meth0 (pv 5) T.c_Machine.cl T.p_Machine_state.me (ok_Machine_state T) (hr.mono (by decide)) T.p_Machine_state.b .nil pass0) (pe_call (ok_law_state T) (hr.mono (by decide)) (by rfl) T.p_law_state.g T.p_law_state.F.kp T.p_law_state.b .nil pass0 (pa_cons (pv 6) pa_nil)) (nomark _))
 (pss_one (ps_ret pe_bl))
 pss_nil)
(pss_cons (ps_for PassesOwn.never rfl (pi_range1 rfl T.m_range (pa_cons (pe_op op_add pe_int (pe_call (ok_law_next T) (hr.mono (by decide)) (by rfl) T.p_law_next.g T.p_law_next.F.kp T.p_law_next.b .nil pass0 (pa_cons (pv 1) (pa_cons pe_int pa_nil)))) pa_nil)) (pg_name (i := 3) sc_law.nd rfl (.inl rfl))
 (pss_cons (ps_set (i := 7) sc_law.nd rfl (.inl rfl) (pe_call (ok_law_pick T) (hr.mono (by decide)) (by rfl) T.p_law_pick.g T.p_law_pick.F.kp T.p_law_pick.b .nil pass0 (pa_cons (pv 1) (pa_cons (pe_callB R.cLenS (by rfl) T.m_len (by decide +kernel) (pa_cons (pv 4) pa_nil)) pa_nil))))
(pss_cons (ps_expr (pe_call (ok_law_step T) (hr.mono (by decide)) (by rfl) T.p_law_step.g T.p_law_step.F.kp T.p_law_step.b .nil pass0 (pa_cons (pv 6) (pa_cons (pv 7) pa_nil))))
(pss_cons (ps_set (i := 8) sc_law.nd rfl (.inl rfl) (pe_meth (pv 5) T.c_Machine.cl T.p_Machine_step.me (ok_Machine_step T) (hr.mono (by decide)) T.p_Machine_step.b .nil pass0 (pa_cons (pv 7) pa_nil)))
(pss_cons (ps_if ((pw_or (pt_not (pt_val (pe_callB call_isi (by rfl) T.m_isinstance (by decide +kernel) (pa_cons (pv 8) (pa_cons (pe_bltn (v := .ty "list") (u := .type "list") (by rfl) T.m_list (by decide +kernel) rfl) pa_nil))))) (pw_or1 (pt_cmpR (op_neD hr.units) (pv 8) (pe_dget (hu_of hr) (pv 6) pe_str (fun _ _ => rfl)) (nomark _))))).pt
 (pss_one (ps_ret pe_bl))
 pss_nil)
(pss_cons (ps_expr (pe_bm PySem.F.plainAttrs_list PySem.F.slot_list_append PySem.F.type_list_append mt_append (pv 8) (pa_cons pe_str pa_nil)))
(pss_one (ps_if ((pw_and (pt_cmpR op_eq (pe_op op_mod (pv 3) pe_int) pe_int (nomark _)) (pw_and1 (pt_cmpR (op_neD hr.units) (pe_meth0 (pv 5) T.c_Machine.cl T.p_Machine_state.me (ok_Machine_state T) (hr.mono (by decide)) T.p_Machine_state.b .nil pass0) (pe_call (ok_law_state T) (hr.mono (by decide)) (by rfl) T.p_law_state.g T.p_law_state.F.kp T.p_law_state.b .nil pass0 (pa_cons (pv 6) pa_nil)) (nomark _))))).pt
 (pss_one (ps_ret pe_bl))
 pss_nil))))))))
(pss_one (ps_ret (pe_cmpR (op_eqD hr.units) (pe_meth0 (pv 5) T.c_Machine.cl T.p_Machine_state.me (ok_Machine_state T) (hr.mono (by decide)) T.p_Machine_state.b .nil pass0) (pe_call (ok_law_state T) (hr.mono (by decide)) (by rfl) T.p_law_state.g T.p_law_state.F.kp T.p_law_state.b .nil pass0 (pa_cons (pv 6) pa_nil)) (nomark _))))))))))), ?_⟩
    walk_at "mgo"
    intro pw hpw
    walk_at "mgo"
    refine ⟨a, ns, 900, rfl, (R.same_new hpw).seq hS, hlen, by decide, by decide, fun dl ds H1 s1 ndl e1 l1 => ?_⟩
    walk_at "mgo"
    refine ⟨s1 _ _ upd_same, MM.wdD dl 0, rfl, Nat.le_of_ble_eq_true rfl, ?_⟩
    have w2 : MM.Wd (upd H1 pw (.dK (mergeK [] (MM.wdD dl 0)))) pw dl := ⟨0, ds, upd_same, by rw [upd_ne (fun z => by rw [z, upd_same] at ndl; cases ndl)]; exact e1, by decide, l1⟩
    generalize upd H1 pw (.dK (mergeK [] (MM.wdD dl 0))) = H2 at w2 ⊢
    clear ndl e1 l1 s1 hpw
    walk_at "mgo"
    refine ⟨pw, dl, 4, rfl, by decide, w2, fun H3 v v0 v1 g3 => ?_⟩
    obtain ⟨v, rfl⟩ := Int.eq_ofNat_of_zero_le v0
    walk_at "mgo"
    rw [show (1 : Int) + (v : Int) = ((1 + v : Nat) : Int) by omega]
    refine MM.r_LcR (by omega) ?_
    refine MM.lc_go walk_range (fun D i H' => LM.Pgs2 pw dl H3 D i H') ?_ (fun _ _ _ _ _ => trivial) ?_ ?_
    · intro D hD
      exact LM.Pgs2.start g3.2 hD
    · rintro D i y H4 H4' hD hi ml ⟨rfl, rfl⟩
      refine ⟨rfl, R.r_yes (iteT ?_)⟩
      walk_at "mgo"
      refine ⟨pw, dl, rfl, ml.g.2, fun H5 p ms g5 e5 l5a l5 b5 => ?_⟩
      walk_at "mgo"
      refine ⟨pw, dl, p, ms, rfl, g5.2, e5, l5a, l5, b5, fun H6 p6 ms6 g6 e6 l6 b6 => ?_⟩
      exact ml.step g3.2 hD (g5.trans g6) e6 l6 b6 (by omega)
    rintro D H4 hD ⟨g4, as, progs, eD, al4, hl4, hb4⟩
    walk_at "mgo"
    refine ⟨_, _, rfl, .inl ⟨R.sqL eD, fun pg hpg => ?_⟩⟩
    generalize h5 : upd _ pg _ = H5
    obtain ⟨s5, x5⟩ := MM.new2 h5 hpg
    have pg5 : MM.PgAt H5 pg progs := ⟨as, x5, al4.imp fun _ _ z => s5 _ _ z⟩
    have w5 := g4.2.same s5
    clear h5 s5 x5 eD al4 g4 g3 hD hpg w2
    walk_at "mgo"
    refine ⟨pw, dl, 4, rfl, by decide, w5, fun H6 u u0 u1 g6 => ?_⟩
    obtain ⟨u, rfl⟩ := Int.eq_ofNat_of_zero_le u0
    walk_at "mgo"
    rw [show (1 : Int) + (u : Int) = ((1 + u : Nat) : Int) by omega]
    refine MM.r_LcR (by omega) ?_
    refine MM.lc_go walk_range (fun D i H' => MM.Rts pw dl H6 D i H') ?_ (fun _ _ _ _ _ => trivial) ?_ ?_
    · intro D hD
      exact MM.Rts.start g6.2 hD
    · rintro D i y H7 H7' hD hi ml ⟨rfl, rfl⟩
      refine ⟨rfl, R.r_yes (iteT ?_)⟩
      walk_at "mgo"
      refine ⟨Nat.le_of_ble_eq_true rfl, fun l8 hl8 => ?_⟩
      generalize hu : upd _ l8 _ = H8
      obtain ⟨s8, x8⟩ := MM.new2 hu hl8
      clear hu
      have n8 := ml.g.2.ne hl8
      walk_at "mgo"
      refine ⟨pw, dl, 2, rfl, by decide, ml.g.2.same s8, fun H9 j j0 j1 g9 => ?_⟩
      have x9 : H9 l8 = some (.lst (([40, 999] : List Int).map V.int)) := g9.1 _ _ x8 n8.1
      obtain ⟨v, hv, ev⟩ := MM.pickV (f := V.int) (xs := [40, 999]) j0 j1
      have hv : v = 40 ∨ v = 999 := by simpa using hv
      refine R.r_ixL (R.sqL x9) ev ?_
      walk_at "mgo"
      refine ⟨pw, dl, _, rfl, by omega, g9.2, fun HA p _ _ gA => ?_⟩
      walk_at "mgo"
      exact ml.step g6.2 hD (((MM.Gw.refl ml.g.2).sm s8).trans (g9.trans gA)) (by omega)
    rintro D H7 hD ⟨g7, rates, eD, hl7⟩
    walk_at "mgo"
    refine ⟨_, _, rfl, .inl ⟨R.sqL eD, fun rt hrt => ?_⟩⟩
    generalize h8 : upd _ rt _ = H8
    obtain ⟨s8, x8⟩ := MM.new2 h8 hrt
    have pg8 : MM.PgAt H8 pg progs := pg5.keep ((MM.KeepT.gw w5 (g6.trans g7)).trans (MM.KeepT.of s8))
    have w8 := g7.2.same s8
    clear h8 s8 eD g7 g6 hD hrt w5 pg5
    have hpb' : ∀ p ∈ progs, p.length ≤ 256 ∧ ∀ b ∈ p, 0 ≤ b := fun p hp => ⟨(hb4 p hp).1, fun b hb => ((hb4 p hp).2 b hb).1⟩
    walk_at "mgo"
    intro x d1 hx1 hd1 hne1
    have sm1 := MM.make_same (C := T.c_Machine.a) hx1 hd1
    have ex0 : upd (upd H8 d1 (.own x)) x (.ins T.c_Machine.a d1 []) x = some (.ins T.c_Machine.a d1 []) := upd_same
    generalize upd (upd H8 d1 (.own x)) x (.ins T.c_Machine.a d1 []) = H9 at sm1 ex0 ⊢
    have n9 := w8.ne hx1
    have w9 := w8.same sm1
    refine ⟨x, d1, pg, rt, progs, rates, rfl, ex0, pg8.keep (MM.KeepT.of sm1), sm1 _ _ x8, by omega, by omega, fun p hp => (hb4 p hp).1, fun ad2 HA BA mvA exA noA => ⟨rfl, ?_⟩⟩
    have kA : MM.KeepT H9 HA := MM.KeepT.mv mvA fun xs z => by rw [ex0] at z; cases z
    have wA := w9.mv mvA n9.1.symm n9.2.symm
    have pgA := (pg8.keep (MM.KeepT.of sm1)).keep kA
    have rtA := kA _ _ (sm1 _ _ x8)
    have n2 : ∀ t, ad2 t ≠ x ∧ ad2 t ≠ pw ∧ ad2 t ≠ dl := fun t => by
      obtain ⟨_, _, u1, u2, _⟩ := w9
      exact ⟨MM.none_ne (noA t) ex0, MM.none_ne (noA t) u1, MM.none_ne (noA t) u2⟩
    clear kA pg8 w8 w9 x8 sm1 hx1 hd1 noA mvA ex0 hne1
    walk_at "mgo"
    refine ⟨pg, rt, progs, rates, rfl, pgA, rtA, by omega, by omega, by omega, hb4, fun ad HB BB sB fB => ?_⟩
    have wf := MM.wf_start (progs := progs) (rates := rates) (by omega) (by omega) (by omega) hpb'
    have fB' : ∀ u, LM.dom (MM.S0 progs rates).ths.length (MM.S0 progs rates).mem.length u → HA (ad u) = none := fun u d => fB u (by
      have e1 : (MM.S0 progs rates).ths.length = progs.length := by show ((List.range progs.length).map MM.th0).length = _; rw [List.length_map, List.length_range]
      have e2 : (MM.S0 progs rates).mem.length = progs.length := List.length_map _
      rw [e1, e2] at d
      exact d)
    have lq : Lq T rates pw dl rt x (ad .m) ad ad2 (MM.S0 progs rates) 8 HB :=
      { wd := wA.same sB, O := ⟨BB, wf, by decide, LM.S0_plain (i := progs.length)⟩, pc := LM.S0_pc hb4, B2 := BA.same sB, ex := ⟨d1, sB _ _ exA⟩, em := rfl, hrt := sB _ _ rtA, er := rfl,
        n1 := fun u d => by
          obtain ⟨_, _, u1, u2, _⟩ := wA
          exact ⟨MM.none_ne (fB' u d) exA, MM.none_ne (fB' u d) u1, MM.none_ne (fB' u d) u2⟩
        n2 := n2
        n3 := fun u t d => (BA.none (fB' u d) t).symm
        nx := n9 }
    generalize ad .m = pm at lq ⊢
    generalize MM.S0 progs rates = S0 at lq
    clear fB' wf BB sB fB BA exA wA pgA rtA n2 n9 hpb'
    /- the first look at both states -/
    walk_at "mgo"
    obtain ⟨dx, ex⟩ := lq.ex
    refine ⟨x, dx, _, rfl, ex, rfl, ?_⟩
    walk_at "mgo"
    refine ⟨ad2, x, dx, _, _, rfl, ex, rfl, ad2, _, _, rfl, lq.O2, fun pB _ _ _ HC sC _ _ _ dC => ?_⟩
    have lq := lq.same sC
    clear ex sC
    walk_at "mgo"
    refine ⟨ad, S0, _, by rw [lq.em]; rfl, lq.O, fun pL HD sD dD => ?_⟩
    have lq := lq.same sD
    refine LM.sh_eq (_root_.D.dp_same sD _ _ dC) dD ?_
    clear sD dC dD
    walk_at "mgo"
    refine ⟨pw, dl, 121, rfl, by decide, lq.wd, fun HE t t0 t1 gE => ?_⟩
    have lq := lq.gw gE
    clear gE
    walk_at "mgo"
    refine R.r_rngL (fun i σ H' => ∃ y3 y7 y8 ad ad2 S, σ = [some (.ref a), some (.ref pw), some (.ref pg), y3, some (.ref rt), some (.ref x), some (.ref pm), y7, y8] ∧ Lq T rates pw dl rt x pm ad ad2 S (8 + 20 * i) H') (by omega) ?_ ?_ ?_
    · exact ⟨_, _, _, ad, ad2, S0, rfl, lq⟩
    · rintro i σ H1 hi ⟨y3, y7, y8, ad, ad2, S, rfl, lq⟩
      have hi : i < 161 := by omega
      walk_at "mgo"
      refine R.r_lenT (R.sqT lq.hrt) ?_
      rw [List.length_map]
      walk_at "mgo"
      refine ⟨pw, dl, _, rfl, by omega, lq.wd, fun H2 p c what g2 e2 c0 c1 hwh => ?_⟩
      obtain ⟨c, rfl⟩ := Int.eq_ofNat_of_zero_le c0
      have lq := lq.gw g2
      have hc : c < S.rates.length := by rw [lq.er]; omega
      have hc1 : c < ({ S with views := [] } : MM.MS).rates.length := hc
      clear g2
      walk_at "mgo"
      refine ⟨ad, S, _, p, c, what, by rw [lq.em]; rfl, e2, lq.O, lq.pc, by omega, hc, fun ad' H3 B3 m3 => ?_⟩
      have kt3 := m3.kt
      have fr3 : ∀ b o, H2 b = some o → (∀ u, LM.dom S.ths.length S.mem.length u → ad u ≠ b) → H3 b = some o := fun b o e h => m3.fr b o e fun ⟨u, d, z⟩ => h u d z
      obtain ⟨_, km, er3, W3⟩ := MM.doPick_ok (kd := false) (what := what) lq.W1 hc1
      have pc3 : LM.PcOk (MM.doPick false { S with views := [] } c what) := LM.PcOk.doPick (lq.pc.mk' rfl rfl)
      have nm3 : (MM.doPick false { S with views := [] } c what).mem.length = S.mem.length := by
        have z := congrArg List.length km
        rwa [List.length_map, List.length_map] at z
      have hk3 : MM.KOk (MM.doPick false { S with views := [] } c what) := MM.KOk.doPick fun w hw => nomatch hw
      have pl3 : ∀ ks ∈ (MM.doPick false { S with views := [] } c what).mem.map (fun m => m.kept.map (·.1)), ks = [] := by
        rw [km]
        exact lq.O.pl
      have B2' := lq.B2.move (H' := H3) (fun t o e => fr3 _ _ e fun u d => lq.n3 u t d) kt3
      have ex3 : ∃ d1, H3 x = some (.ins T.c_Machine.a d1 [("board", .ref (ad2 .brd))]) := lq.ex.imp fun _ e => fr3 _ _ e fun u d => (lq.n1 u d).1
      have e3 := kt3 _ _ e2
      have nw3 : ∀ b o, H2 b = some o → (∀ u, LM.dom S.ths.length S.mem.length u → ad u ≠ b) → ∀ u, LM.dom (MM.doPick false { S with views := [] } c what).ths.length (MM.doPick false { S with views := [] } c what).mem.length u → ad' u ≠ b := fun b o e h u d z => by
        rw [nm3] at d
        rcases m3.nw _ ⟨u, d, z⟩ with ⟨t, dt, et⟩ | y
        · exact h t dt et
        · rw [e] at y; cases y
      have wd3 : MM.Wd H3 pw dl := by
        obtain ⟨at', ds', f1, f2, f3⟩ := lq.wd
        exact ⟨at', ds', fr3 _ _ f1 fun u d => (lq.n1 u d).2.1, fr3 _ _ f2 fun u d => (lq.n1 u d).2.2, f3⟩
      have n13 : ∀ u, LM.dom (MM.doPick false { S with views := [] } c what).ths.length (MM.doPick false { S with views := [] } c what).mem.length u → ad' u ≠ x ∧ ad' u ≠ pw ∧ ad' u ≠ dl := fun u d => by
        obtain ⟨at', ds', f1, f2, f3⟩ := lq.wd
        obtain ⟨dx, ex⟩ := lq.ex
        exact ⟨nw3 _ _ ex (fun u d => (lq.n1 u d).1) u d, nw3 _ _ f1 (fun u d => (lq.n1 u d).2.1) u d, nw3 _ _ f2 (fun u d => (lq.n1 u d).2.2) u d⟩
      have oc2 : ∀ t, ∃ o, H2 (ad2 t) = some o := fun t => by
        cases z : H2 (ad2 t) with
        | none => exact absurd rfl (lq.B2.none z t)
        | some o => exact ⟨o, rfl⟩
      have n33 : ∀ u t, LM.dom (MM.doPick false { S with views := [] } c what).ths.length (MM.doPick false { S with views := [] } c what).mem.length u → ad' u ≠ ad2 t := fun u t d => by
        obtain ⟨o, eo⟩ := oc2 t
        exact nw3 _ _ eo (fun u d => lq.n3 u t d) u d
      have em3 : ad' .m = pm := (m3.ag .m rfl trivial).trans lq.em
      have O3 : MM.Ok (cP T) ad2 { S with views := [] } H3 (8 + 20 * i) := ⟨B2', lq.W1, lq.O.hk, fun _ => lq.O.pl⟩
      obtain ⟨dx, ex3⟩ := ex3
      walk_at "mgo"
      refine ⟨x, dx, _, rfl, ex3, rfl, ?_⟩
      walk_at "mgo"
      refine ⟨ad2, x, dx, _, _, rfl, ex3, rfl, ad2, _, _, p, c, what, rfl, e3, O3, by omega, hc1, rfl, fun ad2' H4 v vl B4 m4 el all nl old => ?_⟩
      have all : MM.All2 (MM.VwAt H4) vl (MM.doPick false { S with views := [] } c what).views := all
      have B4 : MM.Bd (cP T) ad2' ({ MM.doPick false { S with views := [] } c what with views := [] } : MM.MS) H4 := B4
      have er4 : (MM.doPick false { S with views := [] } c what).rates = rates := er3.trans lq.er
      have rt4 := m4.kt _ _ (kt3 _ _ lq.hrt)
      have nxx := lq.nx
      have lq2n := lq.n2
      have W3' := W3
      generalize MM.doPick false { S with views := [] } c what = S2 at *
      have out4 : ∀ b o, H3 b = some o → (∀ t, ad2 t ≠ b) → H4 b = some o := fun b o e h => m4.fr b o e h
      have wd4 : MM.Wd H4 pw dl := by
        obtain ⟨at', ds', f1, f2, f3⟩ := wd3
        exact ⟨at', ds', out4 _ _ f1 fun t => (lq2n t).2.1, out4 _ _ f2 fun t => (lq2n t).2.2, f3⟩
      have occ3 : ∀ u, LM.dom S2.ths.length S2.mem.length u → ∃ o, H3 (ad' u) = some o := fun u d => by
        cases z : H3 (ad' u) with
        | none => exact absurd rfl (B3.free z d)
        | some o => exact ⟨o, rfl⟩
      have lq4 : Lq T rates pw dl rt x pm ad' ad2' S2 (8 + 20 * (i + 1)) H4 :=
        { wd := wd4
          O := ⟨B3.keep (fun u o d e => out4 _ _ e fun t => (n33 u t d).symm) m4.kt, by rw [show 8 + 20 * (i + 1) = 8 + 20 * i + 20 by omega]; exact W3', by omega, pl3⟩
          pc := pc3
          B2 := B4
          ex := ⟨dx, by rw [m4.ag .brd (by nofun) trivial]; exact out4 _ _ ex3 fun t => (lq2n t).1⟩
          em := em3
          hrt := rt4
          er := er4
          n1 := n13
          n2 := fun t => by
            obtain ⟨at', ds', f1, f2, f3⟩ := wd3
            exact ⟨m4.out ex3 (fun t => (lq2n t).1) t, m4.out f1 (fun t => (lq2n t).2.1) t, m4.out f2 (fun t => (lq2n t).2.2) t⟩
          n3 := fun u t d => by
            obtain ⟨o, eo⟩ := occ3 u d
            exact (m4.out eo (fun t => (n33 u t d).symm) t).symm
          nx := nxx }
      have v1 : ∀ u, LM.dom S2.ths.length S2.mem.length u → ad' u ≠ v := fun u d z => by
        obtain ⟨o, eo⟩ := occ3 u d
        obtain ⟨t, et⟩ := old o (by rw [← z]; exact eo)
        exact n33 u t d (z.trans et.symm)
      have v2 : v ≠ pw ∧ v ≠ dl := by
        obtain ⟨at', ds', f1, f2, f3⟩ := wd3
        refine ⟨fun z => ?_, fun z => ?_⟩
        · obtain ⟨t, et⟩ := old _ (by rw [z]; exact f1)
          exact (lq2n t).2.1 (et.trans z)
        · obtain ⟨t, et⟩ := old _ (by rw [z]; exact f2)
          exact (lq2n t).2.2 (et.trans z)
      clear B2' oc2 nw3 n13 n33 em3 O3 wd3 ex3 fr3 kt3 lq m3 m4 B3 B4 occ3 out4 old
      walk_at "mgo"
      refine R.r_isi (R.isi_lst el) ?_
      walk_at "mgo"
      refine LM.g_events2 lq4.O.B lq4.em ?_
      obtain ⟨vn, en, aln⟩ := lq4.O.B.at_ev
      refine LM.ne_vws el en all aln hk3 ?_
      walk_at "mgo"
      have vlen := all.length
      have v3 := W3'.vw
      refine ⟨.inl ⟨rfl, _, R.sqL el⟩, ?_⟩
      walk_at "mgo"
      refine ⟨v, _, _, rfl, rfl, el, R.size_lt (by rw [List.length_map]; omega), ?_⟩
      have lq5 : Lq T rates pw dl rt x pm ad' ad2' S2 (8 + 20 * (i + 1)) (upd H4 v (.lst (vl.map V.ref ++ [.str "changed"]))) := lq4.put el (fun _ => nofun) (fun _ _ _ => nofun) v2 v1 nl
      generalize upd H4 v (.lst (vl.map V.ref ++ [.str "changed"])) = H5 at lq5 ⊢
      clear lq4 all aln en el
      walk_at "mgo"
      refine R.r_ite (fun e => ?_) (fun e => ?_)
      · walk_at "mgo"
        obtain ⟨dx, ex⟩ := lq5.ex
        refine ⟨x, dx, _, rfl, ex, rfl, ?_⟩
        walk_at "mgo"
        refine ⟨ad2', x, dx, _, _, rfl, ex, rfl, ad2', _, _, rfl, lq5.O2, fun pB _ _ _ HC sC _ _ _ dC => ?_⟩
        have lq6 := lq5.same sC
        walk_at "mgo"
        refine ⟨ad', S2, _, by rw [lq6.em]; rfl, lq6.O, fun pL HD sD dD => ?_⟩
        have lq7 := lq6.same sD
        refine LM.sh_eq (_root_.D.dp_same sD _ _ dC) dD ?_
        walk_at "mgo"
        exact ⟨_, _, _, ad', ad2', S2, rfl, lq7⟩
      · walk_at "mgo"
        exact ⟨_, _, _, ad', ad2', S2, rfl, lq5⟩
    · rintro σ H1 ⟨y3, y7, y8, ad, ad2, S, rfl, lq⟩
      walk_at "mgo"
      obtain ⟨dx, ex⟩ := lq.ex
      refine ⟨x, dx, _, rfl, ex, rfl, ?_⟩
      walk_at "mgo"
      refine ⟨ad2, x, dx, _, _, rfl, ex, rfl, ad2, _, _, rfl, lq.O2, fun pB _ _ _ HC sC _ _ _ dC => ?_⟩
      have lq := lq.same sC
      walk_at "mgo"
      refine ⟨ad, S, _, by rw [lq.em]; rfl, lq.O, fun pL HD sD dD => ?_⟩
      refine LM.eq_st (_root_.D.dp_same sD _ _ dC) dD ?_
      exact q _
end
end K60
end
namespace K60
open PySem PySem.Spec PyProof.Rows L2
theorem all_mk {l : PySem.W.OpenLaw} {w : World} {K : PySem.W.Frag} {h : Heap} {mg : Str → Option Value} {fa : Addr} (X : K.In h) (G : h.Ns mainGlobals mg) (hfa : mg "law" = some (.ref fa))
    {C1 : Addr} {C2 : Addr} {C3 : Addr} {C4 : Addr} {od1 an1 : Option Addr} {sl1 : Array (Option Value)} {oc1 kV1 dc1 pm1 cd1 ct1 : Value} {f1 : Addr} {od2 an2 : Option Addr} {sl2 : Array (Option Value)} {oc2 kV2 dc2 pm2 cd2 ct2 : Value} {f2 : Addr} {od3 an3 : Option Addr} {sl3 : Array (Option Value)} {oc3 kV3 dc3 pm3 cd3 ct3 : Value} {f3 : Addr} {od4 an4 : Option Addr} {sl4 : Array (Option Value)} {oc4 kV4 dc4 pm4 cd4 ct4 : Value} {f4 : Addr} {od5 an5 : Option Addr} {sl5 : Array (Option Value)} {oc5 kV5 dc5 pm5 cd5 ct5 : Value} {f5 : Addr} {od6 an6 : Option Addr} {sl6 : Array (Option Value)} {oc6 kV6 dc6 pm6 cd6 ct6 : Value} {f6 : Addr} {od7 an7 : Option Addr} {sl7 : Array (Option Value)} {oc7 kV7 dc7 pm7 cd7 ct7 : Value} {f7 : Addr} {od8 an8 : Option Addr} {sl8 : Array (Option Value)} {oc8 kV8 dc8 pm8 cd8 ct8 : Value} {f8 : Addr} {od9 an9 : Option Addr} {sl9 : Array (Option Value)} {oc9 kV9 dc9 pm9 cd9 ct9 : Value} {f9 : Addr} {od10 an10 : Option Addr} {sl10 : Array (Option Value)} {oc10 kV10 dc10 pm10 cd10 ct10 : Value} {f10 : Addr} {od11 an11 : Option Addr} {sl11 : Array (Option Value)} {oc11 kV11 dc11 pm11 cd11 ct11 : Value} {f11 : Addr} {od12 an12 : Option Addr} {sl12 : Array (Option Value)} {oc12 kV12 dc12 pm12 cd12 ct12 : Value} {f12 : Addr} {od13 an13 : Option Addr} {sl13 : Array (Option Value)} {oc13 kV13 dc13 pm13 cd13 ct13 : Value} {f13 : Addr} {od14 an14 : Option Addr} {sl14 : Array (Option Value)} {oc14 kV14 dc14 pm14 cd14 ct14 : Value} {f14 : Addr} {od15 an15 : Option Addr} {sl15 : Array (Option Value)} {oc15 kV15 dc15 pm15 cd15 ct15 : Value} {f15 : Addr} {od16 an16 : Option Addr} {sl16 : Array (Option Value)} {oc16 kV16 dc16 pm16 cd16 ct16 : Value} {f16 : Addr} {od17 an17 : Option Addr} {sl17 : Array (Option Value)} {oc17 kV17 dc17 pm17 cd17 ct17 : Value} {f17 : Addr} {od18 an18 : Option Addr} {sl18 : Array (Option Value)} {oc18 kV18 dc18 pm18 cd18 ct18 : Value} {f18 : Addr} {od19 an19 : Option Addr} {sl19 : Array (Option Value)} {oc19 kV19 dc19 pm19 cd19 ct19 : Value} {f19 : Addr} {od20 an20 : Option Addr} {sl20 : Array (Option Value)} {oc20 kV20 dc20 pm20 cd20 ct20 : Value} {f20 : Addr} {od21 an21 : Option Addr} {sl21 : Array (Option Value)} {oc21 kV21 dc21 pm21 cd21 ct21 : Value} {f21 : Addr} {od22 an22 : Option Addr} {sl22 : Array (Option Value)} {oc22 kV22 dc22 pm22 cd22 ct22 : Value} {f22 : Addr} {od23 an23 : Option Addr} {sl23 : Array (Option Value)} {oc23 kV23 dc23 pm23 cd23 ct23 : Value} {f23 : Addr} {od24 an24 : Option Addr} {sl24 : Array (Option Value)} {oc24 kV24 dc24 pm24 cd24 ct24 : Value} {f24 : Addr} {od25 an25 : Option Addr} {sl25 : Array (Option Value)} {oc25 kV25 dc25 pm25 cd25 ct25 : Value} {f25 : Addr} {od26 an26 : Option Addr} {sl26 : Array (Option Value)} {oc26 kV26 dc26 pm26 cd26 ct26 : Value} {f26 : Addr} {od27 an27 : Option Addr} {sl27 : Array (Option Value)} {oc27 kV27 dc27 pm27 cd27 ct27 : Value} {f27 : Addr} {od28 an28 : Option Addr} {sl28 : Array (Option Value)} {oc28 kV28 dc28 pm28 cd28 ct28 : Value} {f28 : Addr} {od29 an29 : Option Addr} {sl29 : Array (Option Value)} {oc29 kV29 dc29 pm29 cd29 ct29 : Value} {f29 : Addr} {od30 an30 : Option Addr} {sl30 : Array (Option Value)} {oc30 kV30 dc30 pm30 cd30 ct30 : Value} {f30 : Addr} {od31 an31 : Option Addr} {sl31 : Array (Option Value)} {oc31 kV31 dc31 pm31 cd31 ct31 : Value} {f31 : Addr} {od32 an32 : Option Addr} {sl32 : Array (Option Value)} {oc32 kV32 dc32 pm32 cd32 ct32 : Value} {f32 : Addr} {od33 an33 : Option Addr} {sl33 : Array (Option Value)} {oc33 kV33 dc33 pm33 cd33 ct33 : Value} {f33 : Addr} {od34 an34 : Option Addr} {sl34 : Array (Option Value)} {oc34 kV34 dc34 pm34 cd34 ct34 : Value} {f34 : Addr} {od35 an35 : Option Addr} {sl35 : Array (Option Value)} {oc35 kV35 dc35 pm35 cd35 ct35 : Value} {f35 : Addr} {od36 an36 : Option Addr} {sl36 : Array (Option Value)} {oc36 kV36 dc36 pm36 cd36 ct36 : Value} {f36 : Addr} {od37 an37 : Option Addr} {sl37 : Array (Option Value)} {oc37 kV37 dc37 pm37 cd37 ct37 : Value} {f37 : Addr} {od38 an38 : Option Addr} {sl38 : Array (Option Value)} {oc38 kV38 dc38 pm38 cd38 ct38 : Value} {f38 : Addr} {od39 an39 : Option Addr} {sl39 : Array (Option Value)} {oc39 kV39 dc39 pm39 cd39 ct39 : Value} {f39 : Addr} {od40 an40 : Option Addr} {sl40 : Array (Option Value)} {oc40 kV40 dc40 pm40 cd40 ct40 : Value} {f40 : Addr} {od41 an41 : Option Addr} {sl41 : Array (Option Value)} {oc41 kV41 dc41 pm41 cd41 ct41 : Value} {f41 : Addr} {od42 an42 : Option Addr} {sl42 : Array (Option Value)} {oc42 kV42 dc42 pm42 cd42 ct42 : Value} {f42 : Addr} {od43 an43 : Option Addr} {sl43 : Array (Option Value)} {oc43 kV43 dc43 pm43 cd43 ct43 : Value} {f43 : Addr} {od44 an44 : Option Addr} {sl44 : Array (Option Value)} {oc44 kV44 dc44 pm44 cd44 ct44 : Value} {f44 : Addr} {od45 an45 : Option Addr} {sl45 : Array (Option Value)} {oc45 kV45 dc45 pm45 cd45 ct45 : Value} {f45 : Addr} {od46 an46 : Option Addr} {sl46 : Array (Option Value)} {oc46 kV46 dc46 pm46 cd46 ct46 : Value} {f46 : Addr} {od47 an47 : Option Addr} {sl47 : Array (Option Value)} {oc47 kV47 dc47 pm47 cd47 ct47 : Value} {f47 : Addr} {od48 an48 : Option Addr} {sl48 : Array (Option Value)} {oc48 kV48 dc48 pm48 cd48 ct48 : Value} {f48 : Addr} {od49 an49 : Option Addr} {sl49 : Array (Option Value)} {oc49 kV49 dc49 pm49 cd49 ct49 : Value} {f49 : Addr} {od50 an50 : Option Addr} {sl50 : Array (Option Value)} {oc50 kV50 dc50 pm50 cd50 ct50 : Value} {f50 : Addr} {od51 an51 : Option Addr} {sl51 : Array (Option Value)} {oc51 kV51 dc51 pm51 cd51 ct51 : Value} {f51 : Addr} {od52 an52 : Option Addr} {sl52 : Array (Option Value)} {oc52 kV52 dc52 pm52 cd52 ct52 : Value} {f52 : Addr} {od53 an53 : Option Addr} {sl53 : Array (Option Value)} {oc53 kV53 dc53 pm53 cd53 ct53 : Value} {f53 : Addr} {w1 : Value} {w2 : Value} {w3 : Value} {w4 : Value} {w5 : Value} {w6 : Value} {w7 : Value} {w8 : Value} {w9 : Value} {w10 : Value} {w11 : Value} {w12 : Value} {w13 : Value} {w14 : Value} {w15 : Value} {w16 : Value} {w17 : Value} {w18 : Value} {w19 : Value} {w20 : Value} {w21 : Value} {w22 : Value} {w23 : Value} {ta1 : Addr} {td1 : Option Addr} {ti1 : Array Value} {tk1 : Nat} {ts1 : Array (Option Value)}
    (ca1 : PySem.W.nsIn K mainGlobals "Thread" = some (some (.ref C1)))
    (ca2 : PySem.W.nsIn K mainGlobals "Board" = some (some (.ref C2)))
    (ca3 : PySem.W.nsIn K mainGlobals "PlainMemory" = some (some (.ref C3)))
    (ca4 : PySem.W.nsIn K mainGlobals "Machine" = some (some (.ref C4)))
    (fi1 : PySem.W.findIn K (.ref C1) "__init__" = some (some (.ref f1)))
    (l1 : K.lookup f1 = some ⟨oc1, od1, .func (PySem.W.fnOf "__init__" "Thread.__init__" (defArgs s_Thread___init__) (defBody s_Thread___init__) (defScope s_Thread___init__) .none kV1 dc1 pm1 an1 cd1 ct1), sl1⟩)
    (c1 : PySem.W.codeIn K cd1 "Thread.__init__" = true)
    (k1 : PySem.W.keepIn K (.ref f1) = true)
    (fi2 : PySem.W.findIn K (.ref C1) "image" = some (some (.ref f2)))
    (l2 : K.lookup f2 = some ⟨oc2, od2, .func (PySem.W.fnOf "image" "Thread.image" (defArgs s_Thread_image) (defBody s_Thread_image) (defScope s_Thread_image) .none kV2 dc2 pm2 an2 cd2 ct2), sl2⟩)
    (c2 : PySem.W.codeIn K cd2 "Thread.image" = true)
    (k2 : PySem.W.keepIn K (.ref f2) = true)
    (fi3 : PySem.W.findIn K (.ref C2) "__init__" = some (some (.ref f3)))
    (l3 : K.lookup f3 = some ⟨oc3, od3, .func (PySem.W.fnOf "__init__" "Board.__init__" (defArgs s_Board___init__) (defBody s_Board___init__) (defScope s_Board___init__) .none kV3 dc3 pm3 an3 cd3 ct3), sl3⟩)
    (c3 : PySem.W.codeIn K cd3 "Board.__init__" = true)
    (k3 : PySem.W.keepIn K (.ref f3) = true)
    (fi4 : PySem.W.findIn K (.ref C2) "begin_pick" = some (some (.ref f4)))
    (l4 : K.lookup f4 = some ⟨oc4, od4, .func (PySem.W.fnOf "begin_pick" "Board.begin_pick" (defArgs s_Board_begin_pick) (defBody s_Board_begin_pick) (defScope s_Board_begin_pick) .none kV4 dc4 pm4 an4 cd4 ct4), sl4⟩)
    (c4 : PySem.W.codeIn K cd4 "Board.begin_pick" = true)
    (k4 : PySem.W.keepIn K (.ref f4) = true)
    (fi5 : PySem.W.findIn K (.ref C2) "end_pick" = some (some (.ref f5)))
    (l5 : K.lookup f5 = some ⟨oc5, od5, .func (PySem.W.fnOf "end_pick" "Board.end_pick" (defArgs s_Board_end_pick) (defBody s_Board_end_pick) (defScope s_Board_end_pick) .none kV5 dc5 pm5 an5 cd5 ct5), sl5⟩)
    (c5 : PySem.W.codeIn K cd5 "Board.end_pick" = true)
    (k5 : PySem.W.keepIn K (.ref f5) = true)
    (fi6 : PySem.W.findIn K (.ref C2) "now" = some (some (.ref f6)))
    (l6 : K.lookup f6 = some ⟨oc6, od6, .func (PySem.W.fnOf "now" "Board.now" (defArgs s_Board_now) (defBody s_Board_now) (defScope s_Board_now) .none kV6 dc6 pm6 an6 cd6 ct6), sl6⟩)
    (c6 : PySem.W.codeIn K cd6 "Board.now" = true)
    (k6 : PySem.W.keepIn K (.ref f6) = true)
    (fi7 : PySem.W.findIn K (.ref C2) "tell" = some (some (.ref f7)))
    (l7 : K.lookup f7 = some ⟨oc7, od7, .func (PySem.W.fnOf "tell" "Board.tell" (defArgs s_Board_tell) (defBody s_Board_tell) (defScope s_Board_tell) .none kV7 dc7 pm7 an7 cd7 ct7), sl7⟩)
    (c7 : PySem.W.codeIn K cd7 "Board.tell" = true)
    (k7 : PySem.W.keepIn K (.ref f7) = true)
    (fi8 : PySem.W.findIn K (.ref C2) "tell_tick" = some (some (.ref f8)))
    (l8 : K.lookup f8 = some ⟨oc8, od8, .func (PySem.W.fnOf "tell_tick" "Board.tell_tick" (defArgs s_Board_tell_tick) (defBody s_Board_tell_tick) (defScope s_Board_tell_tick) .none kV8 dc8 pm8 an8 cd8 ct8), sl8⟩)
    (c8 : PySem.W.codeIn K cd8 "Board.tell_tick" = true)
    (k8 : PySem.W.keepIn K (.ref f8) = true)
    (fi9 : PySem.W.findIn K (.ref C2) "add_thread" = some (some (.ref f9)))
    (l9 : K.lookup f9 = some ⟨oc9, od9, .func (PySem.W.fnOf "add_thread" "Board.add_thread" (defArgs s_Board_add_thread) (defBody s_Board_add_thread) (defScope s_Board_add_thread) .none kV9 dc9 pm9 an9 cd9 ct9), sl9⟩)
    (c9 : PySem.W.codeIn K cd9 "Board.add_thread" = true)
    (k9 : PySem.W.keepIn K (.ref f9) = true)
    (fi10 : PySem.W.findIn K (.ref C2) "begin_run" = some (some (.ref f10)))
    (l10 : K.lookup f10 = some ⟨oc10, od10, .func (PySem.W.fnOf "begin_run" "Board.begin_run" (defArgs s_Board_begin_run) (defBody s_Board_begin_run) (defScope s_Board_begin_run) .none kV10 dc10 pm10 an10 cd10 ct10), sl10⟩)
    (c10 : PySem.W.codeIn K cd10 "Board.begin_run" = true)
    (k10 : PySem.W.keepIn K (.ref f10) = true)
    (fi11 : PySem.W.findIn K (.ref C2) "end_run" = some (some (.ref f11)))
    (l11 : K.lookup f11 = some ⟨oc11, od11, .func (PySem.W.fnOf "end_run" "Board.end_run" (defArgs s_Board_end_run) (defBody s_Board_end_run) (defScope s_Board_end_run) .none kV11 dc11 pm11 an11 cd11 ct11), sl11⟩)
    (c11 : PySem.W.codeIn K cd11 "Board.end_run" = true)
    (k11 : PySem.W.keepIn K (.ref f11) = true)
    (fi12 : PySem.W.findIn K (.ref C2) "make_ready" = some (some (.ref f12)))
    (l12 : K.lookup f12 = some ⟨oc12, od12, .func (PySem.W.fnOf "make_ready" "Board.make_ready" (defArgs s_Board_make_ready) (defBody s_Board_make_ready) (defScope s_Board_make_ready) .none kV12 dc12 pm12 an12 cd12 ct12), sl12⟩)
    (c12 : PySem.W.codeIn K cd12 "Board.make_ready" = true)
    (k12 : PySem.W.keepIn K (.ref f12) = true)
    (fi13 : PySem.W.findIn K (.ref C2) "state" = some (some (.ref f13)))
    (l13 : K.lookup f13 = some ⟨oc13, od13, .func (PySem.W.fnOf "state" "Board.state" (defArgs s_Board_state) (defBody s_Board_state) (defScope s_Board_state) .none kV13 dc13 pm13 an13 cd13 ct13), sl13⟩)
    (c13 : PySem.W.codeIn K cd13 "Board.state" = true)
    (k13 : PySem.W.keepIn K (.ref f13) = true)
    (fi14 : PySem.W.findIn K (.ref C3) "__init__" = some (some (.ref f14)))
    (l14 : K.lookup f14 = some ⟨oc14, od14, .func (PySem.W.fnOf "__init__" "PlainMemory.__init__" (defArgs s_PlainMemory___init__) (defBody s_PlainMemory___init__) (defScope s_PlainMemory___init__) .none kV14 dc14 pm14 an14 cd14 ct14), sl14⟩)
    (c14 : PySem.W.codeIn K cd14 "PlainMemory.__init__" = true)
    (k14 : PySem.W.keepIn K (.ref f14) = true)
    (fi15 : PySem.W.findIn K (.ref C3) "load" = some (some (.ref f15)))
    (l15 : K.lookup f15 = some ⟨oc15, od15, .func (PySem.W.fnOf "load" "PlainMemory.load" (defArgs s_PlainMemory_load) (defBody s_PlainMemory_load) (defScope s_PlainMemory_load) .none kV15 dc15 pm15 an15 cd15 ct15), sl15⟩)
    (c15 : PySem.W.codeIn K cd15 "PlainMemory.load" = true)
    (k15 : PySem.W.keepIn K (.ref f15) = true)
    (fi16 : PySem.W.findIn K (.ref C3) "store" = some (some (.ref f16)))
    (l16 : K.lookup f16 = some ⟨oc16, od16, .func (PySem.W.fnOf "store" "PlainMemory.store" (defArgs s_PlainMemory_store) (defBody s_PlainMemory_store) (defScope s_PlainMemory_store) .none kV16 dc16 pm16 an16 cd16 ct16), sl16⟩)
    (c16 : PySem.W.codeIn K cd16 "PlainMemory.store" = true)
    (k16 : PySem.W.keepIn K (.ref f16) = true)
    (fi17 : PySem.W.findIn K (.ref C3) "image" = some (some (.ref f17)))
    (l17 : K.lookup f17 = some ⟨oc17, od17, .func (PySem.W.fnOf "image" "PlainMemory.image" (defArgs s_PlainMemory_image) (defBody s_PlainMemory_image) (defScope s_PlainMemory_image) .none kV17 dc17 pm17 an17 cd17 ct17), sl17⟩)
    (c17 : PySem.W.codeIn K cd17 "PlainMemory.image" = true)
    (k17 : PySem.W.keepIn K (.ref f17) = true)
    (fi18 : PySem.W.findIn K (.ref C3) "tells" = some (some (.ref f18)))
    (l18 : K.lookup f18 = some ⟨oc18, od18, .func (PySem.W.fnOf "tells" "PlainMemory.tells" (defArgs s_PlainMemory_tells) (defBody s_PlainMemory_tells) (defScope s_PlainMemory_tells) .none kV18 dc18 pm18 an18 cd18 ct18), sl18⟩)
    (c18 : PySem.W.codeIn K cd18 "PlainMemory.tells" = true)
    (k18 : PySem.W.keepIn K (.ref f18) = true)
    (a19 : PySem.W.nsIn K mainGlobals "filled" = some (some (.ref f19)))
    (l19 : K.lookup f19 = some ⟨oc19, od19, .func (PySem.W.fnOf "filled" "filled" (defArgs s_filled) (defBody s_filled) (defScope s_filled) .none kV19 dc19 pm19 an19 cd19 ct19), sl19⟩)
    (c19 : PySem.W.codeIn K cd19 "filled" = true)
    (k19 : PySem.W.keepIn K (.ref f19) = true)
    (a20 : PySem.W.nsIn K mainGlobals "do_call" = some (some (.ref f20)))
    (l20 : K.lookup f20 = some ⟨oc20, od20, .func (PySem.W.fnOf "do_call" "do_call" (defArgs s_do_call) (defBody s_do_call) (defScope s_do_call) .none kV20 dc20 pm20 an20 cd20 ct20), sl20⟩)
    (c20 : PySem.W.codeIn K cd20 "do_call" = true)
    (k20 : PySem.W.keepIn K (.ref f20) = true)
    (a21 : PySem.W.nsIn K mainGlobals "return_call" = some (some (.ref f21)))
    (l21 : K.lookup f21 = some ⟨oc21, od21, .func (PySem.W.fnOf "return_call" "return_call" (defArgs s_return_call) (defBody s_return_call) (defScope s_return_call) .none kV21 dc21 pm21 an21 cd21 ct21), sl21⟩)
    (c21 : PySem.W.codeIn K cd21 "return_call" = true)
    (k21 : PySem.W.keepIn K (.ref f21) = true)
    (a22 : PySem.W.nsIn K mainGlobals "end_thread" = some (some (.ref f22)))
    (l22 : K.lookup f22 = some ⟨oc22, od22, .func (PySem.W.fnOf "end_thread" "end_thread" (defArgs s_end_thread) (defBody s_end_thread) (defScope s_end_thread) .none kV22 dc22 pm22 an22 cd22 ct22), sl22⟩)
    (c22 : PySem.W.codeIn K cd22 "end_thread" = true)
    (k22 : PySem.W.keepIn K (.ref f22) = true)
    (a23 : PySem.W.nsIn K mainGlobals "leave" = some (some (.ref f23)))
    (l23 : K.lookup f23 = some ⟨oc23, od23, .func (PySem.W.fnOf "leave" "leave" (defArgs s_leave) (defBody s_leave) (defScope s_leave) .none kV23 dc23 pm23 an23 cd23 ct23), sl23⟩)
    (c23 : PySem.W.codeIn K cd23 "leave" = true)
    (k23 : PySem.W.keepIn K (.ref f23) = true)
    (a24 : PySem.W.nsIn K mainGlobals "go_last" = some (some (.ref f24)))
    (l24 : K.lookup f24 = some ⟨oc24, od24, .func (PySem.W.fnOf "go_last" "go_last" (defArgs s_go_last) (defBody s_go_last) (defScope s_go_last) .none kV24 dc24 pm24 an24 cd24 ct24), sl24⟩)
    (c24 : PySem.W.codeIn K cd24 "go_last" = true)
    (k24 : PySem.W.keepIn K (.ref f24) = true)
    (a25 : PySem.W.nsIn K mainGlobals "begin_thread" = some (some (.ref f25)))
    (l25 : K.lookup f25 = some ⟨oc25, od25, .func (PySem.W.fnOf "begin_thread" "begin_thread" (defArgs s_begin_thread) (defBody s_begin_thread) (defScope s_begin_thread) .none kV25 dc25 pm25 an25 cd25 ct25), sl25⟩)
    (c25 : PySem.W.codeIn K cd25 "begin_thread" = true)
    (k25 : PySem.W.keepIn K (.ref f25) = true)
    (a26 : PySem.W.nsIn K mainGlobals "wait_for" = some (some (.ref f26)))
    (l26 : K.lookup f26 = some ⟨oc26, od26, .func (PySem.W.fnOf "wait_for" "wait_for" (defArgs s_wait_for) (defBody s_wait_for) (defScope s_wait_for) .none kV26 dc26 pm26 an26 cd26 ct26), sl26⟩)
    (c26 : PySem.W.codeIn K cd26 "wait_for" = true)
    (k26 : PySem.W.keepIn K (.ref f26) = true)
    (a27 : PySem.W.nsIn K mainGlobals "do_instruction" = some (some (.ref f27)))
    (l27 : K.lookup f27 = some ⟨oc27, od27, .func (PySem.W.fnOf "do_instruction" "do_instruction" (defArgs s_do_instruction) (defBody s_do_instruction) (defScope s_do_instruction) .none kV27 dc27 pm27 an27 cd27 ct27), sl27⟩)
    (c27 : PySem.W.codeIn K cd27 "do_instruction" = true)
    (k27 : PySem.W.keepIn K (.ref f27) = true)
    (a28 : PySem.W.nsIn K mainGlobals "next_pc" = some (some (.ref f28)))
    (l28 : K.lookup f28 = some ⟨oc28, od28, .func (PySem.W.fnOf "next_pc" "next_pc" (defArgs s_next_pc) (defBody s_next_pc) (defScope s_next_pc) .none kV28 dc28 pm28 an28 cd28 ct28), sl28⟩)
    (c28 : PySem.W.codeIn K cd28 "next_pc" = true)
    (k28 : PySem.W.keepIn K (.ref f28) = true)
    (a29 : PySem.W.nsIn K mainGlobals "move" = some (some (.ref f29)))
    (l29 : K.lookup f29 = some ⟨oc29, od29, .func (PySem.W.fnOf "move" "move" (defArgs s_move) (defBody s_move) (defScope s_move) .none kV29 dc29 pm29 an29 cd29 ct29), sl29⟩)
    (c29 : PySem.W.codeIn K cd29 "move" = true)
    (k29 : PySem.W.keepIn K (.ref f29) = true)
    (a30 : PySem.W.nsIn K mainGlobals "do_pick" = some (some (.ref f30)))
    (l30 : K.lookup f30 = some ⟨oc30, od30, .func (PySem.W.fnOf "do_pick" "do_pick" (defArgs s_do_pick) (defBody s_do_pick) (defScope s_do_pick) .none kV30 dc30 pm30 an30 cd30 ct30), sl30⟩)
    (c30 : PySem.W.codeIn K cd30 "do_pick" = true)
    (k30 : PySem.W.keepIn K (.ref f30) = true)
    (a31 : PySem.W.nsIn K mainGlobals "wake" = some (some (.ref f31)))
    (l31 : K.lookup f31 = some ⟨oc31, od31, .func (PySem.W.fnOf "wake" "wake" (defArgs s_wake) (defBody s_wake) (defScope s_wake) .none kV31 dc31 pm31 an31 cd31 ct31), sl31⟩)
    (c31 : PySem.W.codeIn K cd31 "wake" = true)
    (k31 : PySem.W.keepIn K (.ref f31) = true)
    (a32 : PySem.W.nsIn K mainGlobals "do_step" = some (some (.ref f32)))
    (l32 : K.lookup f32 = some ⟨oc32, od32, .func (PySem.W.fnOf "do_step" "do_step" (defArgs s_do_step) (defBody s_do_step) (defScope s_do_step) .none kV32 dc32 pm32 an32 cd32 ct32), sl32⟩)
    (c32 : PySem.W.codeIn K cd32 "do_step" = true)
    (k32 : PySem.W.keepIn K (.ref f32) = true)
    (a33 : PySem.W.nsIn K mainGlobals "do_timer" = some (some (.ref f33)))
    (l33 : K.lookup f33 = some ⟨oc33, od33, .func (PySem.W.fnOf "do_timer" "do_timer" (defArgs s_do_timer) (defBody s_do_timer) (defScope s_do_timer) .none kV33 dc33 pm33 an33 cd33 ct33), sl33⟩)
    (c33 : PySem.W.codeIn K cd33 "do_timer" = true)
    (k33 : PySem.W.keepIn K (.ref f33) = true)
    (a34 : PySem.W.nsIn K mainGlobals "do_request" = some (some (.ref f34)))
    (l34 : K.lookup f34 = some ⟨oc34, od34, .func (PySem.W.fnOf "do_request" "do_request" (defArgs s_do_request) (defBody s_do_request) (defScope s_do_request) .none kV34 dc34 pm34 an34 cd34 ct34), sl34⟩)
    (c34 : PySem.W.codeIn K cd34 "do_request" = true)
    (k34 : PySem.W.keepIn K (.ref f34) = true)
    (fi35 : PySem.W.findIn K (.ref C4) "__init__" = some (some (.ref f35)))
    (l35 : K.lookup f35 = some ⟨oc35, od35, .func (PySem.W.fnOf "__init__" "Machine.__init__" (defArgs s_Machine___init__) (defBody s_Machine___init__) (defScope s_Machine___init__) .none kV35 dc35 pm35 an35 cd35 ct35), sl35⟩)
    (c35 : PySem.W.codeIn K cd35 "Machine.__init__" = true)
    (k35 : PySem.W.keepIn K (.ref f35) = true)
    (fi36 : PySem.W.findIn K (.ref C4) "step" = some (some (.ref f36)))
    (l36 : K.lookup f36 = some ⟨oc36, od36, .func (PySem.W.fnOf "step" "Machine.step" (defArgs s_Machine_step) (defBody s_Machine_step) (defScope s_Machine_step) .none kV36 dc36 pm36 an36 cd36 ct36), sl36⟩)
    (c36 : PySem.W.codeIn K cd36 "Machine.step" = true)
    (k36 : PySem.W.keepIn K (.ref f36) = true)
    (fi37 : PySem.W.findIn K (.ref C4) "state" = some (some (.ref f37)))
    (l37 : K.lookup f37 = some ⟨oc37, od37, .func (PySem.W.fnOf "state" "Machine.state" (defArgs s_Machine_state) (defBody s_Machine_state) (defScope s_Machine_state) .none kV37 dc37 pm37 an37 cd37 ct37), sl37⟩)
    (c37 : PySem.W.codeIn K cd37 "Machine.state" = true)
    (k37 : PySem.W.keepIn K (.ref f37) = true)
    (a38 : PySem.W.nsIn K mainGlobals "_law_draws" = some (some (.ref f38)))
    (l38 : K.lookup f38 = some ⟨oc38, od38, .func (PySem.W.fnOf "_law_draws" "_law_draws" (defArgs s_law_draws) (defBody s_law_draws) (defScope s_law_draws) .none kV38 dc38 pm38 an38 cd38 ct38), sl38⟩)
    (c38 : PySem.W.codeIn K cd38 "_law_draws" = true)
    (k38 : PySem.W.keepIn K (.ref f38) = true)
    (a39 : PySem.W.nsIn K mainGlobals "_law_next" = some (some (.ref f39)))
    (l39 : K.lookup f39 = some ⟨oc39, od39, .func (PySem.W.fnOf "_law_next" "_law_next" (defArgs s_law_next) (defBody s_law_next) (defScope s_law_next) .none kV39 dc39 pm39 an39 cd39 ct39), sl39⟩)
    (c39 : PySem.W.codeIn K cd39 "_law_next" = true)
    (k39 : PySem.W.keepIn K (.ref f39) = true)
    (a40 : PySem.W.nsIn K mainGlobals "_law_program" = some (some (.ref f40)))
    (l40 : K.lookup f40 = some ⟨oc40, od40, .func (PySem.W.fnOf "_law_program" "_law_program" (defArgs s_law_program) (defBody s_law_program) (defScope s_law_program) .none kV40 dc40 pm40 an40 cd40 ct40), sl40⟩)
    (c40 : PySem.W.codeIn K cd40 "_law_program" = true)
    (k40 : PySem.W.keepIn K (.ref f40) = true)
    (a41 : PySem.W.nsIn K mainGlobals "_law_pick" = some (some (.ref f41)))
    (l41 : K.lookup f41 = some ⟨oc41, od41, .func (PySem.W.fnOf "_law_pick" "_law_pick" (defArgs s_law_pick) (defBody s_law_pick) (defScope s_law_pick) .none kV41 dc41 pm41 an41 cd41 ct41), sl41⟩)
    (c41 : PySem.W.codeIn K cd41 "_law_pick" = true)
    (k41 : PySem.W.keepIn K (.ref f41) = true)
    (a42 : PySem.W.nsIn K mainGlobals "_law_model" = some (some (.ref f42)))
    (l42 : K.lookup f42 = some ⟨oc42, od42, .func (PySem.W.fnOf "_law_model" "_law_model" (defArgs s_law_model) (defBody s_law_model) (defScope s_law_model) .none kV42 dc42 pm42 an42 cd42 ct42), sl42⟩)
    (c42 : PySem.W.codeIn K cd42 "_law_model" = true)
    (k42 : PySem.W.keepIn K (.ref f42) = true)
    (a43 : PySem.W.nsIn K mainGlobals "_law_begin" = some (some (.ref f43)))
    (l43 : K.lookup f43 = some ⟨oc43, od43, .func (PySem.W.fnOf "_law_begin" "_law_begin" (defArgs s_law_begin) (defBody s_law_begin) (defScope s_law_begin) .none kV43 dc43 pm43 an43 cd43 ct43), sl43⟩)
    (c43 : PySem.W.codeIn K cd43 "_law_begin" = true)
    (k43 : PySem.W.keepIn K (.ref f43) = true)
    (a44 : PySem.W.nsIn K mainGlobals "_law_tell" = some (some (.ref f44)))
    (l44 : K.lookup f44 = some ⟨oc44, od44, .func (PySem.W.fnOf "_law_tell" "_law_tell" (defArgs s_law_tell) (defBody s_law_tell) (defScope s_law_tell) .none kV44 dc44 pm44 an44 cd44 ct44), sl44⟩)
    (c44 : PySem.W.codeIn K cd44 "_law_tell" = true)
    (k44 : PySem.W.keepIn K (.ref f44) = true)
    (a45 : PySem.W.nsIn K mainGlobals "_law_returns" = some (some (.ref f45)))
    (l45 : K.lookup f45 = some ⟨oc45, od45, .func (PySem.W.fnOf "_law_returns" "_law_returns" (defArgs s_law_returns) (defBody s_law_returns) (defScope s_law_returns) .none kV45 dc45 pm45 an45 cd45 ct45), sl45⟩)
    (c45 : PySem.W.codeIn K cd45 "_law_returns" = true)
    (k45 : PySem.W.keepIn K (.ref f45) = true)
    (a46 : PySem.W.nsIn K mainGlobals "_law_off" = some (some (.ref f46)))
    (l46 : K.lookup f46 = some ⟨oc46, od46, .func (PySem.W.fnOf "_law_off" "_law_off" (defArgs s_law_off) (defBody s_law_off) (defScope s_law_off) .none kV46 dc46 pm46 an46 cd46 ct46), sl46⟩)
    (c46 : PySem.W.codeIn K cd46 "_law_off" = true)
    (k46 : PySem.W.keepIn K (.ref f46) = true)
    (a47 : PySem.W.nsIn K mainGlobals "_law_ends" = some (some (.ref f47)))
    (l47 : K.lookup f47 = some ⟨oc47, od47, .func (PySem.W.fnOf "_law_ends" "_law_ends" (defArgs s_law_ends) (defBody s_law_ends) (defScope s_law_ends) .none kV47 dc47 pm47 an47 cd47 ct47), sl47⟩)
    (c47 : PySem.W.codeIn K cd47 "_law_ends" = true)
    (k47 : PySem.W.keepIn K (.ref f47) = true)
    (a48 : PySem.W.nsIn K mainGlobals "_law_call" = some (some (.ref f48)))
    (l48 : K.lookup f48 = some ⟨oc48, od48, .func (PySem.W.fnOf "_law_call" "_law_call" (defArgs s_law_call) (defBody s_law_call) (defScope s_law_call) .none kV48 dc48 pm48 an48 cd48 ct48), sl48⟩)
    (c48 : PySem.W.codeIn K cd48 "_law_call" = true)
    (k48 : PySem.W.keepIn K (.ref f48) = true)
    (a49 : PySem.W.nsIn K mainGlobals "_law_instruction" = some (some (.ref f49)))
    (l49 : K.lookup f49 = some ⟨oc49, od49, .func (PySem.W.fnOf "_law_instruction" "_law_instruction" (defArgs s_law_instruction) (defBody s_law_instruction) (defScope s_law_instruction) .none kV49 dc49 pm49 an49 cd49 ct49), sl49⟩)
    (c49 : PySem.W.codeIn K cd49 "_law_instruction" = true)
    (k49 : PySem.W.keepIn K (.ref f49) = true)
    (a50 : PySem.W.nsIn K mainGlobals "_law_step" = some (some (.ref f50)))
    (l50 : K.lookup f50 = some ⟨oc50, od50, .func (PySem.W.fnOf "_law_step" "_law_step" (defArgs s_law_step) (defBody s_law_step) (defScope s_law_step) .none kV50 dc50 pm50 an50 cd50 ct50), sl50⟩)
    (c50 : PySem.W.codeIn K cd50 "_law_step" = true)
    (k50 : PySem.W.keepIn K (.ref f50) = true)
    (a51 : PySem.W.nsIn K mainGlobals "_law_state" = some (some (.ref f51)))
    (l51 : K.lookup f51 = some ⟨oc51, od51, .func (PySem.W.fnOf "_law_state" "_law_state" (defArgs s_law_state) (defBody s_law_state) (defScope s_law_state) .none kV51 dc51 pm51 an51 cd51 ct51), sl51⟩)
    (c51 : PySem.W.codeIn K cd51 "_law_state" = true)
    (k51 : PySem.W.keepIn K (.ref f51) = true)
    (a52 : PySem.W.nsIn K mainGlobals "_law_longer" = some (some (.ref f52)))
    (l52 : K.lookup f52 = some ⟨oc52, od52, .func (PySem.W.fnOf "_law_longer" "_law_longer" (defArgs s_law_longer) (defBody s_law_longer) (defScope s_law_longer) .none kV52 dc52 pm52 an52 cd52 ct52), sl52⟩)
    (c52 : PySem.W.codeIn K cd52 "_law_longer" = true)
    (k52 : PySem.W.keepIn K (.ref f52) = true)
    (a53 : PySem.W.nsIn K mainGlobals "law" = some (some (.ref f53)))
    (l53 : K.lookup f53 = some ⟨oc53, od53, .func (PySem.W.fnOf "law" "law" (defArgs s_law) (defBody s_law) (defScope s_law) .none kV53 dc53 pm53 an53 cd53 ct53), sl53⟩)
    (c53 : PySem.W.codeIn K cd53 "law" = true)
    (k53 : PySem.W.keepIn K (.ref f53) = true)
    (pg1 : PySem.W.plainGet K C1 Str.empty = true)
    (hd1 : PySem.W.hasDictIn K C1 = true)
    (po1 : PySem.W.plainOver K C1 = true)
    (sa1 : PySem.W.findIn K (.ref C1) "__setattr__" = some (some (.builtin "object.__setattr__")))
    (mk1 : PySem.W.makesIn K C1 = true)
    (kc1 : PySem.W.keepIn K (.ref C1) = true)
    (is1 : PySem.W.isFn K (.ref f1) = true)
    (is2 : PySem.W.isFn K (.ref f2) = true)
    (na_Thread_pid : PySem.W.findIn K (.ref C1) "pid" = some none)
    (na_Thread_pc : PySem.W.findIn K (.ref C1) "pc" = some none)
    (na_Thread_regs : PySem.W.findIn K (.ref C1) "regs" = some none)
    (na_Thread_condition : PySem.W.findIn K (.ref C1) "condition" = some none)
    (na_Thread_call : PySem.W.findIn K (.ref C1) "call" = some none)
    (na_Thread_call_at : PySem.W.findIn K (.ref C1) "call_at" = some none)
    (pg2 : PySem.W.plainGet K C2 Str.empty = true)
    (hd2 : PySem.W.hasDictIn K C2 = true)
    (po2 : PySem.W.plainOver K C2 = true)
    (sa2 : PySem.W.findIn K (.ref C2) "__setattr__" = some (some (.builtin "object.__setattr__")))
    (mk2 : PySem.W.makesIn K C2 = true)
    (kc2 : PySem.W.keepIn K (.ref C2) = true)
    (is3 : PySem.W.isFn K (.ref f3) = true)
    (is4 : PySem.W.isFn K (.ref f4) = true)
    (is5 : PySem.W.isFn K (.ref f5) = true)
    (is6 : PySem.W.isFn K (.ref f6) = true)
    (is7 : PySem.W.isFn K (.ref f7) = true)
    (is8 : PySem.W.isFn K (.ref f8) = true)
    (is9 : PySem.W.isFn K (.ref f9) = true)
    (is10 : PySem.W.isFn K (.ref f10) = true)
    (is11 : PySem.W.isFn K (.ref f11) = true)
    (is12 : PySem.W.isFn K (.ref f12) = true)
    (is13 : PySem.W.isFn K (.ref f13) = true)
    (na_Board_memories : PySem.W.findIn K (.ref C2) "memories" = some none)
    (na_Board_rates : PySem.W.findIn K (.ref C2) "rates" = some none)
    (na_Board_threads : PySem.W.findIn K (.ref C2) "threads" = some none)
    (na_Board_ready : PySem.W.findIn K (.ref C2) "ready" = some none)
    (na_Board_times : PySem.W.findIn K (.ref C2) "times" = some none)
    (na_Board_running : PySem.W.findIn K (.ref C2) "running" = some none)
    (na_Board_device_value : PySem.W.findIn K (.ref C2) "device_value" = some none)
    (na_Board_requests : PySem.W.findIn K (.ref C2) "requests" = some none)
    (na_Board_cpu : PySem.W.findIn K (.ref C2) "cpu" = some none)
    (na_Board_views : PySem.W.findIn K (.ref C2) "views" = some none)
    (pg3 : PySem.W.plainGet K C3 Str.empty = true)
    (hd3 : PySem.W.hasDictIn K C3 = true)
    (po3 : PySem.W.plainOver K C3 = true)
    (sa3 : PySem.W.findIn K (.ref C3) "__setattr__" = some (some (.builtin "object.__setattr__")))
    (mk3 : PySem.W.makesIn K C3 = true)
    (kc3 : PySem.W.keepIn K (.ref C3) = true)
    (is14 : PySem.W.isFn K (.ref f14) = true)
    (is15 : PySem.W.isFn K (.ref f15) = true)
    (is16 : PySem.W.isFn K (.ref f16) = true)
    (is17 : PySem.W.isFn K (.ref f17) = true)
    (is18 : PySem.W.isFn K (.ref f18) = true)
    (na_PlainMemory_cells : PySem.W.findIn K (.ref C3) "cells" = some none)
    (pg4 : PySem.W.plainGet K C4 Str.empty = true)
    (hd4 : PySem.W.hasDictIn K C4 = true)
    (po4 : PySem.W.plainOver K C4 = true)
    (sa4 : PySem.W.findIn K (.ref C4) "__setattr__" = some (some (.builtin "object.__setattr__")))
    (mk4 : PySem.W.makesIn K C4 = true)
    (kc4 : PySem.W.keepIn K (.ref C4) = true)
    (is35 : PySem.W.isFn K (.ref f35) = true)
    (is36 : PySem.W.isFn K (.ref f36) = true)
    (is37 : PySem.W.isFn K (.ref f37) = true)
    (na_Machine_board : PySem.W.findIn K (.ref C4) "board" = some none)
    (z1 : PySem.W.nsIn K mainGlobals "abs" = some none)
    (z2 : PySem.W.nsIn K mainGlobals "enumerate" = some none)
    (z3 : PySem.W.nsIn K mainGlobals "int" = some none)
    (z4 : PySem.W.nsIn K mainGlobals "isinstance" = some none)
    (z5 : PySem.W.nsIn K mainGlobals "len" = some none)
    (z6 : PySem.W.nsIn K mainGlobals "list" = some none)
    (z7 : PySem.W.nsIn K mainGlobals "range" = some none)
    (z8 : PySem.W.nsIn K mainGlobals "tuple" = some none)
    (z9 : PySem.W.nsIn K mainGlobals "zip" = some none)
    (y1 : PySem.W.nsIn K mainGlobals "ADDRESSES" = some (some w1))
    (x1 : RelV (V.int 256) w1)
    (y2 : PySem.W.nsIn K mainGlobals "NUMBERS" = some (some w2))
    (x2 : RelV (V.int 65536) w2)
    (y3 : PySem.W.nsIn K mainGlobals "MOST_THREADS" = some (some w3))
    (x3 : RelV (V.int 8) w3)
    (y4 : PySem.W.nsIn K mainGlobals "NO_RESULT" = some (some w4))
    (x4 : RelV (V.int 65535) w4)
    (y5 : PySem.W.nsIn K mainGlobals "GAVE_WAY" = some (some w5))
    (x5 : RelV (V.int 2) w5)
    (y6 : PySem.W.nsIn K mainGlobals "SLEEPS" = some (some w6))
    (x6 : RelV (V.int 3) w6)
    (y7 : PySem.W.nsIn K mainGlobals "ASKS" = some (some w7))
    (x7 : RelV (V.int 4) w7)
    (y8 : PySem.W.nsIn K mainGlobals "WAITS" = some (some w8))
    (x8 : RelV (V.int 5) w8)
    (y9 : PySem.W.nsIn K mainGlobals "END" = some (some w9))
    (x9 : RelV (V.int 0) w9)
    (y10 : PySem.W.nsIn K mainGlobals "CONSTANT" = some (some w10))
    (x10 : RelV (V.int 1) w10)
    (y11 : PySem.W.nsIn K mainGlobals "ADD" = some (some w11))
    (x11 : RelV (V.int 2) w11)
    (y12 : PySem.W.nsIn K mainGlobals "SUBTRACT" = some (some w12))
    (x12 : RelV (V.int 3) w12)
    (y13 : PySem.W.nsIn K mainGlobals "COPY" = some (some w13))
    (x13 : RelV (V.int 4) w13)
    (y14 : PySem.W.nsIn K mainGlobals "LOAD" = some (some w14))
    (x14 : RelV (V.int 5) w14)
    (y15 : PySem.W.nsIn K mainGlobals "STORE" = some (some w15))
    (x15 : RelV (V.int 6) w15)
    (y16 : PySem.W.nsIn K mainGlobals "GO" = some (some w16))
    (x16 : RelV (V.int 7) w16)
    (y17 : PySem.W.nsIn K mainGlobals "GO_IF_ZERO" = some (some w17))
    (x17 : RelV (V.int 8) w17)
    (y18 : PySem.W.nsIn K mainGlobals "GO_UNLESS_ZERO" = some (some w18))
    (x18 : RelV (V.int 9) w18)
    (y19 : PySem.W.nsIn K mainGlobals "CALL" = some (some w19))
    (x19 : RelV (V.int 10) w19)
    (y20 : PySem.W.nsIn K mainGlobals "GO_AND_LINK" = some (some w20))
    (x20 : RelV (V.int 11) w20)
    (y21 : PySem.W.nsIn K mainGlobals "GO_BACK" = some (some w21))
    (x21 : RelV (V.int 12) w21)
    (y22 : PySem.W.nsIn K mainGlobals "TIMER" = some (some w22))
    (x22 : RelV (V.int 1) w22)
    (y23 : PySem.W.nsIn K mainGlobals "DEVICE_SET" = some (some w23))
    (x23 : RelV (V.int 3) w23)
    (tn1 : PySem.W.nsIn K mainGlobals "LENGTHS" = some (some (.ref ta1)))
    (tl1 : K.lookup ta1 = some ⟨.type "tuple", td1, .seq ti1 tk1, ts1⟩)
    (tz1 : ti1.size ≤ sizeLine)
    (tv1 : Vals (MM.lens.map V.int) ti1.toList)
    : ∃ fd : FuncData, (∀ (s : Shared) (v : Value), BindsTo s fd ⟨[v], []⟩ [("script", v)]) ∧ ∀ base : Heap, K.In base → base.Ns mainGlobals mg → FnOk l.prog w K mg base CX0 11 fa fd ["script"] (sp_law K) := by
  have e := hfa.symm.trans (PySem.W.mg_of X G a53)
  cases e
  have F1 := fun_mk (st := s_Thread___init__) l1 c1 k1
  have b1 := F1.binds (ps := ["self", "pid", "pc", "first"]) fun _ _ _ _ _ _ us hl => match us, hl with | [_, _, _, _], _ => rfl
  have F2 := fun_mk (st := s_Thread_image) l2 c2 k2
  have b2 := F2.binds (ps := ["self"]) fun _ _ _ _ _ _ us hl => match us, hl with | [_], _ => rfl
  have F3 := fun_mk (st := s_Board___init__) l3 c3 k3
  have b3 := F3.binds (ps := ["self", "memories", "rates"]) fun _ _ _ _ _ _ us hl => match us, hl with | [_, _, _], _ => rfl
  have F4 := fun_mk (st := s_Board_begin_pick) l4 c4 k4
  have b4 := F4.binds (ps := ["self", "cpu"]) fun _ _ _ _ _ _ us hl => match us, hl with | [_, _], _ => rfl
  have F5 := fun_mk (st := s_Board_end_pick) l5 c5 k5
  have b5 := F5.binds (ps := ["self"]) fun _ _ _ _ _ _ us hl => match us, hl with | [_], _ => rfl
  have F6 := fun_mk (st := s_Board_now) l6 c6 k6
  have b6 := F6.binds (ps := ["self"]) fun _ _ _ _ _ _ us hl => match us, hl with | [_], _ => rfl
  have F7 := fun_mk (st := s_Board_tell) l7 c7 k7
  have b7 := F7.binds (ps := ["self", "kind", "tid", "at", "args"]) fun _ _ _ _ _ _ us hl => match us, hl with | [_, _, _, _, _], _ => rfl
  have F8 := fun_mk (st := s_Board_tell_tick) l8 c8 k8
  have b8 := F8.binds (ps := ["self"]) fun _ _ _ _ _ _ us hl => match us, hl with | [_], _ => rfl
  have F9 := fun_mk (st := s_Board_add_thread) l9 c9 k9
  have b9 := F9.binds (ps := ["self", "pid", "pc", "first"]) fun _ _ _ _ _ _ us hl => match us, hl with | [_, _, _, _], _ => rfl
  have F10 := fun_mk (st := s_Board_begin_run) l10 c10 k10
  have b10 := F10.binds (ps := ["self", "tid"]) fun _ _ _ _ _ _ us hl => match us, hl with | [_, _], _ => rfl
  have F11 := fun_mk (st := s_Board_end_run) l11 c11 k11
  have b11 := F11.binds (ps := ["self", "tid", "condition"]) fun _ _ _ _ _ _ us hl => match us, hl with | [_, _, _], _ => rfl
  have F12 := fun_mk (st := s_Board_make_ready) l12 c12 k12
  have b12 := F12.binds (ps := ["self", "tid"]) fun _ _ _ _ _ _ us hl => match us, hl with | [_, _], _ => rfl
  have F13 := fun_mk (st := s_Board_state) l13 c13 k13
  have b13 := F13.binds (ps := ["self"]) fun _ _ _ _ _ _ us hl => match us, hl with | [_], _ => rfl
  have F14 := fun_mk (st := s_PlainMemory___init__) l14 c14 k14
  have b14 := F14.binds (ps := ["self", "program"]) fun _ _ _ _ _ _ us hl => match us, hl with | [_, _], _ => rfl
  have F15 := fun_mk (st := s_PlainMemory_load) l15 c15 k15
  have b15 := F15.binds (ps := ["self", "at"]) fun _ _ _ _ _ _ us hl => match us, hl with | [_, _], _ => rfl
  have F16 := fun_mk (st := s_PlainMemory_store) l16 c16 k16
  have b16 := F16.binds (ps := ["self", "at", "byte"]) fun _ _ _ _ _ _ us hl => match us, hl with | [_, _, _], _ => rfl
  have F17 := fun_mk (st := s_PlainMemory_image) l17 c17 k17
  have b17 := F17.binds (ps := ["self"]) fun _ _ _ _ _ _ us hl => match us, hl with | [_], _ => rfl
  have F18 := fun_mk (st := s_PlainMemory_tells) l18 c18 k18
  have b18 := F18.binds (ps := ["self", "_"]) fun _ _ _ _ _ _ us hl => match us, hl with | [_, _], _ => rfl
  have F19 := fun_mk (st := s_filled) l19 c19 k19
  have b19 := F19.binds (ps := ["program"]) fun _ _ _ _ _ _ us hl => match us, hl with | [_], _ => rfl
  have F20 := fun_mk (st := s_do_call) l20 c20 k20
  have b20 := F20.binds (ps := ["board", "tid", "number", "at"]) fun _ _ _ _ _ _ us hl => match us, hl with | [_, _, _, _], _ => rfl
  have F21 := fun_mk (st := s_return_call) l21 c21 k21
  have b21 := F21.binds (ps := ["board", "tid", "result"]) fun _ _ _ _ _ _ us hl => match us, hl with | [_, _, _], _ => rfl
  have F22 := fun_mk (st := s_end_thread) l22 c22 k22
  have b22 := F22.binds (ps := ["board", "tid", "at", "code"]) fun _ _ _ _ _ _ us hl => match us, hl with | [_, _, _, _], _ => rfl
  have F23 := fun_mk (st := s_leave) l23 c23 k23
  have b23 := F23.binds (ps := ["board", "tid", "condition", "reason"]) fun _ _ _ _ _ _ us hl => match us, hl with | [_, _, _, _], _ => rfl
  have F24 := fun_mk (st := s_go_last) l24 c24 k24
  have b24 := F24.binds (ps := ["board", "tid", "reason"]) fun _ _ _ _ _ _ us hl => match us, hl with | [_, _, _], _ => rfl
  have F25 := fun_mk (st := s_begin_thread) l25 c25 k25
  have b25 := F25.binds (ps := ["board", "thread"]) fun _ _ _ _ _ _ us hl => match us, hl with | [_, _], _ => rfl
  have F26 := fun_mk (st := s_wait_for) l26 c26 k26
  have b26 := F26.binds (ps := ["board", "tid", "wanted"]) fun _ _ _ _ _ _ us hl => match us, hl with | [_, _, _], _ => rfl
  have F27 := fun_mk (st := s_do_instruction) l27 c27 k27
  have b27 := F27.binds (ps := ["board", "tid"]) fun _ _ _ _ _ _ us hl => match us, hl with | [_, _], _ => rfl
  have F28 := fun_mk (st := s_next_pc) l28 c28 k28
  have b28 := F28.binds (ps := ["regs", "code", "x", "y", "behind"]) fun _ _ _ _ _ _ us hl => match us, hl with | [_, _, _, _, _], _ => rfl
  have F29 := fun_mk (st := s_move) l29 c29 k29
  have b29 := F29.binds (ps := ["regs", "memory", "code", "x", "y"]) fun _ _ _ _ _ _ us hl => match us, hl with | [_, _, _, _, _], _ => rfl
  have F30 := fun_mk (st := s_do_pick) l30 c30 k30
  have b30 := F30.binds (ps := ["board", "pick"]) fun _ _ _ _ _ _ us hl => match us, hl with | [_, _], _ => rfl
  have F31 := fun_mk (st := s_wake) l31 c31 k31
  have b31 := F31.binds (ps := ["board"]) fun _ _ _ _ _ _ us hl => match us, hl with | [_], _ => rfl
  have F32 := fun_mk (st := s_do_step) l32 c32 k32
  have b32 := F32.binds (ps := ["board"]) fun _ _ _ _ _ _ us hl => match us, hl with | [_], _ => rfl
  have F33 := fun_mk (st := s_do_timer) l33 c33 k33
  have b33 := F33.binds (ps := ["board"]) fun _ _ _ _ _ _ us hl => match us, hl with | [_], _ => rfl
  have F34 := fun_mk (st := s_do_request) l34 c34 k34
  have b34 := F34.binds (ps := ["board"]) fun _ _ _ _ _ _ us hl => match us, hl with | [_], _ => rfl
  have F35 := fun_mk (st := s_Machine___init__) l35 c35 k35
  have b35 := F35.binds (ps := ["self", "programs", "rates"]) fun _ _ _ _ _ _ us hl => match us, hl with | [_, _, _], _ => rfl
  have F36 := fun_mk (st := s_Machine_step) l36 c36 k36
  have b36 := F36.binds (ps := ["self", "pick"]) fun _ _ _ _ _ _ us hl => match us, hl with | [_, _], _ => rfl
  have F37 := fun_mk (st := s_Machine_state) l37 c37 k37
  have b37 := F37.binds (ps := ["self"]) fun _ _ _ _ _ _ us hl => match us, hl with | [_], _ => rfl
  have F38 := fun_mk (st := s_law_draws) l38 c38 k38
  have b38 := F38.binds (ps := ["script", "many"]) fun _ _ _ _ _ _ us hl => match us, hl with | [_, _], _ => rfl
  have F39 := fun_mk (st := s_law_next) l39 c39 k39
  have b39 := F39.binds (ps := ["w", "many"]) fun _ _ _ _ _ _ us hl => match us, hl with | [_, _], _ => rfl
  have F40 := fun_mk (st := s_law_program) l40 c40 k40
  have b40 := F40.binds (ps := ["w"]) fun _ _ _ _ _ _ us hl => match us, hl with | [_], _ => rfl
  have F41 := fun_mk (st := s_law_pick) l41 c41 k41
  have b41 := F41.binds (ps := ["w", "cpus"]) fun _ _ _ _ _ _ us hl => match us, hl with | [_, _], _ => rfl
  have F42 := fun_mk (st := s_law_model) l42 c42 k42
  have b42 := F42.binds (ps := ["programs", "rates"]) fun _ _ _ _ _ _ us hl => match us, hl with | [_, _], _ => rfl
  have F43 := fun_mk (st := s_law_begin) l43 c43 k43
  have b43 := F43.binds (ps := ["m", "pid", "pc", "first"]) fun _ _ _ _ _ _ us hl => match us, hl with | [_, _, _, _], _ => rfl
  have F44 := fun_mk (st := s_law_tell) l44 c44 k44
  have b44 := F44.binds (ps := ["m", "kind", "cpu", "tid", "at", "args"]) fun _ _ _ _ _ _ us hl => match us, hl with | [_, _, _, _, _, _], _ => rfl
  have F45 := fun_mk (st := s_law_returns) l45 c45 k45
  have b45 := F45.binds (ps := ["m", "cpu", "tid", "result"]) fun _ _ _ _ _ _ us hl => match us, hl with | [_, _, _, _], _ => rfl
  have F46 := fun_mk (st := s_law_off) l46 c46 k46
  have b46 := F46.binds (ps := ["m", "cpu", "tid", "condition", "reason"]) fun _ _ _ _ _ _ us hl => match us, hl with | [_, _, _, _, _], _ => rfl
  have F47 := fun_mk (st := s_law_ends) l47 c47 k47
  have b47 := F47.binds (ps := ["m", "cpu", "tid", "at", "code"]) fun _ _ _ _ _ _ us hl => match us, hl with | [_, _, _, _, _], _ => rfl
  have F48 := fun_mk (st := s_law_call) l48 c48 k48
  have b48 := F48.binds (ps := ["m", "cpu", "tid", "at", "number"]) fun _ _ _ _ _ _ us hl => match us, hl with | [_, _, _, _, _], _ => rfl
  have F49 := fun_mk (st := s_law_instruction) l49 c49 k49
  have b49 := F49.binds (ps := ["m", "cpu", "tid"]) fun _ _ _ _ _ _ us hl => match us, hl with | [_, _, _], _ => rfl
  have F50 := fun_mk (st := s_law_step) l50 c50 k50
  have b50 := F50.binds (ps := ["m", "pick"]) fun _ _ _ _ _ _ us hl => match us, hl with | [_, _], _ => rfl
  have F51 := fun_mk (st := s_law_state) l51 c51 k51
  have b51 := F51.binds (ps := ["m"]) fun _ _ _ _ _ _ us hl => match us, hl with | [_], _ => rfl
  have F52 := fun_mk (st := s_law_longer) l52 c52 k52
  have b52 := F52.binds (ps := ["w", "program"]) fun _ _ _ _ _ _ us hl => match us, hl with | [_, _], _ => rfl
  have F53 := fun_mk (st := s_law) l53 c53 k53
  have b53 := F53.binds (ps := ["script"]) fun _ _ _ _ _ _ us hl => match us, hl with | [_], _ => rfl
  exact ⟨PySem.W.fnOf "law" "law" (defArgs s_law) (defBody s_law) (defScope s_law) .none kV53 dc53 pm53 an53 cd53 ct53, fun s v => .of_eq rfl, fun base _ _ => ok_law (T := {p_filled := ⟨f19, _, F19, b19, PySem.W.mg_of X G a19⟩, p_do_call := ⟨f20, _, F20, b20, PySem.W.mg_of X G a20⟩, p_return_call := ⟨f21, _, F21, b21, PySem.W.mg_of X G a21⟩, p_end_thread := ⟨f22, _, F22, b22, PySem.W.mg_of X G a22⟩, p_leave := ⟨f23, _, F23, b23, PySem.W.mg_of X G a23⟩, p_go_last := ⟨f24, _, F24, b24, PySem.W.mg_of X G a24⟩, p_begin_thread := ⟨f25, _, F25, b25, PySem.W.mg_of X G a25⟩, p_wait_for := ⟨f26, _, F26, b26, PySem.W.mg_of X G a26⟩, p_do_instruction := ⟨f27, _, F27, b27, PySem.W.mg_of X G a27⟩, p_next_pc := ⟨f28, _, F28, b28, PySem.W.mg_of X G a28⟩, p_move := ⟨f29, _, F29, b29, PySem.W.mg_of X G a29⟩, p_do_pick := ⟨f30, _, F30, b30, PySem.W.mg_of X G a30⟩, p_wake := ⟨f31, _, F31, b31, PySem.W.mg_of X G a31⟩, p_do_step := ⟨f32, _, F32, b32, PySem.W.mg_of X G a32⟩, p_do_timer := ⟨f33, _, F33, b33, PySem.W.mg_of X G a33⟩, p_do_request := ⟨f34, _, F34, b34, PySem.W.mg_of X G a34⟩, p_law_draws := ⟨f38, _, F38, b38, PySem.W.mg_of X G a38⟩, p_law_next := ⟨f39, _, F39, b39, PySem.W.mg_of X G a39⟩, p_law_program := ⟨f40, _, F40, b40, PySem.W.mg_of X G a40⟩, p_law_pick := ⟨f41, _, F41, b41, PySem.W.mg_of X G a41⟩, p_law_model := ⟨f42, _, F42, b42, PySem.W.mg_of X G a42⟩, p_law_begin := ⟨f43, _, F43, b43, PySem.W.mg_of X G a43⟩, p_law_tell := ⟨f44, _, F44, b44, PySem.W.mg_of X G a44⟩, p_law_returns := ⟨f45, _, F45, b45, PySem.W.mg_of X G a45⟩, p_law_off := ⟨f46, _, F46, b46, PySem.W.mg_of X G a46⟩, p_law_ends := ⟨f47, _, F47, b47, PySem.W.mg_of X G a47⟩, p_law_call := ⟨f48, _, F48, b48, PySem.W.mg_of X G a48⟩, p_law_instruction := ⟨f49, _, F49, b49, PySem.W.mg_of X G a49⟩, p_law_step := ⟨f50, _, F50, b50, PySem.W.mg_of X G a50⟩, p_law_state := ⟨f51, _, F51, b51, PySem.W.mg_of X G a51⟩, p_law_longer := ⟨f52, _, F52, b52, PySem.W.mg_of X G a52⟩, p_law := ⟨fa, _, F53, b53, PySem.W.mg_of X G a53⟩, c_Thread := ⟨C1, PySem.W.mg_of X G ca1, ⟨pg1, hd1, po1, sa1⟩⟩, p_Thread___init__ := ⟨f1, _, F1, b1, ⟨mk1, fi1, is1, kc1⟩⟩, p_Thread_image := ⟨f2, _, F2, b2, ⟨fi2, is2, k2⟩⟩, n_Thread := ⟨na_Thread_pid, na_Thread_pc, na_Thread_regs, na_Thread_condition, na_Thread_call, na_Thread_call_at⟩, c_Board := ⟨C2, PySem.W.mg_of X G ca2, ⟨pg2, hd2, po2, sa2⟩⟩, p_Board___init__ := ⟨f3, _, F3, b3, ⟨mk2, fi3, is3, kc2⟩⟩, p_Board_begin_pick := ⟨f4, _, F4, b4, ⟨fi4, is4, k4⟩⟩, p_Board_end_pick := ⟨f5, _, F5, b5, ⟨fi5, is5, k5⟩⟩, p_Board_now := ⟨f6, _, F6, b6, ⟨fi6, is6, k6⟩⟩, p_Board_tell := ⟨f7, _, F7, b7, ⟨fi7, is7, k7⟩⟩, p_Board_tell_tick := ⟨f8, _, F8, b8, ⟨fi8, is8, k8⟩⟩, p_Board_add_thread := ⟨f9, _, F9, b9, ⟨fi9, is9, k9⟩⟩, p_Board_begin_run := ⟨f10, _, F10, b10, ⟨fi10, is10, k10⟩⟩, p_Board_end_run := ⟨f11, _, F11, b11, ⟨fi11, is11, k11⟩⟩, p_Board_make_ready := ⟨f12, _, F12, b12, ⟨fi12, is12, k12⟩⟩, p_Board_state := ⟨f13, _, F13, b13, ⟨fi13, is13, k13⟩⟩, n_Board := ⟨na_Board_memories, na_Board_rates, na_Board_threads, na_Board_ready, na_Board_times, na_Board_running, na_Board_device_value, na_Board_requests, na_Board_cpu, na_Board_views⟩, c_PlainMemory := ⟨C3, PySem.W.mg_of X G ca3, ⟨pg3, hd3, po3, sa3⟩⟩, p_PlainMemory___init__ := ⟨f14, _, F14, b14, ⟨mk3, fi14, is14, kc3⟩⟩, p_PlainMemory_load := ⟨f15, _, F15, b15, ⟨fi15, is15, k15⟩⟩, p_PlainMemory_store := ⟨f16, _, F16, b16, ⟨fi16, is16, k16⟩⟩, p_PlainMemory_image := ⟨f17, _, F17, b17, ⟨fi17, is17, k17⟩⟩, p_PlainMemory_tells := ⟨f18, _, F18, b18, ⟨fi18, is18, k18⟩⟩, n_PlainMemory := ⟨na_PlainMemory_cells⟩, c_Machine := ⟨C4, PySem.W.mg_of X G ca4, ⟨pg4, hd4, po4, sa4⟩⟩, p_Machine___init__ := ⟨f35, _, F35, b35, ⟨mk4, fi35, is35, kc4⟩⟩, p_Machine_step := ⟨f36, _, F36, b36, ⟨fi36, is36, k36⟩⟩, p_Machine_state := ⟨f37, _, F37, b37, ⟨fi37, is37, k37⟩⟩, n_Machine := ⟨na_Machine_board⟩, m_abs := PySem.W.mg_none_of X G z1, m_enumerate := PySem.W.mg_none_of X G z2, m_int := PySem.W.mg_none_of X G z3, m_isinstance := PySem.W.mg_none_of X G z4, m_len := PySem.W.mg_none_of X G z5, m_list := PySem.W.mg_none_of X G z6, m_range := PySem.W.mg_none_of X G z7, m_tuple := PySem.W.mg_none_of X G z8, m_zip := PySem.W.mg_none_of X G z9, v_ADDRESSES := w1, c_ADDRESSES := PySem.W.mg_of X G y1, r_ADDRESSES := x1, v_NUMBERS := w2, c_NUMBERS := PySem.W.mg_of X G y2, r_NUMBERS := x2, v_MOST_THREADS := w3, c_MOST_THREADS := PySem.W.mg_of X G y3, r_MOST_THREADS := x3, v_NO_RESULT := w4, c_NO_RESULT := PySem.W.mg_of X G y4, r_NO_RESULT := x4, v_GAVE_WAY := w5, c_GAVE_WAY := PySem.W.mg_of X G y5, r_GAVE_WAY := x5, v_SLEEPS := w6, c_SLEEPS := PySem.W.mg_of X G y6, r_SLEEPS := x6, v_ASKS := w7, c_ASKS := PySem.W.mg_of X G y7, r_ASKS := x7, v_WAITS := w8, c_WAITS := PySem.W.mg_of X G y8, r_WAITS := x8, v_END := w9, c_END := PySem.W.mg_of X G y9, r_END := x9, v_CONSTANT := w10, c_CONSTANT := PySem.W.mg_of X G y10, r_CONSTANT := x10, v_ADD := w11, c_ADD := PySem.W.mg_of X G y11, r_ADD := x11, v_SUBTRACT := w12, c_SUBTRACT := PySem.W.mg_of X G y12, r_SUBTRACT := x12, v_COPY := w13, c_COPY := PySem.W.mg_of X G y13, r_COPY := x13, v_LOAD := w14, c_LOAD := PySem.W.mg_of X G y14, r_LOAD := x14, v_STORE := w15, c_STORE := PySem.W.mg_of X G y15, r_STORE := x15, v_GO := w16, c_GO := PySem.W.mg_of X G y16, r_GO := x16, v_GO_IF_ZERO := w17, c_GO_IF_ZERO := PySem.W.mg_of X G y17, r_GO_IF_ZERO := x17, v_GO_UNLESS_ZERO := w18, c_GO_UNLESS_ZERO := PySem.W.mg_of X G y18, r_GO_UNLESS_ZERO := x18, v_CALL := w19, c_CALL := PySem.W.mg_of X G y19, r_CALL := x19, v_GO_AND_LINK := w20, c_GO_AND_LINK := PySem.W.mg_of X G y20, r_GO_AND_LINK := x20, v_GO_BACK := w21, c_GO_BACK := PySem.W.mg_of X G y21, r_GO_BACK := x21, v_TIMER := w22, c_TIMER := PySem.W.mg_of X G y22, r_TIMER := x22, v_DEVICE_SET := w23, c_DEVICE_SET := PySem.W.mg_of X G y23, r_DEVICE_SET := x23, a_LENGTHS := ta1, c_LENGTHS := PySem.W.mg_of X G tn1, t_LENGTHS := fun H => .inr ⟨_, ti1, tk1, tl1, rfl, rfl, tz1, tv1⟩})⟩
end K60
open PySem PySem.W PyProof.Rows
set_option maxHeartbeats 0 in
theorem PySem.Challenge.cw_tapline_k60_the_machine_pick_by_pick_holds : PySem.Challenge.rw_tapline_k60_the_machine_pick_by_pick.Holds := by
  w_on; o_law; k_head; (case hw => w_witness2)
  k_fill
  refine L2.walk_of (l := PySem.Challenge.rw_tapline_k60_the_machine_pick_by_pick) (n := 63) (k := 11) (x := "script") (CX := fun _ => L2.CX0) (sp := fun w => K60.sp_law _) rfl (by decide) rfl ⟨rfl, by decide, by decide⟩ (fun w h Y => PySem.W.kIn_of Y) ?F (fun _ _ a ns hl _ hS => ⟨a, ns, rfl, hS, hl, fun _ => rfl⟩) (fun _ _ _ _ _ h => h)
  case F =>
    intro w mg fa h KX G hmg
    refine' K60.all_mk KX G hmg ?ca1 ?ca2 ?ca3 ?ca4 ?fi1 ?l1 ?c1 ?k1 ?fi2 ?l2 ?c2 ?k2 ?fi3 ?l3 ?c3 ?k3 ?fi4 ?l4 ?c4 ?k4 ?fi5 ?l5 ?c5 ?k5 ?fi6 ?l6 ?c6 ?k6 ?fi7 ?l7 ?c7 ?k7 ?fi8 ?l8 ?c8 ?k8 ?fi9 ?l9 ?c9 ?k9 ?fi10 ?l10 ?c10 ?k10 ?fi11 ?l11 ?c11 ?k11 ?fi12 ?l12 ?c12 ?k12 ?fi13 ?l13 ?c13 ?k13 ?fi14 ?l14 ?c14 ?k14 ?fi15 ?l15 ?c15 ?k15 ?fi16 ?l16 ?c16 ?k16 ?fi17 ?l17 ?c17 ?k17 ?fi18 ?l18 ?c18 ?k18 ?a19 ?l19 ?c19 ?k19 ?a20 ?l20 ?c20 ?k20 ?a21 ?l21 ?c21 ?k21 ?a22 ?l22 ?c22 ?k22 ?a23 ?l23 ?c23 ?k23 ?a24 ?l24 ?c24 ?k24 ?a25 ?l25 ?c25 ?k25 ?a26 ?l26 ?c26 ?k26 ?a27 ?l27 ?c27 ?k27 ?a28 ?l28 ?c28 ?k28 ?a29 ?l29 ?c29 ?k29 ?a30 ?l30 ?c30 ?k30 ?a31 ?l31 ?c31 ?k31 ?a32 ?l32 ?c32 ?k32 ?a33 ?l33 ?c33 ?k33 ?a34 ?l34 ?c34 ?k34 ?fi35 ?l35 ?c35 ?k35 ?fi36 ?l36 ?c36 ?k36 ?fi37 ?l37 ?c37 ?k37 ?a38 ?l38 ?c38 ?k38 ?a39 ?l39 ?c39 ?k39 ?a40 ?l40 ?c40 ?k40 ?a41 ?l41 ?c41 ?k41 ?a42 ?l42 ?c42 ?k42 ?a43 ?l43 ?c43 ?k43 ?a44 ?l44 ?c44 ?k44 ?a45 ?l45 ?c45 ?k45 ?a46 ?l46 ?c46 ?k46 ?a47 ?l47 ?c47 ?k47 ?a48 ?l48 ?c48 ?k48 ?a49 ?l49 ?c49 ?k49 ?a50 ?l50 ?c50 ?k50 ?a51 ?l51 ?c51 ?k51 ?a52 ?l52 ?c52 ?k52 ?a53 ?l53 ?c53 ?k53 ?pg1 ?hd1 ?po1 ?sa1 ?mk1 ?kc1 ?is1 ?is2 ?na_Thread_pid ?na_Thread_pc ?na_Thread_regs ?na_Thread_condition ?na_Thread_call ?na_Thread_call_at ?pg2 ?hd2 ?po2 ?sa2 ?mk2 ?kc2 ?is3 ?is4 ?is5 ?is6 ?is7 ?is8 ?is9 ?is10 ?is11 ?is12 ?is13 ?na_Board_memories ?na_Board_rates ?na_Board_threads ?na_Board_ready ?na_Board_times ?na_Board_running ?na_Board_device_value ?na_Board_requests ?na_Board_cpu ?na_Board_views ?pg3 ?hd3 ?po3 ?sa3 ?mk3 ?kc3 ?is14 ?is15 ?is16 ?is17 ?is18 ?na_PlainMemory_cells ?pg4 ?hd4 ?po4 ?sa4 ?mk4 ?kc4 ?is35 ?is36 ?is37 ?na_Machine_board ?z1 ?z2 ?z3 ?z4 ?z5 ?z6 ?z7 ?z8 ?z9 ?y1 ?x1 ?y2 ?x2 ?y3 ?x3 ?y4 ?x4 ?y5 ?x5 ?y6 ?x6 ?y7 ?x7 ?y8 ?x8 ?y9 ?x9 ?y10 ?x10 ?y11 ?x11 ?y12 ?x12 ?y13 ?x13 ?y14 ?x14 ?y15 ?x15 ?y16 ?x16 ?y17 ?x17 ?y18 ?x18 ?y19 ?x19 ?y20 ?x20 ?y21 ?x21 ?y22 ?x22 ?y23 ?x23 ?tn1 ?tl1 ?tz1 ?tv1
    (case ca1 => k_is)
    (case ca2 => k_is)
    (case ca3 => k_is)
    (case ca4 => k_is)
    (case fi1 => k_is)
    (case l1 => k_is)
    (case c1 => k_is)
    (case k1 => k_is)
    (case fi2 => k_is)
    (case l2 => k_is)
    (case c2 => k_is)
    (case k2 => k_is)
    (case fi3 => k_is)
    (case l3 => k_is)
    (case c3 => k_is)
    (case k3 => k_is)
    (case fi4 => k_is)
    (case l4 => k_is)
    (case c4 => k_is)
    (case k4 => k_is)
    (case fi5 => k_is)
    (case l5 => k_is)
    (case c5 => k_is)
    (case k5 => k_is)
    (case fi6 => k_is)
    (case l6 => k_is)
    (case c6 => k_is)
    (case k6 => k_is)
    (case fi7 => k_is)
    (case l7 => k_is)
    (case c7 => k_is)
    (case k7 => k_is)
    (case fi8 => k_is)
    (case l8 => k_is)
    (case c8 => k_is)
    (case k8 => k_is)
    (case fi9 => k_is)
    (case l9 => k_is)
    (case c9 => k_is)
    (case k9 => k_is)
    (case fi10 => k_is)
    (case l10 => k_is)
    (case c10 => k_is)
    (case k10 => k_is)
    (case fi11 => k_is)
    (case l11 => k_is)
    (case c11 => k_is)
    (case k11 => k_is)
    (case fi12 => k_is)
    (case l12 => k_is)
    (case c12 => k_is)
    (case k12 => k_is)
    (case fi13 => k_is)
    (case l13 => k_is)
    (case c13 => k_is)
    (case k13 => k_is)
    (case fi14 => k_is)
    (case l14 => k_is)
    (case c14 => k_is)
    (case k14 => k_is)
    (case fi15 => k_is)
    (case l15 => k_is)
    (case c15 => k_is)
    (case k15 => k_is)
    (case fi16 => k_is)
    (case l16 => k_is)
    (case c16 => k_is)
    (case k16 => k_is)
    (case fi17 => k_is)
    (case l17 => k_is)
    (case c17 => k_is)
    (case k17 => k_is)
    (case fi18 => k_is)
    (case l18 => k_is)
    (case c18 => k_is)
    (case k18 => k_is)
    (case a19 => k_is)
    (case l19 => k_is)
    (case c19 => k_is)
    (case k19 => k_is)
    (case a20 => k_is)
    (case l20 => k_is)
    (case c20 => k_is)
    (case k20 => k_is)
    (case a21 => k_is)
    (case l21 => k_is)
    (case c21 => k_is)
    (case k21 => k_is)
    (case a22 => k_is)
    (case l22 => k_is)
    (case c22 => k_is)
    (case k22 => k_is)
    (case a23 => k_is)
    (case l23 => k_is)
    (case c23 => k_is)
    (case k23 => k_is)
    (case a24 => k_is)
    (case l24 => k_is)
    (case c24 => k_is)
    (case k24 => k_is)
    (case a25 => k_is)
    (case l25 => k_is)
    (case c25 => k_is)
    (case k25 => k_is)
    (case a26 => k_is)
    (case l26 => k_is)
    (case c26 => k_is)
    (case k26 => k_is)
    (case a27 => k_is)
    (case l27 => k_is)
    (case c27 => k_is)
    (case k27 => k_is)
    (case a28 => k_is)
    (case l28 => k_is)
    (case c28 => k_is)
    (case k28 => k_is)
    (case a29 => k_is)
    (case l29 => k_is)
    (case c29 => k_is)
    (case k29 => k_is)
    (case a30 => k_is)
    (case l30 => k_is)
    (case c30 => k_is)
    (case k30 => k_is)
    (case a31 => k_is)
    (case l31 => k_is)
    (case c31 => k_is)
    (case k31 => k_is)
    (case a32 => k_is)
    (case l32 => k_is)
    (case c32 => k_is)
    (case k32 => k_is)
    (case a33 => k_is)
    (case l33 => k_is)
    (case c33 => k_is)
    (case k33 => k_is)
    (case a34 => k_is)
    (case l34 => k_is)
    (case c34 => k_is)
    (case k34 => k_is)
    (case fi35 => k_is)
    (case l35 => k_is)
    (case c35 => k_is)
    (case k35 => k_is)
    (case fi36 => k_is)
    (case l36 => k_is)
    (case c36 => k_is)
    (case k36 => k_is)
    (case fi37 => k_is)
    (case l37 => k_is)
    (case c37 => k_is)
    (case k37 => k_is)
    (case a38 => k_is)
    (case l38 => k_is)
    (case c38 => k_is)
    (case k38 => k_is)
    (case a39 => k_is)
    (case l39 => k_is)
    (case c39 => k_is)
    (case k39 => k_is)
    (case a40 => k_is)
    (case l40 => k_is)
    (case c40 => k_is)
    (case k40 => k_is)
    (case a41 => k_is)
    (case l41 => k_is)
    (case c41 => k_is)
    (case k41 => k_is)
    (case a42 => k_is)
    (case l42 => k_is)
    (case c42 => k_is)
    (case k42 => k_is)
    (case a43 => k_is)
    (case l43 => k_is)
    (case c43 => k_is)
    (case k43 => k_is)
    (case a44 => k_is)
    (case l44 => k_is)
    (case c44 => k_is)
    (case k44 => k_is)
    (case a45 => k_is)
    (case l45 => k_is)
    (case c45 => k_is)
    (case k45 => k_is)
    (case a46 => k_is)
    (case l46 => k_is)
    (case c46 => k_is)
    (case k46 => k_is)
    (case a47 => k_is)
    (case l47 => k_is)
    (case c47 => k_is)
    (case k47 => k_is)
    (case a48 => k_is)
    (case l48 => k_is)
    (case c48 => k_is)
    (case k48 => k_is)
    (case a49 => k_is)
    (case l49 => k_is)
    (case c49 => k_is)
    (case k49 => k_is)
    (case a50 => k_is)
    (case l50 => k_is)
    (case c50 => k_is)
    (case k50 => k_is)
    (case a51 => k_is)
    (case l51 => k_is)
    (case c51 => k_is)
    (case k51 => k_is)
    (case a52 => k_is)
    (case l52 => k_is)
    (case c52 => k_is)
    (case k52 => k_is)
    (case a53 => k_is)
    (case l53 => k_is)
    (case c53 => k_is)
    (case k53 => k_is)
    (case pg1 => k_is)
    (case hd1 => k_is)
    (case po1 => k_is)
    (case sa1 => k_is)
    (case mk1 => k_is)
    (case kc1 => k_is)
    (case is1 => k_is)
    (case is2 => k_is)
    (case na_Thread_pid => k_is)
    (case na_Thread_pc => k_is)
    (case na_Thread_regs => k_is)
    (case na_Thread_condition => k_is)
    (case na_Thread_call => k_is)
    (case na_Thread_call_at => k_is)
    (case pg2 => k_is)
    (case hd2 => k_is)
    (case po2 => k_is)
    (case sa2 => k_is)
    (case mk2 => k_is)
    (case kc2 => k_is)
    (case is3 => k_is)
    (case is4 => k_is)
    (case is5 => k_is)
    (case is6 => k_is)
    (case is7 => k_is)
    (case is8 => k_is)
    (case is9 => k_is)
    (case is10 => k_is)
    (case is11 => k_is)
    (case is12 => k_is)
    (case is13 => k_is)
    (case na_Board_memories => k_is)
    (case na_Board_rates => k_is)
    (case na_Board_threads => k_is)
    (case na_Board_ready => k_is)
    (case na_Board_times => k_is)
    (case na_Board_running => k_is)
    (case na_Board_device_value => k_is)
    (case na_Board_requests => k_is)
    (case na_Board_cpu => k_is)
    (case na_Board_views => k_is)
    (case pg3 => k_is)
    (case hd3 => k_is)
    (case po3 => k_is)
    (case sa3 => k_is)
    (case mk3 => k_is)
    (case kc3 => k_is)
    (case is14 => k_is)
    (case is15 => k_is)
    (case is16 => k_is)
    (case is17 => k_is)
    (case is18 => k_is)
    (case na_PlainMemory_cells => k_is)
    (case pg4 => k_is)
    (case hd4 => k_is)
    (case po4 => k_is)
    (case sa4 => k_is)
    (case mk4 => k_is)
    (case kc4 => k_is)
    (case is35 => k_is)
    (case is36 => k_is)
    (case is37 => k_is)
    (case na_Machine_board => k_is)
    (case z1 => k_is)
    (case z2 => k_is)
    (case z3 => k_is)
    (case z4 => k_is)
    (case z5 => k_is)
    (case z6 => k_is)
    (case z7 => k_is)
    (case z8 => k_is)
    (case z9 => k_is)
    (case y1 => k_is)
    (case x1 => first | exact ⟨_, rfl⟩ | rfl)
    (case y2 => k_is)
    (case x2 => first | exact ⟨_, rfl⟩ | rfl)
    (case y3 => k_is)
    (case x3 => first | exact ⟨_, rfl⟩ | rfl)
    (case y4 => k_is)
    (case x4 => first | exact ⟨_, rfl⟩ | rfl)
    (case y5 => k_is)
    (case x5 => first | exact ⟨_, rfl⟩ | rfl)
    (case y6 => k_is)
    (case x6 => first | exact ⟨_, rfl⟩ | rfl)
    (case y7 => k_is)
    (case x7 => first | exact ⟨_, rfl⟩ | rfl)
    (case y8 => k_is)
    (case x8 => first | exact ⟨_, rfl⟩ | rfl)
    (case y9 => k_is)
    (case x9 => first | exact ⟨_, rfl⟩ | rfl)
    (case y10 => k_is)
    (case x10 => first | exact ⟨_, rfl⟩ | rfl)
    (case y11 => k_is)
    (case x11 => first | exact ⟨_, rfl⟩ | rfl)
    (case y12 => k_is)
    (case x12 => first | exact ⟨_, rfl⟩ | rfl)
    (case y13 => k_is)
    (case x13 => first | exact ⟨_, rfl⟩ | rfl)
    (case y14 => k_is)
    (case x14 => first | exact ⟨_, rfl⟩ | rfl)
    (case y15 => k_is)
    (case x15 => first | exact ⟨_, rfl⟩ | rfl)
    (case y16 => k_is)
    (case x16 => first | exact ⟨_, rfl⟩ | rfl)
    (case y17 => k_is)
    (case x17 => first | exact ⟨_, rfl⟩ | rfl)
    (case y18 => k_is)
    (case x18 => first | exact ⟨_, rfl⟩ | rfl)
    (case y19 => k_is)
    (case x19 => first | exact ⟨_, rfl⟩ | rfl)
    (case y20 => k_is)
    (case x20 => first | exact ⟨_, rfl⟩ | rfl)
    (case y21 => k_is)
    (case x21 => first | exact ⟨_, rfl⟩ | rfl)
    (case y22 => k_is)
    (case x22 => first | exact ⟨_, rfl⟩ | rfl)
    (case y23 => k_is)
    (case x23 => first | exact ⟨_, rfl⟩ | rfl)
    (case tn1 => k_is)
    (case tl1 => k_is)
    (case tz1 => exact Nat.le_of_ble_eq_true rfl)
    (case tv1 => repeat (first | exact Paired.nil | refine Paired.cons ⟨_, rfl⟩ ?_))
