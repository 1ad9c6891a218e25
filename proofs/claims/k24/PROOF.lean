import PyProof.Rows.All
import Wide.All
import OpenK.AllK
import Wide.FinOn
import HandS.ForMost
import HandS.Wide
import HandS.IsInst
import HandS.Codes
import HandS.Conv
import HandS.Walk
import HandS.Deep
import HandS.SortRule
import HandS.More
import KE.KDictZip
import PyProof.StrOps2
import PyProof.Rows.SetFrom
import HandS.TupAny
import HandS.Zip
import HandS.Zip0
import HandS.Strs
import HandS.SetFor
import HandS.TupSets
import HandS.ListItems
import HandS.RaiseMore
import HandS.SortInts
import PySem.Challenge.RW_tapline_k24_speculations_by_model
set_option Elab.async false
set_option linter.all false
set_option maxRecDepth 100000
set_option maxHeartbeats 4000000
section
/-! reading lemmas: one a construct, its conclusion headed by the construct's name -/
namespace R
open PySem PySem.Spec PyProof.Rows L2
section
variable {nx bk ct : L2.St → Hp → Prop} {rt : V → Hp → Prop}
variable {t u : TS} {D : Ends} {σ σ' : L2.St} {H H1 : Hp} {te ta tb tc : TE} {tr : TA} {i : Nat} {v w x y : V} {Q : VK} {c c' : TT} {K : PySem.W.Frag} {n n' : L2.St → Hp → Prop} {B : Bool → Hp → Prop}
theorem r_seq (h : t ⟨u ⟨nx, rt, bk, ct⟩, rt, bk, ct⟩ σ H) : tSeq t u ⟨nx, rt, bk, ct⟩ σ H := h
theorem r_asg (h : te σ H (fun x H1 => nx (σ.set i (some x)) H1)) : tAsg te (gName i) ⟨nx, rt, bk, ct⟩ σ H := h
theorem r_asgG {g : TG} (h : te σ H (fun x H1 => g x σ H1 nx)) : tAsg te g ⟨nx, rt, bk, ct⟩ σ H := h
theorem r_gname {Q : L2.St → Hp → Prop} (h : Q (σ.set i (some x)) H) : gName i x σ H Q := h
theorem r_ret (h : te σ H rt) : tRet te ⟨nx, rt, bk, ct⟩ σ H := h
theorem r_retN (h : rt .non H) : tRetN ⟨nx, rt, bk, ct⟩ σ H := h
theorem r_drop (h : te σ H (fun _ H1 => nx σ H1)) : tDrop te ⟨nx, rt, bk, ct⟩ σ H := h
theorem r_ifS (h : c σ H (fun b H1 => if b = true then t ⟨nx, rt, bk, ct⟩ σ H1 else u ⟨nx, rt, bk, ct⟩ σ H1)) : tIfS c t u ⟨nx, rt, bk, ct⟩ σ H := h
theorem r_next (h : nx σ H) : tNext ⟨nx, rt, bk, ct⟩ σ H := h
theorem r_brk (h : bk σ H) : tBreak ⟨nx, rt, bk, ct⟩ σ H := h
theorem r_cnt (h : ct σ H) : tCont ⟨nx, rt, bk, ct⟩ σ H := h
/-- for k in range(m): k in slot j; the loop's own end -/
theorem r_rng1 {tr : TA} {tb : TS} {g : TG} (h : tr σ H fun vs H1 => ∃ m : Int, vs = [.int m] ∧ -(2 ^ 62) ≤ m ∧ m < 2 ^ 62 ∧ ∃ W : Nat → Nat → L2.St → Hp → Prop, (∃ q, W 0 q σ H1) ∧ ∀ i q σ H, W i q σ H → ((Itr 0 m.toNat).stop i H ∧ nx σ H) ∨ ((Itr 0 m.toNat).go i H ∧ ∃ N : L2.St → Hp → Prop, (∀ σ' H', N σ' H' → ∃ q', q' < q ∧ W (i + 1) q' σ' H') ∧ ∀ x H', (Itr 0 m.toNat).yld i H x H' → g x σ H' fun σ2 H2 => tb ⟨N, rt, nx, N⟩ σ2 H2)) : tFor (iRng1 tr) g tb ⟨nx, rt, bk, ct⟩ σ H := h
theorem r_rngL {tb : TS} {j : Nat} {m : Int} (Pv : Nat → L2.St → Hp → Prop) (hm : -1000000000 ≤ m ∧ m ≤ 1000000000) (h0 : Pv 0 σ H)
    (hs : ∀ (k : Nat) σ' H', (k : Int) < m → Pv k σ' H' → tb ⟨Pv (k + 1), rt, nx, Pv (k + 1)⟩ (σ'.set j (some (.int (k : Int)))) H') (hd : ∀ σ' H', Pv m.toNat σ' H' → nx σ' H') :
    ∃ m' : Int, [V.int m] = [.int m'] ∧ -(2 ^ 62) ≤ m' ∧ m' < 2 ^ 62 ∧ ∃ W : Nat → Nat → L2.St → Hp → Prop, (∃ q, W 0 q σ H) ∧ ∀ i q σ H, W i q σ H → ((Itr 0 m'.toNat).stop i H ∧ nx σ H) ∨ ((Itr 0 m'.toNat).go i H ∧ ∃ N : L2.St → Hp → Prop, (∀ σ' H', N σ' H' → ∃ q', q' < q ∧ W (i + 1) q' σ' H') ∧ ∀ x H', (Itr 0 m'.toNat).yld i H x H' → gName j x σ H' fun σ2 H2 => tb ⟨N, rt, nx, N⟩ σ2 H2) :=
  ⟨m, rfl, by omega, by omega, for_range (D := ⟨nx, rt, fun _ _ => False, fun _ _ => False⟩) (g := gName j) (lo := 0) (n := m.toNat) Pv h0 (fun k σ' H' hk p => by
    have z := hs k σ' H' (by omega) p
    show tb ⟨Pv (k + 1), rt, nx, Pv (k + 1)⟩ (σ'.set j (some (.int ((0 : Int) + (k : Int))))) H'
    rw [show (0 : Int) + (k : Int) = (k : Int) from Int.zero_add _]
    exact z) hd⟩
/- expressions -/
theorem r_var (e : σ[i]? = some (some v)) (h : Q v H) : tVar i σ H Q := ⟨v, e, h⟩
theorem r_c (h : Q v H) : tC v σ H Q := h
theorem r_op {r : R2} (h : ta σ H fun x H1 => tb σ H1 fun y H2 => r x y H2 Q) : tOp r ta tb σ H Q := h
theorem r_un {r : V → Hp → VK → Prop} (h : ta σ H fun x H1 => r x H1 Q) : tUn r ta σ H Q := h
theorem r_I0 {g : Int → Int → V} {i j : Int} (h : Q (g i j) H) : rI0 g (.int i) (.int j) H Q := ⟨i, j, rfl, rfl, h⟩
theorem r_I {C : Int → Int → Prop} {g : Int → Int → V} {i j : Int} (hc : C i j) (h : Q (g i j) H) : rI C g (.int i) (.int j) H Q := ⟨i, j, rfl, rfl, hc, h⟩
theorem r_U {g : Int → V} {i : Int} (h : Q (g i) H) : rU g (.int i) H Q := ⟨i, rfl, h⟩
theorem r_cb {r : List V → Hp → VK → Prop} (h : tr σ H fun vs H1 => r vs H1 Q) : tCB r tr σ H Q := h
theorem r_cons {Q : List V → Hp → Prop} (h : ta σ H fun x H1 => tr σ H1 fun xs H2 => Q (x :: xs) H2) : tCons ta tr σ H Q := h
theorem r_nil {Q : List V → Hp → Prop} (h : Q [] H) : tNil σ H Q := h
theorem r_tup (h : tr σ H fun xs H1 => xs.length ≤ sizeLine ∧ ∀ p, H1 p = none → Q (.ref p) (upd H1 p (.tup xs))) : tTup tr σ H Q := h
theorem r_lst (h : tr σ H fun xs H1 => xs.length ≤ sizeLine ∧ ∀ p, H1 p = none → Q (.ref p) (upd H1 p (.lst xs))) : tLst tr σ H Q := h
theorem r_call {sp : Sp} {dvs : List V} {E : XK} (h : tr σ H fun vs H1 => sp (vs ++ dvs) H1 Q E) : tCall sp dvs E tr σ H Q := h
theorem r_test (h : ta σ H fun x H' => ∃ k, x = .bl k ∧ B k H') : tTest ta σ H B := h
theorem r_B (h : ta σ H fun x H' => ∃ k, x = .bl k ∧ B k H') : tB ta σ H B := h
theorem r_bl {b : Bool} (h : B b H) : ∃ k, V.bl b = .bl k ∧ B k H := ⟨b, rfl, h⟩
theorem r_and (h : c σ H fun b H1 => if b = true then c' σ H1 B else B false H1) : tAnd c c' σ H B := h
theorem r_or (h : c σ H fun b H1 => if b = true then B true H1 else c' σ H1 B) : tOr c c' σ H B := h
theorem r_not (h : c σ H fun b H1 => B (!b) H1) : tNot c σ H B := h
theorem r_andV (h : ta σ H fun x H1 => ∃ k, x = .bl k ∧ if k = true then tb σ H1 Q else Q (.bl false) H1) : tAndV ta tb σ H Q := h
theorem r_orV (h : ta σ H fun x H1 => ∃ k, x = .bl k ∧ if k = true then Q (.bl true) H1 else tb σ H1 Q) : tOrV ta tb σ H Q := h
theorem r_blV {b : Bool} {P : Bool → Prop} (h : P b) : ∃ k, V.bl b = .bl k ∧ P k := ⟨b, rfl, h⟩
theorem r_notV (h : ta σ H fun x H1 => ∃ k, x = .bl k ∧ Q (.bl (!k)) H1) : tNotV ta σ H Q := h
theorem r_ifE (h : c σ H fun b H1 => if b = true then ta σ H1 Q else tb σ H1 Q) : tIf c ta tb σ H Q := h
theorem r_eqI {i j : Int} (h : Q (.bl (decide (i = j))) H) : rEq (.int i) (.int j) H Q := ⟨rfl, by
  rw [show decide (V.int i = V.int j) = decide (i = j) from by simp]; exact h⟩
theorem r_neI {i j : Int} (h : Q (.bl (!decide (i = j))) H) : rNe (.int i) (.int j) H Q := ⟨rfl, by
  rw [show decide (V.int i = V.int j) = decide (i = j) from by simp]; exact h⟩
theorem r_eqS {i j : Str} (h : Q (.bl (decide (i = j))) H) : rEq (.str i) (.str j) H Q := ⟨rfl, by
  rw [show decide (V.str i = V.str j) = decide (i = j) from by simp]; exact h⟩
theorem r_neS {i j : Str} (h : Q (.bl (!decide (i = j))) H) : rNe (.str i) (.str j) H Q := ⟨rfl, by
  rw [show decide (V.str i = V.str j) = decide (i = j) from by simp]; exact h⟩
theorem r_isN (h : Q (.bl (decide (x = .non))) H) : V.non = .non ∧ Q (.bl (decide (x = .non))) H := ⟨rfl, h⟩
theorem r_t {A B : Prop} (h : A) : if true = true then A else B := iteT h
theorem r_f {A B : Prop} (h : B) : if false = true then A else B := iteF h
theorem r_nf {A B : Prop} (h : A) : if (!false) = true then A else B := iteT h
theorem r_nt {A B : Prop} (h : B) : if (!true) = true then A else B := iteF h
theorem r_ite {p A B : Prop} [Decidable p] (h1 : p → A) (h2 : ¬ p → B) : if decide p = true then A else B := ite2 (fun h => h1 (of_decide_eq_true h)) (fun h => h2 fun q => h (decide_eq_true q))
theorem r_iteN {p A B : Prop} [Decidable p] (h1 : ¬ p → A) (h2 : p → B) : if (!decide p) = true then A else B := by
  by_cases h : p
  · rw [decide_eq_true h]; exact iteF (h2 h)
  · rw [decide_eq_false h]; exact iteT (h1 h)
theorem r_iteY {p A B : Prop} [Decidable p] (h : p) (h1 : A) : if decide p = true then A else B := by rw [decide_eq_true h]; exact iteT h1
theorem r_iteF {p A B : Prop} [Decidable p] (h : ¬ p) (h1 : B) : if decide p = true then A else B := by rw [decide_eq_false h]; exact iteF h1
theorem r_ite_b {b b' : Bool} {A B : Prop} (e : b = b') (h : if b' = true then A else B) : if b = true then A else B := by rw [e]; exact h
theorem r_yes (h : B true H) : tYes σ H B := h
theorem r_bm {T : String} {r : V → List V → Hp → VK → Prop} (h : ta σ H fun x H1 => tyV K T x H1 ∧ tr σ H1 fun xs H2 => r x xs H2 Q) : tBM K T r ta tr σ H Q := h
theorem r_bm0 {T : String} {r : V → List V → Hp → VK → Prop} (h : ta σ H fun x H1 => tyV K T x H1 ∧ r x [] H1 Q) : tBM0 K T r ta σ H Q := h
theorem r_dget (h : ta σ H fun x H1 => tb σ H1 fun y H2 => ∃ a v, x = .ref a ∧ DGet H2 a y (some v) ∧ Q v H2) : tDGet ta tb σ H Q := h
theorem r_dgetS {a : Addr} {kvs : List (Key × V)} {k : Str} (e : H a = some (.dK kvs)) {P : V → Prop} (hv : valV kvs (Sum.inr k : Key) = some v) (h : P v) : ∃ a' v', V.ref a = .ref a' ∧ DGet H a' (.str k) (some v') ∧ P v' :=
  ⟨a, v, rfl, by have z := DGet.k (k := (Sum.inr k : Key)) e; rw [hv] at z; exact z, h⟩
theorem r_dput {bk ct : L2.St → Hp → Prop} (h : tc σ H fun v H1 => ta σ H1 fun x H2 => tb σ H2 fun y H3 => ∃ a H4, x = .ref a ∧ DPut H3 a y v H4 ∧ nx σ H4) : sDPut ta tb tc ⟨nx, rt, bk, ct⟩ σ H := h
theorem r_dputS {a : Addr} {kvs kvs' : List (Key × V)} {k : Str} (e : H a = some (.dK kvs)) (hl : kvs.length ≤ 1000) {P : Hp → Prop} (hv : putK kvs (Sum.inr k : Key) v = kvs') (h : P (upd H a (.dK kvs'))) : ∃ a' H', V.ref a = .ref a' ∧ DPut H a' (.str k) v H' ∧ P H' :=
  ⟨a, _, rfl, DPut.k (k := (Sum.inr k : Key)) e (small1000 hl), by rw [hv]; exact h⟩
theorem r_disp {trs : List (TE × TE)} (h : ∀ p, H p = none → tPairs trs σ (upd H p (.dK [])) fun ps H2 => H2 p = some (.dK []) ∧ ∃ kvs : List (Key × V), ps = kvs.map (fun kv => (kV kv.1, kv.2)) ∧ kvs.length ≤ 15 ∧ Q (.ref p) (upd H2 p (.dK (mergeK [] kvs)))) : tDisp trs σ H Q := h
theorem r_pnil {Q : List (V × V) → Hp → Prop} (h : Q [] H) : tPairs [] σ H Q := h
theorem r_pcons {Q : List (V × V) → Hp → Prop} {trs : List (TE × TE)} (h : ta σ H fun x H1 => tb σ H1 fun y H2 => tPairs trs σ H2 fun ps H3 => Q ((x, y) :: ps) H3) : tPairs ((ta, tb) :: trs) σ H Q := h
theorem r_fld {f : Str} (h : ta σ H fun x H1 => ∃ a C dx fs v, x = .ref a ∧ H1 a = some (.ins C dx fs) ∧ Cls K C ∧ NoAttr K C f ∧ fs.lookup f = some v ∧ Q v H1) : tFld K ta f σ H Q := h
theorem r_slice {r : V → Option Int → Option Int → Hp → VK → Prop} {tl th : TO} (h : te σ H fun x H1 => tl σ H1 fun l H2 => th σ H2 fun u H3 => r x l u H3 Q) : tSl r te tl th σ H Q := h
theorem r_nopart {Q : Option Int → Hp → Prop} (h : Q none H) : tNoPart σ H Q := h
theorem r_part {Q : Option Int → Hp → Prop} (h : te σ H fun x H1 => ∃ i, x = .int i ∧ Q (some i) H1) : tPart te σ H Q := h
theorem r_int {P : Int → Prop} {i : Int} (h : P i) : ∃ j, V.int i = .int j ∧ P j := ⟨i, rfl, h⟩
theorem r_ixL {p : Addr} {xs : List V} {i : Int} (hs : SqL K H p xs) (e : atI xs i = some v) (h : Q v H) : rIxL K (.ref p) (.int i) H Q := ⟨p, xs, i, v, rfl, rfl, hs, e, h⟩
theorem r_ixT {p : Addr} {xs : List V} {i : Int} (hs : SqT K H p xs) (e : atI xs i = some v) (h : Q v H) : rIxT K (.ref p) (.int i) H Q := ⟨p, xs, i, v, rfl, rfl, hs, e, h⟩
theorem r_ixS {z : Str} {i : Int} {k : Nat} (hl : z.length ≤ sizeLine) (e : atI z.cps.toList i = some k) (h : Q (.str ⟨#[k]⟩) H) : rIxS (.str z) (.int i) H Q := ⟨z, i, k, rfl, rfl, hl, e, h⟩
/- built-ins by named relations -/
def rAbs : List V → Hp → VK → Prop := fun xs H Q => ∃ i, xs = [.int i] ∧ Q (.int (if i < 0 then -i else i)) H
theorem r_abs {i : Int} (h : Q (.int (if i < 0 then -i else i)) H) : rAbs [.int i] H Q := ⟨i, rfl, h⟩
def rInt1 : List V → Hp → VK → Prop := fun xs H Q => (∃ i, xs = [.int i] ∧ Q (.int i) H) ∨ ∃ k, xs = [.bl k] ∧ Q (.int (if k then 1 else 0)) H
theorem r_int1 {i : Int} (h : Q (.int i) H) : rInt1 [.int i] H Q := .inl ⟨i, rfl, h⟩
theorem r_int1b {b : Bool} (h : Q (.int (if b then 1 else 0)) H) : rInt1 [.bl b] H Q := .inr ⟨b, rfl, h⟩
def rMin2 : List V → Hp → VK → Prop := fun xs H Q => ∃ i j, xs = [.int i, .int j] ∧ Q (.int (if j < i then j else i)) H
theorem r_min2 {i j : Int} (h : Q (.int (if j < i then j else i)) H) : rMin2 [.int i, .int j] H Q := ⟨i, j, rfl, h⟩
def rLenS (K : PySem.W.Frag) : List V → Hp → VK → Prop := fun xs H Q => ∃ p ys, xs = [.ref p] ∧ (SqL K H p ys ∨ SqT K H p ys) ∧ Q (.int ys.length) H
theorem r_lenL {p : Addr} {ys : List V} (hs : SqL K H p ys) (h : Q (.int ys.length) H) : rLenS K [.ref p] H Q := ⟨p, ys, rfl, .inl hs, h⟩
theorem r_lenT {p : Addr} {ys : List V} (hs : SqT K H p ys) (h : Q (.int ys.length) H) : rLenS K [.ref p] H Q := ⟨p, ys, rfl, .inr hs, h⟩
def CIsi (K : PySem.W.Frag) (H : Hp) (x c : V) (b : Bool) : Prop := ∃ (t u : Value), ClsV c u ∧ TyX K H x t ∧ PySem.W.kitOne K t u = some b
theorem r_isi {x c : V} {b : Bool} (hc : CIsi K H x c b) (h : Q (.bl b) H) : rIsi K [x, c] H Q := by
  obtain ⟨t, u, a, b', e⟩ := hc
  exact ⟨x, c, t, u, b, rfl, a, b', e, h⟩
theorem isi_int {i : Int} : CIsi K H (.int i) (.ty "int") true := ⟨_, _, .ty _, .base (.int i), kit_ty (by decide +kernel)⟩
theorem isi_intB {i : Int} : CIsi K H (.int i) (.ty "bool") false := ⟨_, _, .ty _, .base (.int i), kit_ty (by decide +kernel)⟩
theorem isi_lst {p : Addr} {xs : List V} (e : H p = some (.lst xs)) : CIsi K H (.ref p) (.ty "list") true := ⟨_, _, .ty _, .base (.lst e), kit_ty (by decide +kernel)⟩
theorem isi_tup {p : Addr} {xs : List V} (e : H p = some (.tup xs)) : CIsi K H (.ref p) (.ty "tuple") true := ⟨_, _, .ty _, .base (.tup e), kit_ty (by decide +kernel)⟩
theorem r_pow {i j z : Int} (e : i ^ j.toNat = z) (hc : CPow i j) (h : Q (.int z) H) : rI CPow (fun i j => .int (i ^ j.toNat)) (.int i) (.int j) H Q := ⟨i, j, rfl, rfl, hc, by show Q (.int (i ^ j.toNat)) H; rw [e]; exact h⟩
theorem r_p2_63 (h : Q (.int 9223372036854775808) H) : rI CPow (fun i j => .int (i ^ j.toNat)) (.int 2) (.int 63) H Q := r_pow (by decide) (by unfold CPow; decide) h
theorem r_p2_64 (h : Q (.int 18446744073709551616) H) : rI CPow (fun i j => .int (i ^ j.toNat)) (.int 2) (.int 64) H Q := r_pow (by decide) (by unfold CPow; decide) h
theorem r_p2_32 (h : Q (.int 4294967296) H) : rI CPow (fun i j => .int (i ^ j.toNat)) (.int 2) (.int 32) H Q := r_pow (by decide) (by unfold CPow; decide) h
theorem r_p2_31 (h : Q (.int 2147483648) H) : rI CPow (fun i j => .int (i ^ j.toNat)) (.int 2) (.int 31) H Q := r_pow (by decide) (by unfold CPow; decide) h
theorem r_p10_18 (h : Q (.int 1000000000000000000) H) : rI CPow (fun i j => .int (i ^ j.toNat)) (.int 10) (.int 18) H Q := r_pow (by decide) (by unfold CPow; decide) h
theorem r_p10_30 (h : Q (.int 1000000000000000000000000000000) H) : rI CPow (fun i j => .int (i ^ j.toNat)) (.int 10) (.int 30) H Q := r_pow (by decide) (by unfold CPow; decide) h
theorem r_mulR {i j : Int} (hc : -(2 ^ 64) < j ∧ j < 2 ^ 64) (h : Q (.int (i * j)) H) : rI CMul (fun i j => .int (i * j)) (.int i) (.int j) H Q := ⟨i, j, rfl, rfl, .inr hc, h⟩
theorem r_mulL {i j : Int} (hc : -(2 ^ 64) < i ∧ i < 2 ^ 64) (h : Q (.int (i * j)) H) : rI CMul (fun i j => .int (i * j)) (.int i) (.int j) H Q := ⟨i, j, rfl, rfl, .inl hc, h⟩
theorem r_div {i j : Int} (hc : 0 < j ∧ j < 1073741824) (h : Q (.int (i / j)) H) : rI CDiv (fun i j => .int (i / j)) (.int i) (.int j) H Q := ⟨i, j, rfl, rfl, hc, h⟩
theorem r_mod {i j : Int} (hc : 0 < j) (h : Q (.int (i % j)) H) : rI (fun _ j => 0 < j) (fun i j => .int (i % j)) (.int i) (.int j) H Q := ⟨i, j, rfl, rfl, hc, h⟩
theorem eqS {s a : Str} : eqV (.str a) (.str s) = decide (s = a) := by
  show (a == s) = decide (s = a)
  by_cases h : s = a
  · subst h
    rw [decide_eq_true rfl, beq_self_eq_true]
  · rw [decide_eq_false h]
    exact beq_eq_false_iff_ne.mpr fun z => h z.symm
theorem in2 {s a b : Str} : inV (.str s) [.str a, .str b] = (decide (s = a) || decide (s = b)) := by
  unfold inV
  rw [List.any_cons, List.any_cons, List.any_nil, Bool.or_false, eqS, eqS]
theorem in3 {s a b c : Str} : inV (.str s) [.str a, .str b, .str c] = (decide (s = a) || (decide (s = b) || decide (s = c))) := by
  unfold inV
  rw [List.any_cons, List.any_cons, List.any_cons, List.any_nil, Bool.or_false, eqS, eqS, eqS]
theorem r_inT {p : Addr} {xs : List V} {b : Bool} (e : H p = some (.tup xs)) (hx : flatV x = true) (ha : xs.all flatV = true) (hb : inV x xs = b) (h : Q (.bl b) H) : rIn K false x (.ref p) H Q :=
  ⟨p, xs, rfl, .inr (.inl (.inl e)), hx, ha, by rw [if_neg Bool.false_ne_true, hb]; exact h⟩
theorem r_niT {p : Addr} {xs : List V} {b : Bool} (e : H p = some (.tup xs)) (hx : flatV x = true) (ha : xs.all flatV = true) (hb : inV x xs = b) (h : Q (.bl (!b)) H) : rIn K true x (.ref p) H Q :=
  ⟨p, xs, rfl, .inr (.inl (.inl e)), hx, ha, by rw [if_pos rfl, hb]; exact h⟩
theorem r_m1 {r : V → List V → Hp → VK → Prop} (h : ta σ H fun x H1 => (∃ a, x = .str a) ∧ te σ H1 fun y H2 => r x [y] H2 Q) : tM1 r ta te σ H Q := h
/-- [e for x in range(m)] -/
def LcR (te : TE) (g : TG) (ts : TT) (vs : List Nat) (σ : L2.St) (Q : VK) : List V → Hp → Prop := fun ws H1 => ∃ m : Int, ws = [.int m] ∧ -(2 ^ 62) ≤ m ∧ m < 2 ^ 62 ∧ ∀ D, H1 D = none → ∃ W : Nat → Nat → Hp → Prop, (∃ q, W 0 q (upd H1 D (.lst []))) ∧ ∀ i q H, W i q H →
      ((Itr 0 m.toNat).stop i H ∧ Q (.ref D) H) ∨ ((Itr 0 m.toNat).go i H ∧ ∃ Nx : Hp → Prop, (∀ H', Nx H' → ∃ q', q' < q ∧ W (i + 1) q' H') ∧ ∀ x H', (Itr 0 m.toNat).yld i H x H' → g x (wipe σ vs) H' fun σ2 H2 => wipe σ2 vs = wipe σ vs ∧ ts σ2 H2 fun b H3 =>
        if b = true then te σ2 H3 fun y H4 => ∃ acc, H4 D = some (.lst acc) ∧ acc.length < sizeLine ∧ Nx (upd H4 D (.lst (acc ++ [y]))) else Nx H3)
theorem r_lcr {g : TG} {ts : TT} {vs : List Nat} (h : tr σ H (LcR te g ts vs σ Q)) : tLc (iRng1 tr) g ts te vs σ H Q := h
theorem r_lcR {j : Nat} {vs : List Nat} {m : Int} (Pv : Addr → Nat → Hp → Prop) (hm : -1000000000 ≤ m ∧ m ≤ 1000000000) (h0 : ∀ D, H D = none → Pv D 0 (upd H D (.lst [])))
    (hw : ∀ x, wipe ((wipe σ vs).set j (some x)) vs = wipe σ vs)
    (hs : ∀ D (k : Nat) H', H D = none → (k : Int) < m → Pv D k H' → te ((wipe σ vs).set j (some (.int (k : Int)))) H' fun y H4 => ∃ acc, H4 D = some (.lst acc) ∧ acc.length < sizeLine ∧ Pv D (k + 1) (upd H4 D (.lst (acc ++ [y]))))
    (hd : ∀ D H', H D = none → Pv D m.toNat H' → Q (.ref D) H') : LcR te (gName j) tYes vs σ Q [.int m] H := by
  refine ⟨m, rfl, by omega, by omega, fun D hD => lc_range (lo := 0) (n := m.toNat) (Pv D) (h0 D hD) (fun k H' hk p => ?_) (fun H' p => hd D H' hD p)⟩
  refine ⟨hw _, ?_⟩
  have z := hs D k H' hD (by omega) p
  rw [show (0 : Int) + (k : Int) = (k : Int) from Int.zero_add _]
  exact r_yes (iteT z)
/- own rules by value -/
end
theorem r_cut {t u : TS} {nx bk ct : L2.St → Hp → Prop} {rt : V → Hp → Prop} {σ : L2.St} {H : Hp} (Mid : L2.St → Hp → Prop) (h : t ⟨Mid, rt, bk, ct⟩ σ H) (h2 : ∀ σ' H', Mid σ' H' → u ⟨nx, rt, bk, ct⟩ σ' H') : C8.tCut t u ⟨nx, rt, bk, ct⟩ σ H := ⟨Mid, h, h2⟩
section
variable {X : Cx}
theorem cAbs : CallR X (.builtin "abs") rAbs := call_abs
theorem cInt1 : CallR X (.type "int") rInt1 := call_int1
theorem cMin2 (hc : X.calm = true) : CallR X (.builtin "min") rMin2 := call_min2 hc
theorem cLenS : CallR X (.builtin "len") (rLenS X.K) := call_len_seq
/-- // by any divisor below 2 ^ 9000 but 0 -/
def CDivZ (_ j : Int) : Prop := j ≠ 0 ∧ j.natAbs.log2 < 9000
theorem op_fdivZ : OpR X (binaryOp .FloorDiv) (rI CDivZ fun i j => .int (i.fdiv j)) := opI fun i j _ _ _ _ _ hc q => by
  exact floordiv_int hc.1 q (.inl (PyProof.noPylong_of_log2 hc.2))
theorem div_ok {i j : Int} (h : j ≠ 0) (hb : j.natAbs < 2 ^ 100) : CDivZ i j := ⟨h, Nat.lt_of_lt_of_le (PySem.Flt.log2_lt_of (by decide) hb) (by decide)⟩
end
/- heaps -/
/-- all but p stands as it stood -/
def Mv (p : Addr) (H H' : Hp) : Prop := ∀ b o, H b = some o → b ≠ p → H' b = some o
theorem Mv.refl {p : Addr} {H : Hp} : Mv p H H := fun _ _ e _ => e
theorem Mv.trans {p : Addr} {H H1 H2 : Hp} (a : Mv p H H1) (b : Mv p H1 H2) : Mv p H H2 := fun c o h hp => b c o (a c o h hp) hp
theorem Mv.upd {p : Addr} {H : Hp} {o : HO} : Mv p H (upd H p o) := fun b u e hp => by rw [upd_ne hp]; exact e
theorem Mv.of {p : Addr} {H H' : Hp} (a : Same H H') : Mv p H H' := fun b o e _ => a b o e
theorem same_new {H : Hp} {p : Addr} {o : HO} (h : H p = none) : Same H (upd H p o) := fun b x e => by
  rw [upd_ne (ne_of_none e h)]
  exact e
theorem same_new2 {H : Hp} {p : Addr} {o o' : HO} (h : H p = none) : Same H (upd (upd H p o) p o') := fun b x e => by
  rw [upd_ne (ne_of_none e h), upd_ne (ne_of_none e h)]
  exact e
theorem Same.sqt {K : PySem.W.Frag} {H H' : Hp} {a : Addr} {xs : List V} (e : Same H H') (h : SqT K H a xs) : SqT K H' a xs := by
  rcases h with (h | ⟨o, h⟩) | h
  · exact .inl (.inl (e _ _ h))
  · exact .inl (.inr ⟨o, e _ _ h⟩)
  · exact .inr h
theorem sqL {K : PySem.W.Frag} {H : Hp} {a : Addr} {xs : List V} (h : H a = some (.lst xs)) : SqL K H a xs := .inl (.inl h)
theorem sqT {K : PySem.W.Frag} {H : Hp} {a : Addr} {xs : List V} (h : H a = some (.tup xs)) : SqT K H a xs := .inl (.inl h)
theorem size_of {n : Nat} (h : n ≤ 100000) : n ≤ sizeLine := Nat.le_trans h (by decide)
theorem size_lt {n : Nat} (h : n < 100000) : n < sizeLine := Nat.lt_of_lt_of_le h (by decide)
theorem at_nat {α : Type} {xs : List α} {i : Int} {v : α} (h0 : 0 ≤ i) (h : xs[i.toNat]? = some v) : atI xs i = some v := by
  have z := atI_nat h
  rwa [Int.toNat_of_nonneg h0] at z
theorem map_int_get {ns : List Int} {i : Nat} {y : V} (h : (ns.map V.int)[i]? = some y) : ∃ z, ns[i]? = some z ∧ y = .int z := by
  rw [List.getElem?_map] at h
  cases e : ns[i]? with
  | none => rw [e] at h; cases h
  | some z => rw [e] at h; exact ⟨z, rfl, (Option.some.inj h).symm⟩
/-! what the top has written, in packs -/
structure FnP (K : PySem.W.Frag) (mg : Str → Option Value) (x qual : Str) (st : Stmt) (ps : List Str) where
  f : Addr
  fd : FuncData
  F : Fun K x qual st f fd
  b : Binds K fd ps []
  g : mg x = some (.ref f)
structure MtP (K : PySem.W.Frag) (x qual : Str) (st : Stmt) (ps : List Str) (C : Addr) where
  f : Addr
  fd : FuncData
  F : Fun K x qual st f fd
  b : Binds K fd ps []
  me : Meth K C x f
structure InP (K : PySem.W.Frag) (x qual : Str) (st : Stmt) (ps : List Str) (C : Addr) where
  f : Addr
  fd : FuncData
  F : Fun K x qual st f fd
  b : Binds K fd ps []
  M : Mk K C f
structure ClP (K : PySem.W.Frag) (mg : Str → Option Value) (x : Str) where
  a : Addr
  g : mg x = some (.ref a)
  cl : Cls K a
end R
end
section
/-! nested data: == is equality where no truth stands in it -/
namespace D
open PySem
mutual
def nb : PyData → Bool
  | .none => true
  | .int _ => true
  | .str _ => true
  | .bool _ => false
  | .dict _ => false
  | .list xs => nbAll xs
  | .tuple xs => nbAll xs
def nbAll : List PyData → Bool
  | [] => true
  | x :: xs => nb x && nbAll xs
end
mutual
theorem eqv_nb : ∀ d e : PyData, nb d = true → nb e = true → (PyData.eqv d e = true ↔ d = e)
  | .none, e, _, he => by cases e <;> simp [PyData.eqv, nb] at he ⊢
  | .int i, e, _, he => by cases e <;> simp [PyData.eqv, nb] at he ⊢
  | .str i, e, _, he => by cases e <;> simp [PyData.eqv, nb] at he ⊢
  | .bool _, _, hd, _ => by simp [nb] at hd
  | .dict _, _, hd, _ => by simp [nb] at hd
  | .list xs, e, hd, he => by
    cases e with
    | list ys =>
      have z := eqvAll_nb xs ys (by simpa [nb] using hd) (by simpa [nb] using he)
      rw [PyData.eqv, z]
      exact ⟨fun h => by rw [h], fun h => by injection h⟩
    | _ => simp [PyData.eqv, nb] at he ⊢
  | .tuple xs, e, hd, he => by
    cases e with
    | tuple ys =>
      have z := eqvAll_nb xs ys (by simpa [nb] using hd) (by simpa [nb] using he)
      rw [PyData.eqv, z]
      exact ⟨fun h => by rw [h], fun h => by injection h⟩
    | _ => simp [PyData.eqv, nb] at he ⊢
theorem eqvAll_nb : ∀ xs ys : List PyData, nbAll xs = true → nbAll ys = true → (PyData.eqvAll xs ys = true ↔ xs = ys)
  | [], ys, _, _ => by cases ys <;> simp [PyData.eqvAll]
  | x :: xs, [], _, _ => by simp [PyData.eqvAll]
  | x :: xs, y :: ys, hx, hy => by
    simp only [nbAll, Bool.and_eq_true] at hx hy
    rw [PyData.eqvAll, Bool.and_eq_true, eqv_nb x y hx.1 hy.1, eqvAll_nb xs ys hx.2 hy.2]
    exact ⟨fun h => by rw [h.1, h.2], fun h => by injection h with a b; exact ⟨a, b⟩⟩
end
theorem eqv_dec {d e : PyData} {p : Prop} [Decidable p] (hd : nb d = true) (he : nb e = true) (h : d = e ↔ p) : PyData.eqv d e = decide p := by
  rw [Bool.eq_iff_iff, eqv_nb d e hd he, h, decide_eq_true_iff]
theorem nbAll_of {xs : List PyData} (h : ∀ x ∈ xs, nb x = true) : nbAll xs = true := by
  induction xs with
  | nil => rfl
  | cons x xs ih =>
    rw [nbAll, Bool.and_eq_true]
    exact ⟨h x List.mem_cons_self, ih fun y hy => h y (List.mem_cons_of_mem _ hy)⟩
/-- it may be compared; its depth is at most k -/
structure Sh (k : Nat) (d : PyData) : Prop where
  n : nb d = true
  c : d.canLay0 = true
  d : d.depth ≤ k
theorem Sh.shaped {k : Nat} {d : PyData} (h : Sh k d) (hk : k ≤ 64) : SeqAt.shaped d = true := by
  unfold SeqAt.shaped
  rw [h.c, decide_eq_true (Nat.le_trans h.d hk)]
  rfl
theorem Sh.int {k : Nat} (i : Int) : Sh k (.int i) := ⟨rfl, rfl, Nat.zero_le _⟩
theorem Sh.str {k : Nat} {x : Str} (h : PyData.strOk x = true) : Sh k (.str x) := ⟨rfl, by rw [PyData.canLay0]; exact h, Nat.zero_le _⟩
theorem lay_of {xs : List PyData} (h : ∀ x ∈ xs, x.canLay0 = true) : PyData.canLayAll0 xs = true := by
  induction xs with
  | nil => rfl
  | cons x xs ih =>
    rw [PyData.canLayAll0, Bool.and_eq_true]
    exact ⟨h x List.mem_cons_self, ih fun y hy => h y (List.mem_cons_of_mem _ hy)⟩
theorem depth_of {xs : List PyData} {k : Nat} (h : ∀ x ∈ xs, x.depth ≤ k) : PyData.depthAll xs ≤ k := by
  induction xs with
  | nil => exact Nat.zero_le _
  | cons x xs ih =>
    rw [PyData.depthAll]
    exact Nat.max_le.mpr ⟨h x List.mem_cons_self, ih fun y hy => h y (List.mem_cons_of_mem _ hy)⟩
theorem Sh.tup {k : Nat} {xs : List PyData} (h : ∀ x ∈ xs, Sh k x) : Sh (k + 1) (.tuple xs) :=
  ⟨by rw [nb]; exact nbAll_of fun x hx => (h x hx).n, by rw [PyData.canLay0]; exact lay_of fun x hx => (h x hx).c, by rw [PyData.depth]; exact Nat.succ_le_succ (depth_of fun x hx => (h x hx).d)⟩
theorem Sh.lst {k : Nat} {xs : List PyData} (h : ∀ x ∈ xs, Sh k x) : Sh (k + 1) (.list xs) :=
  ⟨by rw [nb]; exact nbAll_of fun x hx => (h x hx).n, by rw [PyData.canLay0]; exact lay_of fun x hx => (h x hx).c, by rw [PyData.depth]; exact Nat.succ_le_succ (depth_of fun x hx => (h x hx).d)⟩
theorem Sh.mono {j k : Nat} {d : PyData} (h : Sh j d) (hk : j ≤ k) : Sh k d := ⟨h.n, h.c, Nat.le_trans h.d hk⟩
theorem Sh.cons {k : Nat} {x : PyData} {xs : List PyData} (h : Sh k x) (t : ∀ y ∈ xs, Sh k y) : ∀ y ∈ x :: xs, Sh k y := fun y hy => by
  rcases List.mem_cons.mp hy with e | e
  · rw [e]; exact h
  · exact t y e
theorem Sh.nil {k : Nat} : ∀ y ∈ ([] : List PyData), Sh k y := fun _ h => nomatch h
theorem Sh.ints {k : Nat} {l : List Int} : ∀ y ∈ l.map PyData.int, Sh k y := fun y hy => by
  obtain ⟨i, _, e⟩ := List.mem_map.mp hy
  rw [← e]
  exact .int i
open L2
/-- what stands at the values -/
theorem all_map {K : PySem.W.Frag} {H : Hp} {α : Type} {f : α → V} {g : α → PyData} {xs : List α} (h : ∀ x ∈ xs, Dp K H (f x) (g x)) : DpAll K H (xs.map f) (xs.map g) := by
  induction xs with
  | nil => exact .nil
  | cons x xs ih => exact .cons (h x List.mem_cons_self) (ih fun y hy => h y (List.mem_cons_of_mem _ hy))
theorem all_ints {K : PySem.W.Frag} {H : Hp} {l : List Int} : DpAll K H (l.map V.int) (l.map PyData.int) := all_map fun x _ => .int x
mutual
theorem dp_same {K : PySem.W.Frag} {H H' : Hp} (s : Same H H') : ∀ (v : V) (d : PyData), Dp K H v d → Dp K H' v d
  | _, _, .non => .non
  | _, _, .bl b => .bl b
  | _, _, .int b => .int b
  | _, _, .str b => .str b
  | _, _, .lst q h => .lst (s.seq q) (dpAll_same s _ _ h)
  | _, _, .tup q h => .tup (R.Same.sqt s q) (dpAll_same s _ _ h)
theorem dpAll_same {K : PySem.W.Frag} {H H' : Hp} (s : Same H H') : ∀ (v : List V) (d : List PyData), DpAll K H v d → DpAll K H' v d
  | _, _, .nil => .nil
  | _, _, .cons a b => .cons (dp_same s _ _ a) (dpAll_same s _ _ b)
end
/-- a == b, a != b of data without truths -/
theorem r_eqD {K : PySem.W.Frag} {H : Hp} {Q : VK} {x y : V} {d e : PyData} {k j : Nat} {p : Prop} [Decidable p] (hx : Dp K H x d) (hy : Dp K H y e) (sd : Sh k d) (se : Sh j e) (hk : k ≤ 64) (hj : j ≤ 64) (h : d = e ↔ p) (q : Q (.bl (decide p)) H) : rEqD K x y H Q :=
  ⟨d, e, hx, hy, sd.shaped hk, se.shaped hj, by rw [eqv_dec sd.n se.n h]; exact q⟩
theorem r_neD {K : PySem.W.Frag} {H : Hp} {Q : VK} {x y : V} {d e : PyData} {k j : Nat} {p : Prop} [Decidable p] (hx : Dp K H x d) (hy : Dp K H y e) (sd : Sh k d) (se : Sh j e) (hk : k ≤ 64) (hj : j ≤ 64) (h : d = e ↔ p) (q : Q (.bl (!decide p)) H) : rNeD K x y H Q :=
  ⟨d, e, hx, hy, sd.shaped hk, se.shaped hj, by rw [eqv_dec sd.n se.n h]; exact q⟩
end D
end
section
/-! the machine: its state as plain data, and what of it stands in the heap -/
namespace MM
open PySem PySem.Spec PyProof.Rows L2
/-! ### plain data -/
inductive Cond where
  | ready | running (c : Nat) | sleeping (c : Nat) (u : Int) | asking | waiting (t : Int) | ended (k : Int)
def condV : Cond → List V
  | .ready => [.str "ready"]
  | .running c => [.str "running", .int (c : Int)]
  | .sleeping c u => [.str "sleeping", .int (c : Int), .int u]
  | .asking => [.str "asking"]
  | .waiting t => [.str "waiting", .int t]
  | .ended k => [.str "ended", .int k]
structure Vw where
  kind : Str
  cpu : Int
  time : Int
  pid : Int
  tid : Int
  at' : Int
  args : List Int
  regs : List Int
  mem : List Int
structure Th where
  pid : Nat
  pc : Int
  regs : List Int
  cond : Cond
  call : Int
  callAt : Int
structure Mm where
  cells : List Int
  kept : List (Int × Int)
structure MS where
  mem : List Mm
  rates : List Int
  ths : List Th
  ready : List Nat
  times : List Int
  run : List Int
  dev : Int
  reqs : List (Nat × Int × Int)
  cpu : Nat
  views : List Vw
/-! ### places -/
inductive Tg where
  | brd | thsL | memL | rdyL | timL | runL | reqL | vwsL | thr (i : Nat) | rgs (i : Nat) | mem (i : Nat) | cls (i : Nat) | kpt (i : Nat)
  deriving DecidableEq
def dom (kd : Bool) (nt nm : Nat) : Tg → Prop
  | .thr i => i < nt
  | .rgs i => i < nt
  | .mem i => i < nm
  | .cls i => i < nm
  | .kpt i => kd = true ∧ i < nm
  | _ => True
theorem dom.mono {kd : Bool} {nt nt' nm : Nat} {t : Tg} (h : nt ≤ nt') (d : dom kd nt nm t) : dom kd nt' nm t := by
  cases t <;> first | exact d | exact Nat.lt_of_lt_of_le d h
/-- what the fields and lists hold beside the plain data -/
structure Gh where
  dB : Addr
  dT : Nat → Addr
  dM : Nat → Addr
  cv : Nat → Addr
  rq : List Addr
  vw : List Addr
  rt : Addr
structure Cl where
  kd : Bool
  CB : Addr
  CT : Addr
  CM : Addr
def fsB (ad : Tg → Addr) (rt : Addr) (dev : Int) (cpu : Nat) : List (Str × V) :=
  [("memories", .ref (ad .memL)), ("rates", .ref rt), ("threads", .ref (ad .thsL)), ("ready", .ref (ad .rdyL)), ("times", .ref (ad .timL)), ("running", .ref (ad .runL)), ("device_value", .int dev), ("requests", .ref (ad .reqL)), ("cpu", .int (cpu : Int)), ("views", .ref (ad .vwsL))]
def fsT (rg : Addr) (c : Addr) (t : Th) : List (Str × V) :=
  [("pid", .int (t.pid : Int)), ("pc", .int t.pc), ("regs", .ref rg), ("condition", .ref c), ("call", .int t.call), ("call_at", .int t.callAt)]
def fsM (kd : Bool) (cl kp : Addr) : List (Str × V) := if kd then [("cells", .ref cl), ("kept", .ref kp)] else [("cells", .ref cl)]
def keptV (k : List (Int × Int)) : List (Key × V) := k.map fun p => (.inl p.1, .int p.2)
def cont (c : Cl) (ad : Tg → Addr) (g : Gh) (S : MS) : Tg → Option HO
  | .brd => some (.ins c.CB g.dB (fsB ad g.rt S.dev S.cpu))
  | .thsL => some (.lst ((List.range S.ths.length).map fun i => .ref (ad (.thr i))))
  | .memL => some (.lst ((List.range S.mem.length).map fun i => .ref (ad (.mem i))))
  | .rdyL => some (.lst (S.ready.map fun i : Nat => V.int (i : Int)))
  | .timL => some (.lst (S.times.map V.int))
  | .runL => some (.lst (S.run.map V.int))
  | .reqL => some (.lst (g.rq.map V.ref))
  | .vwsL => some (.lst (g.vw.map V.ref))
  | .thr i => S.ths[i]?.map fun t => .ins c.CT (g.dT i) (fsT (ad (.rgs i)) (g.cv i) t)
  | .rgs i => S.ths[i]?.map fun t => .lst (t.regs.map V.int)
  | .mem i => S.mem[i]?.map fun _ => .ins c.CM (g.dM i) (fsM c.kd (ad (.cls i)) (ad (.kpt i)))
  | .cls i => S.mem[i]?.map fun m => .lst (m.cells.map V.int)
  | .kpt i => if c.kd then S.mem[i]?.map fun m => .dK (keptV m.kept) else none
/-- a view's tuples -/
def VwAt (H : Hp) (a : Addr) (w : Vw) : Prop := ∃ e r m g, H a = some (.tup [.ref e, .ref r, .ref m]) ∧ H e = some (.tup [.str w.kind, .int w.cpu, .int w.time, .int w.pid, .int w.tid, .int w.at', .ref g]) ∧
  H g = some (.tup (w.args.map V.int)) ∧ H r = some (.tup (w.regs.map V.int)) ∧ H m = some (.tup (w.mem.map V.int))
def RqAt (H : Hp) (a : Addr) (q : Nat × Int × Int) : Prop := H a = some (.tup [.int (q.1 : Int), .int q.2.1, .int q.2.2])
/-- pairwise -/
inductive All2 {α β : Type} (R : α → β → Prop) : List α → List β → Prop
  | nil : All2 R [] []
  | cons {a b as bs} : R a b → All2 R as bs → All2 R (a :: as) (b :: bs)
theorem All2.length {α β : Type} {R : α → β → Prop} : ∀ {as : List α} {bs : List β}, All2 R as bs → as.length = bs.length
  | _, _, .nil => rfl
  | _, _, .cons _ t => congrArg (· + 1) t.length
theorem All2.imp {α β : Type} {R R' : α → β → Prop} (h : ∀ a b, R a b → R' a b) : ∀ {as : List α} {bs : List β}, All2 R as bs → All2 R' as bs
  | _, _, .nil => .nil
  | _, _, .cons r t => .cons (h _ _ r) (t.imp h)
theorem All2.snoc {α β : Type} {R : α → β → Prop} {a : α} {b : β} (r : R a b) : ∀ {as : List α} {bs : List β}, All2 R as bs → All2 R (as ++ [a]) (bs ++ [b])
  | _, _, .nil => .cons r .nil
  | _, _, .cons r1 t => .cons r1 (t.snoc r)
theorem All2.get {α β : Type} {R : α → β → Prop} : ∀ {as : List α} {bs : List β} {i : Nat} {b : β}, All2 R as bs → bs[i]? = some b → ∃ a, as[i]? = some a ∧ R a b
  | _, _, 0, _, .cons r _, h => ⟨_, rfl, by rw [← Option.some.inj h]; exact r⟩
  | _, _, i + 1, b, .cons _ t, h => t.get (i := i) h
theorem All2.app {α β : Type} {R : α → β → Prop} : ∀ {as as' : List α} {bs bs' : List β}, All2 R as bs → All2 R as' bs' → All2 R (as ++ as') (bs ++ bs')
  | _, _, _, _, .nil, h => h
  | _, _, _, _, .cons r t, h => .cons r (t.app h)
/-- tuples stay -/
def KeepT (H H' : Hp) : Prop := ∀ b xs, H b = some (.tup xs) → H' b = some (.tup xs)
theorem KeepT.refl (H : Hp) : KeepT H H := fun _ _ h => h
theorem KeepT.trans {H H1 H2 : Hp} (a : KeepT H H1) (b : KeepT H1 H2) : KeepT H H2 := fun c xs h => b c xs (a c xs h)
theorem KeepT.of {H H' : Hp} (s : Same H H') : KeepT H H' := fun b _ h => s b _ h
theorem KeepT.upd {H : Hp} {a : Addr} {o o' : HO} (h : H a = some o) (ht : ∀ xs, o ≠ .tup xs) : KeepT H (upd H a o') := fun b xs e => by
  rw [upd_ne (fun z => by rw [z, h] at e; exact ht xs (Option.some.inj e))]
  exact e
theorem VwAt.keep {H H' : Hp} (k : KeepT H H') {a : Addr} {w : Vw} (h : VwAt H a w) : VwAt H' a w := by
  obtain ⟨e, r, m, g, h1, h2, h3, h4, h5⟩ := h
  exact ⟨e, r, m, g, k _ _ h1, k _ _ h2, k _ _ h3, k _ _ h4, k _ _ h5⟩
/-- the state S stands in H at the places ad -/
structure Bd (c : Cl) (ad : Tg → Addr) (S : MS) (H : Hp) : Prop where
  ex : ∃ g : Gh, (∀ t o, cont c ad g S t = some o → H (ad t) = some o) ∧ (∀ i t, S.ths[i]? = some t → H (g.cv i) = some (.tup (condV t.cond))) ∧
    All2 (RqAt H) g.rq S.reqs ∧ All2 (VwAt H) g.vw S.views ∧ H g.rt = some (.tup (S.rates.map V.int))
  inj : ∀ t u, dom c.kd S.ths.length S.mem.length t → dom c.kd S.ths.length S.mem.length u → ad t = ad u → t = u
  out : ∀ t, ¬ dom c.kd S.ths.length S.mem.length t → ad t = ad .brd
theorem dom_some {c : Cl} {ad : Tg → Addr} {g : Gh} {S : MS} {t : Tg} {o : HO} (h : cont c ad g S t = some o) : dom c.kd S.ths.length S.mem.length t := by
  cases t with
  | thr i =>
    cases e : S.ths[i]? with
    | none => simp [cont, e] at h
    | some x => exact (List.getElem?_eq_some_iff.mp e).1
  | rgs i =>
    cases e : S.ths[i]? with
    | none => simp [cont, e] at h
    | some x => exact (List.getElem?_eq_some_iff.mp e).1
  | mem i =>
    cases e : S.mem[i]? with
    | none => simp [cont, e] at h
    | some x => exact (List.getElem?_eq_some_iff.mp e).1
  | cls i =>
    cases e : S.mem[i]? with
    | none => simp [cont, e] at h
    | some x => exact (List.getElem?_eq_some_iff.mp e).1
  | kpt i =>
    cases hk : c.kd with
    | false => simp [cont, hk] at h
    | true =>
      cases e : S.mem[i]? with
      | none => simp [cont, e] at h
      | some x => exact ⟨rfl, (List.getElem?_eq_some_iff.mp e).1⟩
  | _ => trivial
theorem not_tup {c : Cl} {ad : Tg → Addr} {g : Gh} {S : MS} {t : Tg} {o : HO} (h : cont c ad g S t = some o) : ∀ xs, o ≠ .tup xs := by
  intro xs e
  subst e
  cases t <;> simp [cont] at h
/-- how a step moves the places and the heap -/
structure Mvd (kd : Bool) (nt nm : Nat) (ad ad' : Tg → Addr) (H H' : Hp) : Prop where
  fr : ∀ b o, H b = some o → (∀ t, ad t ≠ b) → H' b = some o
  nw : ∀ t, (∃ u, ad u = ad' t) ∨ H (ad' t) = none
  kt : KeepT H H'
  ag : ∀ t, t ≠ .vwsL → dom kd nt nm t → ad' t = ad t
theorem Mvd.refl {kd : Bool} {nt nm : Nat} {ad : Tg → Addr} {H : Hp} : Mvd kd nt nm ad ad H H := ⟨fun _ _ h _ => h, fun t => .inl ⟨t, rfl⟩, KeepT.refl H, fun _ _ _ => rfl⟩
theorem Mvd.of {kd : Bool} {nt nm : Nat} {ad : Tg → Addr} {H H' : Hp} (s : Same H H') : Mvd kd nt nm ad ad H H' := ⟨fun b o h _ => s b o h, fun t => .inl ⟨t, rfl⟩, KeepT.of s, fun _ _ _ => rfl⟩
theorem Mvd.out {kd : Bool} {nt nm : Nat} {ad ad' : Tg → Addr} {H H' : Hp} (m : Mvd kd nt nm ad ad' H H') {b : Addr} {o : HO} (h : H b = some o) (hb : ∀ t, ad t ≠ b) : ∀ t, ad' t ≠ b := fun t e => by
  rcases m.nw t with ⟨u, hu⟩ | hn
  · exact hb u (hu.trans e)
  · rw [e, h] at hn
    cases hn
theorem Mvd.trans {kd : Bool} {nt nt' nm : Nat} {a1 a2 a3 : Tg → Addr} {H H1 H2 : Hp} (hn : nt ≤ nt') (m : Mvd kd nt nm a1 a2 H H1) (m' : Mvd kd nt' nm a2 a3 H1 H2) : Mvd kd nt nm a1 a3 H H2 where
  fr b o h hb := m'.fr b o (m.fr b o h hb) (m.out h hb)
  nw t := by
    rcases m'.nw t with ⟨u, hu⟩ | hn
    · rcases m.nw u with ⟨u', hu'⟩ | hn
      · exact .inl ⟨u', hu'.trans hu⟩
      · exact .inr (hu ▸ hn)
    · by_cases z : ∃ u, a1 u = a3 t
      · exact .inl z
      · refine .inr ?_
        cases e : H (a3 t) with
        | none => rfl
        | some o =>
          rw [m.fr _ _ e (fun u hu => z ⟨u, hu⟩)] at hn
          cases hn
  kt := m.kt.trans m'.kt
  ag t ht d := (m'.ag t ht (d.mono hn)).trans (m.ag t ht d)
section
variable {c : Cl} {ad : Tg → Addr} {S : MS} {H H' : Hp} {K : PySem.W.Frag}
theorem Bd.same (B : Bd c ad S H) (s : Same H H') : Bd c ad S H' := by
  obtain ⟨⟨g, h1, h2, h3, h4, h5⟩, inj, od⟩ := B
  exact ⟨⟨g, fun t o e => s _ _ (h1 t o e), fun i t e => s _ _ (h2 i t e), h3.imp fun _ _ z => s _ _ z, h4.imp fun _ _ z => z.keep (KeepT.of s), s _ _ h5⟩, inj, od⟩
/-- one place gets another thing -/
theorem Bd.put {g g' : Gh} {S' : MS} {t : Tg} {o o' : HO} (h1 : ∀ t o, cont c ad g S t = some o → H (ad t) = some o) (inj : ∀ t u, dom c.kd S.ths.length S.mem.length t → dom c.kd S.ths.length S.mem.length u → ad t = ad u → t = u)
    (ht : cont c ad g S t = some o) (e1 : cont c ad g' S' t = some o') (e2 : ∀ u, u ≠ t → cont c ad g' S' u = cont c ad g S u) : ∀ u o, cont c ad g' S' u = some o → upd H (ad t) o' (ad u) = some o := by
  intro u ou hu
  by_cases z : u = t
  · subst z
    rw [upd_same, ← e1, hu]
  · rw [e2 u z] at hu
    rw [upd_ne fun q => z (inj _ _ (dom_some hu) (dom_some ht) q)]
    exact h1 u ou hu
theorem Mvd.put {nt : Nat} {nm : Nat} {t : Tg} {o o' : HO} (h : H (ad t) = some o) (hn : ∀ xs, o ≠ .tup xs) : Mvd c.kd nt nm ad ad H (upd H (ad t) o') :=
  ⟨fun b u hb q => by rw [upd_ne (q t).symm]; exact hb, fun t => .inl ⟨t, rfl⟩, KeepT.upd h hn, fun _ _ _ => rfl⟩
/-! ### one place changed -/
def MS.setTh (S : MS) (i : Nat) (t : Th) : MS := { S with ths := S.ths.set i t }
def MS.setMm (S : MS) (i : Nat) (m : Mm) : MS := { S with mem := S.mem.set i m }
theorem Bd.thr (B : Bd c ad S H) {i : Nat} {t : Th} (ht : S.ths[i]? = some t) : ∃ dx c0, H (ad (.thr i)) = some (.ins c.CT dx (fsT (ad (.rgs i)) c0 t)) ∧ H c0 = some (.tup (condV t.cond)) ∧
    ∀ (t' : Th) (c1 : Addr), t'.regs = t.regs → H c1 = some (.tup (condV t'.cond)) → Bd c ad (S.setTh i t') (upd H (ad (.thr i)) (.ins c.CT dx (fsT (ad (.rgs i)) c1 t'))) := by
  obtain ⟨⟨g, h1, h2, h3, h4, h5⟩, inj, od⟩ := B
  have e1 : cont c ad g S (.thr i) = some (.ins c.CT (g.dT i) (fsT (ad (.rgs i)) (g.cv i) t)) := by simp [cont, ht]
  refine ⟨g.dT i, g.cv i, h1 _ _ e1, h2 i t ht, fun t' c1 hr hc => ?_⟩
  have hi : i < S.ths.length := (List.getElem?_eq_some_iff.mp ht).1
  have kt : KeepT H (upd H (ad (.thr i)) (.ins c.CT (g.dT i) (fsT (ad (.rgs i)) c1 t'))) := KeepT.upd (h1 _ _ e1) (not_tup e1)
  refine ⟨⟨{ g with cv := fun j => if j = i then c1 else g.cv j }, ?_, ?_, h3.imp fun _ _ z => kt _ _ z, h4.imp fun _ _ z => z.keep kt, kt _ _ h5⟩, ?_, ?_⟩
  · refine Bd.put (g' := { g with cv := fun j => if j = i then c1 else g.cv j }) h1 inj e1 ?_ ?_
    · show (((S.ths.set i t')[i]?).map fun t => HO.ins c.CT (g.dT i) (fsT (ad (.rgs i)) (if i = i then c1 else g.cv i) t)) = _
      rw [List.getElem?_set_self hi, if_pos rfl]
      rfl
    · intro u hu
      cases u with
      | thr j =>
        have hj : i ≠ j := fun z => hu (by rw [z])
        show (((S.ths.set i t')[j]?).map fun t => HO.ins c.CT (g.dT j) (fsT (ad (.rgs j)) (if j = i then c1 else g.cv j) t)) = _
        rw [List.getElem?_set_ne hj, if_neg hj.symm]
        rfl
      | rgs j =>
        show (((S.ths.set i t')[j]?).map fun t => HO.lst (t.regs.map V.int)) = ((S.ths[j]?).map fun t => HO.lst (t.regs.map V.int))
        by_cases hj : i = j
        · subst hj
          rw [List.getElem?_set_self hi, ht]
          show some (HO.lst (t'.regs.map V.int)) = some (HO.lst (t.regs.map V.int))
          rw [hr]
        · rw [List.getElem?_set_ne hj]
      | thsL =>
        show some (HO.lst ((List.range (S.ths.set i t').length).map fun i => V.ref (ad (.thr i)))) = _
        rw [List.length_set]
        rfl
      | _ => rfl
  · intro j x hx
    by_cases hj : i = j
    · subst hj
      have hx : (S.ths.set i t')[i]? = some x := hx
      rw [List.getElem?_set_self hi] at hx
      rw [← Option.some.inj hx]
      show upd H _ _ (if i = i then c1 else g.cv i) = _
      rw [if_pos rfl]
      exact kt _ _ hc
    · have hx : (S.ths.set i t')[j]? = some x := hx
      rw [List.getElem?_set_ne hj] at hx
      show upd H _ _ (if j = i then c1 else g.cv j) = _
      rw [if_neg (fun z => hj z.symm)]
      exact kt _ _ (h2 j x hx)
  · show ∀ t u, dom c.kd (S.ths.set i t').length S.mem.length t → dom c.kd (S.ths.set i t').length S.mem.length u → _
    rw [List.length_set]
    exact inj
  · show ∀ t, ¬ dom c.kd (S.ths.set i t').length S.mem.length t → _
    rw [List.length_set]
    exact od
theorem Bd.rgs (B : Bd c ad S H) {i : Nat} {t : Th} (ht : S.ths[i]? = some t) : H (ad (.rgs i)) = some (.lst (t.regs.map V.int)) ∧
    ∀ rs : List Int, Bd c ad (S.setTh i { t with regs := rs }) (upd H (ad (.rgs i)) (.lst (rs.map V.int))) := by
  obtain ⟨⟨g, h1, h2, h3, h4, h5⟩, inj, od⟩ := B
  have e1 : cont c ad g S (.rgs i) = some (.lst (t.regs.map V.int)) := by simp [cont, ht]
  refine ⟨h1 _ _ e1, fun rs => ?_⟩
  have hi : i < S.ths.length := (List.getElem?_eq_some_iff.mp ht).1
  have kt : KeepT H (upd H (ad (.rgs i)) (.lst (rs.map V.int))) := KeepT.upd (h1 _ _ e1) (not_tup e1)
  refine ⟨⟨g, ?_, ?_, h3.imp fun _ _ z => kt _ _ z, h4.imp fun _ _ z => z.keep kt, kt _ _ h5⟩, ?_, ?_⟩
  · refine Bd.put (g' := g) h1 inj e1 ?_ ?_
    · show (((S.ths.set i { t with regs := rs })[i]?).map fun t => HO.lst (t.regs.map V.int)) = _
      rw [List.getElem?_set_self hi]
      rfl
    · intro u hu
      cases u with
      | rgs j =>
        have hj : i ≠ j := fun z => hu (by rw [z])
        show (((S.ths.set i { t with regs := rs })[j]?).map fun t => HO.lst (t.regs.map V.int)) = _
        rw [List.getElem?_set_ne hj]
        rfl
      | thr j =>
        show (((S.ths.set i { t with regs := rs })[j]?).map fun t => HO.ins c.CT (g.dT j) (fsT (ad (.rgs j)) (g.cv j) t)) = ((S.ths[j]?).map fun t => HO.ins c.CT (g.dT j) (fsT (ad (.rgs j)) (g.cv j) t))
        by_cases hj : i = j
        · subst hj
          rw [List.getElem?_set_self hi, ht]
          rfl
        · rw [List.getElem?_set_ne hj]
      | thsL =>
        show some (HO.lst ((List.range (S.ths.set i { t with regs := rs }).length).map fun i => V.ref (ad (.thr i)))) = _
        rw [List.length_set]
        rfl
      | _ => rfl
  · intro j x hx
    by_cases hj : i = j
    · subst hj
      have hx : (S.ths.set i { t with regs := rs })[i]? = some x := hx
      rw [List.getElem?_set_self hi] at hx
      rw [← Option.some.inj hx]
      exact kt _ _ (h2 i t ht)
    · have hx : (S.ths.set i { t with regs := rs })[j]? = some x := hx
      rw [List.getElem?_set_ne hj] at hx
      exact kt _ _ (h2 j x hx)
  · show ∀ a b, dom c.kd (S.ths.set i { t with regs := rs }).length S.mem.length a → dom c.kd (S.ths.set i { t with regs := rs }).length S.mem.length b → _
    rw [List.length_set]
    exact inj
  · show ∀ a, ¬ dom c.kd (S.ths.set i { t with regs := rs }).length S.mem.length a → _
    rw [List.length_set]
    exact od
theorem Bd.cls (B : Bd c ad S H) {i : Nat} {m : Mm} (hm : S.mem[i]? = some m) : H (ad (.cls i)) = some (.lst (m.cells.map V.int)) ∧
    ∀ rs : List Int, Bd c ad (S.setMm i { m with cells := rs }) (upd H (ad (.cls i)) (.lst (rs.map V.int))) := by
  obtain ⟨⟨g, h1, h2, h3, h4, h5⟩, inj, od⟩ := B
  have e1 : cont c ad g S (.cls i) = some (.lst (m.cells.map V.int)) := by simp [cont, hm]
  refine ⟨h1 _ _ e1, fun rs => ?_⟩
  have hi : i < S.mem.length := (List.getElem?_eq_some_iff.mp hm).1
  have kt : KeepT H (upd H (ad (.cls i)) (.lst (rs.map V.int))) := KeepT.upd (h1 _ _ e1) (not_tup e1)
  refine ⟨⟨g, ?_, fun j x hx => kt _ _ (h2 j x hx), h3.imp fun _ _ z => kt _ _ z, h4.imp fun _ _ z => z.keep kt, kt _ _ h5⟩, ?_, ?_⟩
  · refine Bd.put (g' := g) h1 inj e1 ?_ ?_
    · show (((S.mem.set i { m with cells := rs })[i]?).map fun m => HO.lst (m.cells.map V.int)) = _
      rw [List.getElem?_set_self hi]
      rfl
    · intro u hu
      cases u with
      | cls j =>
        have hj : i ≠ j := fun z => hu (by rw [z])
        show (((S.mem.set i { m with cells := rs })[j]?).map fun m => HO.lst (m.cells.map V.int)) = _
        rw [List.getElem?_set_ne hj]
        rfl
      | mem j =>
        show (((S.mem.set i { m with cells := rs })[j]?).map fun _ => HO.ins c.CM (g.dM j) (fsM c.kd (ad (.cls j)) (ad (.kpt j)))) = ((S.mem[j]?).map fun _ => HO.ins c.CM (g.dM j) (fsM c.kd (ad (.cls j)) (ad (.kpt j))))
        by_cases hj : i = j
        · subst hj
          rw [List.getElem?_set_self hi, hm]
          rfl
        · rw [List.getElem?_set_ne hj]
      | kpt j =>
        show (if c.kd then ((S.mem.set i { m with cells := rs })[j]?).map fun m => HO.dK (keptV m.kept) else none) = (if c.kd then (S.mem[j]?).map fun m => HO.dK (keptV m.kept) else none)
        by_cases hj : i = j
        · subst hj
          rw [List.getElem?_set_self hi, hm]
          rfl
        · rw [List.getElem?_set_ne hj]
      | memL =>
        show some (HO.lst ((List.range (S.mem.set i { m with cells := rs }).length).map fun i => V.ref (ad (.mem i)))) = _
        rw [List.length_set]
        rfl
      | _ => rfl
  · show ∀ t u, dom c.kd S.ths.length (S.mem.set i { m with cells := rs }).length t → dom c.kd S.ths.length (S.mem.set i { m with cells := rs }).length u → _
    rw [List.length_set]
    exact inj
  · show ∀ t, ¬ dom c.kd S.ths.length (S.mem.set i { m with cells := rs }).length t → _
    rw [List.length_set]
    exact od
/-- the board's own fields and lists -/
theorem Bd.brd (B : Bd c ad S H) : ∃ dx rt, H (ad .brd) = some (.ins c.CB dx (fsB ad rt S.dev S.cpu)) ∧ H rt = some (.tup (S.rates.map V.int)) ∧
    ∀ (d : Int) (k : Nat), Bd c ad { S with dev := d, cpu := k } (upd H (ad .brd) (.ins c.CB dx (fsB ad rt d k))) := by
  obtain ⟨⟨g, h1, h2, h3, h4, h5⟩, inj, od⟩ := B
  have e1 : cont c ad g S .brd = some (.ins c.CB g.dB (fsB ad g.rt S.dev S.cpu)) := rfl
  refine ⟨g.dB, g.rt, h1 _ _ e1, h5, fun d k => ?_⟩
  have kt : KeepT H (upd H (ad .brd) (.ins c.CB g.dB (fsB ad g.rt d k))) := KeepT.upd (h1 _ _ e1) (not_tup e1)
  refine ⟨⟨g, Bd.put (g' := g) (S' := { S with dev := d, cpu := k }) h1 inj e1 rfl ?_, fun j x hx => kt _ _ (h2 j x hx), h3.imp fun _ _ z => kt _ _ z, h4.imp fun _ _ z => z.keep kt, kt _ _ h5⟩, inj, od⟩
  intro u hu
  cases u <;> first | rfl | exact absurd rfl hu
theorem Bd.rdy (B : Bd c ad S H) : H (ad .rdyL) = some (.lst (S.ready.map fun i : Nat => V.int (i : Int))) ∧ ∀ l : List Nat, Bd c ad { S with ready := l } (upd H (ad .rdyL) (.lst (l.map fun i : Nat => V.int (i : Int)))) := by
  obtain ⟨⟨g, h1, h2, h3, h4, h5⟩, inj, od⟩ := B
  have e1 : cont c ad g S .rdyL = some (.lst (S.ready.map fun i : Nat => V.int (i : Int))) := rfl
  refine ⟨h1 _ _ e1, fun l => ?_⟩
  have kt : KeepT H (upd H (ad .rdyL) (.lst (l.map fun i : Nat => V.int (i : Int)))) := KeepT.upd (h1 _ _ e1) (not_tup e1)
  refine ⟨⟨g, Bd.put (g' := g) (S' := { S with ready := l }) h1 inj e1 rfl ?_, fun j x hx => kt _ _ (h2 j x hx), h3.imp fun _ _ z => kt _ _ z, h4.imp fun _ _ z => z.keep kt, kt _ _ h5⟩, inj, od⟩
  intro u hu
  cases u <;> first | rfl | exact absurd rfl hu
theorem Bd.tim (B : Bd c ad S H) : H (ad .timL) = some (.lst (S.times.map V.int)) ∧ ∀ l : List Int, Bd c ad { S with times := l } (upd H (ad .timL) (.lst (l.map V.int))) := by
  obtain ⟨⟨g, h1, h2, h3, h4, h5⟩, inj, od⟩ := B
  have e1 : cont c ad g S .timL = some (.lst (S.times.map V.int)) := rfl
  refine ⟨h1 _ _ e1, fun l => ?_⟩
  have kt : KeepT H (upd H (ad .timL) (.lst (l.map V.int))) := KeepT.upd (h1 _ _ e1) (not_tup e1)
  refine ⟨⟨g, Bd.put (g' := g) (S' := { S with times := l }) h1 inj e1 rfl ?_, fun j x hx => kt _ _ (h2 j x hx), h3.imp fun _ _ z => kt _ _ z, h4.imp fun _ _ z => z.keep kt, kt _ _ h5⟩, inj, od⟩
  intro u hu
  cases u <;> first | rfl | exact absurd rfl hu
theorem Bd.rn (B : Bd c ad S H) : H (ad .runL) = some (.lst (S.run.map V.int)) ∧ ∀ l : List Int, Bd c ad { S with run := l } (upd H (ad .runL) (.lst (l.map V.int))) := by
  obtain ⟨⟨g, h1, h2, h3, h4, h5⟩, inj, od⟩ := B
  have e1 : cont c ad g S .runL = some (.lst (S.run.map V.int)) := rfl
  refine ⟨h1 _ _ e1, fun l => ?_⟩
  have kt : KeepT H (upd H (ad .runL) (.lst (l.map V.int))) := KeepT.upd (h1 _ _ e1) (not_tup e1)
  refine ⟨⟨g, Bd.put (g' := g) (S' := { S with run := l }) h1 inj e1 rfl ?_, fun j x hx => kt _ _ (h2 j x hx), h3.imp fun _ _ z => kt _ _ z, h4.imp fun _ _ z => z.keep kt, kt _ _ h5⟩, inj, od⟩
  intro u hu
  cases u <;> first | rfl | exact absurd rfl hu
theorem Bd.req (B : Bd c ad S H) : ∃ rq, H (ad .reqL) = some (.lst (rq.map V.ref)) ∧ All2 (RqAt H) rq S.reqs ∧ ∀ (l : List Addr) (qs : List (Nat × Int × Int)), All2 (RqAt H) l qs → Bd c ad { S with reqs := qs } (upd H (ad .reqL) (.lst (l.map V.ref))) := by
  obtain ⟨⟨g, h1, h2, h3, h4, h5⟩, inj, od⟩ := B
  have e1 : cont c ad g S .reqL = some (.lst (g.rq.map V.ref)) := rfl
  refine ⟨g.rq, h1 _ _ e1, h3, fun l qs h3' => ?_⟩
  have kt : KeepT H (upd H (ad .reqL) (.lst (l.map V.ref))) := KeepT.upd (h1 _ _ e1) (not_tup e1)
  refine ⟨⟨{ g with rq := l }, Bd.put (g' := { g with rq := l }) (S' := { S with reqs := qs }) h1 inj e1 rfl ?_, fun j x hx => kt _ _ (h2 j x hx), h3'.imp fun _ _ z => kt _ _ z, h4.imp fun _ _ z => z.keep kt, kt _ _ h5⟩, inj, od⟩
  intro u hu
  cases u <;> first | rfl | exact absurd rfl hu
theorem Bd.vws (B : Bd c ad S H) : ∃ vw, H (ad .vwsL) = some (.lst (vw.map V.ref)) ∧ All2 (VwAt H) vw S.views ∧ ∀ (l : List Addr) (vs : List Vw), All2 (VwAt H) l vs → Bd c ad { S with views := vs } (upd H (ad .vwsL) (.lst (l.map V.ref))) := by
  obtain ⟨⟨g, h1, h2, h3, h4, h5⟩, inj, od⟩ := B
  have e1 : cont c ad g S .vwsL = some (.lst (g.vw.map V.ref)) := rfl
  refine ⟨g.vw, h1 _ _ e1, h4, fun l vs h4' => ?_⟩
  have kt : KeepT H (upd H (ad .vwsL) (.lst (l.map V.ref))) := KeepT.upd (h1 _ _ e1) (not_tup e1)
  refine ⟨⟨{ g with vw := l }, Bd.put (g' := { g with vw := l }) (S' := { S with views := vs }) h1 inj e1 rfl ?_, fun j x hx => kt _ _ (h2 j x hx), h3.imp fun _ _ z => kt _ _ z, h4'.imp fun _ _ z => z.keep kt, kt _ _ h5⟩, inj, od⟩
  intro u hu
  cases u <;> first | rfl | exact absurd rfl hu
theorem Bd.thsAt (B : Bd c ad S H) : H (ad .thsL) = some (.lst ((List.range S.ths.length).map fun i => V.ref (ad (.thr i)))) := by
  obtain ⟨g, h1, _⟩ := B.ex
  exact h1 .thsL _ rfl
theorem Bd.memAt (B : Bd c ad S H) : H (ad .memL) = some (.lst ((List.range S.mem.length).map fun i => V.ref (ad (.mem i)))) := by
  obtain ⟨⟨g, h1, _⟩, _, _⟩ := B
  exact h1 .memL _ rfl
theorem Bd.memI (B : Bd c ad S H) {i : Nat} {m : Mm} (hm : S.mem[i]? = some m) : ∃ dx, H (ad (.mem i)) = some (.ins c.CM dx (fsM c.kd (ad (.cls i)) (ad (.kpt i)))) := by
  obtain ⟨⟨g, h1, _⟩, _, _⟩ := B
  exact ⟨g.dM i, h1 (.mem i) _ (by simp [cont, hm])⟩
end
end MM
end
section
/-! the machine: what its defs do, over plain data; readings over its state -/
namespace MM
open PySem PySem.Spec PyProof.Rows L2
/-! ### rules by value -/
def rGetL (K : PySem.W.Frag) : V → V → Hp → VK → Prop := fun o i H Q => ∃ p xs k v, o = .ref p ∧ i = .int k ∧ SqL K H p xs ∧ 0 ≤ k ∧ xs[k.toNat]? = some v ∧ Q v H
theorem get_list {X : Cx} : PGet X (rGetL X.K) := by
  intro pins s σ H o i ov iv Q I ro ri h
  obtain ⟨p, xs, k, v, rfl, rfl, hq, h0, hv, q⟩ := h
  cases ro
  obtain ⟨t, rfl⟩ := ri
  obtain ⟨its, r, pl, hz⟩ := I.list hq
  obtain ⟨w, ew, rw'⟩ := r.get hv
  have hl := r.length
  have hk : k.toNat < xs.length := (List.getElem?_eq_some_iff.mp hv).1
  have hn : sizeLine < 2 ^ 63 := by decide
  exact wpAny_getItem_list pl.isList h0 (by omega) (by simpa using ew) ⟨v, H, I, rw', q⟩
def rListOf (K : PySem.W.Frag) : List V → Hp → VK → Prop := fun xs H Q => ∃ p ys, xs = [.ref p] ∧ (SqL K H p ys ∨ SqT K H p ys) ∧ ∀ l, H l = none → Q (.ref l) (upd H l (.lst ys))
theorem cListOf {X : Cx} : CallR X (.type "list") (rListOf X.K) := call_list_of
def rTupOf (K : PySem.W.Frag) : List V → Hp → VK → Prop := fun xs H Q => ∃ p ys, xs = [.ref p] ∧ ((SqL K H p ys ∧ ∀ l, H l = none → Q (.ref l) (upd H l (.tup ys))) ∨ (SqT K H p ys ∧ Q (.ref p) H))
theorem cTupOf {X : Cx} : CallR X (.type "tuple") (rTupOf X.K) := call_tuple_of
/-! ### the defs over plain data -/
def dTh : Th := ⟨0, 0, [], .ready, 0, 0⟩
def dMm : Mm := ⟨[], []⟩
def MS.th (S : MS) (i : Nat) : Th := S.ths.getD i dTh
def MS.mm (S : MS) (i : Nat) : Mm := S.mem.getD i dMm
def MS.up (S : MS) (i : Nat) (f : Th → Th) : MS := S.setTh i (f (S.th i))
def Mm.load (m : Mm) (a : Int) : Int := match m.kept.lookup (a % 256) with
  | some b => b
  | none => m.cells.getD (a % 256).toNat 0
def Mm.store (m : Mm) (a b : Int) : Mm := if (m.kept.lookup (a % 256)).isSome then { m with kept := m.kept.map fun p => if p.1 = a % 256 then (p.1, b) else p } else { m with cells := m.cells.set (a % 256).toNat b }
def Mm.img (m : Mm) : List Int := m.kept.foldl (fun cs p => cs.set p.1.toNat p.2) m.cells
def Mm.tells (kd : Bool) (m : Mm) (a : Int) : Bool := if kd then (m.kept.lookup a).isSome else true
def MS.now (S : MS) : Int := S.times.getD S.cpu 0
def tell (S : MS) (kind : Str) (tid : Nat) (at' : Int) (args : List Int) : MS :=
  { S with views := S.views ++ [⟨kind, S.cpu, S.now, (S.th tid).pid, tid, at', args, (S.th tid).regs, (S.mm (S.th tid).pid).img⟩] }
def tellTick (S : MS) : MS := { S with views := S.views ++ [⟨"tick", S.cpu, S.now, -1, -1, -1, [], [0, 0, 0, 0], []⟩] }
def setCond (S : MS) (tid : Nat) (cd : Cond) : MS := S.up tid fun t => { t with cond := cd }
def setReg (S : MS) (tid : Nat) (j : Nat) (v : Int) : MS := S.up tid fun t => { t with regs := t.regs.set j v }
def makeReady (S : MS) (tid : Nat) : MS := { setCond S tid .ready with ready := S.ready ++ [tid] }
def isRun : Cond → Bool
  | .running _ => true
  | _ => false
def isWait (tid : Int) : Cond → Bool
  | .waiting t => decide (t = tid)
  | _ => false
def returnCall (S : MS) (tid : Nat) (res : Int) : MS :=
  let S1 := setReg S tid 0 res
  let S2 := tell S1 "return" tid (S1.th tid).callAt [(S1.th tid).call, res]
  if isRun (S.th tid).cond then S2 else makeReady S2 tid
def endRun (S : MS) (tid : Nat) (cd : Cond) : MS := { setCond S tid cd with run := S.run.set S.cpu (-1) }
def wakeOne (tid : Nat) (code : Int) (S : MS) (o : Nat) : MS := if isWait tid (S.th o).cond then returnCall S o code else S
def endThread (S : MS) (tid : Nat) (at' code : Int) : MS :=
  (List.range S.ths.length).foldl (wakeOne tid code) (endRun (tell S "end" tid at' [code]) tid (.ended code))
def leave (S : MS) (tid : Nat) (cd : Cond) (reason : Int) : MS :=
  let S1 := endRun S tid cd
  tell S1 "off" tid (S1.th tid).pc [reason]
def goLast (S : MS) (tid : Nat) (reason : Int) : MS :=
  let S1 := leave S tid .ready reason
  { S1 with ready := S1.ready ++ [tid] }
def addThread (S : MS) (pid : Nat) (pc first : Int) : MS :=
  { S with ths := S.ths ++ [⟨pid, pc, [first, 0, 0, 0], .ready, 0, 0⟩], ready := S.ready ++ [S.ths.length] }
def condEnded : Cond → Option Int
  | .ended k => some k
  | _ => none
def waitFor (S : MS) (tid : Nat) (wanted : Int) : MS :=
  if wanted ≥ S.ths.length ∨ wanted = tid then returnCall S tid 65535 else
  match condEnded (S.th wanted.toNat).cond with
  | some k => returnCall S tid k
  | none => leave S tid (.waiting wanted) 5
def reg (S : MS) (tid j : Nat) : Int := (S.th tid).regs.getD j 0
def doCall (S0 : MS) (tid : Nat) (number at' : Int) : MS :=
  let S1 := S0.up tid fun t => { t with call := number, callAt := at' }
  let S := tell S1 "entry" tid at' [number, reg S1 tid 0, reg S1 tid 1]
  if number = 0 then endThread S tid at' (reg S tid 0) else
  if number = 1 then goLast (returnCall S tid 0) tid 2 else
  if number = 2 then leave S tid (.sleeping S.cpu (S.now + reg S tid 0)) 3 else
  if number = 3 ∨ number = 4 then leave { S with reqs := S.reqs ++ [(tid, number, reg S tid 0)] } tid .asking 4 else
  if number = 5 then (if 8 ≤ S.ths.length then returnCall S tid 65535 else returnCall (addThread S (S.th tid).pid (reg S tid 0 % 256) (reg S tid 1)) tid S.ths.length) else
  if number = 6 then waitFor S tid (reg S tid 0) else returnCall S tid 65535
def lens : List Int := [1, 3, 2, 2, 2, 2, 2, 2, 3, 3, 2, 2, 1]
def nextPc (rs : List Int) (code x y behind : Int) : Int :=
  if code = 7 ∨ code = 11 then x else
  if code = 12 then rs.getD 3 0 % 256 else
  if (code = 8 ∧ rs.getD (x % 4).toNat 0 = 0) ∨ (code = 9 ∧ rs.getD (x % 4).toNat 0 ≠ 0) then y else behind
def move (S : MS) (tid : Nat) (code x y : Int) : MS :=
  let a := (x / 4 % 4).toNat
  let b := (x % 4).toNat
  let p := (S.th tid).pid
  if code = 1 then setReg S tid b y else
  if code = 2 then setReg S tid a ((reg S tid a + reg S tid b) % 65536) else
  if code = 3 then setReg S tid a ((reg S tid a - reg S tid b) % 65536) else
  if code = 4 then setReg S tid a (reg S tid b) else
  if code = 5 then setReg S tid a ((S.mm p).load (reg S tid b)) else
  if code = 6 then S.setMm p ((S.mm p).store (reg S tid b) (reg S tid a % 256)) else S
def doInsn (kd : Bool) (S0 : MS) (tid : Nat) : MS :=
  let m := S0.mm (S0.th tid).pid
  let at' := (S0.th tid).pc
  let code := m.load at'
  let S := if m.tells kd at' then tell S0 "insn" tid at' [code] else S0
  if 13 ≤ code then endThread (tell S "fault" tid at' [code]) tid at' 65535 else
  let x := m.load (at' + 1)
  let y := m.load (at' + 2)
  let behind := (at' + lens.getD code.toNat 0) % 256
  let S1 := S.up tid fun t => { t with pc := nextPc (S.th tid).regs code x y behind }
  if code = 0 then endThread S1 tid at' 0 else
  if code = 10 then doCall S1 tid x at' else
  if code = 11 then setReg S1 tid 3 behind else move S1 tid code x y
def sleepsTo (cpu : Nat) (now : Int) : Cond → Bool
  | .sleeping c u => decide (c = cpu) && decide (u ≤ now)
  | _ => false
def wakeIf (S : MS) (i : Nat) : MS := if sleepsTo S.cpu S.now (S.th i).cond then returnCall S i 0 else S
def wake (S : MS) : MS := (List.range S.ths.length).foldl wakeIf S
def beginRun (S : MS) (tid : Nat) : MS :=
  let S1 := { setCond S tid (.running S.cpu) with run := S.run.set S.cpu tid }
  tell S1 "on" tid (S1.th tid).pc []
def runs (S : MS) : Int := S.run.getD S.cpu 0
def doStep (kd : Bool) (S : MS) : MS :=
  if 0 ≤ runs S then doInsn kd S (runs S).toNat else
  match S.ready with
  | [] => S
  | t :: r => beginRun { S with ready := r } t
def doTimer (S : MS) : MS :=
  let S1 := tellTick S
  if 0 ≤ runs S1 then goLast S1 (runs S1).toNat 1 else S1
def doRequest (S : MS) : MS :=
  match S.reqs with
  | [] => S
  | (tid, call, number) :: r =>
    let S1 := { S with reqs := r }
    let S2 := if call = 3 then { S1 with dev := number } else S1
    returnCall (tell S2 "done" tid (S2.th tid).callAt [call]) tid (if call = 3 then 0 else S1.dev)
def begin' (S : MS) (cpu : Nat) : MS := { S with cpu := cpu, times := S.times.set cpu (S.times.getD cpu 0 + S.rates.getD cpu 0) }
def doPick (kd : Bool) (S : MS) (cpu : Nat) (what : Str) : MS :=
  let S1 := wake (begin' S cpu)
  if what = "step" then doStep kd S1 else if what = "timer" then doTimer S1 else if what = "device" then doRequest S1 else S1
/-! ### what holds of the data -/
def condOk : Cond → Prop
  | .ended k => 0 ≤ k
  | _ => True
structure ThOk (nm : Nat) (t : Th) : Prop where
  pid : t.pid < nm
  len : t.regs.length = 4
  pos : ∀ r ∈ t.regs, 0 ≤ r
  cond : condOk t.cond
structure MmOk (m : Mm) : Prop where
  len : m.cells.length = 256
  pos : ∀ b ∈ m.cells, 0 ≤ b
  kpos : ∀ p ∈ m.kept, 0 ≤ p.1 ∧ p.1 < 256 ∧ 0 ≤ p.2
  knd : (m.kept.map (·.1)).Nodup
structure WF (S : MS) (k : Nat) : Prop where
  nt : S.ths.length ≤ 8
  nm : S.mem.length ≤ 8
  nr : S.rates.length ≤ 8
  tim : S.times.length = S.rates.length
  rn : S.run.length = S.rates.length
  cpu : S.cpu < S.rates.length
  th : ∀ t ∈ S.ths, ThOk S.mem.length t
  mm : ∀ m ∈ S.mem, MmOk m
  rd : ∀ i ∈ S.ready, i < S.ths.length
  rdl : S.ready.length ≤ k
  rnl : ∀ r ∈ S.run, r < (S.ths.length : Int)
  rq : ∀ q ∈ S.reqs, q.1 < S.ths.length ∧ 0 ≤ q.2.2
  rql : S.reqs.length ≤ k
  vw : S.views.length ≤ k
  dev : 0 ≤ S.dev
end MM
end
section
/-! the machine: its data stays well formed -/
namespace MM
open PySem PySem.Spec PyProof.Rows L2
theorem th_get {S : MS} {i : Nat} (h : i < S.ths.length) : S.ths[i]? = some (S.th i) := by
  unfold MS.th
  rw [List.getD_eq_getElem?_getD, List.getElem?_eq_getElem h]
  rfl
theorem mm_get {S : MS} {i : Nat} (h : i < S.mem.length) : S.mem[i]? = some (S.mm i) := by
  unfold MS.mm
  rw [List.getD_eq_getElem?_getD, List.getElem?_eq_getElem h]
  rfl
theorem th_mem {S : MS} {i : Nat} (h : i < S.ths.length) : S.th i ∈ S.ths := List.mem_of_getElem? (th_get h)
theorem mm_mem {S : MS} {i : Nat} (h : i < S.mem.length) : S.mm i ∈ S.mem := List.mem_of_getElem? (mm_get h)
theorem up_th {S : MS} {i : Nat} {f : Th → Th} (h : i < S.ths.length) : (S.up i f).th i = f (S.th i) := by
  show (S.ths.set i (f (S.th i))).getD i dTh = _
  rw [List.getD_eq_getElem?_getD, List.getElem?_set_self h]
  rfl
theorem up_ne {S : MS} {i j : Nat} {f : Th → Th} (h : i ≠ j) : (S.up i f).th j = S.th j := by
  show (S.ths.set i (f (S.th i))).getD j dTh = S.ths.getD j dTh
  rw [List.getD_eq_getElem?_getD, List.getElem?_set_ne h, ← List.getD_eq_getElem?_getD]
/-- what no def changes; threads only become more -/
structure Sm (S S' : MS) : Prop where
  nt : S.ths.length ≤ S'.ths.length
  km : (S'.mem.map fun m => m.kept.map (·.1)) = S.mem.map fun m => m.kept.map (·.1)
  rt : S'.rates = S.rates
  cp : S'.cpu = S.cpu
theorem Sm.nm {S S' : MS} (s : Sm S S') : S'.mem.length = S.mem.length := by
  have h := congrArg List.length s.km
  rw [List.length_map, List.length_map] at h
  exact h
theorem Sm.refl (S : MS) : Sm S S := ⟨Nat.le_refl _, rfl, rfl, rfl⟩
theorem Sm.trans {a b d : MS} (x : Sm a b) (y : Sm b d) : Sm a d := ⟨Nat.le_trans x.nt y.nt, y.km.trans x.km, y.rt.trans x.rt, y.cp.trans x.cp⟩
theorem up_len {S : MS} {i : Nat} {f : Th → Th} : (S.up i f).ths.length = S.ths.length := List.length_set
theorem Sm.up {S : MS} {i : Nat} {f : Th → Th} : Sm S (S.up i f) := ⟨Nat.le_of_eq up_len.symm, rfl, rfl, rfl⟩
theorem Sm.tell {S : MS} {kd : Str} {t : Nat} {a : Int} {r : List Int} : Sm S (tell S kd t a r) := ⟨Nat.le_refl _, rfl, rfl, rfl⟩
variable {S : MS} {k : Nat}
theorem WF.mono {k' : Nat} (w : WF S k) (h : k ≤ k') : WF S k' :=
  { w with rdl := Nat.le_trans w.rdl h, rql := Nat.le_trans w.rql h, vw := Nat.le_trans w.vw h }
theorem WF.up {i : Nat} {f : Th → Th} (w : WF S k) (hf : ThOk S.mem.length (f (S.th i))) : WF (S.up i f) k where
  nt := by rw [up_len]; exact w.nt
  nm := w.nm
  nr := w.nr
  tim := w.tim
  rn := w.rn
  cpu := w.cpu
  th t ht := by
    rcases List.mem_or_eq_of_mem_set (show t ∈ S.ths.set i (f (S.th i)) from ht) with h | h
    · exact w.th t h
    · rw [h]; exact hf
  mm := w.mm
  rd j hj := by rw [up_len]; exact w.rd j hj
  rdl := w.rdl
  rnl r hr := by rw [up_len]; exact w.rnl r hr
  rq q hq := by rw [up_len]; exact w.rq q hq
  rql := w.rql
  vw := w.vw
  dev := w.dev
theorem WF.tell {kd : Str} {t : Nat} {a : Int} {r : List Int} (w : WF S k) : WF (tell S kd t a r) (k + 1) :=
  { w.mono (Nat.le_succ k) with vw := by show (S.views ++ [_]).length ≤ k + 1; rw [List.length_append]; exact Nat.succ_le_succ w.vw }
theorem WF.tellTick (w : WF S k) : WF (tellTick S) (k + 1) :=
  { w.mono (Nat.le_succ k) with vw := by show (S.views ++ [_]).length ≤ k + 1; rw [List.length_append]; exact Nat.succ_le_succ w.vw }
theorem WF.tok {i : Nat} (w : WF S k) (h : i < S.ths.length) : ThOk S.mem.length (S.th i) := w.th _ (th_mem h)
theorem mem_set_pos {l : List Int} {j : Nat} {v : Int} (h : ∀ r ∈ l, 0 ≤ r) (hv : 0 ≤ v) : ∀ r ∈ l.set j v, 0 ≤ r := fun r hr => by
  rcases List.mem_or_eq_of_mem_set hr with z | z
  · exact h r z
  · rw [z]; exact hv
theorem WF.setReg {i j : Nat} {v : Int} (w : WF S k) (h : i < S.ths.length) (hv : 0 ≤ v) : WF (setReg S i j v) k :=
  w.up { w.tok h with len := by rw [List.length_set]; exact (w.tok h).len, pos := mem_set_pos (w.tok h).pos hv }
theorem WF.setCond {i : Nat} {cd : Cond} (w : WF S k) (h : i < S.ths.length) (hv : condOk cd) : WF (setCond S i cd) k := w.up { w.tok h with cond := hv }
theorem WF.ready {t : Nat} (w : WF S k) (h : t < S.ths.length) : WF { S with ready := S.ready ++ [t] } (k + 1) :=
  { w.mono (Nat.le_succ k) with
    rd := fun j hj => by
      rcases List.mem_append.mp hj with z | z
      · exact w.rd j z
      · rw [List.mem_singleton.mp z]; exact h
    rdl := by show (S.ready ++ [t]).length ≤ k + 1; rw [List.length_append]; exact Nat.succ_le_succ w.rdl }
theorem WF.run {l : List Int} (w : WF S k) (hl : l.length = S.run.length) (h : ∀ r ∈ l, r < (S.ths.length : Int)) : WF { S with run := l } k :=
  { w with rn := hl.trans w.rn, rnl := h }
theorem WF.runSet {j : Nat} {v : Int} (w : WF S k) (h : v < (S.ths.length : Int)) : WF { S with run := S.run.set j v } k :=
  w.run List.length_set fun r hr => by
    rcases List.mem_or_eq_of_mem_set hr with z | z
    · exact w.rnl r z
    · rw [z]; exact h
theorem len_makeReady {t : Nat} : (makeReady S t).ths.length = S.ths.length := by simp [makeReady, setCond, MS.up, MS.setTh]
theorem len_setReg {t j : Nat} {v : Int} : (setReg S t j v).ths.length = S.ths.length := by simp [setReg, MS.up, MS.setTh]
theorem len_tell {kd : Str} {t : Nat} {a : Int} {r : List Int} : (tell S kd t a r).ths.length = S.ths.length := rfl
theorem len_endRun {t : Nat} {cd : Cond} : (endRun S t cd).ths.length = S.ths.length := by simp [endRun, setCond, MS.up, MS.setTh]
theorem Sm.makeReady {t : Nat} : Sm S (makeReady S t) := ⟨Nat.le_of_eq len_makeReady.symm, rfl, rfl, rfl⟩
theorem WF.makeReady {t : Nat} (w : WF S k) (h : t < S.ths.length) : WF (makeReady S t) (k + 1) := by
  have z := (w.setCond (cd := .ready) h trivial).ready (t := t) (by show t < (S.up t _).ths.length; rw [up_len]; exact h)
  exact z
theorem Sm.returnCall {t : Nat} {r : Int} : Sm S (returnCall S t r) := by
  unfold MM.returnCall
  split
  · exact Sm.up.trans Sm.tell
  · exact (Sm.up.trans Sm.tell).trans Sm.makeReady
theorem len_returnCall {t : Nat} {r : Int} : (returnCall S t r).ths.length = S.ths.length := by
  unfold MM.returnCall
  split
  · exact (len_tell).trans len_setReg
  · exact len_makeReady.trans ((len_tell).trans len_setReg)
theorem WF.vrdy {t : Nat} (w : WF S k) (h : t < S.ths.length) {kd : Str} {u : Nat} {a : Int} {r : List Int} : WF (MM.makeReady (MM.tell S kd u a r) t) (k + 1) :=
  { (w.tell (kd := kd) (t := u) (a := a) (r := r)).makeReady (t := t) h |>.mono (Nat.le_refl _) with
    rdl := by show (S.ready ++ [t]).length ≤ k + 1; rw [List.length_append]; exact Nat.succ_le_succ w.rdl
    rql := Nat.le_trans w.rql (Nat.le_succ k)
    vw := by show (S.views ++ [_]).length ≤ k + 1; rw [List.length_append]; exact Nat.succ_le_succ w.vw }
theorem WF.returnCall {t : Nat} {r : Int} (w : WF S k) (h : t < S.ths.length) (hr : 0 ≤ r) : WF (returnCall S t r) (k + 1) := by
  have w1 := w.setReg (j := 0) h hr
  have h1 : t < (MM.setReg S t 0 r).ths.length := by show t < (S.up t _).ths.length; rw [up_len]; exact h
  unfold MM.returnCall
  split
  · exact w1.tell
  · exact w1.vrdy h1
theorem Sm.endRun {t : Nat} {cd : Cond} : Sm S (endRun S t cd) := ⟨Nat.le_of_eq len_endRun.symm, rfl, rfl, rfl⟩
theorem WF.endRun {t : Nat} {cd : Cond} (w : WF S k) (h : t < S.ths.length) (hc : condOk cd) : WF (endRun S t cd) k :=
  (w.setCond h hc).runSet (by omega)
theorem len_wakeOne {t : Nat} {cd : Int} {o : Nat} : (wakeOne t cd S o).ths.length = S.ths.length := by
  unfold MM.wakeOne
  split
  · exact len_returnCall
  · rfl
theorem Sm.wakeOne {t : Nat} {cd : Int} {o : Nat} : Sm S (wakeOne t cd S o) := by
  unfold MM.wakeOne
  split
  · exact Sm.returnCall
  · exact Sm.refl S
theorem WF.wakeOne {t : Nat} {cd : Int} {o : Nat} (w : WF S k) (h : o < S.ths.length) (hr : 0 ≤ cd) : WF (wakeOne t cd S o) (k + 1) := by
  unfold MM.wakeOne
  split
  · exact w.returnCall h hr
  · exact w.mono (Nat.le_succ k)
/-- the first i turns of a loop over the threads -/
def turns (f : MS → Nat → MS) (S : MS) (i : Nat) : MS := (List.range i).foldl f S
theorem turns_succ {f : MS → Nat → MS} {i : Nat} : turns f S (i + 1) = f (turns f S i) i := by
  unfold turns
  rw [List.range_succ, List.foldl_append]
  rfl
theorem turns_ok {f : MS → Nat → MS} (hl : ∀ S o, (f S o).ths.length = S.ths.length) (hs : ∀ S o, Sm S (f S o)) (hw : ∀ S k o, WF S k → o < S.ths.length → WF (f S o) (k + 1)) (w : WF S k) :
    ∀ i, i ≤ S.ths.length → (turns f S i).ths.length = S.ths.length ∧ Sm S (turns f S i) ∧ WF (turns f S i) (k + i)
  | 0, _ => ⟨rfl, Sm.refl S, w⟩
  | i + 1, h => by
    obtain ⟨a, b, d⟩ := turns_ok hl hs hw w i (by omega)
    rw [turns_succ]
    exact ⟨(hl _ _).trans a, b.trans (hs _ _), hw _ _ _ d (by omega)⟩
theorem end_turns {t : Nat} {a cd : Int} : endThread S t a cd = turns (wakeOne t cd) (endRun (tell S "end" t a [cd]) t (.ended cd)) S.ths.length := rfl
theorem end_ok {t : Nat} {a cd : Int} (w : WF S k) (h : t < S.ths.length) (hc : 0 ≤ cd) : (endThread S t a cd).ths.length = S.ths.length ∧ Sm S (endThread S t a cd) ∧ WF (endThread S t a cd) (k + 9) := by
  have w1 : WF (endRun (tell S "end" t a [cd]) t (.ended cd)) (k + 1) := w.tell.endRun h hc
  have l1 : (endRun (tell S "end" t a [cd]) t (.ended cd)).ths.length = S.ths.length := len_endRun.trans len_tell
  obtain ⟨x, y, z⟩ := turns_ok (f := wakeOne t cd) (fun _ _ => len_wakeOne) (fun _ _ => Sm.wakeOne) (fun _ _ _ w h => w.wakeOne h hc) w1 S.ths.length (by rw [l1]; exact Nat.le_refl _)
  rw [end_turns]
  have hn := w.nt
  exact ⟨x.trans l1, (Sm.tell.trans Sm.endRun).trans y, z.mono (by omega)⟩
theorem leave_ok {t : Nat} {cd : Cond} {r : Int} (w : WF S k) (h : t < S.ths.length) (hc : condOk cd) : (leave S t cd r).ths.length = S.ths.length ∧ Sm S (leave S t cd r) ∧ WF (leave S t cd r) (k + 1) :=
  ⟨len_tell.trans len_endRun, Sm.endRun.trans Sm.tell, (w.endRun h hc).tell⟩
theorem goLast_ok {t : Nat} {r : Int} (w : WF S k) (h : t < S.ths.length) : (goLast S t r).ths.length = S.ths.length ∧ Sm S (goLast S t r) ∧ WF (goLast S t r) (k + 1) := by
  have w1 := (w.endRun (cd := .ready) h trivial)
  have l1 : (MM.endRun S t .ready).ths.length = S.ths.length := len_endRun
  refine ⟨l1, ⟨Nat.le_of_eq l1.symm, rfl, rfl, rfl⟩, ?_⟩
  have w2 := w1.tell (kd := "off") (t := t) (a := ((MM.endRun S t .ready).th t).pc) (r := [r])
  exact { w2 with
    rd := fun j hj => by
      rcases List.mem_append.mp hj with z | z
      · exact w2.rd j z
      · rw [List.mem_singleton.mp z]
        show t < (MM.endRun S t .ready).ths.length
        rw [l1]; exact h
    rdl := by show (S.ready ++ [t]).length ≤ k + 1; rw [List.length_append]; exact Nat.succ_le_succ w.rdl }
theorem addThread_ok {p : Nat} {pc f : Int} (w : WF S k) (h : S.ths.length < 8) (hp : p < S.mem.length) (hf : 0 ≤ f) : (addThread S p pc f).ths.length = S.ths.length + 1 ∧ Sm S (addThread S p pc f) ∧ WF (addThread S p pc f) (k + 1) := by
  have l1 : (addThread S p pc f).ths.length = S.ths.length + 1 := by show (S.ths ++ [_]).length = _; rw [List.length_append]; rfl
  refine ⟨l1, ⟨by omega, rfl, rfl, rfl⟩, ?_⟩
  exact { w.mono (Nat.le_succ k) with
    nt := by rw [l1]; omega
    th := fun t ht => by
      rcases List.mem_append.mp (show t ∈ S.ths ++ [_] from ht) with z | z
      · exact w.th t z
      · rw [List.mem_singleton.mp z]
        exact ⟨hp, rfl, by simpa using hf, trivial⟩
    rd := fun j hj => by
      rw [l1]
      rcases List.mem_append.mp (show j ∈ S.ready ++ [_] from hj) with z | z
      · have := w.rd j z
        omega
      · rw [List.mem_singleton.mp z]
        omega
    rdl := by show (S.ready ++ [_]).length ≤ k + 1; rw [List.length_append]; exact Nat.succ_le_succ w.rdl
    rnl := fun r hr => by
      have := w.rnl r hr
      rw [l1]
      omega
    rq := fun q hq => by
      have := w.rq q hq
      rw [l1]
      exact ⟨by omega, this.2⟩ }
theorem reg_pos {t j : Nat} (w : WF S k) (h : t < S.ths.length) : 0 ≤ reg S t j := by
  unfold reg
  rw [List.getD_eq_getElem?_getD]
  cases e : (S.th t).regs[j]? with
  | none => exact Int.le_refl _
  | some r => exact (w.tok h).pos r (List.mem_of_getElem? e)
theorem waitFor_ok {t : Nat} {x : Int} (w : WF S k) (h : t < S.ths.length) (hx : 0 ≤ x) : (waitFor S t x).ths.length = S.ths.length ∧ Sm S (waitFor S t x) ∧ WF (waitFor S t x) (k + 1) := by
  unfold waitFor
  split
  · exact ⟨len_returnCall, Sm.returnCall, w.returnCall h (by decide)⟩
  · rename_i hn
    have hl : x.toNat < S.ths.length := by omega
    have hc := (w.tok hl).cond
    split
    · rename_i kk hk
      refine ⟨len_returnCall, Sm.returnCall, w.returnCall h ?_⟩
      cases hcc : (S.th x.toNat).cond with
      | ended q =>
        rw [hcc] at hk hc
        rw [← Option.some.inj hk]
        exact hc
      | _ =>
        rw [hcc] at hk
        cases hk
    · exact leave_ok w h trivial
theorem emod_pos {a b : Int} (h : 0 < b) : 0 ≤ a % b := Int.emod_nonneg _ (by omega)
theorem doCall_ok {t : Nat} {n a : Int} (w : WF S k) (h : t < S.ths.length) : Sm S (doCall S t n a) ∧ WF (doCall S t n a) (k + 10) := by
  have w1 : WF (S.up t fun t => { t with call := n, callAt := a }) k := w.up { w.tok h with }
  generalize hS1 : (S.up t fun t => { t with call := n, callAt := a }) = S1 at w1
  have l1 : S1.ths.length = S.ths.length := by rw [← hS1]; exact up_len
  have s1 : Sm S S1 := by rw [← hS1]; exact Sm.up
  have w2 := w1.tell (kd := "entry") (t := t) (a := a) (r := [n, reg S1 t 0, reg S1 t 1])
  have e : doCall S t n a = (let S := MM.tell S1 "entry" t a [n, reg S1 t 0, reg S1 t 1]
    if n = 0 then endThread S t a (reg S t 0) else
    if n = 1 then goLast (MM.returnCall S t 0) t 2 else
    if n = 2 then leave S t (.sleeping S.cpu (S.now + reg S t 0)) 3 else
    if n = 3 ∨ n = 4 then leave { S with reqs := S.reqs ++ [(t, n, reg S t 0)] } t .asking 4 else
    if n = 5 then (if 8 ≤ S.ths.length then MM.returnCall S t 65535 else MM.returnCall (addThread S (S.th t).pid (reg S t 0 % 256) (reg S t 1)) t S.ths.length) else
    if n = 6 then waitFor S t (reg S t 0) else MM.returnCall S t 65535) := by rw [← hS1]; rfl
  rw [e]
  have s2 : Sm S (MM.tell S1 "entry" t a [n, reg S1 t 0, reg S1 t 1]) := s1.trans Sm.tell
  have l2 : (MM.tell S1 "entry" t a [n, reg S1 t 0, reg S1 t 1]).ths.length = S.ths.length := l1
  generalize MM.tell S1 "entry" t a [n, reg S1 t 0, reg S1 t 1] = S2 at w2 s2 l2 ⊢
  have h2 : t < S2.ths.length := by rw [l2]; exact h
  show Sm S (if n = 0 then _ else _) ∧ WF (if n = 0 then _ else _) (k + 10)
  split
  · obtain ⟨_, x, y⟩ := end_ok (t := t) (a := a) w2 h2 (reg_pos w2 h2 (j := 0))
    exact ⟨s2.trans x, y.mono (by omega)⟩
  split
  · have w3 := w2.returnCall (r := 0) h2 (by decide)
    obtain ⟨_, x, y⟩ := goLast_ok (t := t) (r := 2) w3 (by rw [len_returnCall]; exact h2)
    exact ⟨(s2.trans Sm.returnCall).trans x, y.mono (by omega)⟩
  split
  · obtain ⟨_, x, y⟩ := leave_ok (t := t) (cd := .sleeping S2.cpu (S2.now + reg S2 t 0)) (r := 3) w2 h2 trivial
    exact ⟨s2.trans x, y.mono (by omega)⟩
  split
  · have w3 : WF { S2 with reqs := S2.reqs ++ [(t, n, reg S2 t 0)] } (k + 1 + 1) := { w2.mono (Nat.le_succ _) with
      rq := fun q hq => by
        rcases List.mem_append.mp hq with z | z
        · exact w2.rq q z
        · rw [List.mem_singleton.mp z]
          exact ⟨h2, reg_pos w2 h2⟩
      rql := by show (S2.reqs ++ [_]).length ≤ k + 1 + 1; rw [List.length_append]; exact Nat.succ_le_succ w2.rql }
    obtain ⟨_, x, y⟩ := leave_ok (t := t) (cd := .asking) (r := 4) w3 h2 trivial
    exact ⟨(s2.trans (⟨Nat.le_refl _, rfl, rfl, rfl⟩ : Sm S2 { S2 with reqs := S2.reqs ++ [(t, n, reg S2 t 0)] })).trans x, y.mono (by omega)⟩
  split
  · split
    · exact ⟨s2.trans Sm.returnCall, (w2.returnCall h2 (by decide)).mono (by omega)⟩
    · obtain ⟨a1, a2, a3⟩ := addThread_ok (p := (S2.th t).pid) (pc := reg S2 t 0 % 256) (f := reg S2 t 1) w2 (by omega) (w2.tok h2).pid (reg_pos w2 h2)
      exact ⟨s2.trans (a2.trans Sm.returnCall), (a3.returnCall (by omega) (by omega)).mono (by omega)⟩
  split
  · obtain ⟨_, x, y⟩ := waitFor_ok (t := t) (x := reg S2 t 0) w2 h2 (reg_pos w2 h2)
    exact ⟨s2.trans x, y.mono (by omega)⟩
  · exact ⟨s2.trans Sm.returnCall, (w2.returnCall h2 (by decide)).mono (by omega)⟩
theorem WF.setMm {i : Nat} {m : Mm} (w : WF S k) (hm : MmOk m) : WF (S.setMm i m) k :=
  { w with
    nm := by show (S.mem.set i m).length ≤ 8; rw [List.length_set]; exact w.nm
    th := fun t ht => by
      have := w.th t ht
      exact { this with pid := by show t.pid < (S.mem.set i m).length; rw [List.length_set]; exact this.pid }
    mm := fun x hx => by
      rcases List.mem_or_eq_of_mem_set (show x ∈ S.mem.set i m from hx) with z | z
      · exact w.mm x z
      · rw [z]; exact hm }
theorem lookup_some {l : List (Int × Int)} {a b : Int} (h : l.lookup a = some b) : (a, b) ∈ l := by
  induction l with
  | nil => cases h
  | cons p r ih =>
    rw [List.lookup_cons] at h
    split at h
    · rename_i e
      have e1 := eq_of_beq e
      rw [e1, ← Option.some.inj h]
      exact List.mem_cons_self
    · exact List.mem_cons_of_mem _ (ih h)
theorem load_pos {m : Mm} (h : MmOk m) (a : Int) : 0 ≤ m.load a := by
  unfold Mm.load
  split
  · rename_i b hb
    exact (h.kpos _ (lookup_some hb)).2.2
  · rw [List.getD_eq_getElem?_getD]
    cases e : m.cells[(a % 256).toNat]? with
    | none => exact Int.le_refl _
    | some r => exact h.pos r (List.mem_of_getElem? e)
theorem store_ok {m : Mm} (h : MmOk m) (a : Int) {b : Int} (hb : 0 ≤ b) : MmOk (m.store a b) := by
  unfold Mm.store
  split
  · refine ⟨h.len, h.pos, fun p hp => ?_, ?_⟩
    · obtain ⟨q, hq, e⟩ := List.mem_map.mp hp
      have z := h.kpos q hq
      split at e
      · rw [← e]; exact ⟨z.1, z.2.1, hb⟩
      · rw [← e]; exact z
    · have e : ((m.kept.map fun p => if p.1 = a % 256 then (p.1, b) else p).map (·.1)) = m.kept.map (·.1) := by
        rw [List.map_map]
        refine List.map_congr_left fun p _ => ?_
        show (if p.1 = a % 256 then (p.1, b) else p).1 = p.1
        split <;> rfl
      rw [e]
      exact h.knd
  · exact ⟨by rw [List.length_set]; exact h.len, mem_set_pos h.pos hb, h.kpos, h.knd⟩
theorem store_keys (S : MS) (p : Nat) (a b : Int) : ((S.setMm p ((S.mm p).store a b)).mem.map fun m => m.kept.map (·.1)) = S.mem.map fun m => m.kept.map (·.1) := by
  show ((S.mem.set p _).map _) = _
  rw [List.map_set]
  have e : ((S.mm p).store a b).kept.map (·.1) = (S.mm p).kept.map (·.1) := by
    unfold Mm.store
    split
    · show ((S.mm p).kept.map fun q => if q.1 = a % 256 then (q.1, b) else q).map (·.1) = _
      rw [List.map_map]
      refine List.map_congr_left fun q _ => ?_
      show (if q.1 = a % 256 then (q.1, b) else q).1 = q.1
      split <;> rfl
    · rfl
  rw [e]
  by_cases h : p < S.mem.length
  · refine List.ext_getElem? fun j => ?_
    rw [List.getElem?_set]
    split
    · rename_i hj
      rw [← hj, List.length_map, if_pos h, List.getElem?_map, mm_get h]
      rfl
    · rfl
  · rw [List.set_eq_of_length_le (by rw [List.length_map]; omega)]
theorem move_ok {t : Nat} {cd x y : Int} (w : WF S k) (h : t < S.ths.length) (hy : 0 ≤ y) : (move S t cd x y).ths.length = S.ths.length ∧ Sm S (move S t cd x y) ∧ WF (move S t cd x y) k := by
  have R : ∀ j v, 0 ≤ v → (setReg S t j v).ths.length = S.ths.length ∧ Sm S (setReg S t j v) ∧ WF (setReg S t j v) k := fun j v hv => ⟨len_setReg, Sm.up, w.setReg h hv⟩
  have hm := w.mm _ (mm_mem (w.tok h).pid)
  unfold move
  show (if cd = 1 then _ else _ : MS).ths.length = _ ∧ Sm S (if cd = 1 then _ else _) ∧ WF (if cd = 1 then _ else _) k
  split
  · exact R _ _ hy
  split
  · exact R _ _ (emod_pos (by decide))
  split
  · exact R _ _ (emod_pos (by decide))
  split
  · exact R _ _ (reg_pos w h)
  split
  · exact R _ _ (load_pos hm _)
  split
  · exact ⟨rfl, ⟨Nat.le_refl _, store_keys _ _ _ _, rfl, rfl⟩, w.setMm (store_ok hm _ (emod_pos (by decide)))⟩
  · exact ⟨rfl, Sm.refl S, w⟩
theorem doInsn_ok {kd : Bool} {t : Nat} (w : WF S k) (h : t < S.ths.length) : Sm S (doInsn kd S t) ∧ WF (doInsn kd S t) (k + 12) := by
  unfold doInsn
  have hm := w.mm _ (mm_mem (w.tok h).pid)
  generalize S.mm (S.th t).pid = m at hm ⊢
  generalize (S.th t).pc = a
  have h1 : ∀ S', S' = (if m.tells kd a then MM.tell S "insn" t a [m.load a] else S) → Sm S S' ∧ WF S' (k + 1) ∧ S'.ths.length = S.ths.length := by
    intro S' e
    rw [e]
    split
    · exact ⟨Sm.tell, w.tell, rfl⟩
    · exact ⟨Sm.refl S, w.mono (Nat.le_succ k), rfl⟩
  obtain ⟨s1, w1, l1⟩ := h1 _ rfl
  show Sm S (if 13 ≤ m.load a then _ else _) ∧ WF (if 13 ≤ m.load a then _ else _) (k + 12)
  generalize (if m.tells kd a then MM.tell S "insn" t a [m.load a] else S) = S1 at s1 w1 l1 ⊢
  have ht : t < S1.ths.length := by rw [l1]; exact h
  split
  · have w2 := w1.tell (kd := "fault") (t := t) (a := a) (r := [m.load a])
    obtain ⟨_, x, y⟩ := end_ok (t := t) (a := a) (cd := 65535) w2 ht (by decide)
    exact ⟨s1.trans (Sm.tell.trans x), y.mono (by omega)⟩
  · have w2 : WF (S1.up t fun q => { q with pc := nextPc (S1.th t).regs (m.load a) (m.load (a + 1)) (m.load (a + 2)) ((a + lens.getD (m.load a).toNat 0) % 256) }) (k + 1) := w1.up { w1.tok ht with }
    have l2 : (S1.up t fun q => { q with pc := nextPc (S1.th t).regs (m.load a) (m.load (a + 1)) (m.load (a + 2)) ((a + lens.getD (m.load a).toNat 0) % 256) }).ths.length = S1.ths.length := up_len
    have s2 : Sm S1 (S1.up t fun q => { q with pc := nextPc (S1.th t).regs (m.load a) (m.load (a + 1)) (m.load (a + 2)) ((a + lens.getD (m.load a).toNat 0) % 256) }) := Sm.up
    dsimp only
    generalize (S1.up t fun q => { q with pc := nextPc (S1.th t).regs (m.load a) (m.load (a + 1)) (m.load (a + 2)) ((a + lens.getD (m.load a).toNat 0) % 256) }) = S2 at w2 l2 s2 ⊢
    have ht2 : t < S2.ths.length := by rw [l2]; exact ht
    show Sm S (if m.load a = 0 then _ else _) ∧ WF (if m.load a = 0 then _ else _) (k + 12)
    split
    · obtain ⟨_, x, y⟩ := end_ok (t := t) (a := a) (cd := 0) w2 ht2 (by decide)
      exact ⟨(s1.trans s2).trans x, y.mono (by omega)⟩
    split
    · obtain ⟨x, y⟩ := doCall_ok (t := t) (n := m.load (a + 1)) (a := a) w2 ht2
      exact ⟨(s1.trans s2).trans x, y.mono (by omega)⟩
    split
    · exact ⟨(s1.trans s2).trans Sm.up, (w2.setReg ht2 (emod_pos (by decide))).mono (by omega)⟩
    · obtain ⟨_, x, y⟩ := move_ok (t := t) (cd := m.load a) (x := m.load (a + 1)) (y := m.load (a + 2)) w2 ht2 (load_pos hm _)
      exact ⟨(s1.trans s2).trans x, y.mono (by omega)⟩
theorem wakeIf_ok : (∀ S i, (wakeIf S i).ths.length = S.ths.length) ∧ (∀ S i, Sm S (wakeIf S i)) ∧ (∀ S k i, WF S k → i < S.ths.length → WF (wakeIf S i) (k + 1)) := by
  refine ⟨fun S i => ?_, fun S i => ?_, fun S k i w h => ?_⟩
  all_goals
    unfold wakeIf
    split
  · exact len_returnCall
  · rfl
  · exact Sm.returnCall
  · exact Sm.refl S
  · exact w.returnCall h (by decide)
  · exact w.mono (Nat.le_succ k)
theorem wake_turns : wake S = turns wakeIf S S.ths.length := rfl
theorem wake_ok (w : WF S k) : (wake S).ths.length = S.ths.length ∧ Sm S (wake S) ∧ WF (wake S) (k + 8) := by
  obtain ⟨a, b, d⟩ := turns_ok (f := wakeIf) wakeIf_ok.1 wakeIf_ok.2.1 wakeIf_ok.2.2 w S.ths.length (Nat.le_refl _)
  rw [wake_turns]
  have := w.nt
  exact ⟨a, b, d.mono (by omega)⟩
theorem runs_lt (w : WF S k) : runs S < (S.ths.length : Int) := by
  unfold runs
  have hc : S.cpu < S.run.length := by rw [w.rn]; exact w.cpu
  rw [List.getD_eq_getElem?_getD, List.getElem?_eq_getElem hc]
  exact w.rnl _ (List.getElem_mem hc)
theorem doStep_ok {kd : Bool} (w : WF S k) : Sm S (doStep kd S) ∧ WF (doStep kd S) (k + 12) := by
  have hr := runs_lt w
  unfold doStep
  split
  · exact doInsn_ok w (by omega)
  · split
    · exact ⟨Sm.refl S, w.mono (by omega)⟩
    · rename_i t r e
      have ht : t < S.ths.length := w.rd t (by rw [e]; exact List.mem_cons_self)
      have w1 : WF { S with ready := r } k := { w with
        rd := fun j hj => w.rd j (by rw [e]; exact List.mem_cons_of_mem _ hj)
        rdl := by have := w.rdl; rw [e, List.length_cons] at this; show r.length ≤ k; omega }
      have w2 : WF { setCond { S with ready := r } t (.running S.cpu) with run := S.run.set S.cpu t } k := (w1.setCond (cd := .running S.cpu) (i := t) ht trivial).runSet (by
        show (t : Int) < ((MS.up { S with ready := r } t _).ths.length : Int)
        rw [up_len]
        exact Int.ofNat_lt.mpr ht)
      exact ⟨⟨Nat.le_of_eq (by simp [beginRun, MM.tell, setCond, MS.up, MS.setTh]), rfl, rfl, rfl⟩, (w2.tell).mono (by omega)⟩
theorem doTimer_ok (w : WF S k) : Sm S (doTimer S) ∧ WF (doTimer S) (k + 2) := by
  have w1 := w.tellTick
  have hr := runs_lt w1
  unfold doTimer
  show Sm S (if 0 ≤ runs (MM.tellTick S) then _ else _) ∧ WF (if 0 ≤ runs (MM.tellTick S) then _ else _) (k + 2)
  have s1 : Sm S (MM.tellTick S) := ⟨Nat.le_refl _, rfl, rfl, rfl⟩
  split
  · obtain ⟨_, x, y⟩ := goLast_ok (t := (runs (MM.tellTick S)).toNat) (r := 1) w1 (by omega)
    exact ⟨s1.trans x, y⟩
  · exact ⟨s1, w1.mono (by omega)⟩
theorem doRequest_ok (w : WF S k) : Sm S (doRequest S) ∧ WF (doRequest S) (k + 2) := by
  unfold doRequest
  split
  · exact ⟨Sm.refl S, w.mono (by omega)⟩
  · rename_i tid call number r e
    have hq := w.rq (tid, call, number) (by rw [e]; exact List.mem_cons_self)
    have w1 : WF { S with reqs := r } k := { w with
      rq := fun q hq => w.rq q (by rw [e]; exact List.mem_cons_of_mem _ hq)
      rql := by have := w.rql; rw [e, List.length_cons] at this; show r.length ≤ k; omega }
    have h1 : ∀ S', S' = (if call = 3 then { S with reqs := r, dev := number } else { S with reqs := r } : MS) → Sm S S' ∧ WF S' k ∧ S'.ths.length = S.ths.length := by
      intro S' e
      rw [e]
      split
      · exact ⟨⟨Nat.le_refl _, rfl, rfl, rfl⟩, { w1 with dev := hq.2 }, rfl⟩
      · exact ⟨⟨Nat.le_refl _, rfl, rfl, rfl⟩, w1, rfl⟩
    obtain ⟨s1, w2, l1⟩ := h1 _ rfl
    show Sm S (MM.returnCall (MM.tell (if call = 3 then { S with reqs := r, dev := number } else { S with reqs := r } : MS) "done" tid _ [call]) tid _) ∧ WF (MM.returnCall (MM.tell (if call = 3 then { S with reqs := r, dev := number } else { S with reqs := r } : MS) "done" tid _ [call]) tid _) (k + 2)
    generalize (if call = 3 then { S with reqs := r, dev := number } else { S with reqs := r } : MS) = S2 at s1 w2 l1 ⊢
    have hv : 0 ≤ (if call = 3 then (0 : Int) else S.dev) := by
      split
      · decide
      · exact w.dev
    exact ⟨s1.trans (Sm.tell.trans Sm.returnCall), (w2.tell.returnCall (by show tid < S2.ths.length; rw [l1]; exact hq.1) hv)⟩
theorem begin_ok {cpu : Nat} (w : WF S k) (h : cpu < S.rates.length) : WF (begin' S cpu) k := { w with
  tim := by show (S.times.set _ _).length = _; rw [List.length_set]; exact w.tim
  cpu := h }
theorem doPick_ok {kd : Bool} {cpu : Nat} {what : Str} (w : WF S k) (h : cpu < S.rates.length) : S.ths.length ≤ (doPick kd S cpu what).ths.length ∧ ((doPick kd S cpu what).mem.map fun m => m.kept.map (·.1)) = (S.mem.map fun m => m.kept.map (·.1)) ∧ (doPick kd S cpu what).rates = S.rates ∧ WF (doPick kd S cpu what) (k + 20) := by
  obtain ⟨l1, s1, w1⟩ := wake_ok (begin_ok w h)
  have b1 : (begin' S cpu).ths.length = S.ths.length := rfl
  have fin : ∀ S', Sm (wake (begin' S cpu)) S' → WF S' (k + 8 + 12) → S.ths.length ≤ S'.ths.length ∧ (S'.mem.map fun m => m.kept.map (·.1)) = (S.mem.map fun m => m.kept.map (·.1)) ∧ S'.rates = S.rates ∧ WF S' (k + 20) := fun S' a b =>
    ⟨by have := a.nt; rw [l1, b1] at this; exact this, a.km.trans s1.km, a.rt.trans s1.rt, b⟩
  show S.ths.length ≤ (if what = "step" then _ else _ : MS).ths.length ∧ ((if what = "step" then _ else _ : MS).mem.map fun m => m.kept.map (·.1)) = _ ∧ (if what = "step" then _ else _ : MS).rates = _ ∧ WF (if what = "step" then _ else _) _
  split
  · obtain ⟨x, y⟩ := doStep_ok (kd := kd) w1
    exact fin _ x y
  split
  · obtain ⟨x, y⟩ := doTimer_ok w1
    exact fin _ x (y.mono (by omega))
  split
  · obtain ⟨x, y⟩ := doRequest_ok w1
    exact fin _ x (y.mono (by omega))
  · exact fin _ (Sm.refl _) (w1.mono (by omega))
end MM
end
section
/-! the machine: readings over its state -/
namespace MM
open PySem PySem.Spec PyProof.Rows L2
theorem alloc {H : Hp} {o : HO} {G : Addr → Hp → Prop} (h : ∀ p H', H p = none → Same H H' → H' p = some o → G p H') : ∀ p, H p = none → G p (upd H p o) := fun p hp => h p _ hp (R.same_new hp) upd_same
/-- what the top has written of the machine's classes -/
structure BdC (K : PySem.W.Frag) (c : Cl) : Prop where
  cB : Cls K c.CB
  cT : Cls K c.CT
  cM : Cls K c.CM
  nMemories : NoAttr K c.CB "memories"
  nRates : NoAttr K c.CB "rates"
  nThreads : NoAttr K c.CB "threads"
  nReady : NoAttr K c.CB "ready"
  nTimes : NoAttr K c.CB "times"
  nRunning : NoAttr K c.CB "running"
  nDev : NoAttr K c.CB "device_value"
  nReqs : NoAttr K c.CB "requests"
  nCpu : NoAttr K c.CB "cpu"
  nViews : NoAttr K c.CB "views"
  nPid : NoAttr K c.CT "pid"
  nPc : NoAttr K c.CT "pc"
  nRegs : NoAttr K c.CT "regs"
  nCond : NoAttr K c.CT "condition"
  nCall : NoAttr K c.CT "call"
  nCallAt : NoAttr K c.CT "call_at"
  nCells : NoAttr K c.CM "cells"
section
variable {c : Cl} {ad : Tg → Addr} {S : MS} {H : Hp} {K : PySem.W.Frag} {P : V → Prop} {i : Nat} {Q : VK} {k : Nat} {G : Hp → Prop}
/-! fields of the board -/
theorem q_memories (C : BdC K c) (B : Bd c ad S H) (h : P (.ref (ad .memL))) : ∃ a C' dx fs v, V.ref (ad .brd) = .ref a ∧ H a = some (.ins C' dx fs) ∧ Cls K C' ∧ NoAttr K C' "memories" ∧ fs.lookup ("memories" : Str) = some v ∧ P v := by
  obtain ⟨dx, rt, e, _⟩ := B.brd
  exact ⟨_, _, dx, _, _, rfl, e, C.cB, C.nMemories, rfl, h⟩
theorem q_threads (C : BdC K c) (B : Bd c ad S H) (h : P (.ref (ad .thsL))) : ∃ a C' dx fs v, V.ref (ad .brd) = .ref a ∧ H a = some (.ins C' dx fs) ∧ Cls K C' ∧ NoAttr K C' "threads" ∧ fs.lookup ("threads" : Str) = some v ∧ P v := by
  obtain ⟨dx, rt, e, _⟩ := B.brd
  exact ⟨_, _, dx, _, _, rfl, e, C.cB, C.nThreads, rfl, h⟩
theorem q_ready (C : BdC K c) (B : Bd c ad S H) (h : P (.ref (ad .rdyL))) : ∃ a C' dx fs v, V.ref (ad .brd) = .ref a ∧ H a = some (.ins C' dx fs) ∧ Cls K C' ∧ NoAttr K C' "ready" ∧ fs.lookup ("ready" : Str) = some v ∧ P v := by
  obtain ⟨dx, rt, e, _⟩ := B.brd
  exact ⟨_, _, dx, _, _, rfl, e, C.cB, C.nReady, rfl, h⟩
theorem q_times (C : BdC K c) (B : Bd c ad S H) (h : P (.ref (ad .timL))) : ∃ a C' dx fs v, V.ref (ad .brd) = .ref a ∧ H a = some (.ins C' dx fs) ∧ Cls K C' ∧ NoAttr K C' "times" ∧ fs.lookup ("times" : Str) = some v ∧ P v := by
  obtain ⟨dx, rt, e, _⟩ := B.brd
  exact ⟨_, _, dx, _, _, rfl, e, C.cB, C.nTimes, rfl, h⟩
theorem q_running (C : BdC K c) (B : Bd c ad S H) (h : P (.ref (ad .runL))) : ∃ a C' dx fs v, V.ref (ad .brd) = .ref a ∧ H a = some (.ins C' dx fs) ∧ Cls K C' ∧ NoAttr K C' "running" ∧ fs.lookup ("running" : Str) = some v ∧ P v := by
  obtain ⟨dx, rt, e, _⟩ := B.brd
  exact ⟨_, _, dx, _, _, rfl, e, C.cB, C.nRunning, rfl, h⟩
theorem q_dev (C : BdC K c) (B : Bd c ad S H) (h : P (.int S.dev)) : ∃ a C' dx fs v, V.ref (ad .brd) = .ref a ∧ H a = some (.ins C' dx fs) ∧ Cls K C' ∧ NoAttr K C' "device_value" ∧ fs.lookup ("device_value" : Str) = some v ∧ P v := by
  obtain ⟨dx, rt, e, _⟩ := B.brd
  exact ⟨_, _, dx, _, _, rfl, e, C.cB, C.nDev, rfl, h⟩
theorem q_requests (C : BdC K c) (B : Bd c ad S H) (h : P (.ref (ad .reqL))) : ∃ a C' dx fs v, V.ref (ad .brd) = .ref a ∧ H a = some (.ins C' dx fs) ∧ Cls K C' ∧ NoAttr K C' "requests" ∧ fs.lookup ("requests" : Str) = some v ∧ P v := by
  obtain ⟨dx, rt, e, _⟩ := B.brd
  exact ⟨_, _, dx, _, _, rfl, e, C.cB, C.nReqs, rfl, h⟩
theorem q_cpu (C : BdC K c) (B : Bd c ad S H) (h : P (.int (S.cpu : Int))) : ∃ a C' dx fs v, V.ref (ad .brd) = .ref a ∧ H a = some (.ins C' dx fs) ∧ Cls K C' ∧ NoAttr K C' "cpu" ∧ fs.lookup ("cpu" : Str) = some v ∧ P v := by
  obtain ⟨dx, rt, e, _⟩ := B.brd
  exact ⟨_, _, dx, _, _, rfl, e, C.cB, C.nCpu, rfl, h⟩
theorem q_views (C : BdC K c) (B : Bd c ad S H) (h : P (.ref (ad .vwsL))) : ∃ a C' dx fs v, V.ref (ad .brd) = .ref a ∧ H a = some (.ins C' dx fs) ∧ Cls K C' ∧ NoAttr K C' "views" ∧ fs.lookup ("views" : Str) = some v ∧ P v := by
  obtain ⟨dx, rt, e, _⟩ := B.brd
  exact ⟨_, _, dx, _, _, rfl, e, C.cB, C.nViews, rfl, h⟩
theorem q_rates (C : BdC K c) (B : Bd c ad S H) (h : ∀ rt, H rt = some (.tup (S.rates.map V.int)) → P (.ref rt)) : ∃ a C' dx fs v, V.ref (ad .brd) = .ref a ∧ H a = some (.ins C' dx fs) ∧ Cls K C' ∧ NoAttr K C' "rates" ∧ fs.lookup ("rates" : Str) = some v ∧ P v := by
  obtain ⟨dx, rt, e, er, _⟩ := B.brd
  exact ⟨_, _, dx, _, _, rfl, e, C.cB, C.nRates, rfl, h rt er⟩
/-! fields of a thread -/
theorem q_pid (C : BdC K c) (B : Bd c ad S H) (hi : i < S.ths.length) (h : P (.int ((S.th i).pid : Int))) : ∃ a C' dx fs v, V.ref (ad (.thr i)) = .ref a ∧ H a = some (.ins C' dx fs) ∧ Cls K C' ∧ NoAttr K C' "pid" ∧ fs.lookup ("pid" : Str) = some v ∧ P v := by
  obtain ⟨dx, c0, e, _⟩ := B.thr (th_get hi)
  exact ⟨_, _, dx, _, _, rfl, e, C.cT, C.nPid, rfl, h⟩
theorem q_pc (C : BdC K c) (B : Bd c ad S H) (hi : i < S.ths.length) (h : P (.int (S.th i).pc)) : ∃ a C' dx fs v, V.ref (ad (.thr i)) = .ref a ∧ H a = some (.ins C' dx fs) ∧ Cls K C' ∧ NoAttr K C' "pc" ∧ fs.lookup ("pc" : Str) = some v ∧ P v := by
  obtain ⟨dx, c0, e, _⟩ := B.thr (th_get hi)
  exact ⟨_, _, dx, _, _, rfl, e, C.cT, C.nPc, rfl, h⟩
theorem q_regs (C : BdC K c) (B : Bd c ad S H) (hi : i < S.ths.length) (h : P (.ref (ad (.rgs i)))) : ∃ a C' dx fs v, V.ref (ad (.thr i)) = .ref a ∧ H a = some (.ins C' dx fs) ∧ Cls K C' ∧ NoAttr K C' "regs" ∧ fs.lookup ("regs" : Str) = some v ∧ P v := by
  obtain ⟨dx, c0, e, _⟩ := B.thr (th_get hi)
  exact ⟨_, _, dx, _, _, rfl, e, C.cT, C.nRegs, rfl, h⟩
theorem q_cond (C : BdC K c) (B : Bd c ad S H) (hi : i < S.ths.length) (h : ∀ c0, H c0 = some (.tup (condV (S.th i).cond)) → P (.ref c0)) : ∃ a C' dx fs v, V.ref (ad (.thr i)) = .ref a ∧ H a = some (.ins C' dx fs) ∧ Cls K C' ∧ NoAttr K C' "condition" ∧ fs.lookup ("condition" : Str) = some v ∧ P v := by
  obtain ⟨dx, c0, e, e2, _⟩ := B.thr (th_get hi)
  exact ⟨_, _, dx, _, _, rfl, e, C.cT, C.nCond, rfl, h c0 e2⟩
theorem q_call (C : BdC K c) (B : Bd c ad S H) (hi : i < S.ths.length) (h : P (.int (S.th i).call)) : ∃ a C' dx fs v, V.ref (ad (.thr i)) = .ref a ∧ H a = some (.ins C' dx fs) ∧ Cls K C' ∧ NoAttr K C' "call" ∧ fs.lookup ("call" : Str) = some v ∧ P v := by
  obtain ⟨dx, c0, e, _⟩ := B.thr (th_get hi)
  exact ⟨_, _, dx, _, _, rfl, e, C.cT, C.nCall, rfl, h⟩
theorem q_callAt (C : BdC K c) (B : Bd c ad S H) (hi : i < S.ths.length) (h : P (.int (S.th i).callAt)) : ∃ a C' dx fs v, V.ref (ad (.thr i)) = .ref a ∧ H a = some (.ins C' dx fs) ∧ Cls K C' ∧ NoAttr K C' "call_at" ∧ fs.lookup ("call_at" : Str) = some v ∧ P v := by
  obtain ⟨dx, c0, e, _⟩ := B.thr (th_get hi)
  exact ⟨_, _, dx, _, _, rfl, e, C.cT, C.nCallAt, rfl, h⟩
/-! items -/
theorem q_ixThs (B : Bd c ad S H) (hi : i < S.ths.length) (h : Q (.ref (ad (.thr i))) H) : rIxL K (.ref (ad .thsL)) (.int (i : Int)) H Q :=
  R.r_ixL (R.sqL B.thsAt) (atI_nat (by rw [List.getElem?_map, List.getElem?_range hi]; rfl)) h
theorem q_ixThsI {x : Int} (B : Bd c ad S H) (h0 : 0 ≤ x) (hi : x.toNat < S.ths.length) (h : Q (.ref (ad (.thr x.toNat))) H) : rIxL K (.ref (ad .thsL)) (.int x) H Q :=
  R.r_ixL (R.sqL B.thsAt) (R.at_nat h0 (by rw [List.getElem?_map, List.getElem?_range hi]; rfl)) h
theorem q_ixMem (B : Bd c ad S H) (hi : i < S.mem.length) (h : Q (.ref (ad (.mem i))) H) : rIxL K (.ref (ad .memL)) (.int (i : Int)) H Q :=
  R.r_ixL (R.sqL B.memAt) (atI_nat (by rw [List.getElem?_map, List.getElem?_range hi]; rfl)) h
theorem getD_get {l : List Int} {j : Nat} (h : j < l.length) : (l.map V.int)[j]? = some (.int (l.getD j 0)) := by
  rw [List.getElem?_map, List.getD_eq_getElem?_getD, List.getElem?_eq_getElem h]
  rfl
theorem q_ixTim (B : Bd c ad S H) (hi : i < S.times.length) (h : Q (.int (S.times.getD i 0)) H) : rIxL K (.ref (ad .timL)) (.int (i : Int)) H Q := R.r_ixL (R.sqL B.tim.1) (atI_nat (getD_get hi)) h
theorem q_ixRun (B : Bd c ad S H) (hi : i < S.run.length) (h : Q (.int (S.run.getD i 0)) H) : rIxL K (.ref (ad .runL)) (.int (i : Int)) H Q := R.r_ixL (R.sqL B.rn.1) (atI_nat (getD_get hi)) h
theorem q_ixRgs {j : Int} (B : Bd c ad S H) (W : WF S k) (hi : i < S.ths.length) (h0 : 0 ≤ j) (h4 : j < 4) (h : Q (.int (reg S i j.toNat)) H) : rIxL K (.ref (ad (.rgs i))) (.int j) H Q :=
  R.r_ixL (R.sqL (B.rgs (th_get hi)).1) (R.at_nat h0 (getD_get (by rw [(W.tok hi).len]; omega))) h
theorem q_ixCls {j : Int} {m : Mm} (B : Bd c ad S H) (hm : S.mem[i]? = some m) (h0 : 0 ≤ j) (h4 : j.toNat < m.cells.length) (h : Q (.int (m.cells.getD j.toNat 0)) H) : rIxL K (.ref (ad (.cls i))) (.int j) H Q :=
  R.r_ixL (R.sqL (B.cls hm).1) (R.at_nat h0 (getD_get h4)) h
/-! lists are lists -/
theorem ty_rdy (B : Bd c ad S H) : tyV K "list" (.ref (ad .rdyL)) H := .inl ⟨rfl, _, R.sqL B.rdy.1⟩
theorem ty_ths (B : Bd c ad S H) : tyV K "list" (.ref (ad .thsL)) H := .inl ⟨rfl, _, R.sqL B.thsAt⟩
theorem ty_req (B : Bd c ad S H) : tyV K "list" (.ref (ad .reqL)) H := by
  obtain ⟨rq, e, _⟩ := B.req
  exact .inl ⟨rfl, _, R.sqL e⟩
theorem ty_vws (B : Bd c ad S H) : tyV K "list" (.ref (ad .vwsL)) H := by
  obtain ⟨rq, e, _⟩ := B.vws
  exact .inl ⟨rfl, _, R.sqL e⟩
/-! stores -/
abbrev Mv1 (c : Cl) (S : MS) (ad : Tg → Addr) (H H' : Hp) : Prop := Mvd c.kd S.ths.length S.mem.length ad ad H H'
theorem mv_put {t : Tg} {o o' : HO} (h : H (ad t) = some o) (hn : ∀ xs, o ≠ .tup xs) : Mv1 c S ad H (upd H (ad t) o') := Mvd.put h hn
theorem q_stCond {c1 : Addr} {cd : Cond} (C : BdC K c) (B : Bd c ad S H) (hi : i < S.ths.length) (hc : H c1 = some (.tup (condV cd))) (h : ∀ H', Bd c ad (setCond S i cd) H' → Mv1 c S ad H H' → G H') :
    ∃ a C' dx fs, V.ref (ad (.thr i)) = .ref a ∧ H a = some (.ins C' dx fs) ∧ Cls K C' ∧ NoAttr K C' "condition" ∧ fs.length < 1000 ∧ G (upd H a (.ins C' dx (putF "condition" (.ref c1) fs))) := by
  obtain ⟨dx, c0, e, _, z⟩ := B.thr (th_get hi)
  exact ⟨_, _, dx, _, rfl, e, C.cT, C.nCond, Nat.lt_of_sub_eq_succ rfl, h _ (z { S.th i with cond := cd } c1 rfl hc) (mv_put e (fun _ => nofun))⟩
theorem q_stPc {v : Int} (C : BdC K c) (B : Bd c ad S H) (hi : i < S.ths.length) (h : ∀ H', Bd c ad (S.up i fun t => { t with pc := v }) H' → Mv1 c S ad H H' → G H') :
    ∃ a C' dx fs, V.ref (ad (.thr i)) = .ref a ∧ H a = some (.ins C' dx fs) ∧ Cls K C' ∧ NoAttr K C' "pc" ∧ fs.length < 1000 ∧ G (upd H a (.ins C' dx (putF "pc" (.int v) fs))) := by
  obtain ⟨dx, c0, e, e2, z⟩ := B.thr (th_get hi)
  exact ⟨_, _, dx, _, rfl, e, C.cT, C.nPc, Nat.lt_of_sub_eq_succ rfl, h _ (z { S.th i with pc := v } c0 rfl e2) (mv_put e (fun _ => nofun))⟩
theorem q_stCall {v : Int} (C : BdC K c) (B : Bd c ad S H) (hi : i < S.ths.length) (h : ∀ H', Bd c ad (S.up i fun t => { t with call := v }) H' → Mv1 c S ad H H' → G H') :
    ∃ a C' dx fs, V.ref (ad (.thr i)) = .ref a ∧ H a = some (.ins C' dx fs) ∧ Cls K C' ∧ NoAttr K C' "call" ∧ fs.length < 1000 ∧ G (upd H a (.ins C' dx (putF "call" (.int v) fs))) := by
  obtain ⟨dx, c0, e, e2, z⟩ := B.thr (th_get hi)
  exact ⟨_, _, dx, _, rfl, e, C.cT, C.nCall, Nat.lt_of_sub_eq_succ rfl, h _ (z { S.th i with call := v } c0 rfl e2) (mv_put e (fun _ => nofun))⟩
theorem q_stCallAt {v : Int} (C : BdC K c) (B : Bd c ad S H) (hi : i < S.ths.length) (h : ∀ H', Bd c ad (S.up i fun t => { t with callAt := v }) H' → Mv1 c S ad H H' → G H') :
    ∃ a C' dx fs, V.ref (ad (.thr i)) = .ref a ∧ H a = some (.ins C' dx fs) ∧ Cls K C' ∧ NoAttr K C' "call_at" ∧ fs.length < 1000 ∧ G (upd H a (.ins C' dx (putF "call_at" (.int v) fs))) := by
  obtain ⟨dx, c0, e, e2, z⟩ := B.thr (th_get hi)
  exact ⟨_, _, dx, _, rfl, e, C.cT, C.nCallAt, Nat.lt_of_sub_eq_succ rfl, h _ (z { S.th i with callAt := v } c0 rfl e2) (mv_put e (fun _ => nofun))⟩
theorem q_stCpu {n : Nat} (C : BdC K c) (B : Bd c ad S H) (h : ∀ H', Bd c ad { S with cpu := n } H' → Mv1 c S ad H H' → G H') :
    ∃ a C' dx fs, V.ref (ad .brd) = .ref a ∧ H a = some (.ins C' dx fs) ∧ Cls K C' ∧ NoAttr K C' "cpu" ∧ fs.length < 1000 ∧ G (upd H a (.ins C' dx (putF "cpu" (.int (n : Int)) fs))) := by
  obtain ⟨dx, rt, e, e2, z⟩ := B.brd
  exact ⟨_, _, dx, _, rfl, e, C.cB, C.nCpu, Nat.lt_of_sub_eq_succ rfl, h _ (z S.dev n) (mv_put e (fun _ => nofun))⟩
theorem q_stDev {v : Int} (C : BdC K c) (B : Bd c ad S H) (h : ∀ H', Bd c ad { S with dev := v } H' → Mv1 c S ad H H' → G H') :
    ∃ a C' dx fs, V.ref (ad .brd) = .ref a ∧ H a = some (.ins C' dx fs) ∧ Cls K C' ∧ NoAttr K C' "device_value" ∧ fs.length < 1000 ∧ G (upd H a (.ins C' dx (putF "device_value" (.int v) fs))) := by
  obtain ⟨dx, rt, e, e2, z⟩ := B.brd
  exact ⟨_, _, dx, _, rfl, e, C.cB, C.nDev, Nat.lt_of_sub_eq_succ rfl, h _ (z v S.cpu) (mv_put e (fun _ => nofun))⟩
theorem map_set_int {l : List Int} {j : Nat} {v : Int} : (l.map V.int).set j (.int v) = (l.set j v).map V.int := by rw [List.map_set]
theorem q_setRgs {j v : Int} (B : Bd c ad S H) (W : WF S k) (hi : i < S.ths.length) (h0 : 0 ≤ j) (h4 : j < 4) (h : ∀ H', Bd c ad (setReg S i j.toNat v) H' → Mv1 c S ad H H' → G H') : rSetL (.ref (ad (.rgs i))) (.int j) (.int v) H G := by
  obtain ⟨e, z⟩ := B.rgs (th_get hi)
  refine ⟨_, _, j, j.toNat, rfl, rfl, e, ?_, ?_⟩
  · unfold ixN
    rw [if_pos h0, if_pos (by rw [List.length_map, (W.tok hi).len]; omega)]
  · have z1 := h _ (z ((S.th i).regs.set j.toNat v)) (mv_put e (fun _ => nofun))
    rw [map_set_int]
    exact z1
theorem q_setRun {v : Int} (B : Bd c ad S H) (hi : i < S.run.length) (h : ∀ H', Bd c ad { S with run := S.run.set i v } H' → Mv1 c S ad H H' → G H') : rSetL (.ref (ad .runL)) (.int (i : Int)) (.int v) H G := by
  obtain ⟨e, z⟩ := B.rn
  refine ⟨_, _, (i : Int), i, rfl, rfl, e, ?_, ?_⟩
  · unfold ixN
    rw [if_pos (by omega), if_pos (by rw [List.length_map]; omega)]
    rfl
  · have z1 := h _ (z (S.run.set i v)) (mv_put e (fun _ => nofun))
    rw [map_set_int]
    exact z1
theorem q_setTim {v : Int} (B : Bd c ad S H) (hi : i < S.times.length) (h : ∀ H', Bd c ad { S with times := S.times.set i v } H' → Mv1 c S ad H H' → G H') : rSetL (.ref (ad .timL)) (.int (i : Int)) (.int v) H G := by
  obtain ⟨e, z⟩ := B.tim
  refine ⟨_, _, (i : Int), i, rfl, rfl, e, ?_, ?_⟩
  · unfold ixN
    rw [if_pos (by omega), if_pos (by rw [List.length_map]; omega)]
    rfl
  · have z1 := h _ (z (S.times.set i v)) (mv_put e (fun _ => nofun))
    rw [map_set_int]
    exact z1
theorem q_setCls {j v : Int} {m : Mm} (B : Bd c ad S H) (hm : S.mem[i]? = some m) (h0 : 0 ≤ j) (h4 : j.toNat < m.cells.length) (h : ∀ H', Bd c ad (S.setMm i { m with cells := m.cells.set j.toNat v }) H' → Mv1 c S ad H H' → G H') : rSetL (.ref (ad (.cls i))) (.int j) (.int v) H G := by
  obtain ⟨e, z⟩ := B.cls hm
  refine ⟨_, _, j, j.toNat, rfl, rfl, e, ?_, ?_⟩
  · unfold ixN
    rw [if_pos h0, if_pos (by rw [List.length_map]; omega)]
  · have z1 := h _ (z (m.cells.set j.toNat v)) (mv_put e (fun _ => nofun))
    rw [map_set_int]
    exact z1
theorem q_getTim (B : Bd c ad S H) (hi : i < S.times.length) (h : Q (.int (S.times.getD i 0)) H) : rGetL K (.ref (ad .timL)) (.int (i : Int)) H Q :=
  ⟨_, _, _, _, rfl, rfl, R.sqL B.tim.1, by omega, getD_get (by show i < _; exact hi), h⟩
/-! what is added -/
theorem q_appRdy {t : Nat} (B : Bd c ad S H) (hl : S.ready.length < 100000) (h : ∀ H', Bd c ad { S with ready := S.ready ++ [t] } H' → Mv1 c S ad H H' → Q .non H') : rAppend (.ref (ad .rdyL)) [.int (t : Int)] H Q := by
  obtain ⟨e, z⟩ := B.rdy
  refine ⟨_, _, _, rfl, rfl, e, R.size_lt (by rw [List.length_map]; exact hl), ?_⟩
  have z1 := h _ (z (S.ready ++ [t])) (mv_put e (fun _ => nofun))
  rw [List.map_append] at z1
  exact z1
theorem q_appVws {a : Addr} {w : Vw} (B : Bd c ad S H) (hl : S.views.length < 100000) (hv : VwAt H a w) (h : ∀ H', Bd c ad { S with views := S.views ++ [w] } H' → Mv1 c S ad H H' → Q .non H') : rAppend (.ref (ad .vwsL)) [.ref a] H Q := by
  obtain ⟨vw, e, al, z⟩ := B.vws
  refine ⟨_, _, _, rfl, rfl, e, R.size_lt (by rw [List.length_map, al.length]; exact hl), ?_⟩
  have z1 := h _ (z (vw ++ [a]) (S.views ++ [w]) (al.snoc hv)) (mv_put e (fun _ => nofun))
  rw [List.map_append] at z1
  exact z1
theorem q_appReq {a : Addr} {q : Nat × Int × Int} (B : Bd c ad S H) (hl : S.reqs.length < 100000) (hv : RqAt H a q) (h : ∀ H', Bd c ad { S with reqs := S.reqs ++ [q] } H' → Mv1 c S ad H H' → Q .non H') : rAppend (.ref (ad .reqL)) [.ref a] H Q := by
  obtain ⟨vw, e, al, z⟩ := B.req
  refine ⟨_, _, _, rfl, rfl, e, R.size_lt (by rw [List.length_map, al.length]; exact hl), ?_⟩
  have z1 := h _ (z (vw ++ [a]) (S.reqs ++ [q]) (al.snoc hv)) (mv_put e (fun _ => nofun))
  rw [List.map_append] at z1
  exact z1
/-! lengths -/
theorem q_lenThs (B : Bd c ad S H) (h : Q (.int (S.ths.length : Int)) H) : R.rLenS K [.ref (ad .thsL)] H Q := by
  refine R.r_lenL (R.sqL B.thsAt) ?_
  rw [List.length_map, List.length_range]
  exact h
end
end MM
end
section
/-! the machine: the defs' promises -/
namespace MM
open PySem PySem.Spec PyProof.Rows L2
def Pl (c : Cl) (S : MS) : Prop := c.kd = false → ∀ ks ∈ S.mem.map (fun m => m.kept.map (·.1)), ks = []
theorem Pl.sm {c : Cl} {S S' : MS} (p : Pl c S) (s : Sm S S') : Pl c S' := fun h => by rw [s.km]; exact p h
theorem Pl.nil {c : Cl} {S : MS} (p : Pl c S) (h : c.kd = false) {m : Mm} (hm : m ∈ S.mem) : m.kept = [] := List.map_eq_nil_iff.mp (p h _ (List.mem_map.mpr ⟨m, hm, rfl⟩))
structure Ok (c : Cl) (ad : Tg → Addr) (S : MS) (H : Hp) (k : Nat) : Prop where
  B : Bd c ad S H
  W : WF S k
  hk : k ≤ 60000
  pl : Pl c S
theorem Ok.same {c : Cl} {ad : Tg → Addr} {S : MS} {H H' : Hp} {k : Nat} (o : Ok c ad S H k) (s : Same H H') : Ok c ad S H' k := ⟨o.B.same s, o.W, o.hk, o.pl⟩
theorem Ok.to {c : Cl} {ad ad' : Tg → Addr} {S S' : MS} {H H' : Hp} {k k' : Nat} (o : Ok c ad S H k) (b : Bd c ad' S' H') (w : WF S' k') (hk : k' ≤ 60000) (s : Sm S S') : Ok c ad' S' H' k' := ⟨b, w, hk, o.pl.sm s⟩
def spLoad (c : Cl) : Sp := fun vs H Q _ => ∃ ad S k i a, vs = [.ref (ad (.mem i)), .int a] ∧ Ok c ad S H k ∧ i < S.mem.length ∧ Q (.int ((S.mm i).load a)) H
def spStore (c : Cl) : Sp := fun vs H Q _ => ∃ ad S k i a b, vs = [.ref (ad (.mem i)), .int a, .int b] ∧ Ok c ad S H k ∧ i < S.mem.length ∧ ∀ H', Bd c ad (S.setMm i ((S.mm i).store a b)) H' → Mv1 c S ad H H' → Q .non H'
def spImage (c : Cl) : Sp := fun vs H Q _ => ∃ ad S k i, vs = [.ref (ad (.mem i))] ∧ Ok c ad S H k ∧ i < S.mem.length ∧ ∀ p H', H p = none → Same H H' → H' p = some (.tup ((S.mm i).img.map V.int)) → Q (.ref p) H'
def spTells (c : Cl) : Sp := fun vs H Q _ => ∃ ad S k i a, vs = [.ref (ad (.mem i)), .int a] ∧ Ok c ad S H k ∧ i < S.mem.length ∧ Q (.bl ((S.mm i).tells c.kd a)) H
def spNow (c : Cl) : Sp := fun vs H Q _ => ∃ ad S k, vs = [.ref (ad .brd)] ∧ Ok c ad S H k ∧ Q (.int S.now) H
def spTell (c : Cl) : Sp := fun vs H Q _ => ∃ ad S k kind tid at' args g, vs = [.ref (ad .brd), .str kind, .int ((tid : Nat) : Int), .int at', .ref g] ∧ H g = some (.tup (args.map V.int)) ∧ Ok c ad S H k ∧ tid < S.ths.length ∧
  ∀ H', Bd c ad (tell S kind tid at' args) H' → Mv1 c S ad H H' → Q .non H'
def spTellTick (c : Cl) : Sp := fun vs H Q _ => ∃ ad S k, vs = [.ref (ad .brd)] ∧ Ok c ad S H k ∧ ∀ H', Bd c ad (tellTick S) H' → Mv1 c S ad H H' → Q .non H'
def spEndRun (c : Cl) : Sp := fun vs H Q _ => ∃ ad S k tid cd c1, vs = [.ref (ad .brd), .int ((tid : Nat) : Int), .ref c1] ∧ H c1 = some (.tup (condV cd)) ∧ Ok c ad S H k ∧ tid < S.ths.length ∧ ∀ H', Bd c ad (endRun S tid cd) H' → Mv1 c S ad H H' → Q .non H'
def spMakeReady (c : Cl) : Sp := fun vs H Q _ => ∃ ad S k tid, vs = [.ref (ad .brd), .int ((tid : Nat) : Int)] ∧ Ok c ad S H k ∧ tid < S.ths.length ∧ ∀ H', Bd c ad (makeReady S tid) H' → Mv1 c S ad H H' → Q .non H'
def spBeginRun (c : Cl) : Sp := fun vs H Q _ => ∃ ad S k tid, vs = [.ref (ad .brd), .int ((tid : Nat) : Int)] ∧ Ok c ad S H k ∧ tid < S.ths.length ∧ ∀ H', Bd c ad (beginRun S tid) H' → Mv1 c S ad H H' → Q .non H'
def spBeginPick (c : Cl) : Sp := fun vs H Q _ => ∃ ad S k cpu, vs = [.ref (ad .brd), .int ((cpu : Nat) : Int)] ∧ Ok c ad S H k ∧ cpu < S.rates.length ∧ ∀ H', Bd c ad (begin' S cpu) H' → Mv1 c S ad H H' → Q .non H'
def spReturnCall (c : Cl) : Sp := fun vs H Q _ => ∃ ad S k tid res, vs = [.ref (ad .brd), .int ((tid : Nat) : Int), .int res] ∧ 0 ≤ res ∧ Ok c ad S H k ∧ k ≤ 58000 ∧ tid < S.ths.length ∧ ∀ H', Bd c ad (returnCall S tid res) H' → Mv1 c S ad H H' → Q .non H'
def spEndThread (c : Cl) : Sp := fun vs H Q _ => ∃ ad S k tid at' code, vs = [.ref (ad .brd), .int ((tid : Nat) : Int), .int at', .int code] ∧ 0 ≤ code ∧ Ok c ad S H k ∧ k ≤ 57000 ∧ tid < S.ths.length ∧ ∀ H', Bd c ad (endThread S tid at' code) H' → Mv1 c S ad H H' → Q .non H'
def spLeave (c : Cl) : Sp := fun vs H Q _ => ∃ ad S k tid cd c1 r, vs = [.ref (ad .brd), .int ((tid : Nat) : Int), .ref c1, .int r] ∧ H c1 = some (.tup (condV cd)) ∧ condOk cd ∧ Ok c ad S H k ∧ tid < S.ths.length ∧ ∀ H', Bd c ad (leave S tid cd r) H' → Mv1 c S ad H H' → Q .non H'
def spGoLast (c : Cl) : Sp := fun vs H Q _ => ∃ ad S k tid r, vs = [.ref (ad .brd), .int ((tid : Nat) : Int), .int r] ∧ Ok c ad S H k ∧ k ≤ 58000 ∧ tid < S.ths.length ∧ ∀ H', Bd c ad (goLast S tid r) H' → Mv1 c S ad H H' → Q .non H'
abbrev Mv2 (c : Cl) (S : MS) (ad ad' : Tg → Addr) (H H' : Hp) : Prop := Mvd c.kd S.ths.length S.mem.length ad ad' H H'
def spAddThread (c : Cl) : Sp := fun vs H Q _ => ∃ ad S k pid pc first, vs = [.ref (ad .brd), .int ((pid : Nat) : Int), .int pc, .int first] ∧ Ok c ad S H k ∧ ∀ ad' H', Bd c ad' (addThread S pid pc first) H' → Mv2 c S ad ad' H H' → Q (.int (S.ths.length : Int)) H'
def spBeginThread (c : Cl) : Sp := fun vs H Q _ => ∃ ad S k t, vs = [.ref (ad .brd), .ref (ad (.thr t))] ∧ Ok c ad S H k ∧ t < S.ths.length ∧
  (8 ≤ S.ths.length → Q (.int 65535) H) ∧ (¬ 8 ≤ S.ths.length → ∀ ad' H', Bd c ad' (addThread S (S.th t).pid (reg S t 0 % 256) (reg S t 1)) H' → Mv2 c S ad ad' H H' → Q (.int (S.ths.length : Int)) H')
def spWaitFor (c : Cl) : Sp := fun vs H Q _ => ∃ ad S k tid x, vs = [.ref (ad .brd), .int ((tid : Nat) : Int), .int x] ∧ 0 ≤ x ∧ Ok c ad S H k ∧ k ≤ 57000 ∧ tid < S.ths.length ∧ ∀ H', Bd c ad (waitFor S tid x) H' → Mv1 c S ad H H' → Q .non H'
def spDoCall (c : Cl) : Sp := fun vs H Q _ => ∃ ad S k tid n a, vs = [.ref (ad .brd), .int ((tid : Nat) : Int), .int n, .int a] ∧ Ok c ad S H k ∧ k ≤ 49900 ∧ tid < S.ths.length ∧ ∀ ad' H', Bd c ad' (doCall S tid n a) H' → Mv2 c S ad ad' H H' → Q .non H'
def spMove (c : Cl) : Sp := fun vs H Q _ => ∃ ad S k tid code x y, vs = [.ref (ad (.rgs tid)), .ref (ad (.mem (S.th tid).pid)), .int code, .int x, .int y] ∧ Ok c ad S H k ∧ tid < S.ths.length ∧ ∀ H', Bd c ad (move S tid code x y) H' → Mv1 c S ad H H' → Q .non H'
def spNextPc (c : Cl) : Sp := fun vs H Q _ => ∃ ad S k tid code x y z, vs = [.ref (ad (.rgs tid)), .int code, .int x, .int y, .int z] ∧ Ok c ad S H k ∧ tid < S.ths.length ∧ ∀ H', Same H H' → Q (.int (nextPc (S.th tid).regs code x y z)) H'
def spDoInsn (c : Cl) : Sp := fun vs H Q _ => ∃ ad S k tid, vs = [.ref (ad .brd), .int ((tid : Nat) : Int)] ∧ Ok c ad S H k ∧ k ≤ 49800 ∧ tid < S.ths.length ∧ ∀ ad' H', Bd c ad' (doInsn c.kd S tid) H' → Mv2 c S ad ad' H H' → Q .non H'
def spWake (c : Cl) : Sp := fun vs H Q _ => ∃ ad S k, vs = [.ref (ad .brd)] ∧ Ok c ad S H k ∧ k ≤ 49900 ∧ ∀ H', Bd c ad (wake S) H' → Mv1 c S ad H H' → Q .non H'
def spDoStep (c : Cl) : Sp := fun vs H Q _ => ∃ ad S k, vs = [.ref (ad .brd)] ∧ Ok c ad S H k ∧ k ≤ 49700 ∧ ∀ ad' H', Bd c ad' (doStep c.kd S) H' → Mv2 c S ad ad' H H' → Q .non H'
def spDoTimer (c : Cl) : Sp := fun vs H Q _ => ∃ ad S k, vs = [.ref (ad .brd)] ∧ Ok c ad S H k ∧ k ≤ 49700 ∧ ∀ H', Bd c ad (doTimer S) H' → Mv1 c S ad H H' → Q .non H'
def spDoRequest (c : Cl) : Sp := fun vs H Q _ => ∃ ad S k, vs = [.ref (ad .brd)] ∧ Ok c ad S H k ∧ k ≤ 49700 ∧ ∀ H', Bd c ad (doRequest S) H' → Mv1 c S ad H H' → Q .non H'
/-- a pick: the views at a new list of the caller's -/
def spDoPick (c : Cl) : Sp := fun vs H Q _ => ∃ ad S k p cpu what, vs = [.ref (ad .brd), .ref p] ∧ H p = some (.tup [.int ((cpu : Nat) : Int), .str what]) ∧ Ok c ad S H k ∧ k ≤ 49000 ∧ cpu < S.rates.length ∧ S.views = [] ∧
  ∀ ad' H' v vw, Bd c ad' { doPick c.kd S cpu what with views := [] } H' → Mv2 c S ad ad' H H' → H' v = some (.lst (vw.map V.ref)) → All2 (VwAt H') vw (doPick c.kd S cpu what).views → (∀ t, ad' t ≠ v) → (∀ o, H v = some o → ∃ t, ad t = v) → Q (.ref v) H'
/-- the memories' own methods, plain or with stops -/
structure MemI (P : Program) (w : World) (K : PySem.W.Frag) (mg : Str → Option Value) (base : Heap) (c : Cl) where
  cc : Cls K c.CM
  nCells : NoAttr K c.CM "cells"
  f_load : Addr
  d_load : FuncData
  m_load : Meth K c.CM "load" f_load
  ok_load : FnOk P w K mg base CX0 1 f_load d_load ["self", "at"] (spLoad c)
  b_load : Binds K d_load ["self", "at"] []
  f_store : Addr
  d_store : FuncData
  m_store : Meth K c.CM "store" f_store
  ok_store : FnOk P w K mg base CX0 1 f_store d_store ["self", "at", "byte"] (spStore c)
  b_store : Binds K d_store ["self", "at", "byte"] []
  f_image : Addr
  d_image : FuncData
  m_image : Meth K c.CM "image" f_image
  ok_image : FnOk P w K mg base CX0 1 f_image d_image ["self"] (spImage c)
  b_image : Binds K d_image ["self"] []
  ps_tells : List Str
  f_tells : Addr
  d_tells : FuncData
  m_tells : Meth K c.CM "tells" f_tells
  ok_tells : FnOk P w K mg base CX0 1 f_tells d_tells ps_tells (spTells c)
  b_tells : Binds K d_tells ps_tells []
section
variable {c : Cl} {ad : Tg → Addr} {S : MS} {H : Hp} {K : PySem.W.Frag} {G : Prop} {i : Nat} {m : Str} {Q : VK} {σ : L2.St} {ta tv : TE} {tr : TA} {sp : Sp} {E : XK} {C : Addr} {dvs : List V} {nx bk ct : L2.St → Hp → Prop} {rt : V → Hp → Prop} {f : Str} {to ti te : TE}
theorem r_meth (h : ta σ H fun x H1 => ∃ a dx fs, x = .ref a ∧ H1 a = some (.ins C dx fs) ∧ fs.lookup m = none ∧ tr σ H1 fun vs H2 => sp (x :: (vs ++ dvs)) H2 Q E) : tMeth C m sp dvs E ta tr σ H Q := h
theorem r_sfld (h : tv σ H fun y H1 => ta σ H1 fun x H2 => ∃ a C dx fs, x = .ref a ∧ H2 a = some (.ins C dx fs) ∧ Cls K C ∧ NoAttr K C f ∧ fs.length < 1000 ∧ nx σ (upd H2 a (.ins C dx (putF f y fs)))) : sFld K ta tv f ⟨nx, rt, bk, ct⟩ σ H := h
theorem r_gsub {x : V} {t : TSet} {N : L2.St → Hp → Prop} (h : to σ H fun o H1 => ti σ H1 fun i H2 => t o i x H2 fun H3 => N σ H3) : gSub to ti t x σ H N := h
theorem r_augS {tget : V → V → Hp → VK → Prop} {tip : TIp} {tset : TSet} (h : to σ H fun o H1 => ti σ H1 fun i H2 => tget o i H2 fun x H3 => te σ H3 fun y H4 => tip x y H4 fun z H5 => tset o i z H5 fun H6 => nx σ H6) : tAugS to ti te tget tip tset ⟨nx, rt, bk, ct⟩ σ H := h
theorem r_ip {g : Int → Int → Int} {i j : Int} (h : Q (.int (g i j)) H) : ipI g (.int i) (.int j) H Q := ⟨i, j, rfl, rfl, h⟩
theorem q_mBrd (B : Bd c ad S H) (hl : ∀ ad rt dev cpu, (fsB ad rt dev cpu).lookup m = none) (h : G) : ∃ a dx fs, V.ref (ad .brd) = .ref a ∧ H a = some (.ins c.CB dx fs) ∧ fs.lookup m = none ∧ G := by
  obtain ⟨dx, rt, e, _⟩ := B.brd
  exact ⟨_, dx, _, rfl, e, hl _ _ _ _, h⟩
theorem q_mMem (B : Bd c ad S H) (hi : i < S.mem.length) (hl : ∀ a b kd, (fsM kd a b).lookup m = none) (h : G) : ∃ a dx fs, V.ref (ad (.mem i)) = .ref a ∧ H a = some (.ins c.CM dx fs) ∧ fs.lookup m = none ∧ G := by
  obtain ⟨dx, e⟩ := B.memI (mm_get hi)
  exact ⟨_, dx, _, rfl, e, hl _ _ _, h⟩
end
section
variable {K : PySem.W.Frag} {C dx : Addr} {kd : Bool} {a b : Addr} {H : Hp} {P : V → Prop}
theorem q_fldM {m : Addr} (hC : Cls K C) (hn : NoAttr K C "cells") (e : H m = some (.ins C dx (fsM kd a b))) (h : P (.ref a)) : ∃ a' C' dx' fs v, V.ref m = .ref a' ∧ H a' = some (.ins C' dx' fs) ∧ Cls K C' ∧ NoAttr K C' "cells" ∧ fs.lookup ("cells" : Str) = some v ∧ P v := by
  refine ⟨_, _, _, _, _, rfl, e, hC, hn, ?_, h⟩
  unfold fsM
  cases kd <;> rfl
end
end MM
end
section
/-! the machine: more readings; a new thread; what is taken away -/
namespace MM
open PySem PySem.Spec PyProof.Rows L2
theorem new2 {H H' : Hp} {p : Addr} {o : HO} (h : upd H p o = H') (hp : H p = none) : Same H H' ∧ H' p = some o := by
  subst h
  exact ⟨R.same_new hp, upd_same⟩
section
variable {c : Cl} {ad : Tg → Addr} {S : MS} {H : Hp} {K : PySem.W.Frag} {P : V → Prop} {i : Nat} {Q : VK} {k : Nat} {G : Hp → Prop}
def adTh (ad : Tg → Addr) (n : Nat) (x rg : Addr) : Tg → Addr := fun u => if u = .thr n then x else if u = .rgs n then rg else ad u
theorem adTh_ne {n : Nat} {x rg : Addr} {u : Tg} (h1 : u ≠ .thr n) (h2 : u ≠ .rgs n) : adTh ad n x rg u = ad u := by
  unfold adTh
  rw [if_neg h1, if_neg h2]
theorem Bd.there (B : Bd c ad S H) {t : Tg} (d : dom c.kd S.ths.length S.mem.length t) : ∃ o, H (ad t) = some o := by
  obtain ⟨⟨g, h1, _⟩, _, _⟩ := B
  have : ∃ o, cont c ad g S t = some o := by
    cases t with
    | thr i => exact ⟨_, by show (S.ths[i]?.map _) = _; rw [List.getElem?_eq_getElem d]; rfl⟩
    | rgs i => exact ⟨_, by show (S.ths[i]?.map _) = _; rw [List.getElem?_eq_getElem d]; rfl⟩
    | mem i => exact ⟨_, by show (S.mem[i]?.map _) = _; rw [List.getElem?_eq_getElem d]; rfl⟩
    | cls i => exact ⟨_, by show (S.mem[i]?.map _) = _; rw [List.getElem?_eq_getElem d]; rfl⟩
    | kpt i => exact ⟨_, by show (if c.kd then (S.mem[i]?.map _) else none) = _; rw [if_pos d.1, List.getElem?_eq_getElem d.2]; rfl⟩
    | _ => exact ⟨_, rfl⟩
  obtain ⟨o, e⟩ := this
  exact ⟨o, h1 t o e⟩
theorem Bd.newTh {x dx rg cv : Addr} {t : Th} {H' : Hp} (B : Bd c ad S H) (sm : Same H H') (hx : H x = none) (hr : H rg = none) (hxr : x ≠ rg)
    (ex : H' x = some (.ins c.CT dx (fsT rg cv t))) (er : H' rg = some (.lst (t.regs.map V.int))) (ec : H' cv = some (.tup (condV t.cond))) :
    Bd c (adTh ad S.ths.length x rg) { S with ths := S.ths ++ [t] } (upd H' (ad .thsL) (.lst (((List.range S.ths.length).map fun i => V.ref (ad (.thr i))) ++ [.ref x]))) ∧
    Mvd c.kd S.ths.length S.mem.length ad (adTh ad S.ths.length x rg) H (upd H' (ad .thsL) (.lst (((List.range S.ths.length).map fun i => V.ref (ad (.thr i))) ++ [.ref x]))) := by
  have old : ∀ u, dom c.kd S.ths.length S.mem.length u → adTh ad S.ths.length x rg u = ad u := fun u d => by
    refine adTh_ne (fun e => ?_) (fun e => ?_)
    · rw [e] at d; exact Nat.lt_irrefl _ d
    · rw [e] at d; exact Nat.lt_irrefl _ d
  have eT := sm _ _ B.thsAt
  have out : ∀ u, dom c.kd S.ths.length S.mem.length u → ad u ≠ x ∧ ad u ≠ rg := fun u d => by
    obtain ⟨o, e⟩ := B.there d
    exact ⟨ne_of_none e hx, ne_of_none e hr⟩
  have n1 : x ≠ ad .thsL := fun e => (out .thsL trivial).1 e.symm
  have n2 : rg ≠ ad .thsL := fun e => (out .thsL trivial).2 e.symm
  have kt : KeepT H' (upd H' (ad .thsL) (.lst (((List.range S.ths.length).map fun i => V.ref (ad (.thr i))) ++ [.ref x]))) := KeepT.upd eT (fun _ => nofun)
  have kt0 : KeepT H (upd H' (ad .thsL) (.lst (((List.range S.ths.length).map fun i => V.ref (ad (.thr i))) ++ [.ref x]))) := (KeepT.of sm).trans kt
  have inj0 := B.inj
  obtain ⟨⟨g, h1, h2, h3, h4, h5⟩, inj, od⟩ := B
  have dn : ∀ u, dom c.kd (S.ths ++ [t]).length S.mem.length u → dom c.kd S.ths.length S.mem.length u ∨ u = .thr S.ths.length ∨ u = .rgs S.ths.length := fun u d => by
    rw [List.length_append] at d
    cases u with
    | thr i => 
      have d : i < S.ths.length + 1 := d
      by_cases e : i = S.ths.length
      · exact .inr (.inl (by rw [e]))
      · exact .inl (show i < S.ths.length by omega)
    | rgs i =>
      have d : i < S.ths.length + 1 := d
      by_cases e : i = S.ths.length
      · exact .inr (.inr (by rw [e]))
      · exact .inl (show i < S.ths.length by omega)
    | _ => exact .inl d
  have aT : adTh ad S.ths.length x rg (.thr S.ths.length) = x := if_pos rfl
  have aR : adTh ad S.ths.length x rg (.rgs S.ths.length) = rg := by
    unfold adTh
    rw [if_neg (by intro e; cases e), if_pos rfl]
  refine ⟨⟨⟨{ g with dT := fun j => if j = S.ths.length then dx else g.dT j, cv := fun j => if j = S.ths.length then cv else g.cv j }, ?_, ?_, h3.imp fun _ _ z => kt0 _ _ z, h4.imp fun _ _ z => z.keep kt0, kt0 _ _ h5⟩, ?_, ?_⟩, ?_⟩
  · intro u o hu
    have du := dom_some hu
    rcases dn u du with d | e | e
    · rw [old u d]
      by_cases z : u = .thsL
      · subst z
        rw [upd_same, ← hu]
        show some (HO.lst _) = some (HO.lst ((List.range (S.ths ++ [t]).length).map fun i => V.ref (adTh ad S.ths.length x rg (.thr i))))
        rw [List.length_append]
        show _ = some (HO.lst ((List.range (S.ths.length + 1)).map _))
        rw [List.range_succ, List.map_append, List.map_singleton, aT]
        refine congrArg (fun z => some (HO.lst (z ++ [V.ref x]))) (List.map_congr_left fun i hi => ?_)
        rw [old (.thr i) (List.mem_range.mp hi)]
      · have q : ad u ≠ ad .thsL := fun e => z (inj u .thsL d trivial e)
        rw [upd_ne q]
        refine sm _ _ (h1 u o ?_)
        rw [← hu]
        cases u with
        | thr j =>
          have hj : j < S.ths.length := d
          show (S.ths[j]?.map fun t => HO.ins c.CT (g.dT j) (fsT (ad (.rgs j)) (g.cv j) t)) = (((S.ths ++ [t])[j]?).map fun t => HO.ins c.CT (if j = S.ths.length then dx else g.dT j) (fsT (adTh ad S.ths.length x rg (.rgs j)) (if j = S.ths.length then cv else g.cv j) t))
          rw [List.getElem?_append_left hj, if_neg (by omega), if_neg (by omega), old (.rgs j) hj]
        | rgs j =>
          have hj : j < S.ths.length := d
          show (S.ths[j]?.map fun t => HO.lst (t.regs.map V.int)) = (((S.ths ++ [t])[j]?).map fun t => HO.lst (t.regs.map V.int))
          rw [List.getElem?_append_left hj]
        | brd =>
          show some (HO.ins c.CB g.dB (fsB ad g.rt S.dev S.cpu)) = some (HO.ins c.CB g.dB (fsB (adTh ad S.ths.length x rg) g.rt S.dev S.cpu))
          rfl
        | memL => rfl
        | mem j => rfl
        | kpt j => rfl
        | thsL => exact absurd rfl z
        | _ => rfl
    · subst e
      rw [aT, upd_ne n1, ex, ← hu]
      show some _ = (((S.ths ++ [t])[S.ths.length]?).map fun t => HO.ins c.CT (if S.ths.length = S.ths.length then dx else g.dT S.ths.length) (fsT (adTh ad S.ths.length x rg (.rgs S.ths.length)) (if S.ths.length = S.ths.length then cv else g.cv S.ths.length) t))
      rw [List.getElem?_append_right (Nat.le_refl _), Nat.sub_self, if_pos rfl, if_pos rfl, aR]
      rfl
    · subst e
      rw [aR, upd_ne n2, er, ← hu]
      show some _ = (((S.ths ++ [t])[S.ths.length]?).map fun t => HO.lst (t.regs.map V.int))
      rw [List.getElem?_append_right (Nat.le_refl _), Nat.sub_self]
      rfl
  · intro j y hy
    show upd H' _ _ (if j = S.ths.length then cv else g.cv j) = _
    have hl : j < (S.ths ++ [t]).length := (List.getElem?_eq_some_iff.mp hy).1
    rw [List.length_append] at hl
    have hl : j < S.ths.length + 1 := hl
    have hy : (S.ths ++ [t])[j]? = some y := hy
    by_cases e : j = S.ths.length
    · rw [if_pos e]
      rw [e, List.getElem?_append_right (Nat.le_refl _), Nat.sub_self] at hy
      have hy : some t = some y := hy
      rw [← Option.some.inj hy]
      exact kt _ _ ec
    · rw [if_neg e]
      rw [List.getElem?_append_left (by omega)] at hy
      exact kt0 _ _ (h2 j y hy)
  · intro u v du dv e
    rcases dn u du with d | d | d
    · rcases dn v dv with d' | d' | d'
      · rw [old u d, old v d'] at e
        exact inj u v d d' e
      · rw [old u d, d', aT] at e
        exact absurd e (out u d).1
      · rw [old u d, d', aR] at e
        exact absurd e (out u d).2
    · rcases dn v dv with d' | d' | d'
      · rw [d, aT, old v d'] at e
        exact absurd e.symm (out v d').1
      · rw [d, d']
      · rw [d, d', aT, aR] at e
        exact absurd e hxr
    · rcases dn v dv with d' | d' | d'
      · rw [d, aR, old v d'] at e
        exact absurd e.symm (out v d').2
      · rw [d, d', aT, aR] at e
        exact absurd e.symm hxr
      · rw [d, d']
  · intro u nd
    have nd : ¬ dom c.kd (S.ths ++ [t]).length S.mem.length u := nd
    rw [List.length_append] at nd
    have b0 : adTh ad S.ths.length x rg .brd = ad .brd := adTh_ne (by intro e; cases e) (by intro e; cases e)
    rw [b0, ← od u (fun d => nd (d.mono (Nat.le_add_right _ _)))]
    refine adTh_ne (fun e => nd ?_) (fun e => nd ?_)
    · rw [e]; exact Nat.lt_succ_self _
    · rw [e]; exact Nat.lt_succ_self _
  · refine ⟨fun b o hb q => ?_, fun u => ?_, kt0, fun u hu d => old u d⟩
    · rw [upd_ne (q .thsL).symm]
      exact sm _ _ hb
    · unfold adTh
      split
      · exact .inr hx
      split
      · exact .inr hr
      · exact .inl ⟨u, rfl⟩
/-- the first one of the ready row is taken -/
theorem q_popRdy {t : Nat} {r : List Nat} (B : Bd c ad S H) (e : S.ready = t :: r) (h : ∀ H', Bd c ad { S with ready := r } H' → Mv1 c S ad H H' → Q (.int (t : Int)) H') : rPopAt (.ref (ad .rdyL)) [.int 0] H Q := by
  obtain ⟨e1, z⟩ := B.rdy
  refine ⟨_, _, 0, 0, .int (t : Int), rfl, rfl, e1, by decide, by decide, ?_, ?_, ?_⟩
  · rw [e]
    exact PyProof.Rows.seqIndex?_zero (by rw [List.length_map]; exact Nat.succ_pos _)
  · rw [e]; rfl
  · have z1 := h _ (z r) (mv_put e1 (fun _ => nofun))
    rw [e]
    exact z1
theorem q_popReq {q : Nat × Int × Int} {r : List (Nat × Int × Int)} (B : Bd c ad S H) (e : S.reqs = q :: r) (h : ∀ a H', RqAt H' a q → Bd c ad { S with reqs := r } H' → Mv1 c S ad H H' → Q (.ref a) H') : rPopAt (.ref (ad .reqL)) [.int 0] H Q := by
  obtain ⟨rq, e1, al, z⟩ := B.req
  rw [e] at al
  cases al with
  | cons r1 al =>
    rename_i a as
    refine ⟨_, _, 0, 0, .ref a, rfl, rfl, e1, by decide, by decide, PyProof.Rows.seqIndex?_zero (by rw [List.length_map]; exact Nat.succ_pos _), rfl, ?_⟩
    exact h _ _ ((KeepT.upd e1 (fun _ => nofun)) _ _ r1) (z as r al) (mv_put e1 (fun _ => nofun))
/-- the views are given away, a new list stands in their place -/
def adV (ad : Tg → Addr) (p : Addr) : Tg → Addr := fun u => if u = .vwsL then p else ad u
theorem adV_ne {p : Addr} {u : Tg} (h : u ≠ .vwsL) : adV ad p u = ad u := if_neg h
theorem Bd.newVws {p : Addr} (B : Bd c ad S H) (hp : H p = none) : ∃ dx rt, H (ad .brd) = some (.ins c.CB dx (fsB ad rt S.dev S.cpu)) ∧
    Bd c (adV ad p) { S with views := [] } (upd (upd H p (.lst [])) (ad .brd) (.ins c.CB dx (fsB (adV ad p) rt S.dev S.cpu))) ∧
    Mvd c.kd S.ths.length S.mem.length ad (adV ad p) H (upd (upd H p (.lst [])) (ad .brd) (.ins c.CB dx (fsB (adV ad p) rt S.dev S.cpu))) := by
  have out : ∀ u, dom c.kd S.ths.length S.mem.length u → ad u ≠ p := fun u d => by
    obtain ⟨o, e⟩ := B.there d
    exact ne_of_none e hp
  obtain ⟨⟨g, h1, h2, h3, h4, h5⟩, inj, od⟩ := B
  have e1 := h1 .brd _ rfl
  refine ⟨g.dB, g.rt, e1, ?_⟩
  have nb : p ≠ ad .brd := fun e => out .brd trivial e.symm
  have kt : KeepT H (upd (upd H p (.lst [])) (ad .brd) (.ins c.CB g.dB (fsB (adV ad p) g.rt S.dev S.cpu))) :=
    (KeepT.of (R.same_new hp)).trans (KeepT.upd (R.same_new hp _ _ e1) (fun _ => nofun))
  have av : adV ad p .vwsL = p := if_pos rfl
  refine ⟨⟨⟨{ g with vw := [] }, ?_, fun i t e => kt _ _ (h2 i t e), h3.imp fun _ _ z => kt _ _ z, .nil, kt _ _ h5⟩, ?_, ?_⟩, ?_⟩
  · intro u o hu
    by_cases z : u = .vwsL
    · subst z
      rw [av, upd_ne nb, upd_same, ← hu]
      rfl
    · rw [adV_ne z]
      by_cases y : u = .brd
      · subst y
        rw [upd_same, ← hu]
        rfl
      · have du := dom_some hu
        have q : ad u ≠ ad .brd := fun e => y (inj u .brd du trivial e)
        rw [upd_ne q, upd_ne (out u du)]
        refine h1 u o ?_
        rw [← hu]
        cases u <;> first | rfl | exact absurd rfl z | exact absurd rfl y
  · intro u v du dv e
    by_cases z : u = .vwsL
    · by_cases y : v = .vwsL
      · rw [z, y]
      · rw [z, av, adV_ne y] at e
        exact absurd e.symm (out v dv)
    · by_cases y : v = .vwsL
      · rw [y, av, adV_ne z] at e
        exact absurd e (out u du)
      · rw [adV_ne z, adV_ne y] at e
        exact inj u v du dv e
  · intro u nd
    have b0 : adV ad p .brd = ad .brd := adV_ne (by intro e; cases e)
    rw [b0, ← od u nd]
    exact adV_ne (fun e => nd (by rw [e]; trivial))
  · refine ⟨fun b o hb q => ?_, fun u => ?_, kt, fun u hu d => adV_ne hu⟩
    · rw [upd_ne (q .brd).symm, upd_ne (ne_of_none hb hp)]
      exact hb
    · by_cases z : u = .vwsL
      · rw [z, av]; exact .inr hp
      · rw [adV_ne z]; exact .inl ⟨u, rfl⟩
/-- the kept bytes -/
theorem Bd.kpt (B : Bd c ad S H) (hk : c.kd = true) {i : Nat} {m : Mm} (hm : S.mem[i]? = some m) : H (ad (.kpt i)) = some (.dK (keptV m.kept)) ∧
    ∀ ks : List (Int × Int), Bd c ad (S.setMm i { m with kept := ks }) (upd H (ad (.kpt i)) (.dK (keptV ks))) := by
  obtain ⟨⟨g, h1, h2, h3, h4, h5⟩, inj, od⟩ := B
  have e1 : cont c ad g S (.kpt i) = some (.dK (keptV m.kept)) := by simp [cont, hk, hm]
  refine ⟨h1 _ _ e1, fun ks => ?_⟩
  have hi : i < S.mem.length := (List.getElem?_eq_some_iff.mp hm).1
  have kt : KeepT H (upd H (ad (.kpt i)) (.dK (keptV ks))) := KeepT.upd (h1 _ _ e1) (not_tup e1)
  refine ⟨⟨g, ?_, fun j x hx => kt _ _ (h2 j x hx), h3.imp fun _ _ z => kt _ _ z, h4.imp fun _ _ z => z.keep kt, kt _ _ h5⟩, ?_, ?_⟩
  · refine Bd.put (g' := g) h1 inj e1 ?_ ?_
    · show (if c.kd then ((S.mem.set i { m with kept := ks })[i]?).map fun m => HO.dK (keptV m.kept) else none) = _
      rw [if_pos hk, List.getElem?_set_self hi]
      rfl
    · intro u hu
      cases u with
      | kpt j =>
        have hj : i ≠ j := fun z => hu (by rw [z])
        show (if c.kd then ((S.mem.set i { m with kept := ks })[j]?).map fun m => HO.dK (keptV m.kept) else none) = _
        rw [List.getElem?_set_ne hj]
        rfl
      | mem j =>
        show (((S.mem.set i { m with kept := ks })[j]?).map fun _ => HO.ins c.CM (g.dM j) (fsM c.kd (ad (.cls j)) (ad (.kpt j)))) = ((S.mem[j]?).map fun _ => HO.ins c.CM (g.dM j) (fsM c.kd (ad (.cls j)) (ad (.kpt j))))
        by_cases hj : i = j
        · subst hj
          rw [List.getElem?_set_self hi, hm]
          rfl
        · rw [List.getElem?_set_ne hj]
      | cls j =>
        show (((S.mem.set i { m with kept := ks })[j]?).map fun m => HO.lst (m.cells.map V.int)) = ((S.mem[j]?).map fun m => HO.lst (m.cells.map V.int))
        by_cases hj : i = j
        · subst hj
          rw [List.getElem?_set_self hi, hm]
          rfl
        · rw [List.getElem?_set_ne hj]
      | memL =>
        show some (HO.lst ((List.range (S.mem.set i { m with kept := ks }).length).map fun i => V.ref (ad (.mem i)))) = _
        rw [List.length_set]
        rfl
      | _ => rfl
  · show ∀ t u, dom c.kd S.ths.length (S.mem.set i { m with kept := ks }).length t → dom c.kd S.ths.length (S.mem.set i { m with kept := ks }).length u → _
    rw [List.length_set]
    exact inj
  · show ∀ t, ¬ dom c.kd S.ths.length (S.mem.set i { m with kept := ks }).length t → _
    rw [List.length_set]
    exact od
end
end MM
namespace MM
open PySem PySem.Spec PyProof.Rows L2
theorem st2 {H H' : Hp} {p : PySem.Addr} {o : HO} (h : upd H p o = H') : R.Mv p H H' ∧ H' p = some o := by
  subst h
  exact ⟨R.Mv.upd, upd_same⟩
end MM
namespace MM
open PySem PySem.Spec PyProof.Rows L2
theorem r_make {C : PySem.Addr} {sp : Sp} {dvs : List V} {E : XK} {tr : TA} {σ : L2.St} {H : Hp} {Q : VK} (h : tr σ H fun vs H1 => ∀ x dx, H1 x = none → H1 dx = none → dx ≠ x → sp (.ref x :: (vs ++ dvs)) (upd (upd H1 dx (.own x)) x (.ins C dx [])) (fun v H2 => v = .non ∧ Q (.ref x) H2) E) : tMake C sp dvs E tr σ H Q := h
end MM
end
section
/-! the machine: loops over its threads; conditions -/
namespace MM
open PySem PySem.Spec PyProof.Rows L2
def condName : Cond → Str
  | .ready => "ready"
  | .running _ => "running"
  | .sleeping _ _ => "sleeping"
  | .asking => "asking"
  | .waiting _ => "waiting"
  | .ended _ => "ended"
theorem cond_0 (cd : Cond) : atI (condV cd) 0 = some (.str (condName cd)) := by cases cd <;> rfl
theorem name_run (cd : Cond) : condName cd = "running" ↔ isRun cd = true := by
  cases cd with
  | ready => exact ⟨fun h => absurd h (show ("ready" : Str) ≠ "running" by decide +kernel), nofun⟩
  | running c => exact ⟨fun _ => rfl, fun _ => rfl⟩
  | sleeping c u => exact ⟨fun h => absurd h (show ("sleeping" : Str) ≠ "running" by decide +kernel), nofun⟩
  | asking => exact ⟨fun h => absurd h (show ("asking" : Str) ≠ "running" by decide +kernel), nofun⟩
  | waiting t => exact ⟨fun h => absurd h (show ("waiting" : Str) ≠ "running" by decide +kernel), nofun⟩
  | ended k => exact ⟨fun h => absurd h (show ("ended" : Str) ≠ "running" by decide +kernel), nofun⟩
def condD : Cond → PyData
  | .ready => .tuple [.str "ready"]
  | .running c => .tuple [.str "running", .int (c : Int)]
  | .sleeping c u => .tuple [.str "sleeping", .int (c : Int), .int u]
  | .asking => .tuple [.str "asking"]
  | .waiting t => .tuple [.str "waiting", .int t]
  | .ended k => .tuple [.str "ended", .int k]
theorem dp_cond {K : PySem.W.Frag} {H : Hp} {a : PySem.Addr} {cd : Cond} (h : H a = some (.tup (condV cd))) : Dp K H (.ref a) (condD cd) := by
  cases cd <;> first
    | exact .tup (R.sqT h) (.cons (.str _) .nil)
    | exact .tup (R.sqT h) (.cons (.str _) (.cons (.int _) .nil))
    | exact .tup (R.sqT h) (.cons (.str _) (.cons (.int _) (.cons (.int _) .nil)))
theorem sh_cond (cd : Cond) : D.Sh 1 (condD cd) := by
  cases cd <;> first
    | exact .tup (.cons (.str (by decide +kernel)) .nil)
    | exact .tup (.cons (.str (by decide +kernel)) (.cons (.int _) .nil))
    | exact .tup (.cons (.str (by decide +kernel)) (.cons (.int _) (.cons (.int _) .nil)))
theorem cond_wait {cd : Cond} {t : Int} : condD cd = .tuple [.str "waiting", .int t] ↔ isWait t cd = true := by
  cases cd with
  | waiting u => simp [condD, isWait]
  | ready => simp [condD, isWait]
  | asking => simp [condD, isWait]
  | running c => simp [condD, isWait]; exact fun h => absurd h (by decide +kernel)
  | sleeping c u => simp [condD, isWait]
  | ended c => simp [condD, isWait]; exact fun h => absurd h (by decide +kernel)
section
variable {c : Cl} {ad : Tg → Addr} {S : MS} {H : Hp} {K : PySem.W.Frag} {P : V → Prop} {i : Nat} {Q : VK} {k : Nat} {G : Hp → Prop}
theorem r_enum {tr : TA} {g : TG} {tb : TS} {D : Ends} {σ : L2.St} (h : tr σ H fun vs H1 => ∃ a xs, vs = [.ref a] ∧ SqL K H1 a xs ∧ ∃ W : Nat → Nat → L2.St → Hp → Prop, (∃ m, W 0 m σ H1) ∧ ∀ i m σ H, W i m σ H →
  ((Ite K a).stop i H ∧ D.nx σ H) ∨ ((Ite K a).go i H ∧ ∃ N : L2.St → Hp → Prop, (∀ σ' H', N σ' H' → ∃ m', m' < m ∧ W (i + 1) m' σ' H') ∧ ∀ x H', (Ite K a).yld i H x H' → g x σ H' fun σ2 H2 => tb { D with nx := N, ct := N, bk := D.nx } σ2 H2)) : tFor (iEnum K tr) g tb D σ H := h
/-- for j1, j2 in enumerate(the threads): the list stands all the while -/
theorem for_ths {tb : TS} {nx bk ct : L2.St → Hp → Prop} {rt : V → Hp → Prop} {σ : L2.St} {j1 j2 : Nat} (n : Nat) (a : PySem.Addr) (Pv : Nat → L2.St → Hp → Prop) (h0 : Pv 0 σ H)
    (hG : ∀ i σ H, i ≤ n → Pv i σ H → H a = some (.lst ((List.range n).map fun i => V.ref (ad (.thr i))))) (hP : ∀ i σ H H', Pv i σ H → Same H H' → Pv i σ H')
    (hs : ∀ i σ H, i < n → Pv i σ H → tb ⟨Pv (i + 1), rt, nx, Pv (i + 1)⟩ ((σ.set j1 (some (.int (i : Nat)))).set j2 (some (.ref (ad (.thr i))))) H) (hd : ∀ σ H, Pv n σ H → nx σ H) :
    ∃ W : Nat → Nat → L2.St → Hp → Prop, (∃ m, W 0 m σ H) ∧ ∀ i m σ H, W i m σ H →
      ((Ite K a).stop i H ∧ nx σ H) ∨ ((Ite K a).go i H ∧ ∃ N : L2.St → Hp → Prop, (∀ σ' H', N σ' H' → ∃ m', m' < m ∧ W (i + 1) m' σ' H') ∧ ∀ x H', (Ite K a).yld i H x H' → gTup K 2 (gCons (gName j1) (gCons (gName j2) gNil)) x σ H' fun σ2 H2 => tb ⟨N, rt, nx, N⟩ σ2 H2) := by
  generalize hxs : ((List.range n).map fun i => V.ref (ad (.thr i))) = xs at hG
  have hl : xs.length = n := by rw [← hxs, List.length_map, List.length_range]
  have wk : Walk (Ite K a) n (fun H => SqL K H a xs) (YPair (fun i => some (.int (i : Nat))) (fun i => xs[i]?)) := hl ▸ walk_enum
  refine for_it (D := ⟨nx, rt, bk, ct⟩) wk Pv h0 (fun i σ H hi p => R.sqL (hG i σ H hi p)) (fun i x σ H H' hi p y => ?_) hd
  obtain ⟨T, x1, x2, rfl, hT, rfl, e1, e2⟩ := y
  have e1 : x1 = .int (i : Nat) := (Option.some.inj e1).symm
  have e2 : xs[i]? = some x2 := e2
  rw [← hxs, List.getElem?_map, List.getElem?_range hi] at e2
  have e2 : x2 = .ref (ad (.thr i)) := (Option.some.inj e2).symm
  subst e1 e2
  refine ⟨T, _, rfl, R.sqT upd_same, rfl, _, _, rfl, _, _, rfl, rfl, ?_⟩
  exact hs i σ _ hi (hP _ _ _ _ p (R.same_new hT))
/-- steps one behind the other -/
theorem Mvd.after {S S' : MS} {a1 a2 a3 : Tg → Addr} {H H1 H2 : Hp} (s : Sm S S') (m : Mv2 c S a1 a2 H H1) (m' : Mv2 c S' a2 a3 H1 H2) : Mv2 c S a1 a3 H H2 := by
  have m' : Mvd c.kd S'.ths.length S'.mem.length a2 a3 H1 H2 := m'
  rw [s.nm] at m'
  exact m.trans s.nt m'
theorem sm_of {S' : MS} (h1 : S'.ths.length = S.ths.length) (h2 : S'.mem = S.mem) (h3 : S'.rates = S.rates) (h4 : S'.cpu = S.cpu) : Sm S S' := ⟨Nat.le_of_eq h1.symm, by rw [h2], h3, h4⟩
end
end MM
namespace MM
open PySem PySem.Spec PyProof.Rows L2
theorem tell_th {S : MS} {kd : Str} {t i : Nat} {a : Int} {r : List Int} : (tell S kd t a r).th i = S.th i := rfl
theorem Ok.tell {c : Cl} {ad ad' : Tg → PySem.Addr} {S : MS} {H H' : Hp} {k : Nat} {kd : Str} {t : Nat} {a : Int} {r : List Int} (o : Ok c ad S H k) (b : Bd c ad' (tell S kd t a r) H') (hk : k + 1 ≤ 60000) : Ok c ad' (tell S kd t a r) H' (k + 1) := o.to b o.W.tell hk Sm.tell
theorem mv_pre {c : Cl} {S : MS} {a1 a2 : Tg → PySem.Addr} {H H1 H2 : Hp} (s : Same H H1) (m : Mv2 c S a1 a2 H1 H2) : Mv2 c S a1 a2 H H2 := Mvd.after (Sm.refl S) (Mvd.of s) m
theorem mv_end {c : Cl} {S : MS} {a1 a2 : Tg → PySem.Addr} {H H1 H2 : Hp} (m : Mv2 c S a1 a2 H H1) (s : Same H1 H2) : Mv2 c S a1 a2 H H2 := Mvd.after (Sm.refl S) m (Mvd.of s)
end MM
namespace MM
open PySem PySem.Spec PyProof.Rows L2
theorem eqI {s a : Int} : eqV (.int a) (.int s) = decide (s = a) := by
  show (a == s) = decide (s = a)
  by_cases h : s = a
  · subst h
    rw [decide_eq_true rfl, beq_self_eq_true]
  · rw [decide_eq_false h]
    exact beq_eq_false_iff_ne.mpr fun z => h z.symm
theorem in2I {s a b : Int} : inV (.int s) [.int a, .int b] = decide (s = a ∨ s = b) := by
  unfold inV
  rw [List.any_cons, List.any_cons, List.any_nil, Bool.or_false, eqI, eqI]
  by_cases h1 : s = a <;> by_cases h2 : s = b <;> simp [h1, h2]
theorem cond_ended {cd : Cond} : condName cd = "ended" ↔ ∃ k, cd = .ended k := by
  cases cd with
  | ready => exact ⟨fun h => absurd h (show ("ready" : Str) ≠ "ended" by decide +kernel), nofun⟩
  | running c => exact ⟨fun h => absurd h (show ("running" : Str) ≠ "ended" by decide +kernel), nofun⟩
  | sleeping c u => exact ⟨fun h => absurd h (show ("sleeping" : Str) ≠ "ended" by decide +kernel), nofun⟩
  | asking => exact ⟨fun h => absurd h (show ("asking" : Str) ≠ "ended" by decide +kernel), nofun⟩
  | waiting t => exact ⟨fun h => absurd h (show ("waiting" : Str) ≠ "ended" by decide +kernel), nofun⟩
  | ended k => exact ⟨fun _ => ⟨k, rfl⟩, fun _ => rfl⟩
theorem cond_sleeps {cd : Cond} : condName cd = "sleeping" ↔ ∃ c u, cd = .sleeping c u := by
  cases cd with
  | ready => exact ⟨fun h => absurd h (show ("ready" : Str) ≠ "sleeping" by decide +kernel), nofun⟩
  | running c => exact ⟨fun h => absurd h (show ("running" : Str) ≠ "sleeping" by decide +kernel), nofun⟩
  | sleeping c u => exact ⟨fun _ => ⟨c, u, rfl⟩, fun _ => rfl⟩
  | asking => exact ⟨fun h => absurd h (show ("asking" : Str) ≠ "sleeping" by decide +kernel), nofun⟩
  | waiting t => exact ⟨fun h => absurd h (show ("waiting" : Str) ≠ "sleeping" by decide +kernel), nofun⟩
  | ended k => exact ⟨fun h => absurd h (show ("ended" : Str) ≠ "sleeping" by decide +kernel), nofun⟩
end MM
end
section
/-! the memories: dicts of kept bytes -/
namespace MM
open PySem PySem.Spec PyProof.Rows L2
theorem nodup_lt : ∀ (n : Nat) (l : List Nat), l.Nodup → (∀ x ∈ l, x < n) → l.length ≤ n
  | 0, l, _, h => by
    cases l with
    | nil => exact Nat.le_refl _
    | cons a _ => exact absurd (h a List.mem_cons_self) (Nat.not_lt_zero _)
  | n + 1, l, hn, h => by
    by_cases hm : n ∈ l
    · have z := nodup_lt n (l.erase n) (hn.erase n) (fun x hx => by
        have h1 := h x (List.mem_of_mem_erase hx)
        have h2 : x ≠ n := fun e => by
          rw [e] at hx
          exact (List.Nodup.mem_erase_iff hn).mp hx |>.1 rfl
        omega)
      rw [List.length_erase_of_mem hm] at z
      omega
    · have z := nodup_lt n l hn (fun x hx => by
        have h1 := h x hx
        have h2 : x ≠ n := fun e => hm (e ▸ hx)
        omega)
      omega
theorem kept_len {m : Mm} (h : MmOk m) : m.kept.length ≤ 256 := by
  have z := nodup_lt 256 (m.kept.map fun p => p.1.toNat) ?_ ?_
  · rwa [List.length_map] at z
  · have e : (m.kept.map fun p => p.1.toNat) = (m.kept.map (·.1)).map Int.toNat := by rw [List.map_map]; rfl
    rw [e]
    unfold List.Nodup
    rw [List.pairwise_map]
    refine List.Pairwise.imp_of_mem ?_ h.knd
    intro a b ha hb hab e
    obtain ⟨p, hp, rfl⟩ := List.mem_map.mp ha
    obtain ⟨q, hq, rfl⟩ := List.mem_map.mp hb
    have h1 := h.kpos p hp
    have h2 := h.kpos q hq
    omega
  · intro x hx
    obtain ⟨p, hp, rfl⟩ := List.mem_map.mp hx
    have h1 := h.kpos p hp
    omega
theorem val_kept (ks : List (Int × Int)) (a : Int) : valV (keptV ks) (Sum.inl a : Key) = (ks.lookup a).map V.int := by
  induction ks with
  | nil => rfl
  | cons p r ih =>
    show valV ((Sum.inl p.1, V.int p.2) :: keptV r) (Sum.inl a : Key) = _
    rw [List.lookup_cons]
    by_cases e : p.1 = a
    · rw [valV_pos (by rw [e]), e, beq_self_eq_true]
      rfl
    · rw [valV_neg (fun z => e (Sum.inl.inj z)), ih, show (a == p.1) = false from beq_eq_false_iff_ne.mpr fun z => e z.symm]
theorem put_there {ks : List (Int × Int)} {a b : Int} (h : (ks.lookup a).isSome = true) : putK (keptV ks) (Sum.inl a : Key) (.int b) = keptV (ks.map fun p => if p.1 = a then (p.1, b) else p) := by
  unfold putK
  rw [if_pos (by rw [valV_any, val_kept, Option.isSome_map]; exact h)]
  unfold keptV
  rw [List.map_map, List.map_map]
  refine List.map_congr_left fun p _ => ?_
  show (if (Sum.inl p.1 : Key) = Sum.inl a then ((Sum.inl p.1 : Key), V.int b) else (Sum.inl p.1, V.int p.2)) = ((Sum.inl (if p.1 = a then (p.1, b) else p).1 : Key), V.int (if p.1 = a then (p.1, b) else p).2)
  by_cases e : p.1 = a
  · rw [if_pos e, if_pos (by rw [e])]
  · rw [if_neg e, if_neg (fun z => e (Sum.inl.inj z))]
theorem put_new {ks : List (Int × Int)} {a b : Int} (h : ks.lookup a = none) : putK (keptV ks) (Sum.inl a : Key) (.int b) = keptV (ks ++ [(a, b)]) := by
  unfold putK
  rw [if_neg (by rw [valV_any, val_kept, h]; exact Bool.false_ne_true)]
  unfold keptV
  rw [List.map_append]
  rfl
theorem drop_kept {ks : List (Int × Int)} {a : Int} : dropK (keptV ks) (Sum.inl a : Key) = keptV (ks.filter fun p => decide (p.1 ≠ a)) := by
  unfold dropK keptV
  rw [List.filter_map]
  refine congrArg _ (List.filter_congr fun p _ => ?_)
  exact decide_eq_decide.mpr ⟨fun h e => h (congrArg Sum.inl e), fun h e => h (Sum.inl.inj e)⟩
section
variable {K : PySem.W.Frag} {C dx : PySem.Addr} {kd : Bool} {a b : PySem.Addr} {H : Hp} {P : V → Prop} {m : PySem.Addr}
theorem q_fldK (hC : Cls K C) (hn : NoAttr K C "kept") (e : H m = some (.ins C dx (fsM true a b))) (h : P (.ref b)) : ∃ a' C' dx' fs v, V.ref m = .ref a' ∧ H a' = some (.ins C' dx' fs) ∧ Cls K C' ∧ NoAttr K C' "kept" ∧ fs.lookup ("kept" : Str) = some v ∧ P v :=
  ⟨_, _, _, _, _, rfl, e, hC, hn, rfl, h⟩
end
end MM
namespace MM
theorem lookup_nodup {ks : List (Int × Int)} (h : (ks.map (·.1)).Nodup) {p : Int × Int} (hp : p ∈ ks) : ks.lookup p.1 = some p.2 := by
  induction ks with
  | nil => cases hp
  | cons q r ih =>
    rw [List.map_cons, List.nodup_cons] at h
    rw [List.lookup_cons]
    rcases List.mem_cons.mp hp with e | e
    · rw [e, beq_self_eq_true]
    · have : (p.1 == q.1) = false := beq_eq_false_iff_ne.mpr fun z => h.1 (by rw [← z]; exact List.mem_map.mpr ⟨p, e, rfl⟩)
      rw [this]
      exact ih h.2 e
end MM
namespace MM
open PySem PySem.Spec PyProof.Rows L2
section
variable {σ : L2.St} {H : Hp} {ta tb tc : TE} {Q : VK}
theorem r_din (h : ta σ H fun y H1 => tb σ H1 fun x H2 => ∃ a o, x = .ref a ∧ DGet H2 a y o ∧ Q (.bl o.isSome) H2) : tDIn ta tb σ H Q := h
theorem r_dnotin (h : ta σ H fun y H1 => tb σ H1 fun x H2 => ∃ a o, x = .ref a ∧ DGet H2 a y o ∧ Q (.bl (!o.isSome)) H2) : tDNotIn ta tb σ H Q := h
theorem r_dget2 (h : ta σ H fun x H1 => ∃ a, x = .ref a ∧ IsD H1 a ∧ tb σ H1 fun y H2 => tc σ H2 fun z H3 => ∃ o, DGet H3 a y o ∧ Q (o.getD z) H3) : tDGet2 ta tb tc σ H Q := h
theorem r_dpop1 (h : ta σ H fun x H1 => ∃ a, x = .ref a ∧ IsD H1 a ∧ tb σ H1 fun y H2 => ∃ kvs k v, H2 a = some (.dK kvs) ∧ y = kV k ∧ valV kvs k = some v ∧ Q v (upd H2 a (.dK (dropK kvs k)))) : tDPop1 ta tb σ H Q := h
end
end MM
namespace MM
open PySem PySem.Spec PyProof.Rows L2
section
variable {td : TE} {tb : TS} {σ : L2.St} {H : Hp} {nx bk ct : L2.St → Hp → Prop} {rt : V → Hp → Prop} {j : Nat}
/-- the loop's own part of a for's reading -/
def FW (J : It) (g : TG) (tb : TS) (nx : L2.St → Hp → Prop) (rt : V → Hp → Prop) (σ : L2.St) (H1 : Hp) : Prop := ∃ W : Nat → Nat → L2.St → Hp → Prop, (∃ m, W 0 m σ H1) ∧ ∀ i m σ H, W i m σ H →
      (J.stop i H ∧ nx σ H) ∨ (J.go i H ∧ ∃ N : L2.St → Hp → Prop, (∀ σ' H', N σ' H' → ∃ m', m' < m ∧ W (i + 1) m' σ' H') ∧ ∀ x H', J.yld i H x H' → g x σ H' fun σ2 H2 => tb ⟨N, rt, nx, N⟩ σ2 H2)
theorem r_keys {g : TG} (h : td σ H fun x H1 => ∃ d o, x = .ref d ∧ ((∃ kvs, H1 d = some (.frz o (.dK kvs)) ∧ FW (Itk d o kvs) g tb nx rt σ H1) ∨ ∃ kvs, H1 d = some (.frz o (.dT kvs)) ∧ FW (Itkt d o kvs) g tb nx rt σ H1)) : tFor (iKeys td) g tb ⟨nx, rt, bk, ct⟩ σ H := h
theorem for_keys {d : PySem.Addr} {o : Obj} {kvs : List (Key × V)} (Pv : Nat → L2.St → Hp → Prop) (h0 : Pv 0 σ H) (hG : ∀ i σ H, Pv i σ H → H d = some (.frz o (.dK kvs)))
    (hs : ∀ i k v σ H, kvs[i]? = some (k, v) → Pv i σ H → tb ⟨Pv (i + 1), rt, nx, Pv (i + 1)⟩ (σ.set j (some (kV k))) H) (hd : ∀ σ H, Pv kvs.length σ H → nx σ H) :
    FW (Itk d o kvs) (gName j) tb nx rt σ H := by
  refine for_it (D := ⟨nx, rt, fun _ _ => False, fun _ _ => False⟩) walk_keys Pv h0 (fun i σ H _ p => hG i σ H p) (fun i x σ H H' hi p y => ?_) hd
  obtain ⟨rfl, k, v, e, rfl⟩ := y
  exact hs i k v σ _ e p
end
end MM
end
section
/-! comprehensions by a walk; the machine's data for comparisons -/
namespace MM
open PySem PySem.Spec PyProof.Rows L2
/-- the loop's own part of a comprehension's reading -/
def LW (J : It) (g : TG) (tt : TT) (te : TE) (vs : List Nat) (σ : L2.St) (Q : VK) (H1 : Hp) : Prop := ∀ D, H1 D = none → ∃ W : Nat → Nat → Hp → Prop, (∃ m, W 0 m (upd H1 D (.lst []))) ∧ ∀ i m H, W i m H →
  (J.stop i H ∧ Q (.ref D) H) ∨ (J.go i H ∧ ∃ Nx : Hp → Prop, (∀ H', Nx H' → ∃ m', m' < m ∧ W (i + 1) m' H') ∧ ∀ x H', J.yld i H x H' → g x (wipe σ vs) H' fun σ2 H2 => wipe σ2 vs = wipe σ vs ∧ tt σ2 H2 fun b H3 =>
    if b = true then te σ2 H3 fun y H4 => ∃ acc, H4 D = some (.lst acc) ∧ acc.length < sizeLine ∧ Nx (upd H4 D (.lst (acc ++ [y]))) else Nx H3)
section
variable {g : TG} {tt : TT} {te tl : TE} {vs : List Nat} {σ : L2.St} {Q : VK} {H H1 : Hp} {K : PySem.W.Frag} {tr : TA}
theorem lc_go {J : It} {n : Nat} {G : Hp → Prop} {Y : Nat → Hp → V → Hp → Prop} (wk : Walk J n G Y) (Pv : PySem.Addr → Nat → Hp → Prop) (h0 : ∀ D, H1 D = none → Pv D 0 (upd H1 D (.lst [])))
    (hG : ∀ D i H, H1 D = none → Pv D i H → G H)
    (hs : ∀ D i x H H', H1 D = none → i < n → Pv D i H → Y i H x H' → g x (wipe σ vs) H' fun σ2 H2 => wipe σ2 vs = wipe σ vs ∧ tt σ2 H2 fun b H3 =>
      if b = true then te σ2 H3 fun y H4 => ∃ acc, H4 D = some (.lst acc) ∧ acc.length < sizeLine ∧ Pv D (i + 1) (upd H4 D (.lst (acc ++ [y]))) else Pv D (i + 1) H3)
    (hd : ∀ D H, H1 D = none → Pv D n H → Q (.ref D) H) : LW J g tt te vs σ Q H1 := fun D hD =>
  lc_it wk (Pv D) (h0 D hD) (fun i H _ p => hG D i H hD p) (fun i x H H' hi p y => hs D i x H H' hD hi p y) (fun H p => hd D H hD p)
theorem r_lcL (h : tl σ H fun x H1 => ∃ a, x = .ref a ∧ (∃ xs, SqL K H1 a xs) ∧ LW (Itl K a) g tt te vs σ Q H1) : tLc (iList K tl) g tt te vs σ H Q := h
theorem r_lcT (h : tl σ H fun x H1 => ∃ a, x = .ref a ∧ (∃ xs, SqT K H1 a xs) ∧ LW (Itt K a) g tt te vs σ Q H1) : tLc (iTup K tl) g tt te vs σ H Q := h
theorem r_lcZ (h : tr σ H fun vs' H1 => ∃ a b xs ys, vs' = [.ref a, .ref b] ∧ SqL K H1 a xs ∧ SqL K H1 b ys ∧ LW (Itz K a b) g tt te vs σ Q H1) : tLc (iZip K tr) g tt te vs σ H Q := h
theorem r_lcR1 (h : tr σ H fun vs' H1 => ∃ n : Int, vs' = [.int n] ∧ -(2 ^ 62) ≤ n ∧ n < 2 ^ 62 ∧ LW (Itr 0 n.toNat) g tt te vs σ Q H1) : tLc (iRng1 tr) g tt te vs σ H Q := h
end
/-- what a state looks like -/
def imgD (m : Mm) : PyData := .tuple (m.img.map PyData.int)
def thD (t : Th) : PyData := .tuple [.int (t.pid : Int), .int t.pc, .tuple (t.regs.map PyData.int), condD t.cond]
def rqD (q : Nat × Int × Int) : PyData := .tuple [.int (q.1 : Int), .int q.2.1, .int q.2.2]
def stD (S : MS) : PyData := .tuple [.tuple (S.mem.map imgD), .tuple (S.ths.map thD), .tuple (S.ready.map fun i : Nat => PyData.int (i : Int)), .tuple ((S.times.zip S.run).map fun p => .tuple [.int p.1, .int p.2]), .tuple [.int S.dev, .tuple (S.reqs.map rqD)]]
def vwD (w : Vw) : PyData := .tuple [.tuple [.str w.kind, .int w.cpu, .int w.time, .int w.pid, .int w.tid, .int w.at', .tuple (w.args.map PyData.int)], .tuple (w.regs.map PyData.int), .tuple (w.mem.map PyData.int)]
theorem sh_img (m : Mm) : D.Sh 1 (imgD m) := .tup D.Sh.ints
theorem sh_th (t : Th) : D.Sh 2 (thD t) := .tup (.cons (.int _) (.cons (.int _) (.cons (.tup D.Sh.ints) (.cons (sh_cond _) .nil))))
theorem sh_st (S : MS) : D.Sh 4 (stD S) := by
  refine .tup (.cons (.tup fun y hy => ?_) (.cons (.tup fun y hy => ?_) (.cons (.tup fun y hy => ?_) (.cons (.tup fun y hy => ?_) (.cons (.tup (.cons (.int _) (.cons (.tup fun y hy => ?_) .nil))) .nil)))))
  · obtain ⟨m, _, e⟩ := List.mem_map.mp hy
    rw [← e]; exact (sh_img m).mono (by decide)
  · obtain ⟨m, _, e⟩ := List.mem_map.mp hy
    rw [← e]; exact sh_th m
  · obtain ⟨m, _, e⟩ := List.mem_map.mp hy
    rw [← e]; exact .int _
  · obtain ⟨m, _, e⟩ := List.mem_map.mp hy
    rw [← e]; exact (D.Sh.tup (.cons (.int _) (.cons (.int _) .nil)) : D.Sh (1 + 1) _)
  · obtain ⟨m, _, e⟩ := List.mem_map.mp hy
    rw [← e]; exact (D.Sh.tup (.cons (.int _) (.cons (.int _) (.cons (.int _) .nil))) : D.Sh (0 + 1) _)
theorem sh_vw {w : Vw} (h : PyData.strOk w.kind = true) : D.Sh 3 (vwD w) :=
  .tup (.cons (.tup (.cons (.str h) (.cons (.int _) (.cons (.int _) (.cons (.int _) (.cons (.int _) (.cons (.int _) (.cons (.tup D.Sh.ints) .nil)))))))) (.cons ((D.Sh.tup D.Sh.ints : D.Sh (1 + 1) _)) (.cons ((D.Sh.tup D.Sh.ints : D.Sh (1 + 1) _)) .nil)))
theorem dp_vw {K : PySem.W.Frag} {H : Hp} {a : PySem.Addr} {w : Vw} (h : VwAt H a w) : Dp K H (.ref a) (vwD w) := by
  obtain ⟨e, r, m, g, h1, h2, h3, h4, h5⟩ := h
  exact .tup (R.sqT h1) (.cons (.tup (R.sqT h2) (.cons (.str _) (.cons (.int _) (.cons (.int _) (.cons (.int _) (.cons (.int _) (.cons (.int _) (.cons (.tup (R.sqT h3) D.all_ints) .nil)))))))) (.cons (.tup (R.sqT h4) D.all_ints) (.cons (.tup (R.sqT h5) D.all_ints) .nil)))
theorem dp_all2 {K : PySem.W.Frag} {H : Hp} {α : Type} {R : PySem.Addr → α → Prop} {f : α → PyData} (h : ∀ a x, R a x → Dp K H (.ref a) (f x)) {as : List PySem.Addr} {xs : List α} (r : All2 R as xs) : DpAll K H (as.map V.ref) (xs.map f) := by
  induction r with
  | nil => exact .nil
  | cons r _ ih => exact .cons (h _ _ r) ih
theorem inj_int {l l' : List Int} : l.map PyData.int = l'.map PyData.int ↔ l = l' := ⟨fun h => List.map_inj_right (fun _ _ e => PyData.int.inj e) |>.mp h, fun h => by rw [h]⟩
theorem inj_vw {a b : Vw} : vwD a = vwD b ↔ a = b := by
  constructor
  · intro h
    obtain ⟨a1, a2, a3, a4, a5, a6, a7, a8, a9⟩ := a
    obtain ⟨b1, b2, b3, b4, b5, b6, b7, b8, b9⟩ := b
    simp only [vwD, PyData.tuple.injEq, List.cons.injEq, PyData.str.injEq, PyData.int.injEq, inj_int, and_true] at h
    obtain ⟨⟨rfl, rfl, rfl, rfl, rfl, rfl, rfl⟩, rfl, rfl⟩ := h
    rfl
  · intro h; rw [h]
theorem inj_vws {l l' : List Vw} : PyData.list (l.map vwD) = .list (l'.map vwD) ↔ l = l' :=
  ⟨fun h => List.map_inj_right (fun _ _ e => inj_vw.mp e) |>.mp (PyData.list.inj h), fun h => by rw [h]⟩
/-- a stop -/
def Mm.setStop (m : Mm) (a : Int) : Mm := if (m.kept.lookup a).isSome then m else { cells := m.cells.set a.toNat 255, kept := m.kept ++ [(a, m.cells.getD a.toNat 0)] }
def Mm.clearStop (m : Mm) (a : Int) : Mm := match m.kept.lookup a with
  | some b => { cells := m.cells.set a.toNat b, kept := m.kept.filter fun p => decide (p.1 ≠ a) }
  | none => m
theorem setMm_2 {S : MS} {i : Nat} {m m' : Mm} : (S.setMm i m).setMm i m' = S.setMm i m' := by
  unfold MS.setMm
  show ({ S with mem := (S.mem.set i m).set i m' } : MS) = _
  rw [List.set_set]
theorem setMm_get {S : MS} {i : Nat} {m : Mm} (h : i < S.mem.length) : (S.setMm i m).mem[i]? = some m := List.getElem?_set_self h
theorem setMm_len {S : MS} {i : Nat} {m : Mm} : (S.setMm i m).mem.length = S.mem.length := List.length_set
theorem setMm_me {S : MS} {i : Nat} (h : i < S.mem.length) : S.setMm i (S.mm i) = S := by
  have e : S.mem.set i (S.mm i) = S.mem := by
    refine List.ext_getElem? fun j => ?_
    by_cases z : i = j
    · subst z
      rw [List.getElem?_set_self h, mm_get h]
    · rw [List.getElem?_set_ne z]
  unfold MS.setMm
  rw [e]
end MM
namespace MM
open PySem PySem.Spec PyProof.Rows L2
def ImAt (H : Hp) (a : PySem.Addr) (m : Mm) : Prop := H a = some (.tup (m.img.map V.int))
def ThAt (H : Hp) (a : PySem.Addr) (t : Th) : Prop := ∃ r c, H a = some (.tup [.int (t.pid : Int), .int t.pc, .ref r, .ref c]) ∧ H r = some (.tup (t.regs.map V.int)) ∧ H c = some (.tup (condV t.cond))
def PrAt (H : Hp) (a : PySem.Addr) (p : Int × Int) : Prop := H a = some (.tup [.int p.1, .int p.2])
theorem ThAt.same {H H' : Hp} (s : Same H H') {a : PySem.Addr} {t : Th} (h : ThAt H a t) : ThAt H' a t := by
  obtain ⟨r, c, h1, h2, h3⟩ := h
  exact ⟨r, c, s _ _ h1, s _ _ h2, s _ _ h3⟩
theorem dp_im {K : PySem.W.Frag} {H : Hp} {a : PySem.Addr} {m : Mm} (h : ImAt H a m) : Dp K H (.ref a) (imgD m) := .tup (R.sqT h) D.all_ints
theorem dp_th {K : PySem.W.Frag} {H : Hp} {a : PySem.Addr} {t : Th} (h : ThAt H a t) : Dp K H (.ref a) (thD t) := by
  obtain ⟨r, c, h1, h2, h3⟩ := h
  exact .tup (R.sqT h1) (.cons (.int _) (.cons (.int _) (.cons (.tup (R.sqT h2) D.all_ints) (.cons (dp_cond h3) .nil))))
theorem dp_pr {K : PySem.W.Frag} {H : Hp} {a : PySem.Addr} {t : Int × Int} (h : PrAt H a t) : Dp K H (.ref a) (.tuple [.int t.1, .int t.2]) := .tup (R.sqT h) (.cons (.int _) (.cons (.int _) .nil))
theorem dp_rq {K : PySem.W.Frag} {H : Hp} {a : PySem.Addr} {q : Nat × Int × Int} (h : RqAt H a q) : Dp K H (.ref a) (rqD q) := .tup (R.sqT h) (.cons (.int _) (.cons (.int _) (.cons (.int _) .nil)))
theorem take_snoc {α : Type} {l : List α} {i : Nat} {x : α} (h : l[i]? = some x) : l.take (i + 1) = l.take i ++ [x] := by rw [List.take_succ, h]; rfl
theorem ThAt.keep {H H' : Hp} {a : PySem.Addr} {t : Th} (h : ThAt H a t) (s : KeepT H H') : ThAt H' a t := by
  obtain ⟨r, c, h1, h2, h3⟩ := h
  exact ⟨r, c, s _ _ h1, s _ _ h2, s _ _ h3⟩
theorem getD_some {l : List Int} {j : Nat} (h : j < l.length) : l[j]? = some (l.getD j 0) := by
  rw [List.getD_eq_getElem?_getD, List.getElem?_eq_getElem h]
  rfl
def spThImage (c : Cl) : Sp := fun vs H Q _ => ∃ ad S k i, vs = [.ref (ad (.thr i))] ∧ Ok c ad S H k ∧ i < S.ths.length ∧ ∀ p H', Same H H' → ThAt H' p (S.th i) → Q (.ref p) H'
def spState (K : PySem.W.Frag) (c : Cl) : Sp := fun vs H Q _ => ∃ ad S k, vs = [.ref (ad .brd)] ∧ Ok c ad S H k ∧
  ∀ p pm ims rest H', Same H H' → H' p = some (.tup (.ref pm :: rest)) → H' pm = some (.tup (ims.map V.ref)) → All2 (ImAt H') ims S.mem → Dp K H' (.ref p) (stD S) → Q (.ref p) H'
end MM
end
section
/-! the machine at its beginning -/
namespace MM
open PySem PySem.Spec PyProof.Rows L2
def fill (p : List Int) : List Int := p ++ List.replicate (256 - p.length) 0
/-- all these stand, all at different places -/
structure Occ (H : Hp) (L : List PySem.Addr) : Prop where
  nd : L.Nodup
  oc : ∀ a ∈ L, ∃ o, H a = some o
theorem Occ.add {H H' : Hp} {L : List PySem.Addr} {p : PySem.Addr} (h : Occ H L) (hp : H p = none) (k : ∀ b o, H b = some o → ∃ o', H' b = some o') (hq : ∃ o, H' p = some o) : Occ H' (p :: L) :=
  ⟨List.nodup_cons.mpr ⟨fun hm => (by obtain ⟨o, e⟩ := h.oc p hm; rw [hp] at e; cases e), h.nd⟩, fun a ha => by
    rcases List.mem_cons.mp ha with e | e
    · rw [e]; exact hq
    · obtain ⟨o, z⟩ := h.oc a e
      exact k a o z⟩
theorem Occ.mono {H H' : Hp} {L : List PySem.Addr} (h : Occ H L) (k : ∀ b o, H b = some o → ∃ o', H' b = some o') : Occ H' L := ⟨h.nd, fun a ha => by obtain ⟨o, z⟩ := h.oc a ha; exact k a o z⟩
theorem Occ.perm {H : Hp} {L L' : List PySem.Addr} (h : Occ H L) (p : L.Perm L') : Occ H L' := ⟨p.nodup_iff.mp h.nd, fun a ha => h.oc a (p.mem_iff.mpr ha)⟩
theorem there_same {H H' : Hp} (s : Same H H') : ∀ b o, H b = some o → ∃ o', H' b = some o' := fun b o e => ⟨o, s b o e⟩
theorem there_upd {H : Hp} {p : PySem.Addr} {o : HO} : ∀ b u, H b = some u → ∃ o', upd H p o b = some o' := fun b u e => by
  by_cases z : b = p
  · exact ⟨o, by rw [z, upd_same]⟩
  · exact ⟨u, by rw [upd_ne z]; exact e⟩
theorem there_mv {H H' : Hp} {x : PySem.Addr} (m : R.Mv x H H') (hx : ∃ o, H' x = some o) : ∀ b o, H b = some o → ∃ o', H' b = some o' := fun b o e => by
  by_cases z : b = x
  · rw [z]; exact hx
  · exact ⟨o, m b o e z⟩
def adOf (b mL tL rL tiL ruL rqL vL : PySem.Addr) (ts rs ms cs ks : List PySem.Addr) : Tg → PySem.Addr
  | .brd => b
  | .memL => mL
  | .thsL => tL
  | .rdyL => rL
  | .timL => tiL
  | .runL => ruL
  | .reqL => rqL
  | .vwsL => vL
  | .thr i => ts.getD i b
  | .rgs i => rs.getD i b
  | .mem i => ms.getD i b
  | .cls i => cs.getD i b
  | .kpt i => ks.getD i b
def idx (nt nm : Nat) : Tg → Nat
  | .brd => 0
  | .memL => 1
  | .thsL => 2
  | .rdyL => 3
  | .timL => 4
  | .runL => 5
  | .reqL => 6
  | .vwsL => 7
  | .thr i => 8 + i
  | .rgs i => 8 + nt + i
  | .mem i => 8 + nt + nt + i
  | .cls i => 8 + nt + nt + nm + i
  | .kpt i => 8 + nt + nt + nm + nm + i
theorem idx_inj {kd : Bool} {nt nm : Nat} {t u : Tg} (d : dom kd nt nm t) (d' : dom kd nt nm u) (h : idx nt nm t = idx nt nm u) : t = u := by
  cases t <;> cases u <;> simp only [idx, dom] at h d d' <;> first | rfl | (exfalso; omega) | (congr 1; omega)
theorem get_r {α : Type} {a b : List α} {i n : Nat} {x : α} (hn : a.length = n) (h : b[i]? = some x) : (a ++ b)[n + i]? = some x := by
  rw [List.getElem?_append_right (by omega), show n + i - a.length = i by omega]; exact h
theorem get_l {α : Type} {a b : List α} {i : Nat} {x : α} (h : a[i]? = some x) : (a ++ b)[i]? = some x := by
  rw [List.getElem?_append_left (List.getElem?_eq_some_iff.mp h).1]; exact h
theorem getD_at {l : List PySem.Addr} {i : Nat} {b : PySem.Addr} (h : i < l.length) : l[i]? = some (l.getD i b) := by
  rw [List.getD_eq_getElem?_getD, List.getElem?_eq_getElem h]; rfl
theorem idx_at {b mL tL rL tiL ruL rqL vL : PySem.Addr} {ts rs ms cs ks : List PySem.Addr} {kd : Bool} (h1 : rs.length = ts.length) (h2 : cs.length = ms.length) (h3 : kd = true → ks.length = ms.length) {t : Tg} (d : dom kd ts.length ms.length t) :
    ([b, mL, tL, rL, tiL, ruL, rqL, vL] ++ ts ++ rs ++ ms ++ cs ++ ks)[idx ts.length ms.length t]? = some (adOf b mL tL rL tiL ruL rqL vL ts rs ms cs ks t) := by
  have l1 : ([b, mL, tL, rL, tiL, ruL, rqL, vL] ++ ts).length = 8 + ts.length := by rw [List.length_append]; rfl
  have l2 : ([b, mL, tL, rL, tiL, ruL, rqL, vL] ++ ts ++ rs).length = 8 + ts.length + ts.length := by rw [List.length_append, l1, h1]
  have l3 : ([b, mL, tL, rL, tiL, ruL, rqL, vL] ++ ts ++ rs ++ ms).length = 8 + ts.length + ts.length + ms.length := by rw [List.length_append, l2]
  have l4 : ([b, mL, tL, rL, tiL, ruL, rqL, vL] ++ ts ++ rs ++ ms ++ cs).length = 8 + ts.length + ts.length + ms.length + ms.length := by rw [List.length_append, l3, h2]
  cases t with
  | thr i => exact get_l (get_l (get_l (get_l (get_r rfl (getD_at d)))))
  | rgs i => exact get_l (get_l (get_l (get_r l1 (getD_at (by rw [h1]; exact d)))))
  | mem i => exact get_l (get_l (get_r l2 (getD_at d)))
  | cls i => exact get_l (get_r l3 (getD_at (by rw [h2]; exact d)))
  | kpt i => exact get_r l4 (getD_at (by rw [h3 d.1]; exact d.2))
  | _ => exact get_l (get_l (get_l (get_l (get_l rfl))))
theorem ad_inj {H : Hp} {b mL tL rL tiL ruL rqL vL : PySem.Addr} {ts rs ms cs ks : List PySem.Addr} {kd : Bool} (h1 : rs.length = ts.length) (h2 : cs.length = ms.length) (h3 : kd = true → ks.length = ms.length)
    (o : Occ H ([b, mL, tL, rL, tiL, ruL, rqL, vL] ++ ts ++ rs ++ ms ++ cs ++ ks)) : ∀ t u, dom kd ts.length ms.length t → dom kd ts.length ms.length u →
    adOf b mL tL rL tiL ruL rqL vL ts rs ms cs ks t = adOf b mL tL rL tiL ruL rqL vL ts rs ms cs ks u → t = u := fun t u d d' e => by
  have e1 := idx_at (b := b) (mL := mL) (tL := tL) (rL := rL) (tiL := tiL) (ruL := ruL) (rqL := rqL) (vL := vL) h1 h2 h3 d
  have e2 := idx_at (b := b) (mL := mL) (tL := tL) (rL := rL) (tiL := tiL) (ruL := ruL) (rqL := rqL) (vL := vL) h1 h2 h3 d'
  rw [← e] at e2
  have q := (List.getElem?_inj (List.getElem?_eq_some_iff.mp e1).1 o.nd).mp (e1.trans e2.symm)
  exact idx_inj d d' q
theorem ad_out {b mL tL rL tiL ruL rqL vL : PySem.Addr} {ts rs ms cs ks : List PySem.Addr} {kd : Bool} (h1 : rs.length = ts.length) (h2 : cs.length = ms.length) (h3 : kd = true → ks.length = ms.length) (h4 : kd = false → ks = []) (t : Tg) (d : ¬ dom kd ts.length ms.length t) :
    adOf b mL tL rL tiL ruL rqL vL ts rs ms cs ks t = b := by
  have o : ∀ (l : List PySem.Addr) (i : Nat), ¬ i < l.length → l.getD i b = b := fun l i h => by
    rw [List.getD_eq_getElem?_getD, List.getElem?_eq_none (by omega)]; rfl
  cases t with
  | thr i => exact o _ _ d
  | rgs i => exact o _ _ (by rw [h1]; exact d)
  | mem i => exact o _ _ d
  | cls i => exact o _ _ (by rw [h2]; exact d)
  | kpt i =>
    cases kd with
    | false => show ks.getD i b = b; rw [h4 rfl]; rfl
    | true => exact o _ _ (by rw [h3 rfl]; exact fun z => d ⟨rfl, z⟩)
  | _ => exact absurd trivial d
theorem ad_in {b mL tL rL tiL ruL rqL vL : PySem.Addr} {ts rs ms cs ks : List PySem.Addr} (t : Tg) : adOf b mL tL rL tiL ruL rqL vL ts rs ms cs ks t ∈ ([b, mL, tL, rL, tiL, ruL, rqL, vL] ++ ts ++ rs ++ ms ++ cs ++ ks) := by
  have o : ∀ (l : List PySem.Addr) (i : Nat), l.getD i b ∈ l ∨ l.getD i b = b := fun l i => by
    rw [List.getD_eq_getElem?_getD]
    cases e : l[i]? with
    | none => exact .inr rfl
    | some x => exact .inl (List.mem_of_getElem? e)
  cases t with
  | thr i =>
    have h := o ts i
    show ts.getD i b ∈ _
    generalize ts.getD i b = z at h ⊢
    rcases h with h | h <;> simp [h]
  | rgs i =>
    have h := o rs i
    show rs.getD i b ∈ _
    generalize rs.getD i b = z at h ⊢
    rcases h with h | h <;> simp [h]
  | mem i =>
    have h := o ms i
    show ms.getD i b ∈ _
    generalize ms.getD i b = z at h ⊢
    rcases h with h | h <;> simp [h]
  | cls i =>
    have h := o cs i
    show cs.getD i b ∈ _
    generalize cs.getD i b = z at h ⊢
    rcases h with h | h <;> simp [h]
  | kpt i =>
    have h := o ks i
    show ks.getD i b ∈ _
    generalize ks.getD i b = z at h ⊢
    rcases h with h | h <;> simp [h]
  | _ => simp [adOf]
theorem refs_getD (b : PySem.Addr) (l : List PySem.Addr) : l.map V.ref = (List.range l.length).map fun i => V.ref (l.getD i b) := by
  refine List.ext_getElem? fun i => ?_
  rw [List.getElem?_map, List.getElem?_map]
  by_cases hi : i < l.length
  · rw [List.getElem?_range hi, getD_at (b := b) hi]; rfl
  · rw [List.getElem?_eq_none (by omega), List.getElem?_eq_none (by rw [List.length_range]; omega)]; rfl
/-- a thread, a memory as they stand when they are new -/
structure TR where
  x : PySem.Addr
  dx : PySem.Addr
  rg : PySem.Addr
  cv : PySem.Addr
structure MR where
  x : PySem.Addr
  dx : PySem.Addr
  cl : PySem.Addr
  kp : PySem.Addr
def th0 (i : Nat) : Th := ⟨i, 0, [0, 0, 0, 0], .ready, 0, 0⟩
def TrOk (CT : PySem.Addr) (H : Hp) (i : Nat) (r : TR) : Prop := H r.x = some (.ins CT r.dx (fsT r.rg r.cv (th0 i))) ∧ H r.rg = some (.lst (([0, 0, 0, 0] : List Int).map V.int)) ∧ H r.cv = some (.tup (condV .ready))
def MrOk (kd : Bool) (CM : PySem.Addr) (H : Hp) (p : List Int) (r : MR) : Prop := H r.x = some (.ins CM r.dx (fsM kd r.cl r.kp)) ∧ H r.cl = some (.lst ((fill p).map V.int)) ∧ (kd = true → H r.kp = some (.dK []))
theorem TrOk.same {CT : PySem.Addr} {H H' : Hp} {i : Nat} {r : TR} (s : Same H H') (h : TrOk CT H i r) : TrOk CT H' i r := ⟨s _ _ h.1, s _ _ h.2.1, s _ _ h.2.2⟩
theorem MrOk.same {kd : Bool} {CM : PySem.Addr} {H H' : Hp} {p : List Int} {r : MR} (s : Same H H') (h : MrOk kd CM H p r) : MrOk kd CM H' p r := ⟨s _ _ h.1, s _ _ h.2.1, fun k => s _ _ (h.2.2 k)⟩
def S0 (progs : List (List Int)) (rates : List Int) : MS where
  mem := progs.map fun p => ⟨fill p, []⟩
  rates := rates
  ths := (List.range progs.length).map th0
  ready := List.range progs.length
  times := List.replicate rates.length 0
  run := List.replicate rates.length (-1)
  dev := 0
  reqs := []
  cpu := 0
  views := []
theorem bd_start {c : Cl} {H : Hp} {dB rt b mL tL rL tiL ruL rqL vL : PySem.Addr} {trs : List TR} {mrs : List MR} {progs : List (List Int)} {rates : List Int}
    (ht : trs.length = progs.length) (hT : ∀ i r, trs[i]? = some r → TrOk c.CT H i r) (hM : All2 (MrOk c.kd c.CM H) progs mrs)
    (eb : H b = some (.ins c.CB dB (fsB (adOf b mL tL rL tiL ruL rqL vL (trs.map (·.x)) (trs.map (·.rg)) (mrs.map (·.x)) (mrs.map (·.cl)) (if c.kd then mrs.map (·.kp) else [])) rt 0 0)))
    (ert : H rt = some (.tup (rates.map V.int))) (emL : H mL = some (.lst ((mrs.map (·.x)).map V.ref))) (etL : H tL = some (.lst ((trs.map (·.x)).map V.ref))) (erL : H rL = some (.lst ((List.range progs.length).map fun i : Nat => V.int (i : Int))))
    (eti : H tiL = some (.lst ((List.replicate rates.length (0 : Int)).map V.int))) (eru : H ruL = some (.lst ((List.replicate rates.length (-1 : Int)).map V.int))) (erq : H rqL = some (.lst [])) (evL : H vL = some (.lst []))
    (oc : Occ H ([b, mL, tL, rL, tiL, ruL, rqL, vL] ++ trs.map (·.x) ++ trs.map (·.rg) ++ mrs.map (·.x) ++ mrs.map (·.cl) ++ (if c.kd then mrs.map (·.kp) else []))) :
    Bd c (adOf b mL tL rL tiL ruL rqL vL (trs.map (·.x)) (trs.map (·.rg)) (mrs.map (·.x)) (mrs.map (·.cl)) (if c.kd then mrs.map (·.kp) else [])) (S0 progs rates) H := by
  have hm := hM.length
  have l1 : (trs.map (·.rg)).length = (trs.map (·.x)).length := by rw [List.length_map, List.length_map]
  have l2 : (mrs.map (·.cl)).length = (mrs.map (·.x)).length := by rw [List.length_map, List.length_map]
  have l3 : c.kd = true → (if c.kd then mrs.map (·.kp) else []).length = (mrs.map (·.x)).length := fun h => by rw [if_pos h, List.length_map, List.length_map]
  have l4 : c.kd = false → (if c.kd then mrs.map (·.kp) else []) = [] := fun h => by rw [h]; rfl
  have n1 : (trs.map (·.x)).length = (S0 progs rates).ths.length := by show _ = ((List.range progs.length).map th0).length; rw [List.length_map, List.length_map, List.length_range, ht]
  have n2 : (mrs.map (·.x)).length = (S0 progs rates).mem.length := by show _ = (progs.map _).length; rw [List.length_map, List.length_map, hm]
  have inj := ad_inj l1 l2 l3 oc
  have od := ad_out (b := b) (mL := mL) (tL := tL) (rL := rL) (tiL := tiL) (ruL := ruL) (rqL := rqL) (vL := vL) l1 l2 l3 l4
  rw [n1, n2] at inj od
  refine ⟨⟨⟨dB, fun i => (trs.map (·.dx)).getD i 0, fun i => (mrs.map (·.dx)).getD i 0, fun i => (trs.map (·.cv)).getD i 0, [], [], rt⟩, ?_, ?_, .nil, .nil, ert⟩, inj, od⟩
  · have getm : ∀ {α : Type} {l : List α} {f : α → PySem.Addr} {i : Nat} {r : α} {d : PySem.Addr}, l[i]? = some r → (l.map f).getD i d = f r := fun {α l f i r d} h => by
      rw [List.getD_eq_getElem?_getD, List.getElem?_map, h]; rfl
    have gt : ∀ (i : Nat) (t : Th), (S0 progs rates).ths[i]? = some t → ∃ r, trs[i]? = some r ∧ t = th0 i := fun i t h => by
      have h : ((List.range progs.length).map th0)[i]? = some t := h
      have hi : i < progs.length := by have := (List.getElem?_eq_some_iff.mp h).1; rwa [List.length_map, List.length_range] at this
      rw [List.getElem?_map, List.getElem?_range hi] at h
      exact ⟨trs[i], List.getElem?_eq_getElem (by omega), (Option.some.inj h).symm⟩
    have gm : ∀ (i : Nat) (m : Mm), (S0 progs rates).mem[i]? = some m → ∃ r p, mrs[i]? = some r ∧ m = (⟨fill p, []⟩ : Mm) ∧ MrOk c.kd c.CM H p r := fun i m h => by
      have h : (progs.map fun p => (⟨fill p, []⟩ : Mm))[i]? = some m := h
      rw [List.getElem?_map] at h
      cases e : progs[i]? with
      | none => rw [e] at h; cases h
      | some p =>
        rw [e] at h
        have hi := (List.getElem?_eq_some_iff.mp e).1
        have er : mrs[i]? = some (mrs[i]'(by omega)) := List.getElem?_eq_getElem (by omega)
        obtain ⟨p', ep, ok⟩ := hM.get er
        rw [e] at ep
        obtain rfl := Option.some.inj ep
        exact ⟨_, p, er, (Option.some.inj h).symm, ok⟩
    intro t o h
    cases t with
    | brd => rw [← h]; exact eb
    | memL =>
      rw [← h]
      show H mL = some (HO.lst ((List.range (S0 progs rates).mem.length).map fun i => V.ref ((mrs.map (·.x)).getD i b)))
      rw [emL, ← n2, refs_getD b]
    | thsL =>
      rw [← h]
      show H tL = some (HO.lst ((List.range (S0 progs rates).ths.length).map fun i => V.ref ((trs.map (·.x)).getD i b)))
      rw [etL, ← n1, refs_getD b]
    | rdyL => rw [← h]; exact erL
    | timL => rw [← h]; exact eti
    | runL => rw [← h]; exact eru
    | reqL => rw [← h]; exact erq
    | vwsL => rw [← h]; exact evL
    | thr i =>
      have h : ((S0 progs rates).ths[i]?.map fun t => HO.ins c.CT ((trs.map (·.dx)).getD i 0) (fsT ((trs.map (·.rg)).getD i b) ((trs.map (·.cv)).getD i 0) t)) = some o := h
      cases e : (S0 progs rates).ths[i]? with
      | none => rw [e] at h; cases h
      | some t =>
        rw [e] at h
        obtain ⟨r, er, rfl⟩ := gt i t e
        rw [← h]
        show H ((trs.map (·.x)).getD i b) = some (HO.ins c.CT _ (fsT ((trs.map (·.rg)).getD i b) _ (th0 i)))
        rw [getm er, getm er, getm er, getm er]
        exact (hT i r er).1
    | rgs i =>
      have h : ((S0 progs rates).ths[i]?.map fun t => HO.lst (t.regs.map V.int)) = some o := h
      cases e : (S0 progs rates).ths[i]? with
      | none => rw [e] at h; cases h
      | some t =>
        rw [e] at h
        obtain ⟨r, er, rfl⟩ := gt i t e
        rw [← h]
        show H ((trs.map (·.rg)).getD i b) = _
        rw [getm er]
        exact (hT i r er).2.1
    | mem i =>
      have h : ((S0 progs rates).mem[i]?.map fun _ => HO.ins c.CM ((mrs.map (·.dx)).getD i 0) (fsM c.kd ((mrs.map (·.cl)).getD i b) ((if c.kd then mrs.map (·.kp) else []).getD i b))) = some o := h
      cases e : (S0 progs rates).mem[i]? with
      | none => rw [e] at h; cases h
      | some m =>
        rw [e] at h
        obtain ⟨r, p, er, rfl, ok⟩ := gm i m e
        rw [← h]
        show H ((mrs.map (·.x)).getD i b) = some (HO.ins c.CM _ (fsM c.kd ((mrs.map (·.cl)).getD i b) ((if c.kd then mrs.map (·.kp) else []).getD i b)))
        rw [getm er, getm er, getm er, ok.1]
        cases hk : c.kd with
        | false => rfl
        | true => rw [if_pos rfl, getm er]
    | cls i =>
      have h : ((S0 progs rates).mem[i]?.map fun m => HO.lst (m.cells.map V.int)) = some o := h
      cases e : (S0 progs rates).mem[i]? with
      | none => rw [e] at h; cases h
      | some m =>
        rw [e] at h
        obtain ⟨r, p, er, rfl, ok⟩ := gm i m e
        rw [← h]
        show H ((mrs.map (·.cl)).getD i b) = _
        rw [getm er]
        exact ok.2.1
    | kpt i =>
      have h : (if c.kd then (S0 progs rates).mem[i]?.map fun m => HO.dK (keptV m.kept) else none) = some o := h
      cases hk : c.kd with
      | false => rw [hk] at h; cases h
      | true =>
        rw [hk, if_pos rfl] at h
        cases e : (S0 progs rates).mem[i]? with
        | none => rw [e] at h; cases h
        | some m =>
          rw [e] at h
          obtain ⟨r, p, er, rfl, ok⟩ := gm i m e
          rw [← h]
          show H ((if true = true then mrs.map (·.kp) else []).getD i b) = _
          rw [if_pos rfl, getm er]
          exact ok.2.2 hk
  · intro i t h
    have h : ((List.range progs.length).map th0)[i]? = some t := h
    have hi : i < progs.length := by have := (List.getElem?_eq_some_iff.mp h).1; rwa [List.length_map, List.length_range] at this
    rw [List.getElem?_map, List.getElem?_range hi] at h
    obtain rfl := Option.some.inj h
    have er : trs[i]? = some (trs[i]'(by omega)) := List.getElem?_eq_getElem (by omega)
    show H ((trs.map (·.cv)).getD i 0) = _
    rw [List.getD_eq_getElem?_getD, List.getElem?_map, er]
    exact (hT i _ er).2.2
theorem wf_start {progs : List (List Int)} {rates : List Int} (h1 : progs.length ≤ 4) (h2 : rates.length ≤ 4) (h3 : 0 < rates.length) (hp : ∀ p ∈ progs, p.length ≤ 256 ∧ ∀ b ∈ p, 0 ≤ b) : WF (S0 progs rates) 8 where
  nt := by show ((List.range progs.length).map th0).length ≤ 8; rw [List.length_map, List.length_range]; omega
  nm := by show (progs.map _).length ≤ 8; rw [List.length_map]; omega
  nr := by show rates.length ≤ 8; omega
  tim := List.length_replicate
  rn := List.length_replicate
  cpu := h3
  th t ht := by
    obtain ⟨i, hi, e⟩ := List.mem_map.mp (show t ∈ (List.range progs.length).map th0 from ht)
    have hi := List.mem_range.mp hi
    rw [← e]
    refine ⟨?_, rfl, ?_, trivial⟩
    · show i < (progs.map _).length; rw [List.length_map]; exact hi
    · intro r hr
      have hr : r ∈ ([0, 0, 0, 0] : List Int) := hr
      simp at hr
      omega
  mm m hm := by
    obtain ⟨p, h, e⟩ := List.mem_map.mp (show m ∈ progs.map (fun p => (⟨fill p, []⟩ : Mm)) from hm)
    obtain ⟨hl, hb⟩ := hp p h
    rw [← e]
    refine ⟨?_, ?_, (fun p hp => nomatch hp), List.nodup_nil⟩
    · show (fill p).length = 256
      unfold fill
      rw [List.length_append, List.length_replicate]
      omega
    · intro b hbm
      have hbm : b ∈ fill p := hbm
      unfold fill at hbm
      rcases List.mem_append.mp hbm with z | z
      · exact hb b z
      · rw [List.eq_of_mem_replicate z]
        exact Int.le_refl _
  rd i hi := by
    have hi : i ∈ List.range progs.length := hi
    show i < ((List.range progs.length).map th0).length
    rw [List.length_map, List.length_range]
    exact List.mem_range.mp hi
  rdl := by show (List.range progs.length).length ≤ 8; rw [List.length_range]; omega
  rnl r hr := by
    have hr : r ∈ List.replicate rates.length (-1 : Int) := hr
    rw [List.eq_of_mem_replicate hr]
    omega
  rq q hq := nomatch hq
  rql := Nat.zero_le _
  vw := Nat.zero_le _
  dev := Int.le_refl _
end MM
end
section
/-! the machine's making: what loops keep -/
namespace MM
open PySem PySem.Spec PyProof.Rows L2
theorem cut256 {xs : List V} (h : xs.length ≤ 256) : cutV xs none (some 256) = xs := by
  unfold cutV
  rw [HT.sIx_none, List.drop_zero, show HT.sIx xs.length xs.length (some 256) = min 256 xs.length from HT.sIx_nat _ _ 256, Nat.min_eq_right h, Nat.sub_zero, List.take_length]
theorem flat_rep {k : Nat} {v : V} : (List.replicate k [v]).flatten = List.replicate k v := by
  induction k with
  | zero => rfl
  | succ k ih => rw [List.replicate_succ, List.flatten_cons, ih]; rfl
def mL (kd : Bool) (mrs : List MR) : List PySem.Addr := mrs.map (·.x) ++ mrs.map (·.cl) ++ (if kd then mrs.map (·.kp) else [])
/-- the memories made so far -/
def ML (kd : Bool) (CM : PySem.Addr) (H : Hp) (D : PySem.Addr) (ps : List (List Int)) (H' : Hp) : Prop := ∃ mrs : List MR, H' D = some (.lst ((mrs.map (·.x)).map V.ref)) ∧ Same H H' ∧ All2 (MrOk kd CM H') ps mrs ∧ Occ H' (D :: mL kd mrs) ∧ ∀ a ∈ D :: mL kd mrs, H a = none
theorem ML.start {kd : Bool} {CM D : PySem.Addr} {H : Hp} (hD : H D = none) : ML kd CM H D [] (upd H D (.lst [])) := by
  refine ⟨[], upd_same, R.same_new hD, .nil, ?_, ?_⟩
  · have : mL kd [] = [] := by cases kd <;> rfl
    rw [this]
    exact ⟨List.nodup_cons.mpr ⟨(fun h => nomatch h), List.nodup_nil⟩, fun a ha => by rw [List.mem_singleton.mp ha]; exact ⟨_, upd_same⟩⟩
  · have : mL kd [] = [] := by cases kd <;> rfl
    rw [this]
    intro a ha
    rw [List.mem_singleton.mp ha]
    exact hD
theorem ML.step {kd : Bool} {CM D x dx : PySem.Addr} {H H1 H2 : Hp} {ps : List (List Int)} {p : List Int} {r : MR} (hD : H D = none) (m : ML kd CM H D ps H1) (hx : H1 x = none) (hdx : H1 dx = none) (hne : dx ≠ x) (e1 : r.x = x)
    (mv : R.Mv x (upd (upd H1 dx (.own x)) x (.ins CM dx [])) H2) (hcl : upd (upd H1 dx (.own x)) x (.ins CM dx []) r.cl = none) (hkp : kd = true → upd (upd H1 dx (.own x)) x (.ins CM dx []) r.kp = none ∧ r.kp ≠ r.cl) (ok : MrOk kd CM H2 p r) :
    ∃ acc, H2 D = some (.lst acc) ∧ acc.length = ps.length ∧ ML kd CM H D (ps ++ [p]) (upd H2 D (.lst (acc ++ [.ref x]))) := by
  obtain ⟨mrs, eD, sm, al, oc, fr⟩ := m
  have s2 : Same H1 H2 := fun b o hb => mv b o (by rw [upd_ne (ne_of_none hb hx), upd_ne (ne_of_none hb hdx)]; exact hb) (ne_of_none hb hx)
  have eD2 := s2 _ _ eD
  have clx : r.cl ≠ x := fun z => by rw [z, upd_same] at hcl; cases hcl
  have cld : r.cl ≠ dx := fun z => by rw [z, upd_ne hne, upd_same] at hcl; cases hcl
  have hcl1 : H1 r.cl = none := by rw [upd_ne clx, upd_ne cld] at hcl; exact hcl
  have hkp1 : kd = true → H1 r.kp = none ∧ r.kp ≠ r.cl ∧ r.kp ≠ x := fun k => by
    obtain ⟨h, n⟩ := hkp k
    have kx : r.kp ≠ x := fun z => by rw [z, upd_same] at h; cases h
    have kdx : r.kp ≠ dx := fun z => by rw [z, upd_ne hne, upd_same] at h; cases h
    rw [upd_ne kx, upd_ne kdx] at h
    exact ⟨h, n, kx⟩
  have nD : ∀ {a : PySem.Addr}, H1 a = none → a ≠ D := fun {a} h => fun z => by rw [z, eD] at h; cases h
  have kt : ∀ b o, b ≠ D → H2 b = some o → upd H2 D (.lst (((mrs.map (·.x)).map V.ref) ++ [.ref x])) b = some o := fun b o h e => by rw [upd_ne h]; exact e
  have h0 : ∀ {a : PySem.Addr}, H1 a = none → H a = none := fun {a} h => sm.free h
  refine ⟨_, eD2, by rw [List.length_map, List.length_map]; exact al.length.symm, mrs ++ [r], ?_, ?_, ?_, ?_, ?_⟩
  · rw [upd_same, List.map_append, List.map_append]
    show some (HO.lst _) = some (HO.lst (_ ++ [V.ref r.x]))
    rw [e1]
  · intro b o hb
    rw [upd_ne (ne_of_none hb hD)]
    exact s2 _ _ (sm _ _ hb)
  · have al2 : All2 (MrOk kd CM (upd H2 D (.lst (((mrs.map (·.x)).map V.ref) ++ [.ref x])))) ps mrs := by
      have key : ∀ {ps : List (List Int)} {ms : List MR}, All2 (MrOk kd CM H1) ps ms → (∀ m ∈ ms, m.x ≠ D ∧ m.cl ≠ D ∧ (kd = true → m.kp ≠ D)) → All2 (MrOk kd CM (upd H2 D (.lst (((mrs.map (·.x)).map V.ref) ++ [.ref x])))) ps ms := fun a => by
        induction a with
        | nil => intro _; exact .nil
        | cons r1 _ ih =>
          intro h
          obtain ⟨n1, n2, n3⟩ := h _ List.mem_cons_self
          exact .cons ⟨kt _ _ n1 (s2 _ _ r1.1), kt _ _ n2 (s2 _ _ r1.2.1), fun k => kt _ _ (n3 k) (s2 _ _ (r1.2.2 k))⟩ (ih fun m hm => h m (List.mem_cons_of_mem _ hm))
      refine key al fun m hm => ?_
      have hd := (List.nodup_cons.mp oc.nd).1
      refine ⟨fun z => hd ?_, fun z => hd ?_, fun k z => hd ?_⟩
      · rw [← z]; exact List.mem_append_left _ (List.mem_append_left _ (List.mem_map_of_mem hm))
      · rw [← z]; exact List.mem_append_left _ (List.mem_append_right _ (List.mem_map_of_mem hm))
      · rw [← z]; exact List.mem_append_right _ (by rw [if_pos k]; exact List.mem_map_of_mem hm)
    refine All2.snoc ⟨?_, ?_, fun k => ?_⟩ al2
    · exact kt _ _ (by rw [e1]; exact nD hx) ok.1
    · exact kt _ _ (nD hcl1) ok.2.1
    · exact kt _ _ (nD (hkp1 k).1) (ok.2.2 k)
  · have th : ∀ b o, H2 b = some o → ∃ o', upd H2 D (.lst (((mrs.map (·.x)).map V.ref) ++ [.ref x])) b = some o' := there_upd
    have o2 : Occ H2 (D :: mL kd mrs) := oc.mono (there_same s2)
    have oX : Occ H2 (r.cl :: x :: D :: mL kd mrs) := by
      have a1 := oc.add (H' := upd H1 x (.ins CM dx [])) hx there_upd ⟨_, upd_same⟩
      refine (a1.add (H' := H2) (p := r.cl) (by rw [upd_ne clx]; exact hcl1) (fun b o hb => ?_) ⟨_, ok.2.1⟩)
      by_cases z : b = x
      · rw [z, ← e1]; exact ⟨_, ok.1⟩
      · rw [upd_ne z] at hb; exact ⟨o, s2 _ _ hb⟩
    cases kd with
    | false =>
      refine (oX.mono th).perm ?_
      rw [List.perm_iff_count]
      intro a
      simp only [mL, List.map_append, List.map_cons, List.map_nil, e1, List.count_cons, List.count_append, List.count_nil, Bool.false_eq_true, if_false]
      omega
    | true =>
      obtain ⟨k1, k2, k3⟩ := hkp1 rfl
      have oK : Occ H2 (r.kp :: r.cl :: x :: D :: mL true mrs) := by
        refine ⟨List.nodup_cons.mpr ⟨fun h => ?_, oX.nd⟩, fun a ha => ?_⟩
        · rcases List.mem_cons.mp h with z | z
          · exact k2 z
          rcases List.mem_cons.mp z with z | z
          · exact k3 z
          · obtain ⟨o, ho⟩ := oc.oc _ z
            rw [k1] at ho; cases ho
        · rcases List.mem_cons.mp ha with z | z
          · rw [z]; exact ⟨_, ok.2.2 rfl⟩
          · exact oX.oc a z
      refine (oK.mono th).perm ?_
      rw [List.perm_iff_count]
      intro a
      simp only [mL, List.map_append, List.map_cons, List.map_nil, e1, List.count_cons, List.count_append, List.count_nil, if_true]
      omega
  · intro a ha
    have : a = x ∨ a = r.cl ∨ (kd = true ∧ a = r.kp) ∨ a ∈ D :: mL kd mrs := by
      rcases List.mem_cons.mp ha with z | z
      · exact .inr (.inr (.inr (by rw [z]; exact List.mem_cons_self)))
      · unfold mL at z
        rcases List.mem_append.mp z with z | z
        · rcases List.mem_append.mp z with z | z
          · rw [List.map_append] at z
            rcases List.mem_append.mp z with z | z
            · exact .inr (.inr (.inr (List.mem_cons_of_mem _ (List.mem_append_left _ (List.mem_append_left _ z)))))
            · exact .inl ((List.mem_singleton.mp z).trans e1)
          · rw [List.map_append] at z
            rcases List.mem_append.mp z with z | z
            · exact .inr (.inr (.inr (List.mem_cons_of_mem _ (List.mem_append_left _ (List.mem_append_right _ z)))))
            · exact .inr (.inl (List.mem_singleton.mp z))
        · cases kd with
          | false => cases z
          | true =>
            have z : a ∈ (mrs ++ [r]).map (·.kp) := z
            rw [List.map_append] at z
            rcases List.mem_append.mp z with z | z
            · exact .inr (.inr (.inr (List.mem_cons_of_mem _ (List.mem_append_right _ z))))
            · exact .inr (.inr (.inl ⟨rfl, List.mem_singleton.mp z⟩))
    rcases this with z | z | ⟨k, z⟩ | z
    · rw [z]; exact h0 hx
    · rw [z]; exact h0 hcl1
    · rw [z]; exact h0 (hkp1 k).1
    · exact fr a z
def tL (trs : List TR) : List PySem.Addr := trs.map (·.x) ++ trs.map (·.rg)
/-- the threads made so far, beside L -/
def TL (CT : PySem.Addr) (L : List PySem.Addr) (H : Hp) (D : PySem.Addr) (n : Nat) (H' : Hp) : Prop := ∃ trs : List TR, trs.length = n ∧ H' D = some (.lst ((trs.map (·.x)).map V.ref)) ∧ Same H H' ∧ (∀ i r, trs[i]? = some r → TrOk CT H' i r) ∧ Occ H' (D :: (tL trs ++ L)) ∧ ∀ a ∈ D :: tL trs, H a = none
theorem TL.start {CT D : PySem.Addr} {H : Hp} {L : List PySem.Addr} (hD : H D = none) (oc : Occ H L) : TL CT L H D 0 (upd H D (.lst [])) := by
  refine ⟨[], rfl, upd_same, R.same_new hD, (fun i r h => nomatch h), oc.add hD there_upd ⟨_, upd_same⟩, ?_⟩
  intro a ha
  rw [List.mem_singleton.mp ha]
  exact hD
theorem TL.step {CT D x dx : PySem.Addr} {H H1 H2 : Hp} {L : List PySem.Addr} {n : Nat} {rg cv : PySem.Addr} (hD : H D = none) (m : TL CT L H D n H1) (hx : H1 x = none) (hdx : H1 dx = none) (hne : dx ≠ x)
    (mv : R.Mv x (upd (upd H1 dx (.own x)) x (.ins CT dx [])) H2) (hrg : upd (upd H1 dx (.own x)) x (.ins CT dx []) rg = none)
    (e1 : H2 x = some (.ins CT dx (fsT rg cv (th0 n)))) (e2 : H2 rg = some (.lst (([0, 0, 0, 0] : List Int).map V.int))) (e3 : H2 cv = some (.tup (condV .ready))) :
    ∃ acc, H2 D = some (.lst acc) ∧ acc.length = n ∧ TL CT L H D (n + 1) (upd H2 D (.lst (acc ++ [.ref x]))) := by
  obtain ⟨trs, hl, eD, sm, al, oc, fr⟩ := m
  have s2 : Same H1 H2 := fun b o hb => mv b o (by rw [upd_ne (ne_of_none hb hx), upd_ne (ne_of_none hb hdx)]; exact hb) (ne_of_none hb hx)
  have eD2 := s2 _ _ eD
  have rx : rg ≠ x := fun z => by rw [z, upd_same] at hrg; cases hrg
  have rd : rg ≠ dx := fun z => by rw [z, upd_ne hne, upd_same] at hrg; cases hrg
  have hrg1 : H1 rg = none := by rw [upd_ne rx, upd_ne rd] at hrg; exact hrg
  have nD : ∀ {a : PySem.Addr}, H1 a = none → a ≠ D := fun {a} h => fun z => by rw [z, eD] at h; cases h
  have kt : ∀ b o, b ≠ D → H2 b = some o → upd H2 D (.lst (((trs.map (·.x)).map V.ref) ++ [.ref x])) b = some o := fun b o h e => by rw [upd_ne h]; exact e
  have h0 : ∀ {a : PySem.Addr}, H1 a = none → H a = none := fun {a} h => sm.free h
  have cD : cv ≠ D := fun z => by rw [z, eD2] at e3; cases e3
  refine ⟨_, eD2, by rw [List.length_map, List.length_map]; exact hl, trs ++ [⟨x, dx, rg, cv⟩], by rw [List.length_append, hl]; rfl, ?_, ?_, ?_, ?_, ?_⟩
  · rw [upd_same, List.map_append, List.map_append]
    rfl
  · intro b o hb
    rw [upd_ne (ne_of_none hb hD)]
    exact s2 _ _ (sm _ _ hb)
  · intro i r h
    by_cases hi : i < trs.length
    · rw [List.getElem?_append_left hi] at h
      obtain ⟨a1, a2, a3⟩ := al i r h
      have hm := List.mem_of_getElem? h
      have hd := (List.nodup_cons.mp oc.nd).1
      refine ⟨kt _ _ (fun z => hd ?_) (s2 _ _ a1), kt _ _ (fun z => hd ?_) (s2 _ _ a2), kt _ _ (fun z => ?_) (s2 _ _ a3)⟩
      · rw [← z]; exact List.mem_append_left _ (List.mem_append_left _ (List.mem_map_of_mem hm))
      · rw [← z]; exact List.mem_append_left _ (List.mem_append_right _ (List.mem_map_of_mem hm))
      · rw [z, eD] at a3; cases a3
    · have hi' : i < (trs ++ [(⟨x, dx, rg, cv⟩ : TR)]).length := (List.getElem?_eq_some_iff.mp h).1
      rw [List.length_append] at hi'
      have hi' : i < trs.length + 1 := hi'
      have ei : i = trs.length := by omega
      rw [ei, List.getElem?_append_right (Nat.le_refl _), Nat.sub_self] at h
      obtain rfl := Option.some.inj h
      rw [ei, hl]
      exact ⟨kt _ _ (nD hx) e1, kt _ _ (nD hrg1) e2, kt _ _ cD e3⟩
  · have oX : Occ H2 (rg :: x :: D :: (tL trs ++ L)) := by
      have a1 := oc.add (H' := upd H1 x (.ins CT dx [])) hx there_upd ⟨_, upd_same⟩
      refine (a1.add (H' := H2) (p := rg) (by rw [upd_ne rx]; exact hrg1) (fun b o hb => ?_) ⟨_, e2⟩)
      by_cases z : b = x
      · rw [z]; exact ⟨_, e1⟩
      · rw [upd_ne z] at hb; exact ⟨o, s2 _ _ hb⟩
    refine (oX.mono there_upd).perm ?_
    rw [List.perm_iff_count]
    intro a
    simp only [tL, List.map_append, List.map_cons, List.map_nil, List.count_cons, List.count_append, List.count_nil]
    omega
  · intro a ha
    rcases List.mem_cons.mp ha with z | z
    · rw [z]; exact hD
    · unfold tL at z
      rw [List.map_append, List.map_append] at z
      rcases List.mem_append.mp z with z | z
      · rcases List.mem_append.mp z with z | z
        · exact fr a (List.mem_cons_of_mem _ (List.mem_append_left _ z))
        · rw [List.mem_singleton.mp z]; exact h0 hx
      · rcases List.mem_append.mp z with z | z
        · exact fr a (List.mem_cons_of_mem _ (List.mem_append_right _ z))
        · rw [List.mem_singleton.mp z]; exact h0 hrg1
end MM
namespace MM
open PySem PySem.Spec PyProof.Rows L2
theorem r_LcR {te : TE} {g : TG} {ts : TT} {vs : List Nat} {σ : L2.St} {Q : VK} {H1 : Hp} {n : Nat} (hn : n ≤ 100000) (h : LW (Itr 0 n) g ts te vs σ Q H1) : R.LcR te g ts vs σ Q [.int (n : Int)] H1 :=
  ⟨(n : Int), rfl, by omega, by omega, by rw [Int.toNat_natCast]; exact h⟩
end MM
namespace MM
open PySem PySem.Spec PyProof.Rows L2
theorem r_lstRg {ta : TE} {σ : L2.St} {Q : VK} {H : Hp} (h : ta σ H fun x H1 => ∃ n, x = .int n ∧ RgOk 0 n ∧ ∀ q, H1 q = none → Q (.ref q) (upd H1 q (.lst (rgV 0 n)))) : tLstRg (tRg1 ta) σ H Q := h
end MM
namespace MM
theorem mv_back {H H' : L2.Hp} {x a : PySem.Addr} (m : R.Mv x H H') (h : H' a = none) (n : a ≠ x) : H a = none := by
  cases z : H a with
  | none => rfl
  | some o => rw [m a o z n] at h; cases h
end MM
end
section
/-! machines beside other things; the stops' list -/
namespace MM
open PySem PySem.Spec PyProof.Rows L2
/-- the state stands where its places do -/
theorem Bd.move {c : Cl} {ad : Tg → PySem.Addr} {S : MS} {H H' : Hp} (B : Bd c ad S H) (fr : ∀ t o, H (ad t) = some o → H' (ad t) = some o) (kt : KeepT H H') : Bd c ad S H' := by
  obtain ⟨⟨g, h1, h2, h3, h4, h5⟩, inj, od⟩ := B
  exact ⟨⟨g, fun t o e => fr t o (h1 t o e), fun i t e => kt _ _ (h2 i t e), h3.imp fun _ _ z => kt _ _ z, h4.imp fun _ _ z => z.keep kt, kt _ _ h5⟩, inj, od⟩
theorem Bd.mv {c : Cl} {ad : Tg → PySem.Addr} {S : MS} {H H' : Hp} {x : PySem.Addr} (B : Bd c ad S H) (m : R.Mv x H H') (hx : ∀ t, ad t ≠ x) (ht : ∀ xs, H x ≠ some (.tup xs)) : Bd c ad S H' :=
  B.move (fun t o e => m _ _ e (hx t)) (fun b xs e => m _ _ e (fun z => ht xs (by rw [← z]; exact e)))
/-- another machine's step -/
theorem Bd.beside {c c2 : Cl} {ad ad2 ad2' : Tg → PySem.Addr} {S : MS} {H H' : Hp} {nt nm : Nat} (B : Bd c ad S H) (m : Mvd c2.kd nt nm ad2 ad2' H H') (dj : ∀ t u, ad2 t ≠ ad u) : Bd c ad S H' ∧ ∀ t u, ad2' t ≠ ad u := by
  refine ⟨B.move (fun t o e => m.fr _ _ e fun u => dj u t) m.kt, fun t u => ?_⟩
  by_cases d : dom c.kd S.ths.length S.mem.length u
  · obtain ⟨o, e⟩ := B.there d
    exact m.out e (fun t => dj t u) t
  · obtain ⟨o, e⟩ := B.there (t := .brd) trivial
    rw [B.out u d]
    exact m.out e (fun t => dj t .brd) t
theorem mrs_mv {kd : Bool} {CM : PySem.Addr} {H H' : Hp} {x : PySem.Addr} {ps : List (List Int)} {ms : List MR} (m : R.Mv x H H') (al : All2 (MrOk kd CM H) ps ms) (h : ∀ a ∈ mL kd ms, a ≠ x) : All2 (MrOk kd CM H') ps ms := by
  have key : ∀ {ps : List (List Int)} {ms : List MR}, All2 (MrOk kd CM H) ps ms → (∀ m ∈ ms, m.x ≠ x ∧ m.cl ≠ x ∧ (kd = true → m.kp ≠ x)) → All2 (MrOk kd CM H') ps ms := fun a => by
    induction a with
    | nil => intro _; exact .nil
    | cons r1 _ ih =>
      intro h
      obtain ⟨n1, n2, n3⟩ := h _ List.mem_cons_self
      exact .cons ⟨m _ _ r1.1 n1, m _ _ r1.2.1 n2, fun k => m _ _ (r1.2.2 k) (n3 k)⟩ (ih fun m hm => h m (List.mem_cons_of_mem _ hm))
  exact key al fun m hm => ⟨h _ (List.mem_append_left _ (List.mem_append_left _ (List.mem_map_of_mem hm))), h _ (List.mem_append_left _ (List.mem_append_right _ (List.mem_map_of_mem hm))), fun k => h _ (List.mem_append_right _ (by rw [if_pos k]; exact List.mem_map_of_mem hm))⟩
/-- the programs' tuples -/
def PgAt (H : Hp) (pg : PySem.Addr) (progs : List (List Int)) : Prop := ∃ ps : List PySem.Addr, H pg = some (.tup (ps.map V.ref)) ∧ All2 (fun a (p : List Int) => H a = some (.tup (p.map V.int))) ps progs
theorem PgAt.keep {H H' : Hp} {pg : PySem.Addr} {progs : List (List Int)} (h : PgAt H pg progs) (k : KeepT H H') : PgAt H' pg progs := by
  obtain ⟨ps, e, al⟩ := h
  exact ⟨ps, k _ _ e, al.imp fun _ _ z => k _ _ z⟩
/-- the stops, ascending -/
def ltPr (p q : Int × Int) : Prop := p.1 < q.1 ∨ (p.1 = q.1 ∧ p.2 < q.2)
def keys (m : Mm) : List Int := m.kept.map (·.1)
def StopL (S : MS) (i : Nat) (L : List (Int × Int)) : Prop := L.Pairwise ltPr ∧ ∀ p a, (p, a) ∈ L ↔ ∃ j, j < i ∧ p = (j : Int) ∧ a ∈ keys (S.mm j)
theorem StopL.step {S : MS} {i : Nat} {L : List (Int × Int)} {ns : List Int} (h : StopL S i L) (hp : ns.Perm (keys (S.mm i))) (hs : ns.Pairwise (· ≤ ·)) (hn : (keys (S.mm i)).Nodup) : StopL S (i + 1) (L ++ ns.map fun a => ((i : Int), a)) := by
  have hnd : ns.Nodup := hp.nodup_iff.mpr hn
  have hst : ns.Pairwise (· < ·) := by
    have := hs.and hnd
    exact this.imp fun {a b} h => by
      have h1 := h.1
      have h2 : a ≠ b := h.2
      omega
  refine ⟨?_, fun p a => ?_⟩
  · rw [List.pairwise_append]
    refine ⟨h.1, ?_, ?_⟩
    · rw [List.pairwise_map]
      exact hst.imp fun {a b} h => .inr ⟨rfl, h⟩
    · intro x hx y hy
      obtain ⟨b, hb, rfl⟩ := List.mem_map.mp hy
      obtain ⟨j, hj, e, _⟩ := (h.2 x.1 x.2).mp hx
      exact .inl (by rw [e]; exact Int.ofNat_lt.mpr hj)
  · rw [List.mem_append, h.2]
    constructor
    · rintro (⟨j, hj, e, m⟩ | hm)
      · exact ⟨j, by omega, e, m⟩
      · obtain ⟨b, hb, e⟩ := List.mem_map.mp hm
        obtain ⟨rfl, rfl⟩ := Prod.mk.inj e
        exact ⟨i, by omega, rfl, hp.mem_iff.mp hb⟩
    · rintro ⟨j, hj, e, m⟩
      by_cases z : j = i
      · rw [z] at e m
        exact .inr (List.mem_map.mpr ⟨a, hp.mem_iff.mpr m, by rw [e]⟩)
      · exact .inl ⟨j, by omega, e, m⟩
section
variable {g g1 : TG} {tt tt1 : TT} {te tl : TE} {vs vs1 : List Nat} {σ : L2.St} {Q : VK} {H H1 : Hp} {K : PySem.W.Frag} {tr : TA} {wi1 : TI}
/-- two loops in a comprehension -/
def LW2 (J : It) (g : TG) (tt : TT) (wi1 : TI) (g1 : TG) (tt1 : TT) (te : TE) (vs vs1 : List Nat) (σ : L2.St) (Q : VK) (H1 : Hp) : Prop := ∀ D, H1 D = none → ∃ W : Nat → Nat → Hp → Prop, (∃ m, W 0 m (upd H1 D (.lst []))) ∧ ∀ i m H, W i m H →
  (J.stop i H ∧ Q (.ref D) H) ∨ (J.go i H ∧ ∃ Nx : Hp → Prop, (∀ H', Nx H' → ∃ m', m' < m ∧ W (i + 1) m' H') ∧ ∀ x H', J.yld i H x H' → g x (wipe σ vs) H' fun σ2 H2 => wipe σ2 vs = wipe σ vs ∧ tt σ2 H2 fun b H3 =>
    if b = true then wi1 σ2 H3 fun J1 H4 => ∃ W1 : Nat → Nat → Hp → Prop, (∃ m, W1 0 m H4) ∧ ∀ j k H, W1 j k H →
      (J1.stop j H ∧ Nx H) ∨ (J1.go j H ∧ ∃ Nx1 : Hp → Prop, (∀ H', Nx1 H' → ∃ k', k' < k ∧ W1 (j + 1) k' H') ∧ ∀ x H', J1.yld j H x H' → g1 x (wipe σ2 vs1) H' fun σ3 H5 => wipe σ3 vs1 = wipe σ2 vs1 ∧ tt1 σ3 H5 fun b H6 =>
        if b = true then te σ3 H6 fun y H7 => ∃ acc, H7 D = some (.lst acc) ∧ acc.length < sizeLine ∧ Nx1 (upd H7 D (.lst (acc ++ [y]))) else Nx1 H6)
    else Nx H3)
/-- the inner loop's part -/
def IW (J1 : It) (g1 : TG) (tt1 : TT) (te : TE) (vs1 : List Nat) (D : PySem.Addr) (σ2 : L2.St) (Nx : Hp → Prop) (H4 : Hp) : Prop := ∃ W1 : Nat → Nat → Hp → Prop, (∃ m, W1 0 m H4) ∧ ∀ j k H, W1 j k H →
      (J1.stop j H ∧ Nx H) ∨ (J1.go j H ∧ ∃ Nx1 : Hp → Prop, (∀ H', Nx1 H' → ∃ k', k' < k ∧ W1 (j + 1) k' H') ∧ ∀ x H', J1.yld j H x H' → g1 x (wipe σ2 vs1) H' fun σ3 H5 => wipe σ3 vs1 = wipe σ2 vs1 ∧ tt1 σ3 H5 fun b H6 =>
        if b = true then te σ3 H6 fun y H7 => ∃ acc, H7 D = some (.lst acc) ∧ acc.length < sizeLine ∧ Nx1 (upd H7 D (.lst (acc ++ [y]))) else Nx1 H6)
theorem lc2_go {J : It} {n : Nat} {G : Hp → Prop} {Y : Nat → Hp → V → Hp → Prop} (wk : Walk J n G Y) (Pv : PySem.Addr → Nat → Hp → Prop) (h0 : ∀ D, H1 D = none → Pv D 0 (upd H1 D (.lst [])))
    (hG : ∀ D i H, H1 D = none → Pv D i H → G H)
    (hs : ∀ D i x H H', H1 D = none → i < n → Pv D i H → Y i H x H' → g x (wipe σ vs) H' fun σ2 H2 => wipe σ2 vs = wipe σ vs ∧ tt σ2 H2 fun b H3 =>
      if b = true then wi1 σ2 H3 fun J1 H4 => IW J1 g1 tt1 te vs1 D σ2 (Pv D (i + 1)) H4 else Pv D (i + 1) H3)
    (hd : ∀ D H, H1 D = none → Pv D n H → Q (.ref D) H) : LW2 J g tt wi1 g1 tt1 te vs vs1 σ Q H1 := fun D hD => by
  refine ⟨fun i m H => m = n - i ∧ i ≤ n ∧ Pv D i H, ⟨n, by simp, Nat.zero_le _, h0 D hD⟩, ?_⟩
  rintro i m H ⟨rfl, hi, p⟩
  have q := hG D i H hD p
  by_cases hlt : i < n
  · exact .inr ⟨wk.goes i H hlt q, Pv D (i + 1), fun H' p' => ⟨n - (i + 1), by omega, rfl, hlt, p'⟩, fun x H' y => hs D i x H H' hD hlt p (wk.yields i H x H' hlt q y)⟩
  · have e : i = n := by omega
    subst e
    exact .inl ⟨wk.stops H q, hd D H hD p⟩
theorem iw_go {J1 : It} {n : Nat} {G : Hp → Prop} {Y : Nat → Hp → V → Hp → Prop} {D : PySem.Addr} {σ2 : L2.St} {Nx : Hp → Prop} {H4 : Hp} (wk : Walk J1 n G Y) (Pv : Nat → Hp → Prop) (h0 : Pv 0 H4) (hG : ∀ j H, Pv j H → G H)
    (hs : ∀ j x H H', j < n → Pv j H → Y j H x H' → g1 x (wipe σ2 vs1) H' fun σ3 H5 => wipe σ3 vs1 = wipe σ2 vs1 ∧ tt1 σ3 H5 fun b H6 =>
        if b = true then te σ3 H6 fun y H7 => ∃ acc, H7 D = some (.lst acc) ∧ acc.length < sizeLine ∧ Pv (j + 1) (upd H7 D (.lst (acc ++ [y]))) else Pv (j + 1) H6)
    (hd : ∀ H, Pv n H → Nx H) : IW J1 g1 tt1 te vs1 D σ2 Nx H4 := by
  refine ⟨fun i m H => m = n - i ∧ i ≤ n ∧ Pv i H, ⟨n, by simp, Nat.zero_le _, h0⟩, ?_⟩
  rintro i m H ⟨rfl, hi, p⟩
  have q := hG i H p
  by_cases hlt : i < n
  · exact .inr ⟨wk.goes i H hlt q, Pv (i + 1), fun H' p' => ⟨n - (i + 1), by omega, rfl, hlt, p'⟩, fun x H' y => hs i x H H' hlt p (wk.yields i H x H' hlt q y)⟩
  · have e : i = n := by omega
    subst e
    exact .inl ⟨wk.stops H q, hd H p⟩
theorem r_lc2E (h : tr σ H fun vs' H1 => ∃ a xs, vs' = [.ref a] ∧ SqL K H1 a xs ∧ LW2 (Ite K a) g tt wi1 g1 tt1 te vs vs1 σ Q H1) : tLc2 (iEnum K tr) g tt wi1 g1 tt1 te vs vs1 σ H Q := h
theorem r_iw {D : PySem.Addr} {σ2 : L2.St} {Nx : Hp → Prop} (h : tl σ2 H fun x H1 => ∃ a, x = .ref a ∧ (∃ xs, SqL K H1 a xs) ∧ IW (Itl K a) g1 tt1 te vs1 D σ2 Nx H1) : iList K tl σ2 H fun J1 H4 => IW J1 g1 tt1 te vs1 D σ2 Nx H4 := h
variable {r r' : R2} {ta tb tc : TE}
theorem r_chain (h : ta σ H fun x H1 => tb σ H1 fun y H2 => r x y H2 fun z H3 => ∃ k, z = .bl k ∧ (if k = true then tc σ H3 fun w' H4 => r' y w' H4 Q else Q (.bl false) H3)) : tChain r r' ta tb tc σ H Q := h
end
end MM
end
section
/-! a machine with stops and one without: the same but for what stands under the stops -/
namespace MM
open PySem PySem.Spec PyProof.Rows L2
def ask (pl : List (Int × Int)) (v : Vw) : Bool := decide (v.kind ≠ "insn") || decide ((v.pid, v.at') ∈ pl)
/-- what is kept stands in the other memory, 255 in its place -/
structure MmRel (m p : Mm) : Prop where
  kp : p.kept = []
  ml : m.cells.length = 256
  pl : p.cells.length = 256
  nd : (keys m).Nodup
  ks : ∀ q ∈ m.kept, 0 ≤ q.1 ∧ q.1 < 256
  at' : ∀ j : Nat, j < 256 → match m.kept.lookup (j : Int) with
    | some b => p.cells.getD j 0 = b ∧ m.cells.getD j 0 = 255
    | none => m.cells.getD j 0 = p.cells.getD j 0
theorem lookup_mem {l : List (Int × Int)} {a : Int} : (l.lookup a).isSome = true ↔ a ∈ l.map (·.1) := by
  induction l with
  | nil => simp
  | cons p r ih =>
    rw [List.lookup_cons, List.map_cons, List.mem_cons]
    by_cases e : a = p.1
    · rw [e, beq_self_eq_true]
      exact ⟨fun _ => .inl rfl, fun _ => rfl⟩
    · rw [beq_eq_false_iff_ne.mpr e, ih]
      exact ⟨fun h => .inr h, fun h => h.resolve_left e⟩
theorem MmRel.load {m p : Mm} (h : MmRel m p) (a : Int) : m.load a = p.load a := by
  have hj : ((a % 256).toNat : Int) = a % 256 := Int.toNat_of_nonneg (Int.emod_nonneg _ (by decide))
  have z := h.at' (a % 256).toNat (by omega)
  rw [hj] at z
  unfold Mm.load
  rw [h.kp]
  cases e : m.kept.lookup (a % 256) with
  | none => rw [e] at z; exact z
  | some b => rw [e] at z; exact z.1.symm
theorem fold_get : ∀ (ks : List (Int × Int)) (cs : List Int) (j : Nat), (ks.map (·.1)).Nodup → (∀ q ∈ ks, 0 ≤ q.1 ∧ q.1 < (cs.length : Int)) → (ks.foldl (fun cs p => cs.set p.1.toNat p.2) cs).length = cs.length ∧
    (ks.foldl (fun cs p => cs.set p.1.toNat p.2) cs).getD j 0 = (match ks.lookup (j : Int) with | some b => b | none => cs.getD j 0)
  | [], cs, j, _, _ => ⟨rfl, rfl⟩
  | q :: r, cs, j, hn, hk => by
    rw [List.map_cons, List.nodup_cons] at hn
    have hq := hk q List.mem_cons_self
    have hl : (cs.set q.1.toNat q.2).length = cs.length := List.length_set
    obtain ⟨i1, i2⟩ := fold_get r (cs.set q.1.toNat q.2) j hn.2 (fun x hx => by rw [hl]; exact hk x (List.mem_cons_of_mem _ hx))
    refine ⟨by rw [List.foldl_cons, i1, hl], ?_⟩
    rw [List.foldl_cons, i2, List.lookup_cons]
    by_cases e : (j : Int) = q.1
    · have hnone : r.lookup (j : Int) = none := by
        cases z : r.lookup (j : Int) with
        | none => rfl
        | some b =>
          have := lookup_mem.mp (show (r.lookup (j : Int)).isSome = true by rw [z]; rfl)
          rw [e] at this
          exact absurd this hn.1
      rw [hnone, e, beq_self_eq_true]
      have hjn : q.1.toNat = j := by omega
      show (cs.set q.1.toNat q.2).getD j 0 = q.2
      rw [hjn, List.getD_eq_getElem?_getD, List.getElem?_set_self (by omega)]
      rfl
    · rw [beq_eq_false_iff_ne.mpr e]
      cases z : r.lookup (j : Int) with
      | some b => rfl
      | none =>
        show (cs.set q.1.toNat q.2).getD j 0 = cs.getD j 0
        rw [List.getD_eq_getElem?_getD, List.getElem?_set_ne (by omega), ← List.getD_eq_getElem?_getD]
theorem ext_getD {a b : List Int} {n : Nat} (ha : a.length = n) (hb : b.length = n) (h : ∀ j, j < n → a.getD j 0 = b.getD j 0) : a = b := by
  refine List.ext_getElem (ha.trans hb.symm) fun j h1 h2 => ?_
  have := h j (by omega)
  rw [List.getD_eq_getElem?_getD, List.getD_eq_getElem?_getD, List.getElem?_eq_getElem h1, List.getElem?_eq_getElem h2] at this
  exact this
theorem MmRel.img {m p : Mm} (h : MmRel m p) : m.img = p.cells := by
  have z := fun j => fold_get m.kept m.cells j h.nd (fun q hq => by rw [h.ml]; exact h.ks q hq)
  refine ext_getD (n := 256) ((z 0).1.trans h.ml) h.pl fun j hj => ?_
  show (m.kept.foldl (fun cs p => cs.set p.1.toNat p.2) m.cells).getD j 0 = _
  rw [(z j).2]
  have q := h.at' j hj
  cases e : m.kept.lookup (j : Int) with
  | none => rw [e] at q; exact q
  | some b => rw [e] at q; exact q.1.symm
theorem MmRel.pimg {m p : Mm} (h : MmRel m p) : p.img = p.cells := by unfold Mm.img; rw [h.kp]; rfl
theorem store_keys1 {m : Mm} {a b : Int} : keys (m.store a b) = keys m := by
  unfold keys Mm.store
  split
  · show (m.kept.map fun p => if p.1 = a % 256 then (p.1, b) else p).map (·.1) = _
    rw [List.map_map]
    refine List.map_congr_left fun p _ => ?_
    show (if p.1 = a % 256 then (p.1, b) else p).1 = p.1
    split <;> rfl
  · rfl
theorem lookup_upd {ks : List (Int × Int)} {a b j : Int} : (ks.map fun p => if p.1 = a then (p.1, b) else p).lookup j = if j = a then (if (ks.lookup a).isSome then some b else none) else ks.lookup j := by
  induction ks with
  | nil => simp
  | cons q r ih =>
    rw [List.map_cons, List.lookup_cons]
    have e1 : (if q.1 = a then (q.1, b) else q).1 = q.1 := by split <;> rfl
    rw [e1, List.lookup_cons, List.lookup_cons]
    by_cases h : j = q.1
    · rw [h, beq_self_eq_true]
      by_cases z : q.1 = a
      · rw [if_pos z, if_pos z, z, beq_self_eq_true]; rfl
      · rw [if_neg z, if_neg z]
    · rw [beq_eq_false_iff_ne.mpr h]
      rw [ih]
      by_cases z : j = a
      · rw [if_pos z, if_pos z, beq_eq_false_iff_ne.mpr (fun y => h (z.trans y))]
      · rw [if_neg z, if_neg z]
theorem getD_set {l : List Int} {i j : Nat} {v : Int} (hi : i < l.length) : (l.set i v).getD j 0 = if i = j then v else l.getD j 0 := by
  rw [List.getD_eq_getElem?_getD, List.getD_eq_getElem?_getD]
  by_cases h : i = j
  · rw [if_pos h, ← h, List.getElem?_set_self hi]; rfl
  · rw [if_neg h, List.getElem?_set_ne h]
theorem MmRel.store {m p : Mm} (h : MmRel m p) (a b : Int) : MmRel (m.store a b) (p.store a b) := by
  have hj0 := Int.emod_nonneg a (show (256 : Int) ≠ 0 by decide)
  have hj1 := Int.emod_lt_of_pos a (show (0 : Int) < 256 by decide)
  have hj : ((a % 256).toNat : Int) = a % 256 := Int.toNat_of_nonneg hj0
  have ep : p.store a b = { p with cells := p.cells.set (a % 256).toNat b } := by
    unfold Mm.store
    rw [if_neg (by rw [h.kp]; exact Bool.false_ne_true)]
  rw [ep]
  have hn : (keys (m.store a b)).Nodup := by rw [store_keys1]; exact h.nd
  unfold Mm.store at hn ⊢
  by_cases e : (m.kept.lookup (a % 256)).isSome = true
  · rw [if_pos e] at hn ⊢
    refine ⟨h.kp, h.ml, by rw [List.length_set]; exact h.pl, hn, fun q hq => ?_, fun j hj' => ?_⟩
    · obtain ⟨x, hx, ex⟩ := List.mem_map.mp hq
      have := h.ks x hx
      rw [← ex]
      split <;> exact this
    · have z := h.at' j hj'
      show match (m.kept.map fun p => if p.1 = a % 256 then (p.1, b) else p).lookup (j : Int) with
        | some b' => (p.cells.set (a % 256).toNat b).getD j 0 = b' ∧ m.cells.getD j 0 = 255
        | none => m.cells.getD j 0 = (p.cells.set (a % 256).toNat b).getD j 0
      rw [lookup_upd, getD_set (by rw [h.pl]; omega)]
      by_cases c : (j : Int) = a % 256
      · rw [if_pos c, if_pos e, if_pos (by omega)]
        refine ⟨rfl, ?_⟩
        rw [c] at z
        cases y : m.kept.lookup (a % 256) with
        | none => rw [y] at e; exact absurd e Bool.false_ne_true
        | some b0 => rw [y] at z; exact z.2
      · rw [if_neg c, if_neg (by omega)]
        exact z
  · rw [if_neg e] at hn ⊢
    refine ⟨h.kp, by rw [List.length_set]; exact h.ml, by rw [List.length_set]; exact h.pl, h.nd, h.ks, fun j hj' => ?_⟩
    have z := h.at' j hj'
    show match m.kept.lookup (j : Int) with
      | some b' => (p.cells.set (a % 256).toNat b).getD j 0 = b' ∧ (m.cells.set (a % 256).toNat b).getD j 0 = 255
      | none => (m.cells.set (a % 256).toNat b).getD j 0 = (p.cells.set (a % 256).toNat b).getD j 0
    rw [getD_set (by rw [h.pl]; omega), getD_set (by rw [h.ml]; omega)]
    by_cases c : (j : Int) = a % 256
    · have hnone : m.kept.lookup (j : Int) = none := by
        rw [c]
        cases y : m.kept.lookup (a % 256) with
        | none => rfl
        | some b0 => rw [y] at e; exact absurd rfl e
      rw [hnone, if_pos (by omega), if_pos (by omega)]
    · rw [if_neg (by omega), if_neg (by omega)]
      exact z
theorem lookup_snoc {ks : List (Int × Int)} {a b j : Int} (h : ks.lookup a = none) : (ks ++ [(a, b)]).lookup j = if j = a then some b else ks.lookup j := by
  induction ks with
  | nil =>
    show List.lookup j [(a, b)] = _
    rw [List.lookup_cons]
    by_cases e : j = a
    · rw [e, beq_self_eq_true, if_pos rfl]
    · rw [beq_eq_false_iff_ne.mpr e, if_neg e]
  | cons q r ih =>
    rw [List.lookup_cons] at h
    have hne : (a == q.1) = false := by
      cases z : (a == q.1) with
      | false => rfl
      | true => rw [z] at h; cases h
    rw [hne] at h
    rw [List.cons_append, List.lookup_cons, List.lookup_cons]
    by_cases e : j = q.1
    · rw [e, beq_self_eq_true]
      rw [if_neg (fun z => by rw [z, beq_self_eq_true] at hne; cases hne)]
    · rw [beq_eq_false_iff_ne.mpr e, ih h]
theorem lookup_filter {ks : List (Int × Int)} {a j : Int} : (ks.filter fun p => decide (p.1 ≠ a)).lookup j = if j = a then none else ks.lookup j := by
  induction ks with
  | nil => simp
  | cons q r ih =>
    rw [List.filter_cons]
    by_cases e : q.1 = a
    · rw [if_neg (by rw [decide_eq_true_eq]; exact fun z => z e), ih]
      by_cases c : j = a
      · rw [if_pos c, if_pos c]
      · rw [if_neg c, if_neg c, List.lookup_cons, beq_eq_false_iff_ne.mpr (fun z => c (z.trans e))]
    · rw [if_pos (by rw [decide_eq_true_eq]; exact e), List.lookup_cons, ih, List.lookup_cons]
      by_cases c : j = q.1
      · rw [c, if_neg e]
        simp [e]
      · rw [beq_eq_false_iff_ne.mpr c]
theorem MmRel.setStop {m p : Mm} (h : MmRel m p) {a : Int} (h0 : 0 ≤ a) (h1 : a < 256) : MmRel (m.setStop a) p ∧ ∀ x, x ∈ keys (m.setStop a) ↔ x ∈ keys m ∨ x = a := by
  unfold Mm.setStop
  by_cases e : (m.kept.lookup a).isSome = true
  · rw [if_pos e]
    refine ⟨h, fun x => ⟨.inl, fun z => z.elim id fun z => ?_⟩⟩
    rw [z]
    exact lookup_mem.mp e
  · rw [if_neg e]
    have en : m.kept.lookup a = none := by
      cases y : m.kept.lookup a with
      | none => rfl
      | some b0 => rw [y] at e; exact absurd rfl e
    have hk : ∀ x, x ∈ (m.kept ++ [(a, m.cells.getD a.toNat 0)]).map (·.1) ↔ x ∈ keys m ∨ x = a := fun x => by
      rw [List.map_append, List.mem_append]
      exact ⟨fun z => z.elim .inl fun z => .inr (List.mem_singleton.mp z), fun z => z.elim .inl fun z => .inr (List.mem_singleton.mpr z)⟩
    refine ⟨⟨h.kp, by rw [List.length_set]; exact h.ml, h.pl, ?_, fun q hq => ?_, fun j hj => ?_⟩, hk⟩
    · show ((m.kept ++ [(a, m.cells.getD a.toNat 0)]).map (·.1)).Nodup
      rw [List.map_append, List.nodup_append]
      refine ⟨h.nd, List.nodup_cons.mpr ⟨(fun z => nomatch z), List.nodup_nil⟩, fun x hx y hy => ?_⟩
      have hy : y = a := List.mem_singleton.mp hy
      rintro rfl
      rw [hy] at hx
      exact e (lookup_mem.mpr hx)
    · rcases List.mem_append.mp hq with z | z
      · exact h.ks q z
      · rw [List.mem_singleton.mp z]
        exact ⟨h0, h1⟩
    · have z := h.at' j hj
      show match (m.kept ++ [(a, m.cells.getD a.toNat 0)]).lookup (j : Int) with
        | some b => p.cells.getD j 0 = b ∧ (m.cells.set a.toNat 255).getD j 0 = 255
        | none => (m.cells.set a.toNat 255).getD j 0 = p.cells.getD j 0
      rw [lookup_snoc en, getD_set (by rw [h.ml]; omega)]
      by_cases c : (j : Int) = a
      · rw [if_pos c, if_pos (by omega)]
        rw [c, en] at z
        have ej : a.toNat = j := by omega
        rw [ej]
        exact ⟨z.symm, rfl⟩
      · rw [if_neg c, if_neg (by omega)]
        exact z
theorem MmRel.clearStop {m p : Mm} (h : MmRel m p) {a : Int} (h0 : 0 ≤ a) (h1 : a < 256) : MmRel (m.clearStop a) p ∧ ∀ x, x ∈ keys (m.clearStop a) ↔ x ∈ keys m ∧ x ≠ a := by
  unfold Mm.clearStop
  cases y : m.kept.lookup a with
  | none =>
    refine ⟨h, fun x => ⟨fun z => ⟨z, fun e => ?_⟩, fun z => z.1⟩⟩
    rw [e] at z
    have := lookup_mem.mpr z
    rw [y] at this
    cases this
  | some b =>
    have hk : ∀ x, x ∈ (m.kept.filter fun p => decide (p.1 ≠ a)).map (·.1) ↔ x ∈ keys m ∧ x ≠ a := fun x => by
      constructor
      · intro z
        obtain ⟨q, hq, e⟩ := List.mem_map.mp z
        obtain ⟨h1, h2⟩ := List.mem_filter.mp hq
        exact ⟨List.mem_map.mpr ⟨q, h1, e⟩, by rw [← e]; exact of_decide_eq_true h2⟩
      · rintro ⟨z, n⟩
        obtain ⟨q, hq, e⟩ := List.mem_map.mp z
        exact List.mem_map.mpr ⟨q, List.mem_filter.mpr ⟨hq, decide_eq_true (by rw [e]; exact n)⟩, e⟩
    refine ⟨⟨h.kp, by rw [List.length_set]; exact h.ml, h.pl, ?_, fun q hq => h.ks q (List.mem_filter.mp hq).1, fun j hj => ?_⟩, hk⟩
    · exact List.Nodup.sublist (List.Sublist.map _ List.filter_sublist) h.nd
    · have z := h.at' j hj
      show match (m.kept.filter fun p => decide (p.1 ≠ a)).lookup (j : Int) with
        | some b' => p.cells.getD j 0 = b' ∧ (m.cells.set a.toNat b).getD j 0 = 255
        | none => (m.cells.set a.toNat b).getD j 0 = p.cells.getD j 0
      rw [lookup_filter, getD_set (by rw [h.ml]; omega)]
      by_cases c : (j : Int) = a
      · rw [if_pos c, if_pos (by omega)]
        rw [c, y] at z
        exact z.1.symm
      · rw [if_neg c, if_neg (by omega)]
        exact z
theorem MmRel.raw {m p : Mm} (h : MmRel m p) {j : Nat} (hj : j < 256) : m.cells.getD j 0 = if (j : Int) ∈ keys m then 255 else p.cells.getD j 0 := by
  have z := h.at' j hj
  cases y : m.kept.lookup (j : Int) with
  | none =>
    rw [y] at z
    rw [if_neg (show ¬ (j : Int) ∈ keys m from fun q => by have := lookup_mem.mpr q; rw [y] at this; cases this)]
    exact z
  | some b =>
    rw [y] at z
    rw [if_pos (show (j : Int) ∈ keys m from lookup_mem.mp (by rw [y]; rfl))]
    exact z.2
end MM
end
section
/-! the machine with stops does what the other does -/
namespace MM
open PySem PySem.Spec PyProof.Rows L2
def MemRel (pl : List (Int × Int)) (M N : List Mm) : Prop := M.length = N.length ∧ (∀ i, i < M.length → MmRel (M.getD i dMm) (N.getD i dMm)) ∧ ∀ (i : Nat) a, a ∈ keys (M.getD i dMm) ↔ ((i : Int), a) ∈ pl
def Sim (pl : List (Int × Int)) (S P : MS) : Prop := ∃ M V, S = { P with mem := M, views := V } ∧ MemRel pl M P.mem ∧ V = P.views.filter (ask pl)
section
variable {pl : List (Int × Int)} {M N : List Mm} {S P : MS}
theorem out_d {l : List Mm} {i : Nat} (h : ¬ i < l.length) : l.getD i dMm = dMm := by rw [List.getD_eq_getElem?_getD, List.getElem?_eq_none (by omega)]; rfl
theorem MemRel.img (h : MemRel pl M N) (i : Nat) : (M.getD i dMm).img = (N.getD i dMm).img := by
  by_cases hi : i < M.length
  · have z := h.2.1 i hi
    rw [z.img, z.pimg]
  · rw [out_d hi, out_d (by rw [← h.1]; exact hi)]
theorem MemRel.load (h : MemRel pl M N) (i : Nat) (a : Int) : (M.getD i dMm).load a = (N.getD i dMm).load a := by
  by_cases hi : i < M.length
  · exact (h.2.1 i hi).load a
  · rw [out_d hi, out_d (by rw [← h.1]; exact hi)]
theorem getD_setM {l : List Mm} {i j : Nat} {v : Mm} : (l.set i v).getD j dMm = if i = j ∧ i < l.length then v else l.getD j dMm := by
  rw [List.getD_eq_getElem?_getD, List.getD_eq_getElem?_getD]
  by_cases h : i = j
  · by_cases hi : i < l.length
    · rw [if_pos ⟨h, hi⟩, ← h, List.getElem?_set_self hi]; rfl
    · rw [if_neg (fun z => hi z.2), List.set_eq_of_length_le (by omega)]
  · rw [if_neg (fun z => h z.1), List.getElem?_set_ne h]
theorem MemRel.put (h : MemRel pl M N) {pl' : List (Int × Int)} {p : Nat} {m n : Mm} (hr : p < M.length → MmRel m n) (hk : ∀ (i : Nat) a, a ∈ keys ((M.set p m).getD i dMm) ↔ ((i : Int), a) ∈ pl') : MemRel pl' (M.set p m) (N.set p n) := by
  refine ⟨by rw [List.length_set, List.length_set]; exact h.1, fun i hi => ?_, hk⟩
  rw [List.length_set] at hi
  rw [getD_setM, getD_setM]
  by_cases e : p = i
  · rw [if_pos ⟨e, by omega⟩, if_pos ⟨e, by have := h.1; omega⟩]
    exact hr (by omega)
  · rw [if_neg (fun z => e z.1), if_neg (fun z => e z.1)]
    exact h.2.1 i hi
theorem MemRel.store (h : MemRel pl M N) (p : Nat) (a b : Int) : MemRel pl (M.set p ((M.getD p dMm).store a b)) (N.set p ((N.getD p dMm).store a b)) := by
  refine h.put (fun hp => (h.2.1 p hp).store a b) fun i x => ?_
  rw [getD_setM]
  by_cases e : p = i ∧ p < M.length
  · rw [if_pos e, store_keys1, e.1]
    exact h.2.2 i x
  · rw [if_neg e]
    exact h.2.2 i x
theorem Sim.up {t : Nat} {f : Th → Th} (h : Sim pl S P) : Sim pl (S.up t f) (P.up t f) := by
  obtain ⟨M, V, rfl, m, v⟩ := h
  exact ⟨M, V, rfl, m, v⟩
theorem Sim.tell {kd : Str} {t : Nat} {a : Int} {r : List Int} (h : Sim pl S P) (hk : kd ≠ "insn") : Sim pl (tell S kd t a r) (tell P kd t a r) := by
  obtain ⟨M, V, rfl, m, v⟩ := h
  refine ⟨M, V ++ [⟨kd, P.cpu, P.now, (P.th t).pid, t, a, r, (P.th t).regs, (P.mm (P.th t).pid).img⟩], ?_, m, ?_⟩
  · show MM.tell { P with mem := M, views := V } kd t a r = _
    unfold MM.tell
    show ({ P with mem := M, views := V ++ [⟨kd, P.cpu, P.now, (P.th t).pid, t, a, r, (P.th t).regs, (M.getD (P.th t).pid dMm).img⟩] } : MS) = _
    rw [m.img]
    rfl
  · show _ = (P.views ++ [_]).filter (ask pl)
    rw [List.filter_append, ← v]
    have : ask pl ⟨kd, P.cpu, P.now, (P.th t).pid, t, a, r, (P.th t).regs, (P.mm (P.th t).pid).img⟩ = true := by
      unfold ask
      rw [decide_eq_true (show kd ≠ "insn" from hk)]
      rfl
    rw [List.filter_cons, if_pos this]
    rfl
theorem Sim.tellTick (h : Sim pl S P) : Sim pl (tellTick S) (tellTick P) := by
  obtain ⟨M, V, rfl, m, v⟩ := h
  refine ⟨M, V ++ [⟨"tick", P.cpu, P.now, -1, -1, -1, [], [0, 0, 0, 0], []⟩], rfl, m, ?_⟩
  show _ = (P.views ++ [_]).filter (ask pl)
  rw [List.filter_append, ← v]
  have : ask pl ⟨"tick", P.cpu, P.now, -1, -1, -1, [], [0, 0, 0, 0], []⟩ = true := by
    unfold ask
    rw [decide_eq_true (show ("tick" : Str) ≠ "insn" by decide +kernel)]
    rfl
  rw [List.filter_cons, if_pos this]
  rfl
theorem Sim.th (h : Sim pl S P) (t : Nat) : S.th t = P.th t := by obtain ⟨M, V, rfl, _⟩ := h; rfl
theorem Sim.ths (h : Sim pl S P) : S.ths = P.ths := by obtain ⟨M, V, rfl, _⟩ := h; rfl
theorem Sim.reg (h : Sim pl S P) (t j : Nat) : reg S t j = reg P t j := by obtain ⟨M, V, rfl, _⟩ := h; rfl
theorem Sim.cpu (h : Sim pl S P) : S.cpu = P.cpu := by obtain ⟨M, V, rfl, _⟩ := h; rfl
theorem Sim.now (h : Sim pl S P) : S.now = P.now := by obtain ⟨M, V, rfl, _⟩ := h; rfl
theorem Sim.setReg {t j : Nat} {v : Int} (h : Sim pl S P) : Sim pl (setReg S t j v) (setReg P t j v) := h.up
theorem Sim.setCond {t : Nat} {c : Cond} (h : Sim pl S P) : Sim pl (setCond S t c) (setCond P t c) := h.up
theorem Sim.makeReady {t : Nat} (h : Sim pl S P) : Sim pl (makeReady S t) (makeReady P t) := by
  obtain ⟨M, V, rfl, m, v⟩ := h
  exact ⟨M, V, rfl, m, v⟩
theorem Sim.ready {l : MS → List Nat} (h : Sim pl S P) (e : l S = l P) : Sim pl { S with ready := l S } { P with ready := l P } := by
  rw [e]
  obtain ⟨M, V, rfl, m, v⟩ := h
  exact ⟨M, V, rfl, m, v⟩
theorem Sim.endRun {t : Nat} {c : Cond} (h : Sim pl S P) : Sim pl (endRun S t c) (endRun P t c) := by
  obtain ⟨M, V, rfl, m, v⟩ := h
  exact ⟨M, V, rfl, m, v⟩
theorem Sim.returnCall {t : Nat} {r : Int} (h : Sim pl S P) : Sim pl (returnCall S t r) (returnCall P t r) := by
  have h1 := (h.setReg (t := t) (j := 0) (v := r))
  have h2 : Sim pl (MM.tell (MM.setReg S t 0 r) "return" t ((MM.setReg S t 0 r).th t).callAt [((MM.setReg S t 0 r).th t).call, r]) (MM.tell (MM.setReg P t 0 r) "return" t ((MM.setReg P t 0 r).th t).callAt [((MM.setReg P t 0 r).th t).call, r]) := by
    rw [h1.th t]
    exact h1.tell (by decide +kernel)
  unfold MM.returnCall
  rw [h.th t]
  dsimp only
  split
  · exact h2
  · exact h2.makeReady
theorem Sim.fold {f : MS → Nat → MS} (hf : ∀ S P i, Sim pl S P → Sim pl (f S i) (f P i)) : ∀ (l : List Nat) (S P : MS), Sim pl S P → Sim pl (l.foldl f S) (l.foldl f P)
  | [], _, _, h => h
  | i :: l, _, _, h => Sim.fold hf l _ _ (hf _ _ i h)
theorem Sim.wakeOne {t o : Nat} {c : Int} (h : Sim pl S P) : Sim pl (wakeOne t c S o) (wakeOne t c P o) := by
  unfold MM.wakeOne
  rw [h.th o]
  split
  · exact h.returnCall
  · exact h
theorem Sim.endThread {t : Nat} {a c : Int} (h : Sim pl S P) : Sim pl (endThread S t a c) (endThread P t a c) := by
  unfold MM.endThread
  rw [h.ths]
  exact Sim.fold (f := MM.wakeOne t c) (fun _ _ _ z => z.wakeOne) _ _ _ ((h.tell (kd := "end") (by decide +kernel)).endRun)
theorem Sim.leave {t : Nat} {c : Cond} {r : Int} (h : Sim pl S P) : Sim pl (leave S t c r) (leave P t c r) := by
  have h1 := h.endRun (t := t) (c := c)
  unfold MM.leave
  dsimp only
  rw [h1.th t]
  exact h1.tell (by decide +kernel)
theorem Sim.goLast {t : Nat} {r : Int} (h : Sim pl S P) : Sim pl (goLast S t r) (goLast P t r) := by
  have h1 := h.leave (t := t) (c := .ready) (r := r)
  unfold MM.goLast
  dsimp only
  generalize MM.leave S t .ready r = S1 at h1 ⊢
  generalize MM.leave P t .ready r = P1 at h1 ⊢
  obtain ⟨M, V, rfl, m, v⟩ := h1
  exact ⟨M, V, rfl, m, v⟩
theorem Sim.addThread {p : Nat} {pc f : Int} (h : Sim pl S P) : Sim pl (addThread S p pc f) (addThread P p pc f) := by
  obtain ⟨M, V, rfl, m, v⟩ := h
  exact ⟨M, V, rfl, m, v⟩
theorem Sim.waitFor {t : Nat} {x : Int} (h : Sim pl S P) : Sim pl (waitFor S t x) (waitFor P t x) := by
  unfold MM.waitFor
  rw [h.ths, h.th x.toNat]
  split
  · exact h.returnCall
  · split
    · exact h.returnCall
    · exact h.leave
theorem Sim.doCall {t : Nat} {n a : Int} (h : Sim pl S P) : Sim pl (doCall S t n a) (doCall P t n a) := by
  unfold MM.doCall
  have h1 := h.up (t := t) (f := fun t => { t with call := n, callAt := a })
  generalize (S.up t fun t => { t with call := n, callAt := a }) = S1 at h1 ⊢
  generalize (P.up t fun t => { t with call := n, callAt := a }) = P1 at h1 ⊢
  have h2 : Sim pl (MM.tell S1 "entry" t a [n, MM.reg S1 t 0, MM.reg S1 t 1]) (MM.tell P1 "entry" t a [n, MM.reg P1 t 0, MM.reg P1 t 1]) := by
    rw [h1.reg, h1.reg]
    exact h1.tell (by decide +kernel)
  dsimp only
  generalize MM.tell S1 "entry" t a [n, MM.reg S1 t 0, MM.reg S1 t 1] = S2 at h2 ⊢
  generalize MM.tell P1 "entry" t a [n, MM.reg P1 t 0, MM.reg P1 t 1] = P2 at h2 ⊢
  rw [h2.reg, h2.reg, h2.cpu, h2.now, h2.ths, h2.th t]
  split
  · exact h2.endThread
  split
  · exact h2.returnCall.goLast
  split
  · exact h2.leave
  split
  · refine Sim.leave ?_
    obtain ⟨M, V, rfl, m, v⟩ := h2
    exact ⟨M, V, rfl, m, v⟩
  split
  · split
    · exact h2.returnCall
    · exact h2.addThread.returnCall
  split
  · exact h2.waitFor
  · exact h2.returnCall
theorem Sim.move {t : Nat} {c x y : Int} (h : Sim pl S P) : Sim pl (move S t c x y) (move P t c x y) := by
  unfold MM.move
  dsimp only
  rw [h.reg, h.reg, h.th t]
  split
  · exact h.setReg
  split
  · exact h.setReg
  split
  · exact h.setReg
  split
  · exact h.setReg
  split
  · have e : ∀ i a, (S.mm i).load a = (P.mm i).load a := fun i a => by
      obtain ⟨M, V, rfl, m, v⟩ := h
      exact m.load i a
    rw [e]
    exact h.setReg
  split
  · obtain ⟨M, V, rfl, m, v⟩ := h
    exact ⟨_, V, rfl, m.store _ _ _, v⟩
  · exact h
theorem Sim.doInsn {t : Nat} (h : Sim pl S P) : Sim pl (doInsn true S t) (doInsn false P t) := by
  unfold MM.doInsn
  have el : ∀ i a, (S.mm i).load a = (P.mm i).load a := fun i a => by
    obtain ⟨M, V, rfl, m, v⟩ := h
    exact m.load i a
  have h1 : Sim pl (if (S.mm (S.th t).pid).tells true (S.th t).pc then MM.tell S "insn" t (S.th t).pc [(S.mm (S.th t).pid).load (S.th t).pc] else S) (if (P.mm (P.th t).pid).tells false (P.th t).pc then MM.tell P "insn" t (P.th t).pc [(P.mm (P.th t).pid).load (P.th t).pc] else P) := by
    rw [el]
    obtain ⟨M, V, rfl, m, v⟩ := h
    show Sim pl (if (M.getD (P.th t).pid dMm).tells true (P.th t).pc then MM.tell { P with mem := M, views := V } "insn" t (P.th t).pc [(P.mm (P.th t).pid).load (P.th t).pc] else { P with mem := M, views := V }) (MM.tell P "insn" t (P.th t).pc [(P.mm (P.th t).pid).load (P.th t).pc])
    have hk : (M.getD (P.th t).pid dMm).tells true (P.th t).pc = true ↔ (((P.th t).pid : Int), (P.th t).pc) ∈ pl := by
      rw [← m.2.2]
      exact lookup_mem
    generalize (P.mm (P.th t).pid).load (P.th t).pc = co
    by_cases e : (M.getD (P.th t).pid dMm).tells true (P.th t).pc = true
    · rw [if_pos e]
      refine ⟨M, V ++ [⟨"insn", P.cpu, P.now, (P.th t).pid, t, (P.th t).pc, [co], (P.th t).regs, (P.mm (P.th t).pid).img⟩], ?_, m, ?_⟩
      · unfold MM.tell
        show ({ P with mem := M, views := V ++ [⟨"insn", P.cpu, P.now, (P.th t).pid, t, (P.th t).pc, [co], (P.th t).regs, (M.getD (P.th t).pid dMm).img⟩] } : MS) = _
        rw [m.img]
        rfl
      · show _ = (P.views ++ [_]).filter (ask pl)
        rw [List.filter_append, ← v]
        have : ask pl ⟨"insn", P.cpu, P.now, (P.th t).pid, t, (P.th t).pc, [co], (P.th t).regs, (P.mm (P.th t).pid).img⟩ = true := by
          unfold ask
          rw [decide_eq_true (hk.mp e), Bool.or_true]
        rw [List.filter_cons, if_pos this]
        rfl
    · rw [if_neg e]
      refine ⟨M, V, rfl, m, ?_⟩
      show _ = (P.views ++ [_]).filter (ask pl)
      rw [List.filter_append, ← v]
      have : ask pl ⟨"insn", P.cpu, P.now, (P.th t).pid, t, (P.th t).pc, [co], (P.th t).regs, (P.mm (P.th t).pid).img⟩ = false := by
        unfold ask
        rw [decide_eq_false (fun z => e (hk.mpr z)), Bool.or_false]
        exact decide_eq_false (fun z => z rfl)
      rw [List.filter_cons, if_neg (by rw [this]; exact Bool.false_ne_true), List.filter_nil, List.append_nil]
  dsimp only
  simp only [el, h.th t] at h1 ⊢
  generalize (if (S.mm (P.th t).pid).tells true (P.th t).pc then MM.tell S "insn" t (P.th t).pc [(P.mm (P.th t).pid).load (P.th t).pc] else S) = S1 at h1 ⊢
  generalize (if (P.mm (P.th t).pid).tells false (P.th t).pc then MM.tell P "insn" t (P.th t).pc [(P.mm (P.th t).pid).load (P.th t).pc] else P) = P1 at h1 ⊢
  rw [h1.th t]
  split
  · exact (h1.tell (by decide +kernel)).endThread
  split
  · exact h1.up.endThread
  split
  · exact h1.up.doCall
  split
  · exact h1.up.setReg
  · exact h1.up.move
theorem Sim.wake (h : Sim pl S P) : Sim pl (wake S) (wake P) := by
  unfold MM.wake
  rw [h.ths]
  refine Sim.fold (fun S P i z => ?_) _ _ _ h
  unfold wakeIf
  rw [z.th i, z.cpu, z.now]
  split
  · exact z.returnCall
  · exact z
theorem Sim.runs (h : Sim pl S P) : runs S = runs P := by obtain ⟨M, V, rfl, _⟩ := h; rfl
theorem Sim.beginRun {t : Nat} (h : Sim pl S P) : Sim pl (beginRun S t) (beginRun P t) := by
  unfold MM.beginRun
  have h1 : Sim pl { MM.setCond S t (.running S.cpu) with run := S.run.set S.cpu t } { MM.setCond P t (.running P.cpu) with run := P.run.set P.cpu t } := by
    obtain ⟨M, V, rfl, m, v⟩ := h
    exact ⟨M, V, rfl, m, v⟩
  generalize ({ MM.setCond S t (.running S.cpu) with run := S.run.set S.cpu t } : MS) = S1 at h1 ⊢
  generalize ({ MM.setCond P t (.running P.cpu) with run := P.run.set P.cpu t } : MS) = P1 at h1 ⊢
  dsimp only
  rw [h1.th t]
  exact h1.tell (by decide +kernel)
theorem Sim.doStep (h : Sim pl S P) : Sim pl (doStep true S) (doStep false P) := by
  unfold MM.doStep
  rw [h.runs]
  split
  · exact h.doInsn
  · have e : S.ready = P.ready := by obtain ⟨M, V, rfl, _⟩ := h; rfl
    rw [e]
    split
    · exact h
    · refine Sim.beginRun ?_
      obtain ⟨M, V, rfl, m, v⟩ := h
      exact ⟨M, V, rfl, m, v⟩
theorem Sim.doTimer (h : Sim pl S P) : Sim pl (doTimer S) (doTimer P) := by
  unfold MM.doTimer
  have h1 := h.tellTick
  dsimp only
  rw [h1.runs]
  split
  · exact h1.goLast
  · exact h1
theorem Sim.doRequest (h : Sim pl S P) : Sim pl (doRequest S) (doRequest P) := by
  unfold MM.doRequest
  have e : S.reqs = P.reqs := by obtain ⟨M, V, rfl, _⟩ := h; rfl
  have ed : S.dev = P.dev := by obtain ⟨M, V, rfl, _⟩ := h; rfl
  rw [e]
  split
  · exact h
  · rename_i tid call number r _
    dsimp only
    have h2 : Sim pl (if call = 3 then { S with reqs := r, dev := number } else { S with reqs := r } : MS) (if call = 3 then { P with reqs := r, dev := number } else { P with reqs := r } : MS) := by
      obtain ⟨M, V, rfl, m, v⟩ := h
      split
      · exact ⟨M, V, rfl, m, v⟩
      · exact ⟨M, V, rfl, m, v⟩
    generalize (if call = 3 then { S with reqs := r, dev := number } else { S with reqs := r } : MS) = S1 at h2 ⊢
    generalize (if call = 3 then { P with reqs := r, dev := number } else { P with reqs := r } : MS) = P1 at h2 ⊢
    rw [h2.th tid, ed]
    exact (h2.tell (by decide +kernel)).returnCall
theorem Sim.doPick {cpu : Nat} {what : Str} (h : Sim pl S P) : Sim pl (doPick true S cpu what) (doPick false P cpu what) := by
  unfold MM.doPick
  dsimp only
  have h0 : Sim pl (begin' S cpu) (begin' P cpu) := by
    obtain ⟨M, V, rfl, m, v⟩ := h
    exact ⟨M, V, rfl, m, v⟩
  have h1 := h0.wake
  split
  · exact h1.doStep
  split
  · exact h1.doTimer
  split
  · exact h1.doRequest
  · exact h1
/-- behind a pick the views are taken away -/
theorem Sim.clear (h : Sim pl S P) : Sim pl { S with views := [] } { P with views := [] } := by
  obtain ⟨M, V, rfl, m, v⟩ := h
  exact ⟨M, [], rfl, m, rfl⟩
theorem Sim.views (h : Sim pl S P) : S.views = P.views.filter (ask pl) := by obtain ⟨M, V, rfl, m, v⟩ := h; exact v
theorem Sim.stD (h : Sim pl S P) : stD S = stD P := by
  obtain ⟨M, V, rfl, m, v⟩ := h
  have e : M.map imgD = P.mem.map imgD := by
    refine List.ext_getElem? fun i => ?_
    rw [List.getElem?_map, List.getElem?_map]
    by_cases hi : i < M.length
    · have hi2 : i < P.mem.length := by rw [← m.1]; exact hi
      have z := m.img i
      rw [List.getD_eq_getElem?_getD, List.getD_eq_getElem?_getD, List.getElem?_eq_getElem hi, List.getElem?_eq_getElem hi2] at z
      rw [List.getElem?_eq_getElem hi, List.getElem?_eq_getElem hi2]
      show some (imgD M[i]) = some (imgD P.mem[i])
      unfold imgD
      rw [show M[i].img = P.mem[i].img from z]
    · rw [List.getElem?_eq_none (by omega), List.getElem?_eq_none (by rw [← m.1]; omega)]
  unfold MM.stD
  dsimp only
  rw [e]
end
end MM
end
section
/-! the laws' draws -/
namespace MM
open PySem PySem.Spec PyProof.Rows L2
section
variable {td ty tv : TE} {rd : V → V → Hp → VK → Prop} {nx bk ct : L2.St → Hp → Prop} {rt : V → Hp → Prop} {σ : L2.St} {H : Hp} {Q : VK}
theorem r_daug (h : td σ H fun x H1 => ty σ H1 fun y H2 => ∃ a v, x = .ref a ∧ DGet H2 a y (some v) ∧ tv σ H2 fun y2 H3 => rd v y2 H3 fun z H4 => ∃ H5, DPut H4 a y z H5 ∧ nx σ H5) : sDAug td ty tv rd ⟨nx, rt, bk, ct⟩ σ H := h
theorem r_add {i j : Int} (h : Q (.int (i + j)) H) : rAdd (.int i) (.int j) H Q := ⟨i, j, rfl, rfl, h⟩
end
/-- the drawing's dict and its row -/
def wdD (dl : PySem.Addr) (at' : Int) : List (Key × V) := [(.inr "draws", .ref dl), (.inr "at", .int at')]
def Wd (H : Hp) (pw dl : PySem.Addr) : Prop := ∃ (at' : Int) (ds : List Int), H pw = some (.dK (wdD dl at')) ∧ H dl = some (.lst (ds.map V.int)) ∧ 0 ≤ at' ∧ ds.length ≤ 1000
theorem Wd.same {H H' : Hp} {pw dl : PySem.Addr} (s : Same H H') (d : Wd H pw dl) : Wd H' pw dl := by
  obtain ⟨a, ds, e1, e2, h⟩ := d
  exact ⟨a, ds, s _ _ e1, s _ _ e2, h⟩
theorem Wd.mv {H H' : Hp} {pw dl x : PySem.Addr} (m : R.Mv x H H') (d : Wd H pw dl) (h1 : pw ≠ x) (h2 : dl ≠ x) : Wd H' pw dl := by
  obtain ⟨a, ds, e1, e2, h⟩ := d
  exact ⟨a, ds, m _ _ e1 h1, m _ _ e2 h2, h⟩
/-- pw's drawing goes on, all else stands -/
def Gw (pw dl : PySem.Addr) (H H' : Hp) : Prop := R.Mv pw H H' ∧ Wd H' pw dl
theorem Gw.trans {pw dl : PySem.Addr} {H H1 H2 : Hp} (a : Gw pw dl H H1) (b : Gw pw dl H1 H2) : Gw pw dl H H2 := ⟨a.1.trans b.1, b.2⟩
theorem Gw.sm {pw dl : PySem.Addr} {H H1 H2 : Hp} (a : Gw pw dl H H1) (s : Same H1 H2) : Gw pw dl H H2 := ⟨a.1.trans (R.Mv.of s), a.2.same s⟩
theorem Gw.refl {pw dl : PySem.Addr} {H : Hp} (d : Wd H pw dl) : Gw pw dl H H := ⟨R.Mv.refl, d⟩
theorem Wd.ne {H : Hp} {pw dl b : PySem.Addr} (d : Wd H pw dl) (h : H b = none) : b ≠ pw ∧ b ≠ dl := by
  obtain ⟨a, ds, e1, e2, _⟩ := d
  exact ⟨(ne_of_none e1 h).symm, (ne_of_none e2 h).symm⟩
def spDraws (K : PySem.W.Frag) : Sp := fun vs H Q _ => ∃ (a : PySem.Addr) (ns : List Int) (many : Int), vs = [.ref a, .int many] ∧ SqL K H a (ns.map V.int) ∧ ns.length ≤ 63 ∧ 0 ≤ many ∧ many ≤ 1000 ∧
  ∀ p (ds : List Int) H', Same H H' → H p = none → H' p = some (.lst (ds.map V.int)) → ds.length ≤ 1000 → Q (.ref p) H'
def spNext : Sp := fun vs H Q _ => ∃ (pw dl : PySem.Addr) (many : Int), vs = [.ref pw, .int many] ∧ 0 < many ∧ Wd H pw dl ∧ ∀ H' v, 0 ≤ v → v < many → Gw pw dl H H' → Q (.int v) H'
def spProg : Sp := fun vs H Q _ => ∃ (pw dl : PySem.Addr), vs = [.ref pw] ∧ Wd H pw dl ∧ ∀ H' p (ns : List Int), Gw pw dl H H' → H' p = some (.tup (ns.map V.int)) → ns.length ≤ 256 → (∀ b ∈ ns, 0 ≤ b) → Q (.ref p) H'
def Pks : List Str := ["step", "step", "step", "step", "step", "step", "timer", "device"]
def spPick : Sp := fun vs H Q _ => ∃ (pw dl : PySem.Addr) (cpus : Int), vs = [.ref pw, .int cpus] ∧ 0 < cpus ∧ Wd H pw dl ∧ ∀ H' p (c : Int) what, Gw pw dl H H' → H' p = some (.tup [.int c, .str what]) → 0 ≤ c → c < cpus → Q (.ref p) H'
theorem cut_pre {ds : List Int} {many : Int} (h0 : 0 ≤ many) (h1 : many ≤ 1000) : ∃ ds' : List Int, cutV (ds.map V.int) none (some many) = ds'.map V.int ∧ ds'.length ≤ 1000 := by
  obtain ⟨m, rfl⟩ := Int.eq_ofNat_of_zero_le h0
  refine ⟨ds.take (min m ds.length), ?_, ?_⟩
  · unfold cutV
    rw [HT.sIx_none, List.drop_zero, HT.sIx_nat, List.length_map, Nat.sub_zero, List.map_take]
  · rw [List.length_take]
    omega
end MM
namespace MM
open PySem PySem.Spec PyProof.Rows L2
theorem pickV {α : Type} {f : α → V} {xs : List α} {i : Int} (h0 : 0 ≤ i) (h1 : i < xs.length) : ∃ v ∈ xs, atI (xs.map f) i = some (f v) := by
  have h : i.toNat < xs.length := by omega
  exact ⟨xs[i.toNat], List.getElem_mem h, R.at_nat h0 (by rw [List.getElem?_map, List.getElem?_eq_getElem h]; rfl)⟩
/-- a row of numbers at a list of its own -/
structure Rw (pw dl : PySem.Addr) (H : Hp) (rl : PySem.Addr) (n : Nat) (H' : Hp) : Prop where
  g : Gw pw dl H H'
  r : ∃ ns : List Int, H' rl = some (.lst (ns.map V.int)) ∧ ns.length ≤ n ∧ ∀ b ∈ ns, 0 ≤ b
theorem Rw.ne {pw dl : PySem.Addr} {H : Hp} {rl : PySem.Addr} {n : Nat} {H' : Hp} (w : Rw pw dl H rl n H') : rl ≠ pw := fun z => by
  obtain ⟨ns, e, _⟩ := w.r
  obtain ⟨a, ds, e1, _⟩ := w.g.2
  rw [z, e1] at e
  cases e
theorem Rw.go {pw dl : PySem.Addr} {H H1 H2 : Hp} {rl : PySem.Addr} {n : Nat} (w : Rw pw dl H rl n H1) (g : Gw pw dl H1 H2) : Rw pw dl H rl n H2 := by
  have ne := w.ne
  obtain ⟨ns, e, l, b⟩ := w.r
  exact ⟨w.g.trans g, ns, g.1 _ _ e ne, l, b⟩
theorem Rw.sm {pw dl : PySem.Addr} {H H1 H2 : Hp} {rl : PySem.Addr} {n : Nat} (w : Rw pw dl H rl n H1) (s : Same H1 H2) : Rw pw dl H rl n H2 := by
  obtain ⟨ns, e, l, b⟩ := w.r
  exact ⟨w.g.sm s, ns, s _ _ e, l, b⟩
theorem Rw.mono {pw dl : PySem.Addr} {H H1 : Hp} {rl : PySem.Addr} {n m : Nat} (w : Rw pw dl H rl n H1) (h : n ≤ m) : Rw pw dl H rl m H1 := by
  obtain ⟨ns, e, l, b⟩ := w.r
  exact ⟨w.g, ns, e, Nat.le_trans l h, b⟩
/-- row + [..], a new row -/
theorem Rw.cat {pw dl : PySem.Addr} {H H1 : Hp} {rl : PySem.Addr} {n m : Nat} {Q : VK} (w : Rw pw dl H rl n H1) {b : PySem.Addr} {zs : List Int} (e : H1 b = some (.lst (zs.map V.int))) (hz : ∀ x ∈ zs, 0 ≤ x) (hm : n + zs.length ≤ m) (h1000 : m ≤ 1000)
    (h : ∀ p H2, Rw pw dl H p m H2 → Q (.ref p) H2) : rCat (.ref rl) (.ref b) H1 Q := by
  obtain ⟨ns, er, l, bb⟩ := w.r
  refine ⟨_, _, _, _, rfl, rfl, er, e, R.size_of (by rw [List.length_map, List.length_map]; omega), fun p hp => h p _ ⟨w.g.sm (R.same_new hp), ns ++ zs, ?_, ?_, ?_⟩⟩
  · rw [upd_same, List.map_append]
  · rw [List.length_append]; omega
  · intro x hx
    rcases List.mem_append.mp hx with z | z
    · exact bb x z
    · exact hz x z
end MM
end
section
/-! the law: kinds of views, places in a list -/
namespace MM
open PySem PySem.Spec PyProof.Rows L2
def KOk (S : MS) : Prop := ∀ w ∈ S.views, PyData.strOk w.kind = true
section
variable {S S' : MS}
theorem KOk.vw (h : KOk S) (e : S'.views = S.views) : KOk S' := fun w hw => h w (by rw [← e]; exact hw)
theorem KOk.tell {kd : Str} {t : Nat} {a : Int} {r : List Int} (h : KOk S) (hk : PyData.strOk kd = true) : KOk (tell S kd t a r) := fun w hw => by
  rcases List.mem_append.mp hw with z | z
  · exact h w z
  · rw [List.mem_singleton.mp z]; exact hk
theorem KOk.tellTick (h : KOk S) : KOk (tellTick S) := fun w hw => by
  rcases List.mem_append.mp hw with z | z
  · exact h w z
  · rw [List.mem_singleton.mp z]
    show PyData.strOk "tick" = true
    decide +kernel
theorem KOk.fold {f : MS → Nat → MS} (hf : ∀ S i, KOk S → KOk (f S i)) : ∀ (l : List Nat) (S : MS), KOk S → KOk (l.foldl f S)
  | [], _, h => h
  | i :: l, _, h => KOk.fold hf l _ (hf _ _ h)
theorem KOk.returnCall {t : Nat} {r : Int} (h : KOk S) : KOk (returnCall S t r) := by
  unfold MM.returnCall
  dsimp only
  have h1 : KOk (MM.tell (MM.setReg S t 0 r) "return" t ((MM.setReg S t 0 r).th t).callAt [((MM.setReg S t 0 r).th t).call, r]) := KOk.tell (h.vw rfl) (by decide +kernel)
  split
  · exact h1
  · exact h1.vw rfl
theorem KOk.wakeOne {t o : Nat} {c : Int} (h : KOk S) : KOk (wakeOne t c S o) := by
  unfold MM.wakeOne
  split
  · exact h.returnCall
  · exact h
theorem KOk.endThread {t : Nat} {a c : Int} (h : KOk S) : KOk (endThread S t a c) := by
  unfold MM.endThread
  have h1 : KOk (MM.tell S "end" t a [c]) := h.tell (by decide +kernel)
  exact KOk.fold (f := MM.wakeOne t c) (fun _ _ z => z.wakeOne) _ _ (h1.vw rfl)
theorem KOk.leave {t : Nat} {c : Cond} {r : Int} (h : KOk S) : KOk (leave S t c r) := by
  unfold MM.leave
  exact KOk.tell (h.vw rfl) (by decide +kernel)
theorem KOk.goLast {t : Nat} {r : Int} (h : KOk S) : KOk (goLast S t r) := by
  unfold MM.goLast
  exact (h.leave (t := t) (c := .ready) (r := r)).vw rfl
theorem KOk.waitFor {t : Nat} {x : Int} (h : KOk S) : KOk (waitFor S t x) := by
  unfold MM.waitFor
  split
  · exact h.returnCall
  · split
    · exact h.returnCall
    · exact h.leave
theorem KOk.doCall {t : Nat} {n a : Int} (h : KOk S) : KOk (doCall S t n a) := by
  unfold MM.doCall
  have h1 : KOk (S.up t fun t => { t with call := n, callAt := a }) := h.vw rfl
  generalize (S.up t fun t => { t with call := n, callAt := a }) = S1 at h1 ⊢
  have h2 : KOk (MM.tell S1 "entry" t a [n, MM.reg S1 t 0, MM.reg S1 t 1]) := h1.tell (by decide +kernel)
  dsimp only
  generalize MM.tell S1 "entry" t a [n, MM.reg S1 t 0, MM.reg S1 t 1] = S2 at h2 ⊢
  split
  · exact h2.endThread
  split
  · exact h2.returnCall.goLast
  split
  · exact h2.leave
  split
  · exact KOk.leave (h2.vw rfl)
  split
  · split
    · exact h2.returnCall
    · exact KOk.returnCall (h2.vw rfl)
  split
  · exact h2.waitFor
  · exact h2.returnCall
theorem KOk.move {t : Nat} {c x y : Int} (h : KOk S) : KOk (move S t c x y) := by
  unfold MM.move
  dsimp only
  repeat' split
  all_goals exact h.vw rfl
theorem KOk.doInsn {kd : Bool} {t : Nat} (h : KOk S) : KOk (doInsn kd S t) := by
  unfold MM.doInsn
  dsimp only
  have h1 : KOk (if (S.mm (S.th t).pid).tells kd (S.th t).pc then MM.tell S "insn" t (S.th t).pc [(S.mm (S.th t).pid).load (S.th t).pc] else S) := by
    split
    · exact h.tell (by decide +kernel)
    · exact h
  generalize (if (S.mm (S.th t).pid).tells kd (S.th t).pc then MM.tell S "insn" t (S.th t).pc [(S.mm (S.th t).pid).load (S.th t).pc] else S) = S1 at h1 ⊢
  split
  · exact (h1.tell (by decide +kernel)).endThread
  split
  · exact KOk.endThread (h1.vw rfl)
  split
  · exact KOk.doCall (h1.vw rfl)
  split
  · exact h1.vw rfl
  · exact KOk.move (h1.vw rfl)
theorem KOk.wake (h : KOk S) : KOk (wake S) := by
  unfold MM.wake
  refine KOk.fold (fun S i z => ?_) _ _ h
  unfold wakeIf
  split
  · exact z.returnCall
  · exact z
theorem KOk.beginRun {t : Nat} (h : KOk S) : KOk (beginRun S t) := by
  unfold MM.beginRun
  exact KOk.tell (h.vw rfl) (by decide +kernel)
theorem KOk.doStep {kd : Bool} (h : KOk S) : KOk (doStep kd S) := by
  unfold MM.doStep
  split
  · exact h.doInsn
  · split
    · exact h
    · exact KOk.beginRun (h.vw rfl)
theorem KOk.doTimer (h : KOk S) : KOk (doTimer S) := by
  unfold MM.doTimer
  have h1 := h.tellTick
  dsimp only
  split
  · exact h1.goLast
  · exact h1
theorem KOk.doRequest (h : KOk S) : KOk (doRequest S) := by
  unfold MM.doRequest
  split
  · exact h
  · rename_i tid call number r _
    dsimp only
    have h2 : KOk (if call = 3 then { S with reqs := r, dev := number } else { S with reqs := r } : MS) := by
      split
      · exact h.vw rfl
      · exact h.vw rfl
    exact (h2.tell (by decide +kernel)).returnCall
theorem KOk.doPick {kd : Bool} {cpu : Nat} {what : Str} (h : KOk S) : KOk (doPick kd S cpu what) := by
  unfold MM.doPick
  dsimp only
  have h1 : KOk (MM.wake (begin' S cpu)) := KOk.wake (h.vw rfl)
  split
  · exact h1.doStep
  split
  · exact h1.doTimer
  split
  · exact h1.doRequest
  · exact h1
theorem KOk.nil (h : S.views = []) : KOk S := fun w hw => by rw [h] at hw; cases hw
end
/-- places -/
def prD (p : Int × Int) : PyData := .tuple [.int p.1, .int p.2]
theorem sh_pr (p : Int × Int) : D.Sh 1 (prD p) := .tup (.cons (.int _) (.cons (.int _) .nil))
theorem sh_prs (l : List (Int × Int)) : D.Sh 2 (.list (l.map prD)) := .lst fun y hy => by
  obtain ⟨m, _, e⟩ := List.mem_map.mp hy
  rw [← e]; exact sh_pr m
theorem inj_pr {p q : Int × Int} : prD p = prD q ↔ p = q := by
  obtain ⟨a, b⟩ := p
  obtain ⟨c, d⟩ := q
  simp only [prD, PyData.tuple.injEq, List.cons.injEq, PyData.int.injEq, and_true, Prod.mk.injEq]
theorem any_pr {pl : List (Int × Int)} {p : Int × Int} : ((pl.map prD).any fun z => PyData.eqv z (prD p)) = decide (p ∈ pl) := by
  rw [Bool.eq_iff_iff, List.any_eq_true, decide_eq_true_iff]
  constructor
  · rintro ⟨z, hz, e⟩
    obtain ⟨q, hq, rfl⟩ := List.mem_map.mp hz
    rw [D.eqv_nb _ _ (sh_pr q).n (sh_pr p).n, inj_pr] at e
    rw [← e]; exact hq
  · intro h
    exact ⟨prD p, List.mem_map_of_mem h, (D.eqv_nb _ _ (sh_pr p).n (sh_pr p).n).mpr rfl⟩
/-- a list of places -/
def PlAt (H : Hp) (l : PySem.Addr) (pl : List (Int × Int)) : Prop := ∃ ps : List PySem.Addr, H l = some (.lst (ps.map V.ref)) ∧ All2 (PrAt H) ps pl
theorem PlAt.same {H H' : Hp} (s : Same H H') {l : PySem.Addr} {pl : List (Int × Int)} (h : PlAt H l pl) : PlAt H' l pl := by
  obtain ⟨ps, e, al⟩ := h
  exact ⟨ps, s _ _ e, al.imp fun _ _ z => s _ _ z⟩
theorem PlAt.dp {K : PySem.W.Frag} {H : Hp} {l : PySem.Addr} {pl : List (Int × Int)} (h : PlAt H l pl) : Dp K H (.ref l) (.list (pl.map prD)) := by
  obtain ⟨ps, e, al⟩ := h
  exact .lst (R.sqL e) (dp_all2 (fun _ _ z => dp_pr z) al)
theorem r_inPr {K : PySem.W.Frag} {H : Hp} {Q : VK} {l x : PySem.Addr} {pl : List (Int × Int)} {p : Int × Int} (h : PlAt H l pl) (hx : H x = some (.tup [.int p.1, .int p.2])) (q : Q (.bl (decide (p ∈ pl))) H) : rInD K (.ref x) (.ref l) H Q :=
  ⟨prD p, pl.map prD, dp_pr hx, h.dp, (sh_pr p).shaped (by decide), (sh_prs pl).shaped (by decide), by rw [any_pr]; exact q⟩
theorem r_ninPr {K : PySem.W.Frag} {H : Hp} {Q : VK} {l x : PySem.Addr} {pl : List (Int × Int)} {p : Int × Int} (h : PlAt H l pl) (hx : H x = some (.tup [.int p.1, .int p.2])) (q : Q (.bl (!decide (p ∈ pl))) H) : rNotInD K (.ref x) (.ref l) H Q :=
  ⟨prD p, pl.map prD, dp_pr hx, h.dp, (sh_pr p).shaped (by decide), (sh_prs pl).shaped (by decide), by rw [any_pr]; exact q⟩
/-- the views asked for -/
def spAsked : Sp := fun vs H Q _ => ∃ (v l : PySem.Addr) (vw : List PySem.Addr) (ws : List Vw) (pl : List (Int × Int)), vs = [.ref v, .ref l] ∧ H v = some (.lst (vw.map V.ref)) ∧ All2 (VwAt H) vw ws ∧ ws.length ≤ 70000 ∧ PlAt H l pl ∧
  ∀ D vw' H', Same H H' → H D = none → H' D = some (.lst (vw'.map V.ref)) → All2 (VwAt H') vw' (ws.filter (ask pl)) → Q (.ref D) H'
theorem take_filter {α : Type} {l : List α} {i : Nat} {x : α} {f : α → Bool} (h : l[i]? = some x) : (l.take (i + 1)).filter f = (l.take i).filter f ++ (if f x = true then [x] else []) := by
  rw [take_snoc h, List.filter_append, List.filter_cons, List.filter_nil]
theorem vw_same {H H' : Hp} (s : Same H H') {a : PySem.Addr} {w : Vw} (h : VwAt H a w) : VwAt H' a w := h.keep fun b xs e => s _ _ e
section
variable {tl : TE} {tb : TS} {g : TG} {σ : L2.St} {H : Hp} {nx bk ct : L2.St → Hp → Prop} {rt : V → Hp → Prop} {j : Nat} {K : PySem.W.Frag}
theorem r_forL (h : tl σ H fun x H1 => ∃ a, x = .ref a ∧ (∃ xs, SqL K H1 a xs) ∧ FW (Itl K a) g tb nx rt σ H1) : tFor (iList K tl) g tb ⟨nx, rt, bk, ct⟩ σ H := h
theorem for_list {a : PySem.Addr} {xs : List V} (Pv : Nat → L2.St → Hp → Prop) (h0 : Pv 0 σ H) (hG : ∀ i σ H, Pv i σ H → SqL K H a xs)
    (hs : ∀ i v σ H, xs[i]? = some v → Pv i σ H → tb ⟨Pv (i + 1), rt, nx, Pv (i + 1)⟩ (σ.set j (some v)) H) (hd : ∀ σ H, Pv xs.length σ H → nx σ H) :
    FW (Itl K a) (gName j) tb nx rt σ H := by
  refine for_it (D := ⟨nx, rt, fun _ _ => False, fun _ _ => False⟩) (walk_list (xs := xs)) Pv h0 (fun i σ H _ p => hG i σ H p) (fun i x σ H H' hi p y => ?_) hd
  obtain ⟨rfl, e⟩ := y
  exact hs i x σ _ e p
end
end MM
end
section
namespace MM
open PySem PySem.Spec PyProof.Rows L2
theorem Sim.raw {pl : List (Int × Int)} {S P : MS} (h : Sim pl S P) {i : Nat} (hi : i < P.mem.length) : i < S.mem.length ∧ (S.mm i).cells.length = 256 ∧ (P.mm i).img.length = 256 ∧
    ∀ j : Nat, j < 256 → (S.mm i).cells.getD j 0 = if ((i : Int), (j : Int)) ∈ pl then 255 else (P.mm i).img.getD j 0 := by
  obtain ⟨M, V, rfl, m, v⟩ := h
  have hi' : i < M.length := by rw [m.1]; exact hi
  have r := m.2.1 i hi'
  have ep : (P.mm i).img = (P.mm i).cells := r.pimg
  refine ⟨hi', r.ml, by rw [ep]; exact r.pl, fun j hj => ?_⟩
  rw [ep]
  have z := r.raw hj
  have k := m.2.2 i (j : Int)
  show (M.getD i dMm).cells.getD j 0 = _
  rw [z]
  by_cases e : ((i : Int), (j : Int)) ∈ pl
  · rw [if_pos e, if_pos (k.mpr e)]
  · rw [if_neg e, if_neg (fun q => e (k.mp q))]
    rfl
theorem ints_at {l : List Int} {n j : Nat} (hl : l.length = n) (hj : j < n) : atI (l.map V.int) (j : Int) = some (.int (l.getD j 0)) := by
  refine atI_nat ?_
  rw [List.getElem?_map, getD_some (by omega)]
  rfl
end MM
theorem op_eqDK {X : L2.Cx} {K0 : PySem.W.Frag} (hK : X.K = K0) (hu : X.A.units + 64 < PySem.cLine) : L2.OpR X (PySem.compareOp .Eq) (L2.rEqD K0) := hK ▸ L2.op_eqD hu
theorem op_neDK {X : L2.Cx} {K0 : PySem.W.Frag} (hK : X.K = K0) (hu : X.A.units + 64 < PySem.cLine) : L2.OpR X (PySem.compareOp .NotEq) (L2.rNeD K0) := hK ▸ L2.op_neD hu
end
section
/-! list(zip(a, b)) of two tuples -/
namespace Zl
open PySem PySem.Spec PyProof.Rows L2
section
variable {P : Program} {w : World} {A : Around} {E : Value → Shared → Prop} {s : Shared} {z TI TO T u1 u2 a b : Addr} {f : Bool} {oT : Obj} {k : Nat} {xs ys : Array Value} {x y : Value}
/-- the zip's next while what it gave out last is still there -/
theorem held_item {Q : Value → Shared → Prop} (D : ZipApart z TI TO u1 u2 a b) (hz : IsZipHeld s.heap z TI TO T f) (hT : s.heap.get? T = some oT) (hI : IsPair s.heap TI (.ref u1) (.ref u2))
    (h1 : s.heap.IsTupleIter u1 a k) (h2 : s.heap.IsTupleIter u2 b k) (ha : s.heap.IsTuple a xs) (hb : s.heap.IsTuple b ys) (hx : xs[k]? = some x) (hy : ys[k]? = some y)
    (go : ∀ h', IsZipHeld h' z TI TO T true → h'.IsTupleIter u1 a (k + 1) → h'.IsTupleIter u2 b (k + 1) → IsPair h' s.heap.objs.size x y → h'.objs.size = s.heap.objs.size + 1 →
      (∀ c o, c ≠ z → c ≠ u1 → c ≠ u2 → s.heap.get? c = some o → h'.get? c = some o) → Q (.ref s.heap.objs.size) { s with heap := h' }) :
    wpAny (model P w) A (Builtin.«zip.__next__» ⟨[.ref z], []⟩) (fun fin s' => ∃ v, fin = .done (.ret v) ∧ Q v s') E s := by
  show wpAny _ _ (field (.ref z) 2 >>= _) _ _ s
  refine wpAny_bind (wpAny_field hz rfl (x := Value.bool false) rfl ?_)
  show wpAny _ _ (field (.ref z) 3 >>= _) _ _ s
  refine wpAny_bind (wpAny_field hz rfl (x := Value.ref TI) rfl (wpAny_bind (wpAny_seqItems hI rfl ?_)))
  show wpAny _ _ (Builtin.SmallTypes.ownedTupleIsFree (.ref z) >>= _) _ _ s
  refine wpAny_bind (wpAny_tupleHeld_zip hz hT fun g1 z1 b1 => ?_)
  simp only [Bool.false_eq_true, if_false]
  refine wpAny_bind ?_
  rw [← Array.forIn_toList]
  simp only [List.forIn_cons, List.forIn_nil]
  refine wpAny_bind (wpAny_bind (wpAny_holding ?_))
  show wpAny _ _ (Builtin.SmallTypes.nextOf (.ref u1) >>= _) _ _ _
  refine wpAny_bind (RZ.nextOf_tuple_item (s := { s with heap := g1 }) (h1.extBut b1.extBut D.i1z) (ha.extBut b1.extBut D.l1z) hx fun g2 p2 b2 => wpAny_pure (wpAny_pure ?_))
  refine wpAny_bind (wpAny_bind (wpAny_holding ?_))
  show wpAny _ _ (Builtin.SmallTypes.nextOf (.ref u2) >>= _) _ _ _
  refine wpAny_bind (RZ.nextOf_tuple_item (s := { s with heap := g2 }) ((h2.extBut b1.extBut D.i2z).extBut b2.extBut D.i12.symm) ((hb.extBut b1.extBut D.l2z).extBut b2.extBut D.l2i1) hy fun g3 p3 b3 => wpAny_pure (wpAny_pure (wpAny_pure ?_)))
  show wpAny _ _ (newTuple [x, y] >>= _) _ _ _
  refine wpAny_bind (wpAny_newTuple ?_)
  have sz : g3.objs.size = s.heap.objs.size := by rw [b3.1, b2.1, b1.1]
  have z3 : IsZipHeld g3 z TI TO T true := b3.extBut _ _ D.i2z.symm (b2.extBut _ _ D.i1z.symm z1)
  have kp : ∀ c o, c ≠ z → c ≠ u1 → c ≠ u2 → s.heap.get? c = some o → g3.get? c = some o := fun c o n1 n2 n3 e => b3.extBut _ _ n3 (b2.extBut _ _ n2 (b1.extBut _ _ n1 e))
  have q3 : g3.IsTupleIter u1 a (k + 1) := p2.extBut b3.extBut D.i12
  refine wpAny_pure ⟨_, rfl, ?_⟩
  show Q (.ref g3.objs.size) _
  have pr : IsPair (g3.push { cls := .type "tuple", data := .seq #[x, y] }) g3.objs.size x y := Heap.get?_push_size _ rfl
  have s4 : (g3.push { cls := .type "tuple", data := .seq #[x, y] }).objs.size = g3.objs.size + 1 := Heap.size_push ..
  rw [sz] at pr s4 ⊢
  exact go _ (Heap.get?_push_of_some _ z3) (q3.at fun o e => Heap.get?_push_of_some _ e) (p3.at fun o e => Heap.get?_push_of_some _ e) pr s4 fun c o n1 n2 n3 e => Heap.get?_push_of_some _ (kp c o n1 n2 n3 e)
theorem held_end {Q : Fin → Shared → Prop} (hh : A.handled = none) (D : ZipApart z TI TO u1 u2 a b) (hz : IsZipHeld s.heap z TI TO T f) (hT : s.heap.get? T = some oT) (hI : IsPair s.heap TI (.ref u1) (.ref u2))
    (h1 : s.heap.IsTupleIter u1 a k) (h2 : s.heap.IsTupleIter u2 b k) (ha : s.heap.IsTuple a xs) (hb : s.heap.IsTuple b ys) (hend : xs[k]? = none ∨ ys[k]? = none)
    (go : ∀ h' e, (∀ c o, c ≠ z → c ≠ u1 → c ≠ u2 → s.heap.get? c = some o → h'.get? c = some o) → (∃ o, h'.get? e = some o ∧ o.cls = .type "StopIteration") → E (.ref e) { s with heap := h' }) :
    wpAny (model P w) A (Builtin.«zip.__next__» ⟨[.ref z], []⟩) Q E s := by
  show wpAny _ _ (field (.ref z) 2 >>= _) _ _ s
  refine wpAny_bind (wpAny_field hz rfl (x := Value.bool false) rfl ?_)
  show wpAny _ _ (field (.ref z) 3 >>= _) _ _ s
  refine wpAny_bind (wpAny_field hz rfl (x := Value.ref TI) rfl (wpAny_bind (wpAny_seqItems hI rfl ?_)))
  show wpAny _ _ (Builtin.SmallTypes.ownedTupleIsFree (.ref z) >>= _) _ _ s
  refine wpAny_bind (wpAny_tupleHeld_zip hz hT fun g1 z1 b1 => ?_)
  simp only [Bool.false_eq_true, if_false]
  refine wpAny_bind ?_
  rw [← Array.forIn_toList]
  simp only [List.forIn_cons, List.forIn_nil]
  refine wpAny_bind (wpAny_bind (wpAny_holding ?_))
  show wpAny _ _ (Builtin.SmallTypes.nextOf (.ref u1) >>= _) _ _ _
  cases hx : xs[k]? with
  | none =>
    exact wpAny_bind (RZ.nextOf_tuple_end (s := { s with heap := g1 }) hh (h1.extBut b1.extBut D.i1z) (ha.extBut b1.extBut D.l1z) hx fun g2 e b2 he => go g2 e (fun c o n1 n2 _ q => b2 _ _ n2 (b1.extBut _ _ n1 q)) he)
  | some x =>
    have hy : ys[k]? = none := hend.elim (fun h => by rw [hx] at h; cases h) id
    refine wpAny_bind (RZ.nextOf_tuple_item (s := { s with heap := g1 }) (h1.extBut b1.extBut D.i1z) (ha.extBut b1.extBut D.l1z) hx fun g2 p2 b2 => wpAny_pure (wpAny_pure ?_))
    refine wpAny_bind (wpAny_bind (wpAny_holding ?_))
    show wpAny _ _ (Builtin.SmallTypes.nextOf (.ref u2) >>= _) _ _ _
    exact wpAny_bind (RZ.nextOf_tuple_end (s := { s with heap := g2 }) hh ((h2.extBut b1.extBut D.i2z).extBut b2.extBut D.i12.symm) ((hb.extBut b1.extBut D.l2z).extBut b2.extBut D.l2i1) hy fun g3 e b3 he => go g3 e (fun c o n1 n2 n3 q => b3 _ _ n3 (b2.extBut _ _ n2 (b1.extBut _ _ n1 q))) he)
/-- how a zip stands at turn i -/
def ZSt (h : Heap) (z TI TO u1 u2 a b S : Addr) (i : Nat) : Prop := IsPair h TI (.ref u1) (.ref u2) ∧ h.IsTupleIter u1 a i ∧ h.IsTupleIter u2 b i ∧
  ((IsZip h z TI TO .none ∧ ∃ p q, IsPair h TO p q) ∨ ∃ T f oT, IsZipHeld h z TI TO T f ∧ h.get? T = some oT ∧ S < T)
theorem ZSt.type {h : Heap} {S : Addr} {i : Nat} (t : ZSt h z TI TO u1 u2 a b S i) : ∃ o, h.get? z = some o ∧ o.cls = .type "zip" := by
  rcases t.2.2.2 with ⟨e, _⟩ | ⟨T, f, oT, e, _⟩
  · exact ⟨_, e, rfl⟩
  · exact ⟨_, e, rfl⟩
theorem st_item {i : Nat} {S : Addr} {Q : Option Value → Shared → Prop} (D : ZipApart z TI TO u1 u2 a b) (zS : z < S) (Sl : S < s.heap.objs.size) (t : ZSt s.heap z TI TO u1 u2 a b S i) (ha : s.heap.IsTuple a xs) (hb : s.heap.IsTuple b ys) (hx : xs[i]? = some x) (hy : ys[i]? = some y)
    (go : ∀ h', ZSt h' z TI TO u1 u2 a b S (i + 1) → IsPair h' s.heap.objs.size x y → h'.objs.size = s.heap.objs.size + 1 → (∀ c o, c ≠ z → c ≠ TO → c ≠ u1 → c ≠ u2 → s.heap.get? c = some o → h'.get? c = some o) → Q (some (.ref s.heap.objs.size)) { s with heap := h' }) :
    wpAny (model P w) A (pyNext (.ref z)) Q E s := by
  obtain ⟨hI, h1, h2, ⟨hz, p, q, hO⟩ | ⟨T, f, oT, hz, hT, lt⟩⟩ := t
  · refine RZ.pyNext_zipT_item D hz hI hO h1 h2 ha hb hx hy fun h' a1 a2 a3 a4 a5 a6 a7 => go h' ⟨a7 _ _ D.TIz D.TITO D.TIi1 D.TIi2 hI, a3, a4, .inr ⟨_, false, _, a1, a5, Sl⟩⟩ a5 a6 a7
  · have ty : s.TypeIs (.ref z) "zip" := ⟨_, hz, rfl⟩
    unfold pyNext
    refine wpAny_bind (wpAny_attempt (wpAny_callSpecial?_slot (name := Str.ofString "__next__") ty PySem.F.slot_zip_next (wpAny_call_entry PySem.F.slot_zip_next ty PySem.F.entry_zip_next
      (held_item D hz hT hI h1 h2 ha hb hx hy fun h' a1 a3 a4 a5 a6 a7 => wpAny_pure (go h' ⟨a7 _ _ D.TIz D.TIi1 D.TIi2 hI, a3, a4, ?_⟩ a5 a6 fun c o n1 _ n3 n4 e => a7 c o n1 n3 n4 e)) (PySem.F.args_zip_next_1 _))))
    by_cases c1 : T = u1
    · obtain ⟨o, eo, _⟩ := a3
      exact .inr ⟨T, true, o, a1, by rw [c1]; exact eo, lt⟩
    by_cases c2 : T = u2
    · obtain ⟨o, eo, _⟩ := a4
      exact .inr ⟨T, true, o, a1, by rw [c2]; exact eo, lt⟩
    · exact .inr ⟨T, true, oT, a1, a7 _ _ (Nat.ne_of_gt (Nat.lt_trans zS lt)) c1 c2 hT, lt⟩
theorem st_end {i : Nat} {S : Addr} {Q : Option Value → Shared → Prop} (hh : A.handled = none) (D : ZipApart z TI TO u1 u2 a b) (t : ZSt s.heap z TI TO u1 u2 a b S i) (ha : s.heap.IsTuple a xs) (hb : s.heap.IsTuple b ys) (hend : xs[i]? = none ∨ ys[i]? = none)
    (go : ∀ h', (∀ c o, c ≠ z → c ≠ TO → c ≠ u1 → c ≠ u2 → s.heap.get? c = some o → h'.get? c = some o) → Q none { s with heap := h' }) : wpAny (model P w) A (pyNext (.ref z)) Q E s := by
  obtain ⟨hI, h1, h2, ⟨hz, p, q, hO⟩ | ⟨T, f, oT, hz, hT, lt⟩⟩ := t
  · exact RZ.pyNext_zipT_end hh D hz hI hO h1 h2 ha hb hend go
  · have ty : s.TypeIs (.ref z) "zip" := ⟨_, hz, rfl⟩
    unfold pyNext
    refine wpAny_bind (wpAny_attempt (wpAny_callSpecial?_slot (name := Str.ofString "__next__") ty PySem.F.slot_zip_next (wpAny_call_entry PySem.F.slot_zip_next ty PySem.F.entry_zip_next
      (held_end hh D hz hT hI h1 h2 ha hb hend fun h' e kp he => ?_) (PySem.F.args_zip_next_1 _))))
    obtain ⟨o, ho, hc⟩ := he
    exact wpAny_bind (wpAny_isInstance (T := "StopIteration") (b := true) ⟨o, ho, hc⟩ isSubtype_stop (wpAny_pure (go _ fun c o n1 _ n3 n4 e => kp c o n1 n3 n4 e)))
end
/-- the pairs made so far -/
structure Prs (xs ys : Array Value) (lo : Addr) (h : Heap) (ts : List Addr) : Prop where
  rise : ts.Pairwise (· < ·)
  above : ∀ t ∈ ts, lo < t
  at' : ∀ (j : Nat) (t : Addr), ts[j]? = some t → ∃ x y, xs[j]? = some x ∧ ys[j]? = some y ∧ IsPair h t x y
theorem Prs.keep {xs ys : Array Value} {lo : Addr} {h h' : Heap} {ts : List Addr} (p : Prs xs ys lo h ts) (kp : ∀ c o, lo < c → h.get? c = some o → h'.get? c = some o) : Prs xs ys lo h' ts :=
  ⟨p.rise, p.above, fun j t e => by
    obtain ⟨x, y, e1, e2, e3⟩ := p.at' j t e
    exact ⟨x, y, e1, e2, kp _ _ (p.above _ (List.mem_of_getElem? e)) e3⟩⟩
theorem Prs.low {xs ys : Array Value} {lo lo' : Addr} {h : Heap} {ts : List Addr} (p : Prs xs ys lo h ts) (hl : lo' ≤ lo) : Prs xs ys lo' h ts := ⟨p.rise, fun t ht => Nat.lt_of_le_of_lt hl (p.above t ht), p.at'⟩
theorem Prs.add {xs ys : Array Value} {lo : Addr} {h : Heap} {ts : List Addr} {n : Addr} {x y : Value} (p : Prs xs ys lo h ts) (hn : ∀ t ∈ ts, t < n) (hl : lo < n) (ex : xs[ts.length]? = some x) (ey : ys[ts.length]? = some y) (e : IsPair h n x y) : Prs xs ys lo h (ts ++ [n]) := by
  refine ⟨List.pairwise_append.mpr ⟨p.rise, List.pairwise_singleton _ _, fun t ht u hu => by rw [List.mem_singleton.mp hu]; exact hn t ht⟩, fun t ht => ?_, fun j t e' => ?_⟩
  · rcases List.mem_append.mp ht with q | q
    · exact p.above t q
    · rw [List.mem_singleton.mp q]; exact hl
  · by_cases c : j < ts.length
    · rw [List.getElem?_append_left c] at e'
      exact p.at' j t e'
    · rw [List.getElem?_append_right (by omega)] at e'
      by_cases c2 : j = ts.length
      · rw [c2, Nat.sub_self] at e'
        have e' : n = t := by simpa using e'
        rw [← e', c2]
        exact ⟨x, y, ex, ey, e⟩
      · rw [List.getElem?_eq_none (by rw [List.length_singleton]; omega)] at e'
        cases e'
theorem Prs.lt {xs ys : Array Value} {lo : Addr} {h : Heap} {ts : List Addr} (p : Prs xs ys lo h ts) {t : Addr} (ht : t ∈ ts) : t < h.objs.size := by
  obtain ⟨j, e⟩ := List.mem_iff_getElem?.mp ht
  obtain ⟨_, _, _, _, q⟩ := p.at' j t e
  exact Heap.lt_size q
end Zl
end
section
/-! list(zip(a, b)): the loop, the call, the rule -/
namespace Zl
open PySem PySem.Spec PyProof.Rows L2
theorem zip_no_len : typeLookup (.type "zip") "__len__" = pure none := by rw [typeLookup_type, builtinLookup_eq_fast]; kernel_rfl
theorem zip_no_hint : typeLookup (.type "zip") "__length_hint__" = pure none := by rw [typeLookup_type, builtinLookup_eq_fast]; kernel_rfl
section
variable {P : Program} {w : World} {A : Around} {E : Value → Shared → Prop} {s : Shared} {R : Result → Shared → Prop} {z TI TO u1 u2 a b S : Addr} {xs ys : Array Value}
theorem ZSt.keep {h h' : Heap} {i : Nat} (t : ZSt h z TI TO u1 u2 a b S i) (hS : u1 < S ∧ u2 < S ∧ TI < S ∧ TO < S ∧ z < S) (kp : ∀ c o, c ≠ S → h.get? c = some o → h'.get? c = some o) : ZSt h' z TI TO u1 u2 a b S i := by
  obtain ⟨hI, h1, h2, h3⟩ := t
  obtain ⟨g1, g2, g3, g4, g5⟩ := hS
  refine ⟨kp _ _ (Nat.ne_of_lt g3) hI, h1.at fun o e => kp _ o (Nat.ne_of_lt g1) e, h2.at fun o e => kp _ o (Nat.ne_of_lt g2) e, ?_⟩
  rcases h3 with ⟨e, p, q, e2⟩ | ⟨T, f, oT, e, e2, lt⟩
  · exact .inl ⟨kp _ _ (Nat.ne_of_lt g5) e, p, q, kp _ _ (Nat.ne_of_lt g4) e2⟩
  · exact .inr ⟨T, f, oT, kp _ _ (Nat.ne_of_lt g5) e, kp _ _ (Nat.ne_of_gt lt) e2, lt⟩
theorem loop {n : Nat} (hh : A.handled = none) (D : ZipApart z TI TO u1 u2 a b) (hS : u1 < S ∧ u2 < S ∧ TI < S ∧ TO < S ∧ z < S) (haS : a ≠ S) (hbS : b ≠ S) (hn : n = min xs.size ys.size) (hn2 : n ≤ sizeLine) (res : Value) {h₁ : Heap}
    (go : ∀ h' tk acc c ts, (∀ b o, b ≠ S → b ≠ z → b ≠ TO → b ≠ u1 → b ≠ u2 → h₁.get? b = some o → h'.get? b = some o) → h'.get? S = some { cls := .type "list", dict := none, data := .seq acc c, slots := #[] } → ts.length = n → Prs xs ys S h' ts →
      acc.toList = ts.map Value.ref → R (.ok (.ret res)) { s with heap := h', toks := tk }) :
    ∀ (k i : Nat) (h : Heap) (tk c : Nat) (acc : Array Value) (ts : List Addr), n - i = k → i ≤ n → ZSt h z TI TO u1 u2 a b S i → h.IsTuple a xs → h.IsTuple b ys → (∀ b o, b ≠ S → b ≠ z → b ≠ TO → b ≠ u1 → b ≠ u2 → h₁.get? b = some o → h.get? b = some o) →
      h.get? S = some { cls := .type "list", dict := none, data := .seq acc c, slots := #[] } → acc.toList = ts.map Value.ref → ts.length = i → Prs xs ys S h ts →
      codeAny (model P w) A (.builtin "list.extend.loop" ⟨[.ref S, .ref z, res], []⟩) R { s with heap := h, toks := tk } := by
  have big : ∀ c : Addr, S < c → c ≠ S ∧ c ≠ z ∧ c ≠ TO ∧ c ≠ u1 ∧ c ≠ u2 := fun c hc => ⟨Nat.ne_of_gt hc, Nat.ne_of_gt (Nat.lt_trans hS.2.2.2.2 hc), Nat.ne_of_gt (Nat.lt_trans hS.2.2.2.1 hc), Nat.ne_of_gt (Nat.lt_trans hS.1 hc), Nat.ne_of_gt (Nat.lt_trans hS.2.1 hc)⟩
  have Sz : S ≠ z ∧ S ≠ TO ∧ S ≠ u1 ∧ S ≠ u2 := ⟨Nat.ne_of_gt hS.2.2.2.2, Nat.ne_of_gt hS.2.2.2.1, Nat.ne_of_gt hS.1, Nat.ne_of_gt hS.2.1⟩
  intro k
  induction k with
  | zero =>
    intro i h tk c acc ts hk hi st ha hb keep eS hacc hl pr
    have e0 : i = n := by omega
    refine codeAny_builtin PySem.F.entry_extend_loop ?_
    rw [Around.under_plainId PySem.F.plain_extend_loop _]
    show wpAny _ A.in1 (pyNext (.ref z) >>= _) _ _ _
    refine wpAny_bind (st_end (s := { s with heap := h, toks := tk }) (A := A.in1) hh D st ha hb ?_ fun h' kp => ?_)
    · rcases Nat.le_total xs.size ys.size with q | q
      · exact .inl (Array.getElem?_eq_none (by omega))
      · exact .inr (Array.getElem?_eq_none (by omega))
    · exact wpAny_pure (go h' tk acc c ts (fun c o n1 n2 n3 n4 n5 e => kp c o n2 n3 n4 n5 (keep c o n1 n2 n3 n4 n5 e)) (kp _ _ Sz.1 Sz.2.1 Sz.2.2.1 Sz.2.2.2 eS) (by omega) (pr.keep fun c o hc e => kp c o (big c hc).2.1 (big c hc).2.2.1 (big c hc).2.2.2.1 (big c hc).2.2.2.2 e) hacc)
  | succ k ih =>
    intro i h tk c acc ts hk hi st ha hb keep eS hacc hl pr
    have lt : i < n := by omega
    have ex : xs[i]? = some xs[i] := Array.getElem?_eq_getElem (by omega)
    have ey : ys[i]? = some ys[i] := Array.getElem?_eq_getElem (by omega)
    have sz : acc.size = i := by rw [← Array.length_toList, hacc, List.length_map, hl]
    refine codeAny_builtin PySem.F.entry_extend_loop ?_
    rw [Around.under_plainId PySem.F.plain_extend_loop _]
    show wpAny _ A.in1 (pyNext (.ref z) >>= _) _ _ _
    refine wpAny_bind (st_item (s := { s with heap := h, toks := tk }) D hS.2.2.2.2 (Heap.lt_size eS) st ha hb ex ey fun h' st' pT hs' kp => ?_)
    dsimp only at pT hs' kp ⊢
    have eS' := kp S _ Sz.1 Sz.2.1 Sz.2.2.1 Sz.2.2.2 eS
    have up : ∀ b o, b ≠ S → h'.get? b = some o → (h'.update S (Obj.mapSeq (·.push (Value.ref h.objs.size)))).get? b = some o := fun b o hb e => (Heap.get?_update_other _ _ (Ne.symm hb)).trans e
    have Sl : S < h.objs.size := Heap.lt_size eS
    show wpAny _ A.in1 (updateSeq S (·.push (Value.ref h.objs.size)) >>= _) _ _ _
    have pr' : Prs xs ys S (h'.update S (Obj.mapSeq (·.push (Value.ref h.objs.size)))) (ts ++ [h.objs.size]) :=
      (pr.keep fun c o hc e => up c o (big c hc).1 (kp c o (big c hc).2.1 (big c hc).2.2.1 (big c hc).2.2.2.1 (big c hc).2.2.2.2 e)).add (fun t ht => pr.lt ht) Sl (by rw [hl]; exact ex) (by rw [hl]; exact ey) (up _ _ (Nat.ne_of_gt Sl) pT)
    refine wpAny_bind ?_
    refine wpAny_updateSeq eS' rfl (wpAny_pure ⟨plainId_quiet PySem.F.plain_extend_loop _, ih (i + 1) _ tk _ (acc.push (Value.ref h.objs.size)) (ts ++ [h.objs.size]) (by omega) lt (st'.keep hS up) (ha.at fun o e => up _ o haS (kp _ o D.l1z D.l1TO D.l1i1 D.l1i2 e)) (hb.at fun o e => up _ o hbS (kp _ o D.l2z D.l2TO D.l2i1 D.l2i2 e))
      (fun b o n1 n2 n3 n4 n5 e => up b o n1 (kp b o n2 n3 n4 n5 (keep b o n1 n2 n3 n4 n5 e))) (Heap.get?_update_self _ eS' rfl) (by rw [Array.toList_push, hacc, List.map_append]; rfl) (by rw [List.length_append, hl]; rfl) pr'⟩) (by rw [sz]; omega) (by show (acc.push (Value.ref h.objs.size)).size ≤ sizeLine + 1; rw [Array.size_push, sz]; omega)
theorem no_hint {Q : Bool → Shared → Prop} (hT : s.TypeIs (.ref z) "zip") (h : Q true s) : wpAny (model P w) A (Builtin.List.listLengthHint (.ref z)) Q E s := by
  unfold Builtin.List.listLengthHint
  refine wpAny_bind (wpAny_specialOf hT zip_no_len ?_)
  show wpAny _ _ (specialOf (Value.ref z) (Str.ofString "__length_hint__") >>= _) _ _ s
  exact wpAny_bind (wpAny_specialOf hT zip_no_hint (wpAny_pure h))
theorem extend {n : Nat} (hh : A.handled = none) (D : ZipApart z TI TO u1 u2 a b) (t : ZSt s.heap z TI TO u1 u2 a b S 0) (hz : IsZip s.heap z TI TO .none) (ha : s.heap.IsTuple a xs) (hb : s.heap.IsTuple b ys) (hS : u1 < S ∧ u2 < S ∧ TI < S ∧ TO < S ∧ z < S) (haS : a ≠ S) (hbS : b ≠ S)
    (hn : n = min xs.size ys.size) (hn2 : n ≤ sizeLine) (res : Value) (c₀ : Nat) (eS : s.heap.get? S = some { cls := .type "list", data := .seq #[] c₀ })
    (go : ∀ h' tk acc c ts, (∀ b o, b ≠ S → b ≠ z → b ≠ TO → b ≠ u1 → b ≠ u2 → s.heap.get? b = some o → h'.get? b = some o) → h'.get? S = some { cls := .type "list", dict := none, data := .seq acc c, slots := #[] } → ts.length = n → Prs xs ys S h' ts →
      acc.toList = ts.map Value.ref → R (.ok (.ret res)) { s with heap := h', toks := tk }) :
    wpAny (model P w) A.in1 (Builtin.List.listExtendWith (.ref S) (.ref z) res)
      (fun fin s' => match fin with | .done f => R (.ok f) s' | .again c' => c'.quiet = true ∧ codeAny (model P w) A c' R s') (fun e s' => R (.error e) s') s := by
  have key : ∀ (h : Heap) (c₁ tk : Nat), (∀ b o, b ≠ S → s.heap.get? b = some o → h.get? b = some o) → h.get? S = some { cls := .type "list", data := .seq #[] c₁ } → codeAny (model P w) A (.builtin "list.extend.loop" ⟨[.ref S, .ref z, res], []⟩) R { s with heap := h, toks := tk } := by
    intro h c₁ tk hk e1
    refine loop (s := s) (h₁ := s.heap) hh D hS haS hbS hn hn2 res go n 0 h tk c₁ #[] [] (Nat.sub_zero _) (Nat.zero_le _) (t.keep hS hk) (ha.at fun o e => hk _ o haS e) (hb.at fun o e => hk _ o hbS e) (fun b o n1 _ _ _ _ e => hk b o n1 e) e1 rfl rfl ⟨List.Pairwise.nil, (fun _ h => nomatch h), (fun j t e => by simp at e)⟩
  have ty : s.TypeIs (.ref z) "zip" := ⟨_, hz, rfl⟩
  unfold Builtin.List.listExtendWith
  refine wpAny_bind (wpAny_typeOf ty ?_)
  have n1 : Builtin.List.listSameRef (.ref S) (.ref z) = false := by
    have : S ≠ z := Nat.ne_of_gt hS.2.2.2.2
    simp [Builtin.List.listSameRef, this]
  have n2 : (Value.type "zip" == Value.type "list") = false := by decide
  have n3 : (Value.type "zip" == Value.type "tuple") = false := by decide
  simp only [n1, n2, n3, Bool.or_false, Bool.false_eq_true, if_false]
  refine wpAny_bind (wpAny_pyIter_zip hz ?_)
  refine wpAny_bind (wpAny_holding (no_hint ty ?_))
  refine wpAny_ite_split (fun _ => ?_) (fun _ => wpAny_pure ⟨plainId_quiet PySem.F.plain_extend_loop _, key _ c₀ _ (fun b o _ e => e) eS⟩)
  refine wpAny_bind (wpAny_rule (wpAny_bind ?_))
  show wpAny _ _ (updateSeq S (·.push .none) >>= fun _ => updateSeq S (·.pop)) _ _ _
  refine wpAny_bind (wpAny_updateSeq eS rfl ?_)
  have e2 := Heap.get?_update_self (Obj.mapSeq (·.push Value.none)) eS rfl
  refine wpAny_updateSeq (hz := by seq_fits) e2 rfl ?_
  have e3 := Heap.get?_update_self (Obj.mapSeq (·.pop)) e2 rfl
  exact wpAny_pure ⟨plainId_quiet PySem.F.plain_extend_loop _, key _ _ _ (fun b o n e => (Heap.get?_update_other _ _ (Ne.symm n)).trans ((Heap.get?_update_other _ _ (Ne.symm n)).trans e)) e3⟩
end
end Zl
end
section
/-! list(zip(a, b)): the call, the rule -/
namespace Zl
open PySem PySem.Spec PyProof.Rows L2
section
variable {P : Program} {w : World} {A : Around} {E : Value → Shared → Prop} {s : Shared} {R : Result → Shared → Prop} {z TI TO u1 u2 a b S : Addr} {xs ys : Array Value}
theorem ZSt.first {h h' : Heap} {S' : Addr} (hz : IsZip h z TI TO .none) (hI : IsPair h TI (.ref u1) (.ref u2)) (hO : ∃ p q, IsPair h TO p q) (h1 : h.IsTupleIter u1 a 0) (h2 : h.IsTupleIter u2 b 0) (kp : ∀ c o, c ≠ S → h.get? c = some o → h'.get? c = some o) (hS : u1 < S ∧ u2 < S ∧ TI < S ∧ TO < S ∧ z < S) : ZSt h' z TI TO u1 u2 a b S 0 := by
  obtain ⟨p, q, hO⟩ := hO
  obtain ⟨g1, g2, g3, g4, g5⟩ := hS
  exact ⟨kp _ _ (Nat.ne_of_lt g3) hI, h1.at fun o e => kp _ o (Nat.ne_of_lt g1) e, h2.at fun o e => kp _ o (Nat.ne_of_lt g2) e, .inl ⟨kp _ _ (Nat.ne_of_lt g5) hz, p, q, kp _ _ (Nat.ne_of_lt g4) hO⟩⟩
theorem init {n : Nat} (hh : A.handled = none) (D : ZipApart z TI TO u1 u2 a b) (hz : IsZip s.heap z TI TO .none) (hI : IsPair s.heap TI (.ref u1) (.ref u2)) (hO : ∃ p q, IsPair s.heap TO p q) (h1 : s.heap.IsTupleIter u1 a 0) (h2 : s.heap.IsTupleIter u2 b 0) (ha : s.heap.IsTuple a xs) (hb : s.heap.IsTuple b ys)
    (hS : u1 < S ∧ u2 < S ∧ TI < S ∧ TO < S ∧ z < S) (haS : a ≠ S) (hbS : b ≠ S) (hn : n = min xs.size ys.size) (hn2 : n ≤ sizeLine) (eS : s.heap.get? S = some { cls := .type "list", data := .seq #[] })
    (go : ∀ h' tk acc c ts, (∀ b o, b ≠ S → b ≠ z → b ≠ TO → b ≠ u1 → b ≠ u2 → s.heap.get? b = some o → h'.get? b = some o) → h'.get? S = some { cls := .type "list", dict := none, data := .seq acc c, slots := #[] } → ts.length = n → Prs xs ys S h' ts →
      acc.toList = ts.map Value.ref → R (.ok (.ret .none)) { s with heap := h', toks := tk }) :
    wpAny (model P w) A.in1 (Builtin.«list.__init__» ⟨[.ref S, .ref z], []⟩)
      (fun fin s' => match fin with | .done f => R (.ok f) s' | .again c' => c'.quiet = true ∧ codeAny (model P w) A c' R s') (fun e s' => R (.error e) s') s := by
  show wpAny _ _ (do let was ← Builtin.List.listItems (.ref S); Builtin.List.listUpdate (.ref S) (fun _ => #[]); letGo was.toList.reverse; Builtin.List.listExtendWith (.ref S) (.ref z) .none) _ _ s
  refine wpAny_bind ?_
  unfold Builtin.List.listItems
  refine wpAny_bind (wpAny_seqItems eS rfl (wpAny_pure ?_))
  show wpAny _ _ (updateSeq S (fun _ => #[]) >>= fun _ => letGo (#[] : Array Value).toList.reverse >>= fun _ => Builtin.List.listExtendWith (.ref S) (.ref z) .none) _ _ s
  refine wpAny_bind (wpAny_updateSeq eS rfl ?_)
  have e2 := Heap.get?_update_self (Obj.mapSeq (fun _ => (#[] : Array Value))) eS rfl
  have off : ∀ b o, b ≠ S → s.heap.get? b = some o → (s.heap.update S (Obj.mapSeq (fun _ => (#[] : Array Value)))).get? b = some o := fun b o hb e => (Heap.get?_update_other _ _ (Ne.symm hb)).trans e
  refine wpAny_bind (wpAny_letGo ?_)
  exact extend hh D (ZSt.first (S' := S) hz hI hO h1 h2 off hS) (off _ _ (Nat.ne_of_lt hS.2.2.2.2) hz) (ha.at fun o e => off _ o haS e) (hb.at fun o e => off _ o hbS e) hS haS hbS hn hn2 .none _ e2
    fun h' tk acc c ts hk h3 hl pr hacc => go h' tk acc c ts (fun b o n1 n2 n3 n4 n5 e => hk b o n1 n2 n3 n4 n5 (off b o n1 e)) h3 hl pr hacc
theorem call_zl {n : Nat} {Q : Value → Shared → Prop} (hh : A.handled = none) (D : ZipApart z TI TO u1 u2 a b) (hz : IsZip s.heap z TI TO .none) (hI : IsPair s.heap TI (.ref u1) (.ref u2)) (hO : ∃ p q, IsPair s.heap TO p q) (h1 : s.heap.IsTupleIter u1 a 0) (h2 : s.heap.IsTupleIter u2 b 0) (ha : s.heap.IsTuple a xs) (hb : s.heap.IsTuple b ys)
    (hn : n = min xs.size ys.size) (hn2 : n ≤ sizeLine)
    (go : ∀ h' tk acc c ts, (∀ b o, b ≠ z → b ≠ TO → b ≠ u1 → b ≠ u2 → s.heap.get? b = some o → h'.get? b = some o) → h'.get? s.heap.objs.size = some { cls := .type "list", dict := none, data := .seq acc c, slots := #[] } → ts.length = n → Prs xs ys s.heap.objs.size h' ts →
      acc.toList = ts.map Value.ref → Q (.ref s.heap.objs.size) { s with heap := h', toks := tk }) :
    wpAny (model P w) A (call (.type "list") [.ref z]) Q E s := by
  refine callType_codes (Q₁ := fun o s₁ => o = .ref s.heap.objs.size ∧ s₁ = { s with heap := s.heap.push { cls := .type "list", data := .seq #[] } }) PySem.F.called_list (PySem.F.typeCall_list_1 _) PySem.F.entry_list_init (code_list_new _ ⟨rfl, rfl⟩) fun o s₁ hs => ?_
  obtain ⟨rfl, rfl⟩ := hs
  have eS : (s.heap.push { cls := .type "list", data := .seq #[] }).get? s.heap.objs.size = some { cls := .type "list", data := .seq #[] } := Heap.get?_push_size _ rfl
  obtain ⟨o1, q1, r1⟩ := h1
  obtain ⟨o2, q2, r2⟩ := h2
  obtain ⟨o3, q3, r3⟩ := ha
  obtain ⟨o4, q4, r4⟩ := hb
  obtain ⟨p, q, hO⟩ := hO
  have up : ∀ b o, s.heap.get? b = some o → (s.heap.push { cls := .type "list", data := .seq #[] }).get? b = some o := fun b o e => Heap.get?_push_of_some _ e
  refine ⟨⟨_, eS, rfl⟩, PySem.F.args_list_init_2 _ _, init (A := A.in1) hh D (up _ _ hz) (up _ _ hI) ⟨p, q, up _ _ hO⟩ ⟨o1, up _ _ q1, r1⟩ ⟨o2, up _ _ q2, r2⟩ ⟨o3, up _ _ q3, r3⟩ ⟨o4, up _ _ q4, r4⟩
    ⟨Heap.lt_size q1, Heap.lt_size q2, Heap.lt_size hI, Heap.lt_size hO, Heap.lt_size hz⟩ (Nat.ne_of_lt (Heap.lt_size q3)) (Nat.ne_of_lt (Heap.lt_size q4)) hn hn2 eS fun h' tk acc c ts hk h3 hl pr hacc => ⟨rfl, ?_⟩⟩
  exact go h' tk acc c ts (fun b o n2 n3 n4 n5 e => hk b o (Nat.ne_of_lt (Heap.lt_size e)) n2 n3 n4 n5 (up _ _ e)) h3 hl pr hacc
end
/-- the tuples tracked at their addresses -/
def putP : Hp → List Addr → List V → List V → Hp
  | H, t :: ts, x :: xs, y :: ys => putP (upd H t (.tup [x, y])) ts xs ys
  | H, _, _, _ => H
theorem putP_off {c : Addr} : ∀ (ts : List Addr) (xs ys : List V) (H : Hp), c ∉ ts → putP H ts xs ys c = H c
  | [], _, _, _, _ => rfl
  | _ :: _, [], _, _, _ => rfl
  | _ :: _, _ :: _, [], _, _ => rfl
  | t :: ts, x :: xs, y :: ys, H, h => by
    show putP (upd H t (.tup [x, y])) ts xs ys c = H c
    rw [putP_off ts xs ys _ (fun q => h (List.mem_cons_of_mem _ q)), upd_ne (fun q => h (by rw [q]; exact List.mem_cons_self))]
theorem putP_at : ∀ (ts : List Addr) (xs ys : List V) (H : Hp), ts.Nodup → ts.length ≤ xs.length → ts.length ≤ ys.length → ∀ (j : Nat) (t : Addr), ts[j]? = some t → ∃ x y, xs[j]? = some x ∧ ys[j]? = some y ∧ putP H ts xs ys t = some (.tup [x, y])
  | [], _, _, _, _, _, _, j, t, e => by simp at e
  | _ :: _, [], _, _, _, h, _, _, _, _ => absurd h (by simp)
  | _ :: _, _ :: _, [], _, _, _, h, _, _, _ => absurd h (by simp)
  | t0 :: ts, x :: xs, y :: ys, H, nd, h1, h2, 0, t, e => by
    obtain rfl : t0 = t := by simpa using e
    refine ⟨x, y, rfl, rfl, ?_⟩
    show putP (upd H t0 (.tup [x, y])) ts xs ys t0 = _
    rw [putP_off ts xs ys _ (List.nodup_cons.mp nd).1, upd_same]
  | t0 :: ts, x :: xs, y :: ys, H, nd, h1, h2, j + 1, t, e => putP_at ts xs ys (upd H t0 (.tup [x, y])) (List.nodup_cons.mp nd).2 (by simpa using h1) (by simpa using h2) j t (by simpa using e)
end Zl
end
section
/-! list(zip(a, b)): the rule -/
namespace Zl
open PySem PySem.Spec PyProof.Rows L2
/-- what the list of pairs promises -/
def rZl (K : PySem.W.Frag) : List V → Hp → VK → Prop := fun vs H Q => ∃ (a b : Addr) (xs ys : List V), vs = [.ref a, .ref b] ∧ SqT K H a xs ∧ SqT K H b ys ∧
  ∀ H' p (ts : List Addr), Same H H' → H p = none → H' p = some (.lst (ts.map V.ref)) → ts.length = min xs.length ys.length → (∀ (j : Nat) t, ts[j]? = some t → ∃ x y, xs[j]? = some x ∧ ys[j]? = some y ∧ H' t = some (.tup [x, y])) → Q (.ref p) H'
def tZl (K : PySem.W.Frag) (ta : TA) : TE := fun σ H Q => ta σ H fun vs H1 => rZl K vs H1 Q
section
variable {X : Cx}
theorem pairs_laid {pins : List (Addr × Obj)} {σ : L2.St} {H : Hp} {s : Shared} {h' : Heap} {tk : Nat} {xs ys : List V} {us vs : List Value} {acc : Array Value} {c : Nat} {S : Addr} {ts : List Addr} (I : Inv X pins σ H s) (rx : Vals xs us) (ry : Vals ys vs) (hS : s.heap.objs.size ≤ S)
    (hk : ∀ b o, s.heap.get? b = some o → h'.get? b = some o) (eS : h'.get? S = some { cls := .type "list", dict := none, data := .seq acc c, slots := #[] }) (hl : ts.length = min xs.length ys.length) (hn : ts.length ≤ sizeLine) (pr : Prs us.toArray vs.toArray S h' ts) (hacc : acc.toList = ts.map Value.ref) :
    ∃ H' : Hp, Same H H' ∧ H S = none ∧ H' S = some (.lst (ts.map V.ref)) ∧ (∀ (j : Nat) t, ts[j]? = some t → ∃ x y, xs[j]? = some x ∧ ys[j]? = some y ∧ H' t = some (.tup [x, y])) ∧ Inv X pins σ H' { s with heap := h', toks := tk } := by
  have nS : S ∉ ts := fun q => Nat.lt_irrefl _ (pr.above _ q)
  have nd : ts.Nodup := List.Pairwise.imp (fun {p q} (l : p < q) => Nat.ne_of_lt l) pr.rise
  have fS : H S = none := I.hok.fresh hS
  have ft : ∀ t ∈ ts, H t = none := fun t ht => I.hok.fresh (Nat.le_of_lt (Nat.lt_of_le_of_lt hS (pr.above t ht)))
  have off : ∀ b, b ∉ ts → b ≠ S → putP (upd H S (.lst (ts.map V.ref))) ts xs ys b = H b := fun b n1 n2 => by rw [putP_off ts xs ys _ n1, upd_ne n2]
  have kp : ∀ b u, H b = some u → putP (upd H S (.lst (ts.map V.ref))) ts xs ys b = some u := fun b u e => by
    rw [off b (fun q => by rw [ft b q] at e; cases e) (fun q => by rw [q, fS] at e; cases e)]
    exact e
  have aS : putP (upd H S (.lst (ts.map V.ref))) ts xs ys S = some (.lst (ts.map V.ref)) := by rw [putP_off ts xs ys _ nS, upd_same]
  have at' := putP_at ts xs ys (upd H S (.lst (ts.map V.ref))) nd (by omega) (by omega)
  have low : ∀ b o, s.heap.get? b = some o → b ∉ ts ∧ b ≠ S := fun b o e => by
    have l := Heap.lt_size e
    exact ⟨fun q => absurd (Nat.lt_of_lt_of_le l hS) (Nat.lt_asymm (pr.above b q)), Nat.ne_of_lt (Nat.lt_of_lt_of_le l hS)⟩
  refine ⟨_, kp, fS, aS, at', ?_⟩
  refine I.call' (ch := []) rfl ⟨fun b o q _ _ _ => hk b o q, fun b o q _ _ _ => ⟨o.slots, hk b o q⟩, fun b o q n _ => ?_, fun b o q _ => ⟨o, hk b o q⟩, fun b l q => kp b _ q, fun b o u q => kp b _ q, fun b ps q => ⟨#[], by rw [kp b _ q]; simp⟩⟩ (fun b u q => ?_) I.bare (fun b q => by simp at q)
  · rw [off b (low b o q).1 (low b o q).2]
    exact n
  · by_cases hb : b ∈ ts
    · obtain ⟨j, ej⟩ := List.mem_iff_getElem?.mp hb
      obtain ⟨x, y, ex, ey, e3⟩ := at' j b ej
      rw [e3] at q
      cases q
      obtain ⟨u, v, eu, ev, ep⟩ := pr.at' j b ej
      obtain ⟨u', e1, ru⟩ := rx.get ex
      obtain ⟨v', e2, rv⟩ := ry.get ey
      have e1 : us[j]? = some u' := e1
      have e2 : vs[j]? = some v' := e2
      rw [List.getElem?_toArray, e1] at eu
      rw [List.getElem?_toArray, e2] at ev
      cases eu
      cases ev
      exact ⟨Nat.le_of_ble_eq_true rfl, [_, _], .cons ru (.cons rv .nil), ⟨_, ep, rfl, _, rfl⟩⟩
    · by_cases hb2 : b = S
      · subst hb2
        rw [aS] at q
        cases q
        refine ⟨by rw [List.length_map]; exact hn, acc.toList, c, by rw [hacc]; exact LiI.vals_refs ts, ?_⟩
        rw [Array.toArray_toList]
        exact eS
      · rw [off b hb hb2] at q
        exact (I.hok b u q).stay (fun d v _ y => hk d v y) (fun d y => kp d _ y) fun d l y => kp d _ y
/-- list(zip(e, e2)) of two tuples -/
theorem pe_listZip {e e2 : Expr} {ta : TA} {p p2 q pos : Pos} (hc : X.calm = true) (hg : Gl X "list") (hm : X.mg "list" = none) (hg2 : Gl X "zip") (hm2 : X.mg "zip" = none) (ha : PA X [e, e2] ta)
    (hs : starEach [e, e2] X.env = (false, eval e X.env) :: starEach [e2] X.env := by rfl) (hpl : (backTo q (starEach [e2] X.env)).any (·.1) = false := by rfl)
    (na : starEach [.Call (.Name "zip" p2) [e, e2] [] q] X.env = (false, eval (.Call (.Name "zip" p2) [e, e2] [] q) X.env) :: starEach [] X.env := by rfl) :
    PE X (.Call (.Name "list" p) [.Call (.Name "zip" p2) [e, e2] [] q] [] pos) (tZl X.K ta) := by
  refine ⟨fun pins s σ H Q I h => ?_⟩
  refine Call_ (ld_blt I hg hm boot_list ?_)
  refine PyProof.Rows.callWith_type1 (PyProof.Rows.args_cons ?_ na) na rfl
  refine Call_ (ld_blt I hg2 hm2 PyProof.Rows.boot_zip (PyProof.Rows.callWith_type1 (thn (ha.run q pins s σ H _ I h) fun ws s1 ⟨vs, H1, I1, r1, q1⟩ => ?_) hs hpl))
  obtain ⟨a, b, xs, ys, rfl, hx, hy, go⟩ := q1
  obtain ⟨w1, w2, rfl, rw1, rw2⟩ : ∃ w1 w2, ws = [w1, w2] ∧ RelV (.ref a) w1 ∧ RelV (.ref b) w2 := by
    cases r1 with
    | cons r rr => cases rr with
      | cons r' rr => cases rr; exact ⟨_, _, rfl, r, r'⟩
  cases rw1
  cases rw2
  obtain ⟨us, ru, pu, lu⟩ := I1.tuple hx
  obtain ⟨vs, rv, pv, lv⟩ := I1.tuple hy
  obtain ⟨o1, ho1, _⟩ := id pu
  obtain ⟨o2, ho2, _⟩ := id pv
  refine RZ.call_zipT (show s1.heap.IsTuple a us.toArray from pu) (show s1.heap.IsTuple b vs.toArray from pv) fun h1 hz hI hO g1 g2 sz1 k1 => ?_
  refine PyProof.Rows.args_nil ?_
  have lx := ru.length
  have ly := rv.length
  have pu1 : h1.IsTuple a us.toArray := (show s1.heap.IsTuple a us.toArray from pu).at fun o e => k1 _ o e
  have pv1 : h1.IsTuple b vs.toArray := (show s1.heap.IsTuple b vs.toArray from pv).at fun o e => k1 _ o e
  refine call_zl (s := { s1 with heap := h1 }) (n := min us.toArray.size vs.toArray.size) (I1.ok.hd hc) (PySem.W.ktu_apart s1.heap.objs.size a b (Heap.lt_size ho1) (Heap.lt_size ho2)) hz hI ⟨_, _, hO⟩ g1 g2 pu1 pv1 rfl ?_ fun h' tk acc c ts hk eS hl pr hacc => ?_
  · rw [List.size_toArray]
    omega
  · have big : ∀ c o, s1.heap.get? c = some o → h'.get? c = some o := fun c o e => by
      have l := Heap.lt_size e
      exact hk c o (Nat.ne_of_lt (Nat.lt_of_lt_of_le l (Nat.le_add_right _ _))) (Nat.ne_of_lt (Nat.lt_of_lt_of_le l (Nat.le_add_right _ _))) (Nat.ne_of_lt l) (Nat.ne_of_lt (Nat.lt_of_lt_of_le l (Nat.le_add_right _ _))) (k1 c o e)
    rw [List.size_toArray, List.size_toArray] at hl
    obtain ⟨H', k, f, e1, e2, J⟩ := pairs_laid (tk := tk) I1 ru rv (by show _ ≤ h1.objs.size; rw [sz1]; exact Nat.le_add_right _ _) big eS (by omega) (by omega) pr hacc
    exact ⟨.ref _, H', J, rfl, go H' _ ts k f e1 (by omega) e2⟩
end
end Zl
end
section
/-! set(e) of a list or a tuple of ints -/
namespace Zs
open PySem PySem.Spec PyProof.Rows L2
/-- a set as it is made -/
abbrev frS (w : World) : Obj := { cls := .type "set", dict := none, data := .set #[] 0 (.fresh 0 0 (!w.params.followText "set-order")) }
section
variable {P : Program} {w : World} {A : Around} {E : Value → Shared → Prop} {s : Shared}
set_option maxHeartbeats 8000000 in
theorem call_set_lst {l : Addr} {its : Array Value} (ns : List Int) {Q : Value → Shared → Prop} (hh : A.handled = none) (hl : s.heap.IsList l its) (hit : IntsAre its.toList ns) (hb : ns.length + 1 < scanBound)
    (go : ∀ (h' : Heap) (tk c : Nat), SetR w h' s.heap.objs.size (fun j => decide (j ∈ ns)) c → c ≤ ns.length → (∀ b o, s.heap.get? b = some o → h'.get? b = some o) → Q (.ref s.heap.objs.size) { s with heap := h', toks := tk }) :
    wpAny (model P w) A (call (.type "set") [.ref l]) Q E s := by
  have sz : its.size = ns.length := by rw [← Array.length_toList]; exact IntsAre.length hit
  obtain ⟨c0, t0, hmro⟩ := F.called_set.mro
  have f1 := F.called_set.made
  have f2 := F.called_set.sub
  refine wpAny_call (codeAny_of_tree ?_)
  show wpAny _ _ (callAny (.type "set") _) _ _ s
  refine wpAny_pure ⟨Code.quiet_builtin _ (by decide +kernel), codeAny_builtin F.entry_type_call ?_⟩
  rw [Around.under_plain (weight_type_call_type "set" [Value.ref l] []) rfl]
  have f3 := F.called_set.notType
  have f4 := F.called_set.canCreate
  have f5 := F.typeCall_set_1 (.ref l)
  repeat (any_goals (first | assumption | wp_step))
  refine codeAny_mono (code_set_led1 (.ref l) (E := E) (Q₁ := fun o s₁ => o = .ref s.heap.objs.size ∧ s₁ = { s with heap := s.heap.push (frS w) }) ⟨rfl, rfl⟩) fun r s₁ hr => ?_
  cases r with
  | error e => exact hr
  | ok fl => cases fl with
    | ret o =>
      obtain ⟨rfl, rfl⟩ := hr
      have eS : (s.heap.push (frS w)).get? s.heap.objs.size = some (frS w) := Heap.get?_push_size _ rfl
      have ty : Shared.TypeIs { s with heap := s.heap.push (frS w) } (.ref s.heap.objs.size) "set" := ⟨_, eS, rfl⟩
      have g1 := F.called_set.init.lookup
      have g2 := F.called_set.init.bind (.ref s.heap.objs.size)
      repeat (any_goals (first | assumption | wp_step))
      refine codeAny_mono (codeAny_call_builtin (R := wants (fun r s₂ => r = .none ∧ ∃ h' tk c, s₂ = { s with heap := h', toks := tk } ∧ SetR w h' s.heap.objs.size (fun j => decide (j ∈ ns)) c ∧ c ≤ ns.length ∧ (∀ b o, s.heap.get? b = some o → h'.get? b = some o)) E) F.called_set.init.plain F.entry_set_init (check_set_init_1 ty ?_)) fun r₂ s₂ hr₂ => ?_
      · obtain ⟨⟨q1, q2, q3, q4⟩, hol, hc, nl, hd⟩ := hl
        simp only at hc hd
        subst hc; subst hd
        have hl1 : (s.heap.push (frS w)).IsList l its := ⟨_, Heap.get?_push_of_some _ hol, rfl, nl, rfl⟩
        have k1 := Heap.get?_push_of_some (frS w) hol
        have k2 := F.sub_list_set
        have k3 := F.sub_list_frozenset
        have k4 : (Value.type "list" == Value.type "dict") = false := by decide
        unfold Builtin.«set.__init__» noKeywords Builtin.Frozenset.updateFrom
        generalize hpi : pyIter = PI
        wp_walk
        subst hpi
        refine wpAny_pyIter_list hl1 (wpAny_bind (wpAny_runValue ?_))
        have lt : l < s.heap.objs.size := Heap.lt_size hol
        have z1 : (s.heap.push (frS w)).objs.size = s.heap.objs.size + 1 := Heap.size_push ..
        have n1 : l ≠ (s.heap.push (frS w)).objs.size := by rw [z1]; exact Nat.ne_of_lt (Nat.lt_succ_of_lt lt)
        have n2 : s.heap.objs.size ∉ [(s.heap.push (frS w)).objs.size, l] := by
          rw [z1]
          simp only [List.mem_cons, List.mem_singleton, List.not_mem_nil, or_false, not_or]
          exact ⟨Nat.ne_of_lt (Nat.lt_succ_self _), Nat.ne_of_gt lt⟩
        have val : ∀ (i : Nat) (v : Value), its[i]? = some v → ∃ k t, ns[i]? = some k ∧ v = .int k t := fun i v hv => by
          have hi : i < ns.length := by rw [← sz]; exact (Array.getElem?_eq_some_iff.mp hv).1
          obtain ⟨t, e⟩ := IntsAre.int_at hit i v (by rw [Array.getElem?_toList]; exact hv)
          exact ⟨ns[i], t, List.getElem?_eq_getElem hi, by rw [e, List.getD_eq_getElem?_getD, List.getElem?_eq_getElem hi]; rfl⟩
        refine set_update_ints ((Walks.list (show A.in1.in1.in1.handled = none by simp [hh]) _ l n1 its).toS) s.heap.objs.size n2 ns sz hb val (its.size - 0) 0 _ (by omega) (Nat.zero_le _) ⟨⟨_, Heap.get?_push_size _ rfl, rfl, rfl⟩, (hl1.push _)⟩ ⟨0, Nat.le_refl 0, setR_new_at (Heap.get?_push_of_some _ eS)⟩ ?_
        intro s' c' hm hc' hS'
        obtain ⟨h', g2, d', tk', os'⟩ := s'
        obtain rfl : g2 = s.gens := hm.gens
        obtain rfl : d' = s.drawn := hm.drawn
        obtain rfl : os' = s.os := hm.os
        show wpAny _ _ _ _ _ _
        refine wpAny_pure ?_
        show wpAny _ _ (ret Value.none) _ _ _
        rw [sz] at hc'
        refine wpAny_pure ⟨rfl, h', tk', c', rfl, hS', hc', fun b o e => ?_⟩
        have b0 := Heap.lt_size e
        refine hm.heap b o ?_ (Heap.get?_push_of_some _ (Heap.get?_push_of_some _ e))
        rw [z1]
        simp only [List.mem_cons, List.mem_singleton, List.not_mem_nil, or_false, not_or]
        exact ⟨Nat.ne_of_lt b0, Nat.ne_of_lt (Nat.lt_succ_of_lt b0)⟩
      · cases r₂ with
        | error e => exact hr₂
        | ok fl₂ =>
          cases fl₂ with
          | ret r =>
            obtain ⟨rfl, h', tk, c, rfl, y1, y2, y3⟩ := hr₂
            repeat (any_goals (first | assumption | wp_step))
            exact go h' tk c y1 y2 y3
          | _ => exact hr₂.elim
    | _ => exact hr.elim
end
def rSetI (w : World) (K : PySem.W.Frag) : List V → Hp → VK → Prop := fun vs H Q => ∃ (l : Addr) (ns : List Int), vs = [.ref l] ∧ (SqL K H l (ns.map V.int) ∨ SqT K H l (ns.map V.int)) ∧ ns.length ≤ 1000 ∧
  ∀ p c, c ≤ ns.length → H p = none → Q (.ref p) (upd H p (SetO w p (fun j => decide (j ∈ ns)) c))
theorem cr_setI {X : Cx} (hc : X.calm = true) : CallR X (.type "set") (rSetI X.w X.K) := by
  intro pins s σ H xs us Q I r h
  obtain ⟨l, ns, rfl, hs, hn, go⟩ := h
  obtain ⟨u, rfl, ru⟩ := r.one
  cases ru
  rcases hs with hs | hs
  · obtain ⟨its, rv, pl, hz⟩ := I.list hs
    exact call_set_lst ns (I.ok.hd hc) pl.isList (by simpa using ints_of_vals rv) (by unfold scanBound; omega) fun h' tk c hR hcn k => ⟨.ref _, _, I.laid (t' := tk) k (Nat.le_refl _) (setO_new hR), rfl, go _ c hcn (I.hok.fresh (Nat.le_refl _))⟩
  · obtain ⟨its, rv, pt, hz⟩ := I.tuple hs
    exact call_set_tupI ns (I.ok.hd hc) (show s.heap.IsTuple l its.toArray from pt) (by simpa using ints_of_vals rv) (by unfold scanBound; omega) fun h' tk c hR hcn k => ⟨.ref _, _, I.laid (t' := tk) k (Nat.le_refl _) (setO_new hR), rfl, go _ c hcn (I.hok.fresh (Nat.le_refl _))⟩
end Zs
end
section
/-! list.extend(a tuple) -/
namespace Zs
open PySem PySem.Spec PyProof.Rows L2
theorem extend_tup (l : Addr) (items : Array Value) (n : Nat) (b : Addr) (items2 : Array Value) (n2 : Nat) (dd : Option Addr) (sl : Array (Option Value)) (hs0 : ¬(!items.isEmpty && Builtin.List.listTooLong (items.size + items2.size)) = true) (hs1 : items.size ≤ sizeLine) (hs2 : items.size + items2.size ≤ sizeLine + 1) :
    Meets (Builtin.«list.extend» ⟨[.ref l, .ref b], []⟩) (fun _ R s => s.heap.get? l = some { cls := .type "list", dict := none, data := .seq items n, slots := #[] } ∧ s.heap.get? b = some ⟨.type "tuple", dd, .seq items2 n2, sl⟩ ∧
      R (.ok (.ret Value.none)) { s with heap := s.heap.update l (Obj.mapSeq fun x => x ++ items2), toks := s.toks }) :=
  .of_wp fun prog w A R s h => by
    obtain ⟨hp, g, d, tk, os⟩ := s
    obtain ⟨hl, hb, h⟩ := h
    have f1 := PySem.AutoSeq1.idx_int
    have f2 := PySem.AutoSeq1.sub_tuple_tuple
    have f3 := PySem.AutoSeq1.sub_list_list
    have f4 := PySem.AutoSeq1.sub_tuple_list
    have f5 := PySem.AutoSeq1.sub_list_tuple
    have hz' : (items ++ items2).size ≤ sizeLine + 1 := by rw [Array.size_append]; exact hs2
    wp_walk using (wpAny_updateSeq hl rfl (hz := hs1) (_hz' := hz')), PySem.AutoSeq1.wpAny_loadPart' hl, PySem.AutoSeq1.wpAny_loadPart' hb
    exact ⟨_, rfl, h⟩
def rExtT (K : PySem.W.Frag) : V → List V → Hp → VK → Prop := fun x vs H Q => ∃ (l b : Addr) (xs zs : List V), x = .ref l ∧ vs = [.ref b] ∧ H l = some (.lst xs) ∧ SqT K H b zs ∧ xs.length + zs.length ≤ sizeLine ∧ Q .non (upd H l (.lst (xs ++ zs)))
theorem mt_extT {X : Cx} : MtM X "list.extend" (rExtT X.K) := by
  intro pins s σ H x vs v us Q I rx rv h
  obtain ⟨l, b, xs, zs, rfl, rfl, hH, hB, hz, q⟩ := h
  cases rx
  obtain ⟨u, rfl, ru⟩ := rv.one
  cases ru
  obtain ⟨z, its, n, r, hl, e⟩ := I.lstM hH
  obtain ⟨its2, r2, pt, hz2⟩ := I.tuple hB
  obtain ⟨⟨q1, q2, q3, q4⟩, e2, hc, n2, hd⟩ := pt
  simp only at hc hd
  subst hc hd
  have hl2 := r2.length
  have sz : its.toArray.size + its2.toArray.size ≤ sizeLine := by rw [List.size_toArray, List.size_toArray]; omega
  have nl : ¬ (!its.toArray.isEmpty && Builtin.List.listTooLong (its.toArray.size + its2.toArray.size)) = true := by
    rw [notLongL sz, Bool.and_false]
    exact Bool.false_ne_true
  refine call_meets PySem.F.slot_list_extend ⟨_, e, rfl⟩ PySem.F.entry_list_extend (PySem.F.args_list_extend_2 _ _) (extend_tup l its.toArray n b its2.toArray n2 q2 q4 nl (by rw [List.size_toArray]; omega) (by omega)) ⟨e, e2, ?_⟩
  refine ⟨.non, _, I.lset (its' := its ++ its2) hH e (by simp) (r.append r2) ?_, rfl, q⟩
  rw [List.length_append]
  omega
end Zs
end
section
/-! rows of code: words, kinds of parts, what stands where -/
namespace CR
open PySem PySem.Spec PyProof.Rows L2 MM
inductive Kd
  | into | value | view | member | place | slot | from' | glob | thr | arr | keys | sign | order | target | sort | places | table | opt
deriving DecidableEq
def Kd.nm : Kd → Str
  | .into => "into" | .value => "value" | .view => "view" | .member => "member" | .place => "place" | .slot => "slot" | .from' => "from" | .glob => "global" | .thr => "thread" | .arr => "array"
  | .keys => "keys" | .sign => "sign" | .order => "order" | .target => "target" | .sort => "sort" | .places => "places" | .table => "table" | .opt => "optional"
inductive Wd
  | const | view | arg | reg | get | keep | global | thread | array | op | compare | minus | not | len | cat | sub | text | byte | spec | jump | zero | setglobal | setthread | setarray | record | put | speculate | commit | discard | stop | skip | end'
deriving DecidableEq
def Wd.nm : Wd → Str
  | .const => "const" | .view => "view" | .arg => "arg" | .reg => "reg" | .get => "get" | .keep => "keep" | .global => "global" | .thread => "thread" | .array => "array" | .op => "op" | .compare => "compare" | .minus => "minus" | .not => "not"
  | .len => "len" | .cat => "cat" | .sub => "sub" | .text => "text" | .byte => "byte" | .spec => "spec" | .jump => "jump" | .zero => "zero" | .setglobal => "setglobal" | .setthread => "setthread" | .setarray => "setarray" | .record => "record"
  | .put => "put" | .speculate => "speculate" | .commit => "commit" | .discard => "discard" | .stop => "stop" | .skip => "skip" | .end' => "end"
def Wd.ks : Wd → List Kd
  | .const => [.into, .value] | .view => [.into, .view] | .arg => [.into, .member] | .reg => [.into, .member] | .get => [.into, .place] | .keep => [.slot, .from'] | .global => [.into, .glob] | .thread => [.into, .thr] | .array => [.into, .arr, .keys]
  | .op => [.into, .sign, .from', .from'] | .compare => [.into, .order, .from', .from'] | .minus => [.into, .from'] | .not => [.into, .from'] | .len => [.into, .from'] | .cat => [.into, .from', .from'] | .sub => [.into, .from', .from', .from']
  | .text => [.into, .from'] | .byte => [.into, .from'] | .spec => [.into] | .jump => [.target] | .zero => [.from', .target] | .setglobal => [.glob, .from'] | .setthread => [.thr, .from'] | .setarray => [.arr, .keys, .from'] | .record => [.sort, .places]
  | .put => [.table, .keys, .opt] | .speculate => [.from'] | .commit => [.from'] | .discard => [.from'] | .stop => [] | .skip => [] | .end' => []
def Wd.all : List Wd := [.const, .view, .arg, .reg, .get, .keep, .global, .thread, .array, .op, .compare, .minus, .not, .len, .cat, .sub, .text, .byte, .spec, .jump, .zero, .setglobal, .setthread, .setarray, .record, .put, .speculate, .commit, .discard, .stop, .skip, .end']
def tab : List (Str × List Str) := [("const", ["into", "value"]), ("view", ["into", "view"]), ("arg", ["into", "member"]), ("reg", ["into", "member"]), ("get", ["into", "place"]), ("keep", ["slot", "from"]), ("global", ["into", "global"]), ("thread", ["into", "thread"]), ("array", ["into", "array", "keys"]), ("op", ["into", "sign", "from", "from"]), ("compare", ["into", "order", "from", "from"]), ("minus", ["into", "from"]), ("not", ["into", "from"]), ("len", ["into", "from"]), ("cat", ["into", "from", "from"]), ("sub", ["into", "from", "from", "from"]), ("text", ["into", "from"]), ("byte", ["into", "from"]), ("spec", ["into"]), ("jump", ["target"]), ("zero", ["from", "target"]), ("setglobal", ["global", "from"]), ("setthread", ["thread", "from"]), ("setarray", ["array", "keys", "from"]), ("record", ["sort", "places"]), ("put", ["table", "keys", "optional"]), ("speculate", ["from"]), ("commit", ["from"]), ("discard", ["from"]), ("stop", []), ("skip", []), ("end", [])]
theorem tab_get (w : Wd) : tab.lookup w.nm = some (w.ks.map Kd.nm) := by cases w <;> decide +kernel
theorem nm_from {k : Kd} : k.nm = "from" ↔ k = .from' := by cases k <;> decide +kernel
theorem nm_opt {k : Kd} : k.nm = "optional" ↔ k = .opt := by cases k <;> decide +kernel
theorem nm_place {k : Kd} : k.nm = "place" ↔ k = .place := by cases k <;> decide +kernel
theorem nm_listed {k : Kd} : inV (.str k.nm) [.str "keys", .str "places"] = decide (k = .keys ∨ k = .places) := by cases k <;> decide +kernel
/-- entries of a written dict of tuples of texts -/
def Ents (K : PySem.W.Frag) (w : World) (a : PySem.Addr) : List (Str × List Str) → Prop
  | [] => True
  | e :: r => (∃ t, KDct K w a e.1 (.ref t) ∧ ∀ H, SqT K H t (e.2.map V.str)) ∧ Ents K w a r
theorem Ents.nil {K : PySem.W.Frag} {w : World} {a : PySem.Addr} : Ents K w a [] := trivial
theorem Ents.cons {K : PySem.W.Frag} {w : World} {a : PySem.Addr} {e : Str × List Str} {r : List (Str × List Str)} (h : ∃ t, KDct K w a e.1 (.ref t) ∧ ∀ H, SqT K H t (e.2.map V.str)) (t : Ents K w a r) : Ents K w a (e :: r) := ⟨h, t⟩
theorem Ents.get {K : PySem.W.Frag} {w : World} {a : PySem.Addr} {k : Str} {ks : List Str} : ∀ {l : List (Str × List Str)}, Ents K w a l → l.lookup k = some ks → ∃ t, KDct K w a k (.ref t) ∧ ∀ H, SqT K H t (ks.map V.str)
  | [], _, h => nomatch h
  | (k', ks') :: r, e, h => by
    rw [List.lookup_cons] at h
    by_cases z : k = k'
    · subst z
      rw [beq_self_eq_true] at h
      obtain rfl := Option.some.inj h
      exact e.1
    · rw [show (k == k') = false from beq_eq_false_iff_ne.mpr z] at h
      exact e.2.get h
structure DcP (K : PySem.W.Frag) (w : World) (mg : Str → Option Value) (x : Str) (tb : List (Str × List Str)) where
  a : PySem.Addr
  g : mg x = some (.ref a)
  es : Ents K w a tb
inductive Pt
  | i (n : Int) | s (x : Str) | l (l : List Int) | o
def PtAt (H : Hp) : V → Pt → Prop
  | v, .i n => v = .int n
  | v, .s x => v = .str x
  | v, .l l => ∃ a, v = .ref a ∧ H a = some (.tup (l.map V.int))
  | _, .o => True
def Fit : Kd → Pt → Prop
  | .into, .i _ => True | .value, .o => True | .view, .s _ => True | .member, .i _ => True | .place, .i _ => True | .slot, .i _ => True | .from', .i _ => True | .glob, .i _ => True | .thr, .i _ => True | .arr, .i _ => True
  | .keys, .l l => l.length ≤ 16 | .sign, .s _ => True | .order, .s _ => True | .target, .i n => 0 ≤ n | .sort, .s _ => True | .places, .l l => l.length ≤ 16 | .table, .i _ => True | .opt, .i _ => True
  | _, _ => False
theorem PtAt.keep {H H' : Hp} (k : KeepT H H') {v : V} {p : Pt} (h : PtAt H v p) : PtAt H' v p := by
  cases p with
  | l l =>
    obtain ⟨a, e1, e2⟩ := h
    exact ⟨a, e1, k _ _ e2⟩
  | _ => exact h
/-- a row at a -/
def RowAt (H : Hp) (a : PySem.Addr) (r : Wd × List Pt) : Prop := All2 Fit r.1.ks r.2 ∧ ∃ vs, H a = some (.tup (.str r.1.nm :: vs)) ∧ All2 (PtAt H) vs r.2
theorem RowAt.keep {H H' : Hp} (k : KeepT H H') {a : PySem.Addr} {r : Wd × List Pt} (h : RowAt H a r) : RowAt H' a r := by
  obtain ⟨f, vs, e, al⟩ := h
  exact ⟨f, vs, k _ _ e, al.imp fun _ _ z => z.keep k⟩
/-- the registers that are read, the places -/
def opn1 : Kd → Pt → List Int
  | .from', .i n => [n]
  | .opt, .i n => if 0 ≤ n then [n] else []
  | _, _ => []
def plc1 : Kd → Pt → List Int
  | .place, .i n => [n]
  | .keys, .l l => l
  | .places, .l l => l
  | _, _ => []
def opn (ks : List Kd) (ps : List Pt) : List Int := (ks.zip ps).flatMap fun x => opn1 x.1 x.2
def plc (ks : List Kd) (ps : List Pt) : List Int := (ks.zip ps).flatMap fun x => plc1 x.1 x.2
theorem flat_snoc {α β : Type} {f : α → List β} {l : List α} {i : Nat} {x : α} (h : l[i]? = some x) : (l.take (i + 1)).flatMap f = (l.take i).flatMap f ++ f x := by
  rw [take_snoc h, List.flatMap_append, List.flatMap_cons, List.flatMap_nil, List.append_nil]
/-- L: the members of ns, ascending -/
def IsSet (L ns : List Int) : Prop := L.Pairwise (· < ·) ∧ ∀ k, k ∈ L ↔ k ∈ ns
theorem srt_uniq : ∀ {L L' : List Int}, L.Pairwise (· < ·) → L'.Pairwise (· < ·) → (∀ k, k ∈ L ↔ k ∈ L') → L = L'
  | [], [], _, _, _ => rfl
  | [], y :: ys, _, _, h => absurd ((h y).mpr List.mem_cons_self) (by simp)
  | x :: xs, [], _, _, h => absurd ((h x).mp List.mem_cons_self) (by simp)
  | x :: xs, y :: ys, p, q, h => by
    obtain ⟨p1, p2⟩ := List.pairwise_cons.mp p
    obtain ⟨q1, q2⟩ := List.pairwise_cons.mp q
    have e : x = y := by
      rcases List.mem_cons.mp ((h x).mp List.mem_cons_self) with z | z
      · exact z
      · rcases List.mem_cons.mp ((h y).mpr List.mem_cons_self) with z' | z'
        · exact z'.symm
        · have a := q1 x z
          have b := p1 y z'
          omega
    subst e
    rw [srt_uniq p2 q2 fun k => ⟨fun hk => ?_, fun hk => ?_⟩]
    · rcases List.mem_cons.mp ((h k).mp (List.mem_cons_of_mem _ hk)) with z | z
      · exact absurd (p1 k hk) (by omega)
      · exact z
    · rcases List.mem_cons.mp ((h k).mpr (List.mem_cons_of_mem _ hk)) with z | z
      · exact absurd (q1 k hk) (by omega)
      · exact z
theorem IsSet.uniq {L L' ns ns' : List Int} (h : IsSet L ns) (h' : IsSet L' ns') (e : ∀ k, k ∈ ns ↔ k ∈ ns') : L = L' := srt_uniq h.1 h'.1 fun k => (h.2 k).trans ((e k).trans (h'.2 k).symm)
end CR
end
section
/-! readings for rows of code -/
namespace CR
open PySem PySem.Spec PyProof.Rows L2 MM
section
variable {K : PySem.W.Frag} {H : Hp} {Q : VK} {a : PySem.Addr} {xs : List V} {σ : L2.St} {ta : TA} {w : World}
theorem r_zl (h : ta σ H fun vs H1 => Zl.rZl K vs H1 Q) : Zl.tZl K ta σ H Q := h
theorem same_acc {H H1 : Hp} {D : PySem.Addr} {o : HO} (hD : H D = none) (s : Same H H1) : Same H (upd H1 D o) := fun b x e => by
  rw [upd_ne (ne_of_none e hD)]
  exact s b x e
theorem cut_from {n : Nat} (xs : List V) : cutV xs (some (n : Int)) none = xs.drop n := by
  unfold cutV
  rw [HT.sIx_nat, HT.sIx_none]
  by_cases h : n ≤ xs.length
  · rw [Nat.min_eq_left h, List.take_of_length_le (by rw [List.length_drop]; omega)]
  · rw [Nat.min_eq_right (by omega), List.drop_of_length_le (Nat.le_refl _), List.drop_of_length_le (by omega), List.take_nil]
/-- t[n:], n at least 1 -/
theorem sl_from {n : Nat} (hs : SqT K H a xs) (h1 : 1 ≤ n) (hl : 1 ≤ xs.length) (h : ∀ p H', Same H H' → H p = none → H' p = some (.tup (xs.drop n)) → Q (.ref p) H') : rSlT K (.ref a) (some (n : Int)) none H Q := by
  refine ⟨a, xs, rfl, hs, fun z => ?_, fun p hp => ?_⟩
  · rw [HT.sIx_nat] at z
    have := z.1
    omega
  · rw [cut_from]
    exact h p _ (R.same_new hp) hp upd_same
/-- t[1:2] -/
theorem sl_12 (hs : SqT K H a xs) (hl : 1 ≤ xs.length) (h : ∀ p H', Same H H' → H p = none → H' p = some (.tup ((xs.drop 1).take 1)) → Q (.ref p) H') : rSlT K (.ref a) (some 1) (some 2) H Q := by
  have i1 : HT.sIx xs.length 0 (some 1) = min 1 xs.length := HT.sIx_nat xs.length 0 1
  have i2 : HT.sIx xs.length xs.length (some 2) = min 2 xs.length := HT.sIx_nat xs.length xs.length 2
  refine ⟨a, xs, rfl, hs, fun z => ?_, fun p hp => ?_⟩
  · rw [i1] at z
    have := z.1
    omega
  · have e : cutV xs (some 1) (some 2) = (xs.drop 1).take 1 := by
      unfold cutV
      rw [i1, i2]
      cases xs with
      | nil => rfl
      | cons x xs => cases xs <;> simp <;> omega
    rw [e]
    exact h p _ (R.same_new hp) hp upd_same
theorem r_inK {p : PySem.Addr} {x : V} {b : Bool} (e : SqT K H p xs) (hx : flatV x = true) (ha : xs.all flatV = true) (hb : inV x xs = b) (h : Q (.bl b) H) : rIn K false x (.ref p) H Q :=
  ⟨p, xs, rfl, .inr e, hx, ha, by rw [if_neg Bool.false_ne_true, hb]; exact h⟩
theorem All2.len_get {α β : Type} {R : α → β → Prop} {l : List α} {r : List β} (h : MM.All2 R l r) {i : Nat} {x : α} (e : l[i]? = some x) : ∃ y, r[i]? = some y ∧ R x y := by
  induction h generalizing i with
  | nil => simp at e
  | cons z _ ih =>
    cases i with
    | zero =>
      obtain rfl := Option.some.inj e
      exact ⟨_, rfl, z⟩
    | succ i => exact ih e
theorem All2.len_get' {α β : Type} {R : α → β → Prop} {l : List α} {r : List β} (h : MM.All2 R l r) {i : Nat} {y : β} (e : r[i]? = some y) : ∃ x, l[i]? = some x ∧ R x y := by
  obtain ⟨x, a, b⟩ := h.get e
  exact ⟨x, a, b⟩
end
section
variable {K : PySem.W.Frag} {tb : TS} {g : TG} {nx : L2.St → Hp → Prop} {rt : V → Hp → Prop} {σ : L2.St} {H : Hp} {a : PySem.Addr} {xs : List V}
theorem for_listG (Pv : Nat → L2.St → Hp → Prop) (h0 : Pv 0 σ H) (hG : ∀ i σ H, Pv i σ H → SqL K H a xs)
    (hs : ∀ i v σ H, xs[i]? = some v → Pv i σ H → g v σ H fun σ2 H2 => tb ⟨Pv (i + 1), rt, nx, Pv (i + 1)⟩ σ2 H2) (hd : ∀ σ H, Pv xs.length σ H → nx σ H) : FW (Itl K a) g tb nx rt σ H := by
  refine for_it (D := ⟨nx, rt, fun _ _ => False, fun _ _ => False⟩) (walk_list (xs := xs)) Pv h0 (fun i σ H _ p => hG i σ H p) (fun i x σ H H' hi p y => ?_) hd
  obtain ⟨rfl, e⟩ := y
  exact hs i x σ _ e p
end
theorem plc_len {w : Wd} {ps : List Pt} (f : MM.All2 Fit w.ks ps) : (plc w.ks ps).length ≤ 16 := by
  have go : ∀ (ks : List Kd) (ps : List Pt), MM.All2 Fit ks ps → (ks.filter fun k => decide (k = .place ∨ k = .keys ∨ k = .places)).length ≤ 1 → (plc ks ps).length ≤ 16 * (ks.filter fun k => decide (k = .place ∨ k = .keys ∨ k = .places)).length := by
    intro ks ps h
    induction h with
    | nil => intro _; exact Nat.zero_le _
    | @cons k p ks ps r h ih =>
      intro hl
      have e : plc (k :: ks) (p :: ps) = plc1 k p ++ plc ks ps := by
        unfold plc
        rw [List.zip_cons_cons, List.flatMap_cons]
      rw [e, List.length_append]
      by_cases c : k = .place ∨ k = .keys ∨ k = .places
      · rw [List.filter_cons_of_pos (by rw [decide_eq_true c]), List.length_cons] at hl ⊢
        have z := ih (by omega)
        have b : (plc1 k p).length ≤ 16 := by
          rcases c with c | c | c <;> subst c <;> cases p <;> simp only [Fit] at r <;> simp only [plc1, List.length_cons, List.length_nil] <;> omega
        omega
      · rw [List.filter_cons_of_neg (by rw [decide_eq_false c]; exact Bool.false_ne_true)] at hl ⊢
        have z := ih hl
        have b : plc1 k p = [] := by
          cases k <;> cases p <;> first | rfl | exact absurd (by simp) c
        rw [b]
        simpa using z
  have k1 : (w.ks.filter fun k => decide (k = .place ∨ k = .keys ∨ k = .places)).length ≤ 1 := by cases w <;> decide
  have := go w.ks ps f k1
  omega
theorem opn1_len {k : Kd} {p : Pt} : (opn1 k p).length ≤ 1 := by
  cases k <;> cases p <;> simp only [opn1, List.length_nil, List.length_cons] <;> first | omega | (split <;> simp)
theorem flat_le {α β : Type} {f : α → List β} {n : Nat} (h : ∀ x, (f x).length ≤ n) : ∀ l : List α, (l.flatMap f).length ≤ n * l.length
  | [] => Nat.zero_le _
  | x :: l => by
    rw [List.flatMap_cons, List.length_append, List.length_cons, Nat.mul_succ]
    have := flat_le h l
    have := h x
    omega
theorem opn_len {ks : List Kd} {ps : List Pt} : (opn ks ps).length ≤ ks.length := by
  induction ks generalizing ps with
  | nil => exact Nat.le_refl _
  | cons k ks ih =>
    cases ps with
    | nil => exact Nat.zero_le _
    | cons p ps =>
      have e : opn (k :: ks) (p :: ps) = opn1 k p ++ opn ks ps := by
        unfold opn
        rw [List.zip_cons_cons, List.flatMap_cons]
      have b : (opn1 k p).length ≤ 1 := by
        cases k <;> cases p <;> simp only [opn1, List.length_nil, List.length_cons] <;> first | omega | (split <;> simp)
      rw [e, List.length_append, List.length_cons]
      have := ih (ps := ps)
      omega
theorem ks_len (w : Wd) : w.ks.length ≤ 4 := by cases w <;> decide
end CR
end
section
/-! buffers: items, rows of items, what is lost (plain) -/
namespace BF
open PySem
inductive Vl
  | s (x : Str) | i (n : Int)
def Vl.sz : Vl → Int
  | .s x => 1 + x.length
  | .i _ => 1
def Vl.ok : Vl → Prop
  | .s x => x.length ≤ 32 ∧ PyData.strOk x = true
  | .i n => 0 ≤ n ∧ n < 1000000
inductive It
  | lost (n : Int) | rc (t c : Int) (s : Str) (vs : List Vl)
def It.num : It → Int
  | .lost n => n
  | .rc .. => 1
def It.isL : It → Bool
  | .lost _ => true
  | .rc .. => false
def szV (vs : List Vl) : Int := (vs.map Vl.sz).sum
def It.sz : It → Int
  | .lost _ => 0
  | .rc _ _ _ vs => 2 + szV vs
def It.ok : It → Prop
  | .lost n => 1 ≤ n
  | .rc _ _ s vs => PyData.strOk s = true ∧ (∀ v ∈ vs, v.ok) ∧ vs.length ≤ 100
def It.one (a : It) : Int := if a.isL then 0 else 1
def usd (L : List It) : Int := (L.map It.sz).sum
def numL (L : List It) : Int := (L.map It.num).sum
def oneL (L : List It) : Int := (L.map It.one).sum
/-- no two lost ones side by side -/
def jnd : List It → Prop
  | [] => True
  | [_] => True
  | a :: b :: r => (a.isL = true → b.isL = false) ∧ jnd (b :: r)
def pushL (L : List It) (n : Int) : List It := match L.getLast? with
  | some (.lost m) => L.dropLast ++ [.lost (n + m)]
  | _ => L ++ [.lost n]
def push (L : List It) : It → List It
  | .lost n => pushL L n
  | .rc t c s vs => L ++ [.rc t c s vs]
/-- n lost ones ahead of it -/
def glue (n : Int) : List It → List It
  | .lost b :: R => .lost (n + b) :: R
  | R => .lost n :: R
def glu (g : Int) (R : List It) : List It := if 0 < g then glue g R else R
theorem szV_nn : ∀ (vs : List Vl), (vs.length : Int) ≤ szV vs
  | [] => Int.le_refl _
  | v :: vs => by
    have h := szV_nn vs
    unfold szV at h ⊢
    rw [List.map_cons, List.sum_cons, List.length_cons]
    have : 1 ≤ v.sz := by cases v <;> simp only [Vl.sz] <;> omega
    omega
theorem It.sz_nn (a : It) : 0 ≤ a.sz := by
  cases a with
  | lost n => exact Int.le_refl _
  | rc t c s vs =>
    have := szV_nn vs
    simp only [It.sz]
    omega
theorem It.sz_rec {a : It} (h : a.isL = false) : 2 ≤ a.sz := by
  cases a with
  | lost n => cases h
  | rc t c s vs =>
    have := szV_nn vs
    simp only [It.sz]
    omega
theorem It.sz_lost {a : It} (h : a.isL = true) : a.sz = 0 := by
  cases a with
  | lost n => rfl
  | rc t c s vs => cases h
theorem usd_cons {a : It} {L : List It} : usd (a :: L) = a.sz + usd L := by unfold usd; rw [List.map_cons, List.sum_cons]
theorem usd_app {L M : List It} : usd (L ++ M) = usd L + usd M := by unfold usd; rw [List.map_append, List.sum_append]
theorem usd_nil : usd [] = 0 := rfl
theorem numL_cons {a : It} {L : List It} : numL (a :: L) = a.num + numL L := by unfold numL; rw [List.map_cons, List.sum_cons]
theorem oneL_cons {a : It} {L : List It} : oneL (a :: L) = a.one + oneL L := by unfold oneL; rw [List.map_cons, List.sum_cons]
theorem usd_nn : ∀ L : List It, 0 ≤ usd L
  | [] => Int.le_refl _
  | a :: L => by
    have := usd_nn L
    have := a.sz_nn
    rw [usd_cons]
    omega
theorem jnd.tail {a : It} {L : List It} (h : jnd (a :: L)) : jnd L := by
  cases L with
  | nil => trivial
  | cons b r => exact h.2
theorem jnd.next {a b : It} {L : List It} (h : jnd (a :: b :: L)) (e : a.isL = true) : b.isL = false := h.1 e
theorem jnd.consR {a : It} {L : List It} (h : jnd L) (e : a.isL = false) : jnd (a :: L) := by
  cases L with
  | nil => trivial
  | cons b r => exact ⟨fun z => by (rw [e] at z; cases z), h⟩
/-- the head exchanged for one of its kind -/
theorem jnd.head {a a' : It} {L : List It} (h : jnd (a :: L)) (e : a'.isL = true → a.isL = true) : jnd (a' :: L) := by
  cases L with
  | nil => trivial
  | cons b r => exact ⟨fun z => h.1 (e z), h.2⟩
theorem jnd.app {L : List It} {x y : It} {M : List It} (h : jnd (L ++ [x])) (h2 : jnd (y :: M)) (e : y.isL = true → x.isL = true) (e2 : x.isL = true → y.isL = true) : jnd (L ++ y :: M) := by
  induction L with
  | nil => exact h2
  | cons a L ih =>
    cases L with
    | nil =>
      refine ⟨fun z => ?_, h2⟩
      have := h.1 z
      cases q : y.isL with
      | false => rfl
      | true => rw [e q] at this; cases this
    | cons b L => exact ⟨h.1, ih h.2⟩
theorem jnd.snocR {L : List It} {x : It} (h : jnd L) (e : x.isL = false) : jnd (L ++ [x]) := by
  induction L with
  | nil => trivial
  | cons a L ih =>
    cases L with
    | nil => exact ⟨fun _ => e, trivial⟩
    | cons b L => exact ⟨h.1, ih h.2⟩
theorem jnd.snocL {L : List It} {x : It} (h : jnd L) (e : ∀ y, L.getLast? = some y → y.isL = false) : jnd (L ++ [x]) := by
  induction L with
  | nil => trivial
  | cons a L ih =>
    cases L with
    | nil => exact ⟨fun z => by (rw [e a rfl] at z; cases z), trivial⟩
    | cons b L => exact ⟨h.1, ih h.2 fun y hy => e y (by rw [List.getLast?_cons_cons]; exact hy)⟩
theorem glue_jnd {n : Int} {R : List It} (h : jnd R) : jnd (glue n R) := by
  cases R with
  | nil => trivial
  | cons a R =>
    cases a with
    | lost b => exact h.head fun _ => rfl
    | rc t c s vs => exact ⟨fun _ => rfl, h⟩
theorem glu_jnd {g : Int} {R : List It} (h : jnd R) : jnd (glu g R) := by
  unfold glu
  split
  · exact glue_jnd h
  · exact h
theorem glue_usd {n : Int} {R : List It} : usd (glue n R) = usd R := by
  cases R with
  | nil => rfl
  | cons a R =>
    cases a with
    | lost b => rfl
    | rc t c s vs => show usd (.lost n :: _) = _; rw [usd_cons]; simp [It.sz]
theorem glu_usd {g : Int} {R : List It} : usd (glu g R) = usd R := by
  unfold glu
  split
  · exact glue_usd
  · rfl
/-- the last one -/
theorem last_cases (L : List It) : L = [] ∨ ∃ M x, L = M ++ [x] := by
  rcases List.eq_nil_or_concat L with h | ⟨M, x, h⟩
  · exact .inl h
  · exact .inr ⟨M, x, by rw [h, List.concat_eq_append]⟩
theorem pushL_nil {n : Int} : pushL [] n = [.lost n] := rfl
theorem pushL_lost {M : List It} {m n : Int} : pushL (M ++ [.lost m]) n = M ++ [.lost (n + m)] := by
  unfold pushL
  rw [List.getLast?_append, List.getLast?_singleton, Option.some_or, List.dropLast_concat]
theorem pushL_rec {M : List It} {x : It} {n : Int} (h : x.isL = false) : pushL (M ++ [x]) n = (M ++ [x]) ++ [.lost n] := by
  unfold pushL
  rw [List.getLast?_append, List.getLast?_singleton, Option.some_or]
  cases x with
  | lost m => cases h
  | rc t c s vs => rfl
theorem pushL_jnd {L : List It} {n : Int} (h : jnd L) : jnd (pushL L n) := by
  rcases last_cases L with rfl | ⟨M, x, rfl⟩
  · trivial
  · cases e : x.isL with
    | false =>
      rw [pushL_rec e]
      exact h.snocL fun y hy => by
        rw [List.getLast?_append, List.getLast?_singleton, Option.some_or] at hy
        rw [← Option.some.inj hy, e]
    | true =>
      cases x with
      | rc t c s vs => cases e
      | lost m =>
        rw [pushL_lost]
        exact h.app trivial (fun _ => rfl) (fun _ => rfl)
theorem push_jnd {L : List It} {a : It} (h : jnd L) : jnd (push L a) := by
  cases a with
  | lost n => exact pushL_jnd h
  | rc t c s vs => exact h.snocR rfl
theorem pushL_usd {L : List It} {n : Int} : usd (pushL L n) = usd L := by
  rcases last_cases L with rfl | ⟨M, x, rfl⟩
  · rfl
  · cases e : x.isL with
    | false => rw [pushL_rec e, usd_app, usd_cons, usd_nil]; simp [It.sz]
    | true =>
      cases x with
      | rc t c s vs => cases e
      | lost m => rw [pushL_lost, usd_app, usd_app]; rfl
theorem push_usd {L : List It} {a : It} : usd (push L a) = usd L + a.sz := by
  cases a with
  | lost n => show usd (pushL L n) = _; rw [pushL_usd]; simp [It.sz]
  | rc t c s vs => show usd (L ++ _) = _; rw [usd_app, usd_cons, usd_nil]; omega
theorem pushL_pushL {L : List It} {a b : Int} : pushL (pushL L a) b = pushL L (a + b) := by
  rcases last_cases L with rfl | ⟨M, x, rfl⟩
  · rw [pushL_nil, show ([It.lost a] : List It) = [] ++ [.lost a] from rfl, pushL_lost, pushL_nil, Int.add_comm]; rfl
  · cases e : x.isL with
    | false => rw [pushL_rec e, pushL_lost, pushL_rec e, Int.add_comm]
    | true =>
      cases x with
      | rc t c s vs => cases e
      | lost m => rw [pushL_lost, pushL_lost, pushL_lost, ← Int.add_assoc, Int.add_comm b a]
theorem pushL_len {L : List It} {n : Int} : (pushL L n).length ≤ L.length + 1 := by
  rcases last_cases L with rfl | ⟨M, x, rfl⟩
  · exact Nat.le_refl _
  · cases e : x.isL with
    | false => rw [pushL_rec e]; simp
    | true =>
      cases x with
      | rc t c s vs => cases e
      | lost m => rw [pushL_lost]; simp
theorem push_len {L : List It} {a : It} : (push L a).length ≤ L.length + 1 := by
  cases a with
  | lost n => exact pushL_len
  | rc t c s vs => simp [push]
theorem foldl_len : ∀ {M L : List It}, (M.foldl push L).length ≤ L.length + M.length
  | [], L => Nat.le_refl _
  | a :: M, L => by
    have h := foldl_len (M := M) (L := push L a)
    have := push_len (L := L) (a := a)
    rw [List.foldl_cons, List.length_cons]
    omega
theorem foldl_jnd : ∀ {M L : List It}, jnd L → jnd (M.foldl push L)
  | [], L, h => h
  | a :: M, L, h => foldl_jnd (M := M) (push_jnd h)
theorem foldl_usd : ∀ {M L : List It}, usd (M.foldl push L) = usd L + usd M
  | [], L => by rw [List.foldl_nil, usd_nil, Int.add_zero]
  | a :: M, L => by rw [List.foldl_cons, foldl_usd, push_usd, usd_cons, Int.add_assoc]
/-- what is joined stays -/
theorem foldl_id : ∀ {M L : List It}, jnd (L ++ M) → M.foldl push L = L ++ M
  | [], L, _ => by rw [List.foldl_nil, List.append_nil]
  | a :: M, L, h => by
    have e : push L a = L ++ [a] := by
      cases a with
      | rc t c s vs => rfl
      | lost n =>
        show pushL L n = _
        rcases last_cases L with rfl | ⟨N, x, rfl⟩
        · rfl
        · have hx : x.isL = false := by
            induction N with
            | nil =>
              have h : jnd (x :: .lost n :: M) := h
              cases q : x.isL with
              | false => rfl
              | true => have := h.1 q; cases this
            | cons b N ih => exact ih (jnd.tail (a := b) h)
          rw [pushL_rec hx]
    rw [List.foldl_cons, e, foldl_id (by rw [List.append_assoc]; exact h), List.append_assoc]
    rfl
theorem joined_id {L : List It} (h : jnd L) : L.foldl push [] = L := foldl_id h
theorem joined_app {L M : List It} (h : jnd L) : (L ++ M).foldl push [] = M.foldl push L := by rw [List.foldl_append, joined_id h]
theorem joined_glue {g : Int} {R : List It} (h : jnd R) : ([It.lost g] ++ R).foldl push [] = glue g R := by
  show R.foldl push [.lost g] = glue g R
  cases R with
  | nil => rfl
  | cons a R =>
    cases a with
    | rc t c s vs => exact foldl_id (L := [.lost g]) (M := .rc t c s vs :: R) ⟨fun _ => rfl, h⟩
    | lost b =>
      rw [List.foldl_cons, show push [.lost g] (.lost b) = [.lost (g + b)] by
        show pushL ([] ++ [.lost g]) b = _
        rw [pushL_lost, Int.add_comm]; rfl]
      exact foldl_id (L := [.lost (g + b)]) (M := R) (h.head fun _ => rfl)
/-- what the ring gives up: the rest, how much is gone, how many records -/
def trim (room size : Int) : List It → Int → Int → List It × Int × Int
  | [], g, c => ([], g, c)
  | a :: R, g, c => if room < usd (a :: R) + size then trim room size R (g + a.num) (c + a.one) else (a :: R, g, c)
theorem trim_stop {room size : Int} {R : List It} {g c : Int} (h : usd R + size ≤ room) : trim room size R g c = (R, g, c) := by
  cases R with
  | nil => rfl
  | cons a R => unfold trim; rw [if_neg (by omega)]
theorem trim_go {room size : Int} {a : It} {R : List It} {g c : Int} (h : room < usd (a :: R) + size) : trim room size (a :: R) g c = trim room size R (g + a.num) (c + a.one) := by
  rw [trim, if_pos h]
/-- one turn of the program's loop -/
theorem trim_step {room size : Int} {R : List It} {g c : Int} (hj : jnd R) (ho : ∀ a ∈ R, a.ok) (hg : 0 ≤ g) (hs : size ≤ room) (h : room < usd R + size) :
    ∃ r R2 g2, r.isL = false ∧ r ∈ R ∧ trim room size R g c = trim room size R2 g2 (c + 1) ∧ usd R2 = usd R - r.sz ∧ jnd R2 ∧ (∀ a ∈ R2, a ∈ R) ∧ R2.length < R.length ∧ 1 ≤ g2 ∧ g2 ≤ g + numL R - numL R2 ∧
      ((glu g R = r :: R2 ∧ g2 = 1) ∨ ∃ m, glu g R = .lost m :: r :: R2 ∧ g2 = 1 + m) := by
  cases R with
  | nil => rw [usd_nil] at h; omega
  | cons a R =>
    cases a with
    | rc t c0 s vs =>
      refine ⟨.rc t c0 s vs, R, g + 1, rfl, List.mem_cons_self, trim_go h, by rw [usd_cons]; omega, hj.tail, fun a ha => List.mem_cons_of_mem _ ha, Nat.lt_succ_self _, by omega, by rw [numL_cons]; simp only [It.num]; omega, ?_⟩
      unfold glu
      by_cases z : 0 < g
      · rw [if_pos z]
        exact .inr ⟨g, rfl, by omega⟩
      · rw [if_neg z]
        exact .inl ⟨rfl, by omega⟩
    | lost m =>
      have hm : 1 ≤ m := ho _ List.mem_cons_self
      have e0 : usd (.lost m :: R) = usd R := by rw [usd_cons]; simp [It.sz]
      cases R with
      | nil => rw [e0, usd_nil] at h; omega
      | cons b R =>
        have hb : b.isL = false := hj.next rfl
        cases b with
        | lost k => cases hb
        | rc t c0 s vs =>
          refine ⟨.rc t c0 s vs, R, g + m + 1, rfl, List.mem_cons_of_mem _ List.mem_cons_self, ?_, by rw [e0, usd_cons]; omega, hj.tail.tail, fun a ha => List.mem_cons_of_mem _ (List.mem_cons_of_mem _ ha), by simp only [List.length_cons]; omega, by omega, by rw [numL_cons, numL_cons]; simp only [It.num]; omega, ?_⟩
          · rw [trim_go h, trim_go (by rw [e0] at h; exact h)]
            show trim _ _ _ (g + m + 1) (c + 0 + 1) = _
            rw [Int.add_zero]
          · unfold glu
            by_cases z : 0 < g
            · rw [if_pos z]
              exact .inr ⟨g + m, rfl, by omega⟩
            · rw [if_neg z]
              exact .inr ⟨m, rfl, by omega⟩
theorem glu_one {g : Int} {R : List It} (h : 1 ≤ g) : glu g R = glue g R := if_pos h
end BF
end
section
/-! a buffer as plain data: what is added, lost, read -/
namespace BF
open PySem
structure Bs where
  room : Int
  pol : Str
  used : Int
  lost : Int
  rd : Bool
  L : List It
structure Bs.ok (S : Bs) : Prop where
  pol : S.pol = "hold" ∨ S.pol = "ring"
  used : S.used = usd S.L
  fit : S.used ≤ S.room
  j : jnd S.L
  it : ∀ a ∈ S.L, a.ok
/-- room for so much -/
def Bs.mr (S : Bs) (size : Int) : Bs :=
  if S.pol = "ring" ∧ size ≤ S.room then { S with used := usd (trim S.room size S.L 0 0).1, lost := S.lost + (trim S.room size S.L 0 0).2.2, L := glu (trim S.room size S.L 0 0).2.1 (trim S.room size S.L 0 0).1 } else S
def Bs.addB (S : Bs) (M : List It) : Bs × Bool :=
  if (S.mr (usd M)).used + usd M ≤ S.room then ({ S.mr (usd M) with used := (S.mr (usd M)).used + usd M, L := M.foldl push (S.mr (usd M)).L }, true)
  else ({ S.mr (usd M) with lost := (S.mr (usd M)).lost + oneL M, L := M.foldl (fun L a => pushL L a.num) (S.mr (usd M)).L }, false)
theorem usd_all {M : List It} : 0 ≤ usd M := usd_nn M
/-- what trim leaves -/
theorem trim_end {room size : Int} (hs : size ≤ room) : ∀ {L : List It} {g c : Int}, jnd L → (∀ a ∈ L, a.ok) → 0 ≤ g → usd (trim room size L g c).1 + size ≤ room ∧ jnd (trim room size L g c).1 ∧ (∀ a ∈ (trim room size L g c).1, a ∈ L) ∧ (trim room size L g c).1.length ≤ L.length ∧ 0 ≤ (trim room size L g c).2.1
  | [], g, c, _, _, hg => ⟨by show usd [] + size ≤ room; rw [usd_nil]; omega, trivial, fun _ h => h, Nat.le_refl _, hg⟩
  | a :: R, g, c, hj, ho, hg => by
    by_cases z : room < usd (a :: R) + size
    · rw [trim_go z]
      have hn : 0 ≤ a.num := by
        cases a with
        | lost n => have : 1 ≤ n := ho _ List.mem_cons_self; simp only [It.num]; omega
        | rc t c s vs => simp [It.num]
      obtain ⟨h1, h2, h3, h4, h5⟩ := trim_end hs (L := R) (g := g + a.num) (c := c + a.one) hj.tail (fun b hb => ho b (List.mem_cons_of_mem _ hb)) (by omega)
      exact ⟨h1, h2, fun b hb => List.mem_cons_of_mem _ (h3 b hb), by rw [List.length_cons]; omega, h5⟩
    · rw [trim_stop (by omega)]
      exact ⟨by show usd (a :: R) + size ≤ room; omega, hj, fun _ h => h, Nat.le_refl _, hg⟩
theorem glue_ok {n : Int} {R : List It} (hn : 1 ≤ n) (h : ∀ a ∈ R, a.ok) : ∀ a ∈ glue n R, a.ok := by
  cases R with
  | nil =>
    intro a ha
    rw [show glue n [] = [.lost n] from rfl, List.mem_singleton] at ha
    rw [ha]; exact hn
  | cons b R =>
    cases b with
    | lost b =>
      intro a ha
      rcases List.mem_cons.mp ha with z | z
      · have : 1 ≤ b := h _ List.mem_cons_self
        rw [z]; show 1 ≤ n + b; omega
      · exact h a (List.mem_cons_of_mem _ z)
    | rc t c s vs =>
      intro a ha
      rcases List.mem_cons.mp ha with z | z
      · rw [z]; exact hn
      · exact h a z
theorem glu_ok {n : Int} {R : List It} (h : ∀ a ∈ R, a.ok) : ∀ a ∈ glu n R, a.ok := by
  unfold glu
  split
  · exact glue_ok (by omega) h
  · exact h
theorem glue_len {n : Int} {R : List It} : (glue n R).length ≤ R.length + 1 := by
  cases R with
  | nil => exact Nat.le_refl _
  | cons b R => cases b <;> simp [glue]
theorem glu_len {n : Int} {R : List It} : (glu n R).length ≤ R.length + 1 := by
  unfold glu
  split
  · exact glue_len
  · omega
theorem Bs.mr_room {S : Bs} {size : Int} : (S.mr size).room = S.room := by unfold mr; split <;> rfl
theorem Bs.mr_pol {S : Bs} {size : Int} : (S.mr size).pol = S.pol := by unfold mr; split <;> rfl
theorem Bs.mr_rd {S : Bs} {size : Int} : (S.mr size).rd = S.rd := by unfold mr; split <;> rfl
theorem Bs.mr_ok {S : Bs} {size : Int} (h : S.ok) (hs : 0 ≤ size) : (S.mr size).ok := by
  unfold mr
  by_cases z : S.pol = "ring" ∧ size ≤ S.room
  · rw [if_pos z]
    obtain ⟨h1, h2, h3, h4, h5⟩ := trim_end z.2 (g := 0) (c := 0) h.j h.it (Int.le_refl _)
    exact ⟨h.pol, by show _ = usd (glu _ _); rw [glu_usd], by show usd _ ≤ S.room; omega, glu_jnd h2, glu_ok fun a ha => h.it a (h3 a ha)⟩
  · rw [if_neg z]; exact h
theorem Bs.mr_len {S : Bs} {size : Int} (h : S.ok) : (S.mr size).L.length ≤ S.L.length + 1 := by
  unfold mr
  by_cases z : S.pol = "ring" ∧ size ≤ S.room
  · rw [if_pos z]
    obtain ⟨h1, h2, h3, h4, h5⟩ := trim_end z.2 (g := 0) (c := 0) h.j h.it (Int.le_refl _)
    have := glu_len (n := (trim S.room size S.L 0 0).2.1) (R := (trim S.room size S.L 0 0).1)
    show (glu _ _).length ≤ _
    omega
  · rw [if_neg z]; omega
theorem Bs.mr_hold {S : Bs} {size : Int} (h : ¬ (S.pol = "ring" ∧ size ≤ S.room)) : S.mr size = S := if_neg h
/-- nothing to be made room for -/
theorem Bs.mr_0 {S : Bs} (h : S.ok) : S.mr 0 = S := by
  unfold mr
  split
  · rw [trim_stop (by have := h.fit; have := h.used; omega)]
    show { S with used := usd S.L, lost := S.lost + 0, L := glu 0 S.L } = S
    rw [← h.used, Int.add_zero]
    rfl
  · rfl
theorem Bs.mr_fits {S : Bs} {size : Int} (h : S.ok) (z : S.pol = "ring" ∧ size ≤ S.room) : (S.mr size).used + size ≤ S.room := by
  unfold mr
  rw [if_pos z]
  exact (trim_end z.2 (g := 0) (c := 0) h.j h.it (Int.le_refl _)).1
theorem pushL_ok {L : List It} {n : Int} (hn : 1 ≤ n) (h : ∀ a ∈ L, a.ok) : ∀ a ∈ pushL L n, a.ok := by
  rcases last_cases L with rfl | ⟨M, x, rfl⟩
  · intro a ha
    rw [pushL_nil, List.mem_singleton] at ha
    rw [ha]; exact hn
  · cases e : x.isL with
    | false =>
      rw [pushL_rec e]
      intro a ha
      rcases List.mem_append.mp ha with z | z
      · exact h a z
      · rw [List.mem_singleton] at z
        rw [z]; exact hn
    | true =>
      cases x with
      | rc t c s vs => cases e
      | lost m =>
        rw [pushL_lost]
        intro a ha
        rcases List.mem_append.mp ha with z | z
        · exact h a (List.mem_append_left _ z)
        · rw [List.mem_singleton] at z
          have : 1 ≤ m := h (.lost m) (List.mem_append_right _ (List.mem_singleton.mpr rfl))
          rw [z]; show 1 ≤ n + m; omega
theorem push_ok {L : List It} {a : It} (ha : a.ok) (h : ∀ a ∈ L, a.ok) : ∀ b ∈ push L a, b.ok := by
  cases a with
  | lost n => exact pushL_ok ha h
  | rc t c s vs =>
    intro b hb
    rcases List.mem_append.mp hb with z | z
    · exact h b z
    · rw [List.mem_singleton] at z
      rw [z]; exact ha
theorem foldl_ok : ∀ {M L : List It}, (∀ a ∈ M, a.ok) → (∀ a ∈ L, a.ok) → ∀ a ∈ M.foldl push L, a.ok
  | [], _, _, h => h
  | a :: M, L, hm, h => foldl_ok (M := M) (fun b hb => hm b (List.mem_cons_of_mem _ hb)) (push_ok (hm a List.mem_cons_self) h)
theorem It.num_pos {a : It} (h : a.ok) : 1 ≤ a.num := by
  cases a with
  | lost n => exact h
  | rc t c s vs => exact Int.le_refl _
/-- all of them lost -/
theorem lose_ok : ∀ {M L : List It}, (∀ a ∈ M, a.ok) → (∀ a ∈ L, a.ok) → ∀ a ∈ M.foldl (fun L a => pushL L a.num) L, a.ok
  | [], _, _, h => h
  | a :: M, L, hm, h => lose_ok (M := M) (fun b hb => hm b (List.mem_cons_of_mem _ hb)) (pushL_ok (It.num_pos (hm a List.mem_cons_self)) h)
theorem lose_jnd : ∀ {M L : List It}, jnd L → jnd (M.foldl (fun L a => pushL L a.num) L)
  | [], _, h => h
  | a :: M, L, h => lose_jnd (M := M) (pushL_jnd h)
theorem lose_usd : ∀ {M L : List It}, usd (M.foldl (fun L a => pushL L a.num) L) = usd L
  | [], _ => rfl
  | a :: M, L => (lose_usd (M := M)).trans pushL_usd
theorem lose_len : ∀ {M L : List It}, (M.foldl (fun L a => pushL L a.num) L).length ≤ L.length + M.length
  | [], _ => Nat.le_refl _
  | a :: M, L => by
    have h := lose_len (M := M) (L := pushL L a.num)
    have := pushL_len (L := L) (n := a.num)
    rw [List.foldl_cons, List.length_cons]
    omega
theorem lose_eq : ∀ {M L : List It}, M ≠ [] → M.foldl (fun L a => pushL L a.num) L = pushL L (numL M)
  | [], _, h => absurd rfl h
  | [a], L, _ => by
    show pushL L a.num = pushL L (a.num + 0)
    rw [Int.add_zero]
  | a :: b :: M, L, _ => by
    rw [List.foldl_cons, lose_eq (by simp), pushL_pushL, numL_cons (a := a)]
theorem Bs.addB_ok {S : Bs} {M : List It} (h : S.ok) (hm : ∀ a ∈ M, a.ok) : (S.addB M).1.ok := by
  have k := mr_ok h (usd_nn M)
  unfold addB
  split
  · next z => exact ⟨k.pol, by show _ = usd (M.foldl push _); rw [foldl_usd, k.used], by show _ ≤ (S.mr _).room; rw [mr_room]; exact z, foldl_jnd k.j, foldl_ok hm k.it⟩
  · exact ⟨k.pol, by show _ = usd (M.foldl _ _); rw [lose_usd]; exact k.used, k.fit, lose_jnd k.j, lose_ok hm k.it⟩
theorem Bs.addB_len {S : Bs} {M : List It} (h : S.ok) : (S.addB M).1.L.length ≤ S.L.length + M.length + 1 := by
  have k := mr_len h (size := usd M)
  unfold addB
  split
  · have := foldl_len (M := M) (L := (S.mr (usd M)).L)
    show (M.foldl push _).length ≤ _
    omega
  · have := lose_len (M := M) (L := (S.mr (usd M)).L)
    show (M.foldl (fun L a => pushL L a.num) _).length ≤ _
    omega
theorem Bs.addB_same {S : Bs} {M : List It} : (S.addB M).1.room = S.room ∧ (S.addB M).1.pol = S.pol ∧ (S.addB M).1.rd = S.rd := by
  unfold addB
  split <;> exact ⟨mr_room, mr_pol, mr_rd⟩
/-- without records -/
theorem usd_none : ∀ {M : List It}, M.filter (fun a => !a.isL) = [] → usd M = 0
  | [], _ => rfl
  | a :: M, h => by
    rw [List.filter_cons] at h
    cases e : a.isL with
    | false => rw [e] at h; cases h
    | true => rw [usd_cons, It.sz_lost e, usd_none (by rw [e] at h; exact h)]; rfl
theorem oneL_filter : ∀ {M : List It}, oneL M = ((M.filter (fun a => !a.isL)).length : Nat)
  | [] => rfl
  | a :: M => by
    rw [oneL_cons, oneL_filter, List.filter_cons]
    cases e : a.isL with
    | false => simp only [It.one, e]; simp; omega
    | true => simp only [It.one, e]; simp
theorem Bs.addB_none {S : Bs} {M : List It} (h : S.ok) (e : M.filter (fun a => !a.isL) = []) : S.addB M = ({ S with L := M.foldl push S.L }, true) := by
  have hu := usd_none e
  unfold addB
  rw [hu, mr_0 h, if_pos (by have := h.fit; omega), Int.add_zero]
theorem Bs.addB_one {S : Bs} {a : It} (h : S.ok) (e : a.isL = false) : S.addB [a] = if (S.mr a.sz).used + a.sz ≤ S.room then ({ S.mr a.sz with used := (S.mr a.sz).used + a.sz, L := (S.mr a.sz).L ++ [a] }, true) else ({ S.mr a.sz with lost := (S.mr a.sz).lost + 1, L := pushL (S.mr a.sz).L 1 }, false) := by
  have hu : usd [a] = a.sz := by rw [usd_cons, usd_nil, Int.add_zero]
  have ho : oneL [a] = 1 := by rw [oneL_cons]; simp only [It.one, e]; rfl
  unfold addB
  rw [hu, ho]
  cases a with
  | lost n => cases e
  | rc t c s vs => rfl
end BF
end
section
/-! buffers in the heap -/
namespace BF
open PySem PySem.Spec PyProof.Rows L2 MM
def Vl.d : Vl → PyData
  | .s x => .tuple [.str "str", .str x]
  | .i n => .tuple [.str "int", .int n]
def It.d : It → PyData
  | .lost n => .tuple [.str "lost", .int n]
  | .rc t c s vs => .tuple [.int t, .int c, .str s, .tuple (vs.map Vl.d)]
def Vl.kd : Vl → Str
  | .s _ => "str"
  | .i _ => "int"
def Vl.v : Vl → V
  | .s x => .str x
  | .i n => .int n
def VlAt (H : Hp) (v : V) (x : Vl) : Prop := ∃ a, v = .ref a ∧ H a = some (.tup [.str x.kd, x.v])
def ItAt (H : Hp) (a : PySem.Addr) : It → Prop
  | .lost n => H a = some (.tup [.str "lost", .int n])
  | .rc t c s vs => ∃ b ws, H a = some (.tup [.int t, .int c, .str s, .ref b]) ∧ H b = some (.tup ws) ∧ All2 (VlAt H) ws vs
def ItV (H : Hp) (v : V) (x : It) : Prop := ∃ a, v = .ref a ∧ ItAt H a x
def Its (H : Hp) (ws : List V) (L : List It) : Prop := All2 (ItV H) ws L
section
variable {H H' H1 H2 : Hp} {K : PySem.W.Frag} {a b h l p : PySem.Addr} {L M : List It} {ws : List V} {v : V}
theorem VlAt.keep (k : KeepT H H') {x : Vl} (h : VlAt H v x) : VlAt H' v x := by
  obtain ⟨a, rfl, e⟩ := h
  exact ⟨a, rfl, k _ _ e⟩
theorem ItAt.keep (k : KeepT H H') {x : It} (h : ItAt H a x) : ItAt H' a x := by
  cases x with
  | lost n => exact k _ _ h
  | rc t c s vs =>
    obtain ⟨b, ws, e1, e2, e3⟩ := h
    exact ⟨b, ws, k _ _ e1, k _ _ e2, e3.imp fun _ _ z => z.keep k⟩
theorem ItV.keep (k : KeepT H H') {x : It} (h : ItV H v x) : ItV H' v x := by
  obtain ⟨a, rfl, e⟩ := h
  exact ⟨a, rfl, e.keep k⟩
theorem Its.keep (k : KeepT H H') (h : Its H ws L) : Its H' ws L := All2.imp (fun _ _ z => z.keep k) h
theorem ItAt.tup {x : It} (h : ItAt H a x) : ∃ xs, H a = some (.tup xs) := by
  cases x with
  | lost n => exact ⟨_, h⟩
  | rc t c s vs =>
    obtain ⟨b, ws, e1, _⟩ := h
    exact ⟨_, e1⟩
theorem dp_vl {x : Vl} (h : VlAt H v x) : Dp K H v x.d := by
  obtain ⟨a, rfl, e⟩ := h
  cases x with
  | s x => exact .tup (R.sqT e) (.cons (.str _) (.cons (.str _) .nil))
  | i n => exact .tup (R.sqT e) (.cons (.str _) (.cons (.int _) .nil))
theorem dp_all {α : Type} {R : V → α → Prop} {f : α → PyData} (h : ∀ v x, R v x → Dp K H v (f x)) {vs : List V} {xs : List α} (r : All2 R vs xs) : DpAll K H vs (xs.map f) := by
  induction r with
  | nil => exact .nil
  | cons r _ ih => exact .cons (h _ _ r) ih
theorem dp_it {x : It} (h : ItV H v x) : Dp K H v x.d := by
  obtain ⟨a, rfl, h⟩ := h
  cases x with
  | lost n => exact .tup (R.sqT h) (.cons (.str _) (.cons (.int _) .nil))
  | rc t c s vs =>
    obtain ⟨b, ws, e1, e2, e3⟩ := h
    exact .tup (R.sqT e1) (.cons (.int _) (.cons (.int _) (.cons (.str _) (.cons (.tup (R.sqT e2) (dp_all (fun _ _ z => dp_vl z) e3)) .nil))))
theorem dp_its (h : Its H ws L) : DpAll K H ws (L.map It.d) := dp_all (fun _ _ z => dp_it z) h
theorem sh_vl {x : Vl} (h : x.ok) : _root_.D.Sh 1 x.d := by
  cases x with
  | s x => exact .tup (.cons (.str (by decide +kernel)) (.cons (.str h.2) .nil))
  | i n => exact .tup (.cons (.str (by decide +kernel)) (.cons (.int _) .nil))
theorem sh_it {x : It} (h : x.ok) : _root_.D.Sh 3 x.d := by
  cases x with
  | lost n => exact (_root_.D.Sh.tup (.cons (.str (by decide +kernel)) (.cons (.int _) .nil)) : _root_.D.Sh (0 + 1) _).mono (by decide)
  | rc t c s vs =>
    refine .tup (.cons (.int _) (.cons (.int _) (.cons (.str h.1) (.cons (.tup fun y hy => ?_) .nil))))
    obtain ⟨x, hx, rfl⟩ := List.mem_map.mp hy
    exact sh_vl (h.2.1 x hx)
theorem sh_its (h : ∀ a ∈ L, a.ok) : _root_.D.Sh 4 (.tuple (L.map It.d)) := .tup fun y hy => by
  obtain ⟨x, hx, rfl⟩ := List.mem_map.mp hy
  exact sh_it (h x hx)
/-- two rows of the same items -/
theorem eq_its {Q : VK} (ha : SqT K H a ws) (hb : SqT K H b ws') (ia : Its H ws L) (ib : Its H ws' L) (ok : ∀ a ∈ L, a.ok) (q : Q (.bl true) H) : rEqD K (.ref a) (.ref b) H Q := by
  refine _root_.D.r_eqD (p := True) (.tup ha (dp_its ia)) (.tup hb (dp_its ib)) (sh_its ok) (sh_its ok) (by decide) (by decide) (by simp) ?_
  rw [decide_eq_true trivial]
  exact q
theorem ne_its {Q : VK} (ha : SqT K H a ws) (hb : SqT K H b ws') (ia : Its H ws L) (ib : Its H ws' L) (ok : ∀ a ∈ L, a.ok) (q : Q (.bl false) H) : rNeD K (.ref a) (.ref b) H Q := by
  refine _root_.D.r_neD (p := True) (.tup ha (dp_its ia)) (.tup hb (dp_its ib)) (sh_its ok) (sh_its ok) (by decide) (by decide) (by simp) ?_
  rw [decide_eq_true trivial]
  exact q
/-- all stands but what A names -/
def Fr (A : List PySem.Addr) (H H' : Hp) : Prop := ∀ b o, H b = some o → b ∉ A → H' b = some o
theorem Fr.refl {A : List PySem.Addr} : Fr A H H := fun _ _ e _ => e
theorem Fr.trans {A : List PySem.Addr} (x : Fr A H H1) (y : Fr A H1 H2) : Fr A H H2 := fun b o e hb => y b o (x b o e hb) hb
theorem Fr.of {A : List PySem.Addr} (s : Same H H') : Fr A H H' := fun b o e _ => s b o e
theorem Fr.mv {A : List PySem.Addr} (s : R.Mv p H H') (hp : p ∈ A) : Fr A H H' := fun b o e hb => s b o e fun z => hb (z ▸ hp)
theorem Fr.sub {A B : List PySem.Addr} (s : Fr A H H') (h : ∀ a ∈ A, a ∈ B) : Fr B H H' := fun b o e hb => s b o e fun z => hb (h b z)
theorem Fr.upd {A : List PySem.Addr} {o : HO} (hp : p ∈ A) : Fr A H (upd H p o) := Fr.mv R.Mv.upd hp
theorem Fr.keepT {A : List PySem.Addr} (s : Fr A H H') (h : ∀ a ∈ A, ∀ xs, H a ≠ some (.tup xs)) : KeepT H H' := fun b xs e => s b _ e fun z => h b z xs e
theorem mv_keepT {o : HO} (s : R.Mv p H H') (e : H p = some o) (h : ∀ xs, o ≠ .tup xs) : KeepT H H' := fun b xs eb => s b _ eb fun z => by
  rw [z, e] at eb
  exact h xs (Option.some.inj eb)
/-- a row of items at h, its list at l -/
def RowAt (CR : PySem.Addr) (H : Hp) (h l : PySem.Addr) (L : List It) : Prop := (∃ dx, H h = some (.ins CR dx [("inner", .ref l)])) ∧ ∃ ws, H l = some (.lst ws) ∧ Its H ws L
variable {CR CB : PySem.Addr}
theorem RowAt.keep (r : RowAt CR H h l L) (k : KeepT H H') (k1 : ∀ o, H h = some o → H' h = some o) (k2 : ∀ o, H l = some o → H' l = some o) : RowAt CR H' h l L := by
  obtain ⟨⟨dx, e1⟩, ws, e2, i⟩ := r
  exact ⟨⟨dx, k1 _ e1⟩, ws, k2 _ e2, i.keep k⟩
theorem RowAt.same (r : RowAt CR H h l L) (s : Same H H') : RowAt CR H' h l L := r.keep (KeepT.of s) (fun _ e => s _ _ e) (fun _ e => s _ _ e)
/-- another list of items in it -/
theorem RowAt.put (r : RowAt CR H h l L) (s : Same H H') {ws : List V} {L2 : List It} (i : Its H' ws L2) : RowAt CR (upd H' l (.lst ws)) h l L2 ∧ R.Mv l H (upd H' l (.lst ws)) := by
  obtain ⟨⟨dx, e1⟩, ws', e2, _⟩ := r
  have ne : h ≠ l := fun z => by rw [z, e2] at e1; cases e1
  exact ⟨⟨⟨dx, by rw [upd_ne ne]; exact s _ _ e1⟩, ws, upd_same, i.keep (KeepT.upd (s _ _ e2) fun _ => nofun)⟩, fun b o e hb => by rw [upd_ne hb]; exact s b o e⟩
theorem RowAt.keepT (r : RowAt CR H h l L) (m : R.Mv l H H') : KeepT H H' := by
  obtain ⟨_, ws', e2, _⟩ := r
  exact mv_keepT m e2 fun _ => nofun
/-- a buffer at b -/
def fsB (h : PySem.Addr) (S : Bs) : List (Str × V) := [("room", .int S.room), ("policy", .str S.pol), ("used", .int S.used), ("lost", .int S.lost), ("half", .ref h), ("reading", .bl S.rd)]
def BufAt (CB CR : PySem.Addr) (H : Hp) (b h l : PySem.Addr) (S : Bs) : Prop := (∃ dx, H b = some (.ins CB dx (fsB h S))) ∧ RowAt CR H h l S.L
theorem BufAt.ne {S : Bs} (B : BufAt CB CR H b h l S) : b ≠ h ∧ b ≠ l ∧ h ≠ l := by
  obtain ⟨⟨dx, e⟩, ⟨dx2, e1⟩, ws, e2, _⟩ := B
  refine ⟨fun z => ?_, fun z => ?_, fun z => ?_⟩
  · rw [z, e1] at e
    have e := Option.some.inj e
    injection e with _ _ e
    cases e
  · rw [z, e2] at e
    cases e
  · rw [z, e2] at e1
    cases e1
theorem BufAt.keepT {S : Bs} (B : BufAt CB CR H b h l S) (m : Fr [b, h, l] H H') : KeepT H H' := by
  obtain ⟨⟨dx, e⟩, ⟨dx2, e1⟩, ws, e2, _⟩ := B
  refine m.keepT fun a ha xs z => ?_
  simp only [List.mem_cons, List.not_mem_nil, or_false] at ha
  rcases ha with rfl | rfl | rfl
  · rw [e] at z; cases z
  · rw [e1] at z; cases z
  · rw [e2] at z; cases z
theorem BufAt.keep {S : Bs} (B : BufAt CB CR H b h l S) (k : KeepT H H') (k0 : ∀ o, H b = some o → H' b = some o) (k1 : ∀ o, H h = some o → H' h = some o) (k2 : ∀ o, H l = some o → H' l = some o) : BufAt CB CR H' b h l S := by
  obtain ⟨⟨dx, e⟩, r⟩ := B
  exact ⟨⟨dx, k0 _ e⟩, r.keep k k1 k2⟩
theorem BufAt.same {S : Bs} (B : BufAt CB CR H b h l S) (s : Same H H') : BufAt CB CR H' b h l S := B.keep (KeepT.of s) (fun _ e => s _ _ e) (fun _ e => s _ _ e) (fun _ e => s _ _ e)
/-- its row has changed -/
theorem BufAt.row {S : Bs} (B : BufAt CB CR H b h l S) (m : R.Mv l H H') {L2 : List It} (r : RowAt CR H' h l L2) : BufAt CB CR H' b h l { S with L := L2 } := by
  obtain ⟨n1, n2, n3⟩ := B.ne
  obtain ⟨⟨dx, e⟩, _⟩ := B
  exact ⟨⟨dx, m _ _ e n2⟩, r⟩
/-- its fields have changed -/
theorem BufAt.fld {S S2 : Bs} (B : BufAt CB CR H b h l S) (s : Same H H') {dx : PySem.Addr} {fs : List (Str × V)} (ef : fs = fsB h S2) (hL : S2.L = S.L) : BufAt CB CR (upd H' b (.ins CB dx fs)) b h l S2 ∧ R.Mv b H (upd H' b (.ins CB dx fs)) := by
  obtain ⟨n1, n2, n3⟩ := B.ne
  obtain ⟨⟨dx0, e⟩, r⟩ := B
  subst ef
  refine ⟨⟨⟨dx, upd_same⟩, ?_⟩, fun b o e hb => by rw [upd_ne hb]; exact s b o e⟩
  rw [hL]
  have k : KeepT H (upd H' b (.ins CB dx (fsB h S2))) := (KeepT.of s).trans (KeepT.upd (s _ _ e) fun _ => nofun)
  exact r.keep k (fun o e => by rw [upd_ne n1.symm]; exact s _ _ e) (fun o e => by rw [upd_ne n2.symm]; exact s _ _ e)
end
section
variable {K : PySem.W.Frag} {C a dx : PySem.Addr} {f m : Str} {fs : List (Str × V)} {v y : V} {Q : VK} {H : Hp} {G : Prop} {σ : L2.St} {nx bk ct : L2.St → Hp → Prop} {rt : V → Hp → Prop} {ta tv : TE} {rd : V → V → Hp → VK → Prop}
theorem q_fld (c : Cls K C) (n : NoAttr K C f) (e : H a = some (.ins C dx fs)) (hl : fs.lookup f = some v) (h : Q v H) : ∃ a' C' dx' fs' v', V.ref a = .ref a' ∧ H a' = some (.ins C' dx' fs') ∧ Cls K C' ∧ NoAttr K C' f ∧ fs'.lookup f = some v' ∧ Q v' H := ⟨a, C, dx, fs, v, rfl, e, c, n, hl, h⟩
theorem q_meth (e : H a = some (.ins C dx fs)) (hl : fs.lookup m = none) (h : G) : ∃ a' dx' fs', V.ref a = .ref a' ∧ H a' = some (.ins C dx' fs') ∧ fs'.lookup m = none ∧ G := ⟨a, dx, fs, rfl, e, hl, h⟩
theorem q_sfld (c : Cls K C) (n : NoAttr K C f) (e : H a = some (.ins C dx fs)) (hl : fs.length < 1000) (h : nx σ (upd H a (.ins C dx (putF f y fs)))) : ∃ a' C' dx' fs', V.ref a = .ref a' ∧ H a' = some (.ins C' dx' fs') ∧ Cls K C' ∧ NoAttr K C' f ∧ fs'.length < 1000 ∧ nx σ (upd H a' (.ins C' dx' (putF f y fs'))) := ⟨a, C, dx, fs, rfl, e, c, n, hl, h⟩
theorem r_faug (h : ta σ H fun x H1 => ∃ a C dx fs v, x = .ref a ∧ H1 a = some (.ins C dx fs) ∧ Cls K C ∧ NoAttr K C f ∧ fs.lookup f = some v ∧
  tv σ H1 fun y H2 => rd v y H2 fun z H3 => ∃ dx' fs', H3 a = some (.ins C dx' fs') ∧ fs'.length < 1000 ∧ nx σ (upd H3 a (.ins C dx' (putF f z fs')))) : sFldAug K ta tv rd f ⟨nx, rt, bk, ct⟩ σ H := h
theorem r_sub {i j : Int} (h : Q (.int (i - j)) H) : rSub (.int i) (.int j) H Q := ⟨i, j, rfl, rfl, h⟩
end
section
variable {K : PySem.W.Frag} {tb : TS} {g : TG} {nx : L2.St → Hp → Prop} {rt : V → Hp → Prop} {σ : L2.St} {H : Hp} {a : PySem.Addr} {xs : List V}
/-- for over a tuple that stands -/
theorem for_tupG (Pv : Nat → L2.St → Hp → Prop) (h0 : Pv 0 σ H) (hG : ∀ i σ H, Pv i σ H → SqT K H a xs)
    (hs : ∀ i v σ H, xs[i]? = some v → Pv i σ H → g v σ H fun σ2 H2 => tb ⟨Pv (i + 1), rt, nx, Pv (i + 1)⟩ σ2 H2) (hd : ∀ σ H, Pv xs.length σ H → nx σ H) : FW (Itt K a) g tb nx rt σ H := by
  refine for_it (D := ⟨nx, rt, fun _ _ => False, fun _ _ => False⟩) (walk_tup (xs := xs)) Pv h0 (fun i σ H _ p => hG i σ H p) (fun i x σ H H' hi p y => ?_) hd
  obtain ⟨rfl, e⟩ := y
  exact hs i x σ _ e p
end
end BF
end
section
/-! promises of rows and buffers -/
namespace R
theorem iteT' {p A B : Prop} [Decidable p] (h : p) (a : A) : if p then A else B := by rw [if_pos h]; exact a
theorem iteF' {p A B : Prop} [Decidable p] (h : ¬ p) (b : B) : if p then A else B := by rw [if_neg h]; exact b
end R
namespace BF
open PySem PySem.Spec PyProof.Rows L2 MM
theorem isi_intT {K : PySem.W.Frag} {H : Hp} {i : Int} : R.CIsi K H (.int i) (.ty "tuple") false := ⟨_, _, .ty _, .base (.int i), kit_ty (by decide +kernel)⟩
theorem at_last {α : Type} (xs : List α) (x : α) : atI (xs ++ [x]) (-1) = some x := by
  unfold atI ixN
  simp
  rw [if_pos (by omega), Option.bind_some]
  rw [show (-1 + ((xs.length : Int) + 1)).toNat = xs.length by omega]
  simp
theorem its_snoc {H : Hp} {ws : List V} {M : List It} {x : It} (i : Its H ws (M ++ [x])) : ∃ ws' v, ws = ws' ++ [v] ∧ Its H ws' M ∧ ItV H v x := by
  induction M generalizing ws with
  | nil =>
    cases i with
    | cons a b => cases b with
      | nil => exact ⟨[], _, rfl, .nil, a⟩
  | cons y M ih =>
    cases i with
    | cons a b =>
      obtain ⟨ws', v, rfl, i', iv⟩ := ih b
      exact ⟨_ :: ws', v, rfl, .cons a i', iv⟩
theorem itv_lost {H : Hp} {p : PySem.Addr} {n : Int} (e : H p = some (.tup [.str "lost", .int n])) : ItV H (.ref p) (.lost n) := ⟨p, rfl, e⟩
theorem Its.nil {H : Hp} : Its H [] [] := MM.All2.nil
theorem Its.cons {H : Hp} {ws : List V} {M : List It} {v : V} {x : It} (iv : ItV H v x) (i : Its H ws M) : Its H (v :: ws) (x :: M) := MM.All2.cons iv i
theorem Its.snoc {H : Hp} {ws : List V} {M : List It} {v : V} {x : It} (i : Its H ws M) (iv : ItV H v x) : Its H (ws ++ [v]) (M ++ [x]) := MM.All2.snoc iv i
theorem Its.app {H : Hp} {ws ws' : List V} {M M' : List It} (i : Its H ws M) (i' : Its H ws' M') : Its H (ws ++ ws') (M ++ M') := MM.All2.app i i'
theorem Its.len {H : Hp} {ws : List V} {M : List It} (i : Its H ws M) : ws.length = M.length := MM.All2.length i
def spIsLost : Sp := fun vs H Q _ => ∃ (a : PySem.Addr) (it : It), vs = [.ref a] ∧ ItAt H a it ∧ Q (.bl it.isL) H
def spRowNew (CR : PySem.Addr) : Sp := fun vs H Q _ => ∃ (h dx : PySem.Addr), vs = [.ref h] ∧ H h = some (.ins CR dx []) ∧ ∀ H' l, H l = none → R.Mv h H H' → RowAt CR H' h l [] → Q .non H'
def spAddLost (CR : PySem.Addr) : Sp := fun vs H Q _ => ∃ (h l : PySem.Addr) (L : List It) (n : Int), vs = [.ref h, .int n] ∧ RowAt CR H h l L ∧ L.length ≤ 10000 ∧ ∀ H', R.Mv l H H' → RowAt CR H' h l (pushL L n) → Q .non H'
def spRowAdd (CR : PySem.Addr) : Sp := fun vs H Q _ => ∃ (h l : PySem.Addr) (L : List It) (a : PySem.Addr) (it : It), vs = [.ref h, .ref a] ∧ RowAt CR H h l L ∧ L.length ≤ 10000 ∧ ItAt H a it ∧ ∀ H', R.Mv l H H' → RowAt CR H' h l (push L it) → Q .non H'
def spLoseFirst (CR : PySem.Addr) : Sp := fun vs H Q _ => ∃ (h l : PySem.Addr) (L : List It) (r : It) (R0 : List It) (n : Int), vs = [.ref h] ∧ RowAt CR H h l L ∧ L.length ≤ 10000 ∧ r.isL = false ∧ ((L = r :: R0 ∧ n = 1) ∨ ∃ m, L = .lost m :: r :: R0 ∧ n = 1 + m) ∧
  ∀ H' a, R.Mv l H H' → RowAt CR H' h l (glue n R0) → ItAt H' a r → Q (.ref a) H'
def spImage (CR : PySem.Addr) : Sp := fun vs H Q _ => ∃ (h l : PySem.Addr) (L : List It), vs = [.ref h] ∧ RowAt CR H h l L ∧ ∀ H' p ws, Same H H' → H' p = some (.tup ws) → Its H' ws L → Q (.ref p) H'
def spSizeOf : Sp := fun vs H Q _ => ∃ (a : PySem.Addr) (it : It), vs = [.ref a] ∧ ItAt H a it ∧ it.isL = false ∧ it.ok ∧ ∀ H', Same H H' → Q (.int it.sz) H'
def spBufNew (CB CR : PySem.Addr) : Sp := fun vs H Q _ => ∃ (b dx : PySem.Addr) (room : Int) (pol : Str), vs = [.ref b, .int room, .str pol] ∧ H b = some (.ins CB dx []) ∧ ∀ H' h l, H h = none → H l = none → Fr [b] H H' → BufAt CB CR H' b h l ⟨room, pol, 0, 0, false, []⟩ → Q .non H'
def spAddBlock (CB CR : PySem.Addr) : Sp := fun vs H Q _ => ∃ (b h l p : PySem.Addr) (S : Bs) (ws : List V) (M : List It), vs = [.ref b, .ref p] ∧ BufAt CB CR H b h l S ∧ S.ok ∧ S.L.length ≤ 5000 ∧ H p = some (.tup ws) ∧ Its H ws M ∧ (∀ a ∈ M, a.ok) ∧ M.length ≤ 1000 ∧
  ∀ H', Fr [b, h, l] H H' → BufAt CB CR H' b h l (S.addB M).1 → Q (.bl (S.addB M).2) H'
def spAdd (CB CR : PySem.Addr) : Sp := fun vs H Q _ => ∃ (b h l a : PySem.Addr) (S : Bs) (it : It), vs = [.ref b, .ref a] ∧ BufAt CB CR H b h l S ∧ S.ok ∧ S.L.length ≤ 5000 ∧ ItAt H a it ∧ it.ok ∧
  ∀ H', Fr [b, h, l] H H' → BufAt CB CR H' b h l (S.addB [it]).1 → Q (.bl (S.addB [it]).2) H'
def spMakeRoom (CB CR : PySem.Addr) : Sp := fun vs H Q _ => ∃ (b h l : PySem.Addr) (S : Bs) (size : Int), vs = [.ref b, .int size] ∧ BufAt CB CR H b h l S ∧ S.ok ∧ S.L.length ≤ 5000 ∧ 0 ≤ size ∧
  ∀ H', Fr [b, h, l] H H' → BufAt CB CR H' b h l (S.mr size) → Q (.bl (decide ((S.mr size).used + size ≤ S.room))) H'
def spLose (CB CR : PySem.Addr) : Sp := fun vs H Q _ => ∃ (b h l p : PySem.Addr) (S : Bs) (ws : List V) (M : List It), vs = [.ref b, .ref p] ∧ BufAt CB CR H b h l S ∧ S.L.length ≤ 6000 ∧ H p = some (.tup ws) ∧ Its H ws M ∧ M.length ≤ 1000 ∧
  ∀ H', Fr [b, h, l] H H' → BufAt CB CR H' b h l { S with lost := S.lost + oneL M, L := M.foldl (fun L a => pushL L a.num) S.L } → Q .non H'
def spHeld (CB CR : PySem.Addr) : Sp := fun vs H Q _ => ∃ (b h l : PySem.Addr) (S : Bs), vs = [.ref b] ∧ BufAt CB CR H b h l S ∧ ∀ H' p ws, Same H H' → H' p = some (.tup ws) → Its H' ws S.L → Q (.ref p) H'
def spSwitch (CB CR : PySem.Addr) : Sp := fun vs H Q _ => ∃ (b h l : PySem.Addr) (S : Bs), vs = [.ref b] ∧ BufAt CB CR H b h l S ∧ (S.rd = true → Q .non H) ∧
  (S.rd = false → ∀ H' p ws h' l', Fr [b] H H' → H h' = none → H l' = none → H' p = some (.tup ws) → Its H' ws S.L → BufAt CB CR H' b h' l' { S with used := 0, rd := true, L := [] } → Q (.ref p) H')
def spGive (CB CR : PySem.Addr) : Sp := fun vs H Q _ => ∃ (b h l : PySem.Addr) (S : Bs), vs = [.ref b] ∧ BufAt CB CR H b h l S ∧ ∀ H', Fr [b] H H' → BufAt CB CR H' b h l { S with rd := false } → Q .non H'
end BF
namespace BF
open PySem PySem.Spec PyProof.Rows L2 MM
theorem six0 {n : Nat} (h : 0 < n) : seqIndex? 0 n = some 0 := by
  unfold seqIndex?
  simp [h]
section
variable {K : PySem.W.Frag} {H H' H1 : Hp} {Q : VK} {l a p h b : PySem.Addr} {v : V} {ws : List V}
theorem r_pop0 (e : H l = some (.lst (v :: ws))) (q : Q v (upd H l (.lst ws))) : rPopAt (.ref l) [.int 0] H Q :=
  ⟨l, v :: ws, 0, 0, v, rfl, rfl, e, by decide, by decide, six0 (by simp), rfl, q⟩
theorem r_popL (e : H l = some (.lst (ws ++ [v]))) (q : Q v (upd H l (.lst ws))) : rPop (.ref l) [] H Q :=
  ⟨l, ws ++ [v], v, rfl, rfl, e, by simp, by rw [List.dropLast_concat]; exact q⟩
theorem tyL {xs : List V} (e : H l = some (.lst xs)) : tyV K "list" (.ref l) H := .inl ⟨rfl, _, R.sqL e⟩
theorem its_cons {x : It} {M : List It} (i : Its H ws (x :: M)) : ∃ a ws', ws = .ref a :: ws' ∧ ItAt H a x ∧ Its H ws' M := by
  cases i with
  | cons iv i =>
    obtain ⟨a, rfl, ha⟩ := iv
    exact ⟨a, _, rfl, ha, i⟩
theorem Its.get {M : List It} (i : Its H ws M) {j : Nat} {x : It} (e : M[j]? = some x) : ∃ a, ws[j]? = some (.ref a) ∧ ItAt H a x := by
  obtain ⟨v, e1, a, rfl, ha⟩ := MM.All2.get i e
  exact ⟨a, e1, ha⟩
theorem Its.get' {M : List It} (i : Its H ws M) {j : Nat} {v : V} (e : ws[j]? = some v) : ∃ a x, v = .ref a ∧ M[j]? = some x ∧ ItAt H a x := by
  obtain ⟨x, e1, a, rfl, ha⟩ := CR.All2.len_get i e
  exact ⟨a, x, rfl, e1, ha⟩
theorem vls_get {vs : List Vl} (i : All2 (VlAt H) ws vs) {j : Nat} {v : V} (e : ws[j]? = some v) : ∃ x a, v = .ref a ∧ vs[j]? = some x ∧ H a = some (.tup [.str x.kd, x.v]) := by
  obtain ⟨x, e1, a, rfl, ha⟩ := CR.All2.len_get i e
  exact ⟨x, a, rfl, e1, ha⟩
/-- its list changed, nothing else -/
theorem RowAt.put' {CR : PySem.Addr} {L L2 : List It} (r : RowAt CR H h l L) (i : Its H ws L2) (hu : upd H l (.lst ws) = H') : RowAt CR H' h l L2 ∧ R.Mv l H H' ∧ H' l = some (.lst ws) ∧ Its H' ws L2 ∧ KeepT H H' := by
  subst hu
  obtain ⟨r2, m2⟩ := r.put (Same.refl _) (ws := ws) (L2 := L2) i
  exact ⟨r2, m2, upd_same, i.keep (r.keepT m2), r.keepT m2⟩
theorem lens_app {vs : List Vl} {f : Vl → List Int} {j : Nat} {x : Vl} (e : vs[j]? = some x) : (vs.take (j + 1)).flatMap f = (vs.take j).flatMap f ++ f x := CR.flat_snoc e
def txl : Vl → List Int
  | .s x => [(x.length : Int)]
  | .i _ => []
theorem txl_sum : ∀ vs : List Vl, (vs.length : Int) + (vs.flatMap txl).sum = szV vs
  | [] => rfl
  | v :: vs => by
    have h := txl_sum vs
    unfold szV at h ⊢
    rw [List.flatMap_cons, List.sum_append, List.map_cons, List.sum_cons, List.length_cons]
    cases v with
    | s x => simp only [txl, Vl.sz, List.sum_cons, List.sum_nil]; omega
    | i n => simp only [txl, Vl.sz, List.sum_nil]; omega
theorem txl_len (vs : List Vl) : (vs.flatMap txl).length ≤ vs.length := by
  have := CR.flat_le (f := txl) (n := 1) (fun x => by cases x <;> simp [txl]) vs
  omega
/-- the sizes of the records -/
def rsz (a : It) : List Int := if a.isL then [] else [a.sz]
theorem rsz_sum : ∀ M : List It, (M.flatMap rsz).sum = usd M
  | [] => rfl
  | a :: M => by
    rw [List.flatMap_cons, List.sum_append, rsz_sum M, usd_cons]
    cases e : a.isL with
    | true => simp [rsz, e, It.sz_lost e]
    | false => simp [rsz, e]
theorem rsz_len (M : List It) : (M.flatMap rsz).length ≤ M.length := by
  have := CR.flat_le (f := rsz) (n := 1) (fun x => by unfold rsz; split <;> simp) M
  omega
end
section
variable {K : PySem.W.Frag} {tb : TS} {g : TG} {nx bk ct : L2.St → Hp → Prop} {rt : V → Hp → Prop} {σ : L2.St} {H : Hp} {tl : TE}
theorem r_forT (h : tl σ H fun x H1 => ∃ a, x = .ref a ∧ (∃ xs, SqT K H1 a xs) ∧ FW (Itt K a) g tb nx rt σ H1) : tFor (iTup K tl) g tb ⟨nx, rt, bk, ct⟩ σ H := h
end
end BF
namespace BF
open PySem PySem.Spec PyProof.Rows L2 MM
def rLenZ : List V → Hp → VK → Prop := fun xs H Q => ∃ z : Str, xs = [.str z] ∧ z.length ≤ 100000 ∧ Q (.int (z.length : Nat)) H
theorem cLenZ {X : Cx} : CallR X (.builtin "len") rLenZ := by
  rintro pins s σ H xs us Q I r ⟨z, rfl, hz, q⟩
  exact call_len pins s σ H _ us Q I r ⟨_, z.length, rfl, ⟨Nat.le_trans hz (by decide), rfl⟩, q⟩
theorem r_lenZ {H : Hp} {Q : VK} {z : Str} (hz : z.length ≤ 100000) (q : Q (.int (z.length : Nat)) H) : rLenZ [.str z] H Q := ⟨z, rfl, hz, q⟩
def rStrZ : List V → Hp → VK → Prop := fun xs H Q => (∃ i : Int, xs = [.int i] ∧ i.natAbs.log2 < 1920 ∧ Q (.str (toString i)) H) ∨ ∃ z : Str, xs = [.str z] ∧ Q (.str z) H
theorem cStrZ {X : Cx} : CallR X (.type "str") rStrZ := by
  rintro pins s σ H xs us Q I r (⟨i, rfl, hz, q⟩ | ⟨z, rfl, q⟩)
  · exact call_str_int pins s σ H _ us Q I r ⟨i, rfl, hz, q⟩
  · exact SkE.call_str_str pins s σ H _ us Q I r ⟨z, rfl, q⟩
end BF
namespace BF
open PySem PySem.Spec PyProof.Rows L2 MM
theorem BufAt.fldU {CB CR : PySem.Addr} {H H' H2 : Hp} {b h l : PySem.Addr} {S S2 : Bs} (B : BufAt CB CR H b h l S) (s : Same H H') {dx : PySem.Addr} {fs : List (Str × V)} (hu : L2.upd H' b (.ins CB dx fs) = H2) (ef : fs = fsB h S2) (hL : S2.L = S.L) : BufAt CB CR H2 b h l S2 ∧ R.Mv b H H2 := by
  subst hu
  exact B.fld s ef hL
end BF
namespace R
open PySem PySem.Spec PyProof.Rows L2
theorem cLenSK {X : Cx} {K0 : PySem.W.Frag} (hK : X.K = K0) : CallR X (.builtin "len") (rLenS K0) := hK ▸ cLenS
theorem cListOfK {X : Cx} {K0 : PySem.W.Frag} (hK : X.K = K0) : CallR X (.type "list") (MM.rListOf K0) := hK ▸ MM.cListOf
theorem cTupOfK {X : Cx} {K0 : PySem.W.Frag} (hK : X.K = K0) : CallR X (.type "tuple") (MM.rTupOf K0) := hK ▸ MM.cTupOf
theorem ixTK {X : Cx} {K0 : PySem.W.Frag} (hK : X.K = K0) : IxR X (rIxT K0) := hK ▸ ix_tup
theorem ixLK {X : Cx} {K0 : PySem.W.Frag} (hK : X.K = K0) : IxR X (rIxL K0) := hK ▸ ix_list
end R
end
section
/-! the laws' own buffers: dicts, and what is drawn -/
namespace BF
open PySem PySem.Spec PyProof.Rows L2 MM
/-- the reader's dict and its row -/
def dd (r : PySem.Addr) (at' : Nat) (seed : Int) : List (Key × V) := [(.inr "row", .ref r), (.inr "at", .int (at' : Int)), (.inr "seed", .int seed)]
def Dw (H : Hp) (p r : PySem.Addr) : Prop := ∃ (ds : List Int) (at' : Nat) (seed : Int), H p = some (.dK (dd r at' seed)) ∧ H r = some (.lst (ds.map V.int))
section
variable {H H' H1 H2 : Hp} {p r b q l a pm : PySem.Addr} {S : Bs} {x : Option Bool} {K : PySem.W.Frag}
theorem Dw.same (s : Same H H') (d : Dw H p r) : Dw H' p r := by
  obtain ⟨ds, n, z, e, e2⟩ := d
  exact ⟨ds, n, z, s _ _ e, s _ _ e2⟩
theorem Dw.keep (d : Dw H p r) (k1 : ∀ o, H p = some o → H' p = some o) (k2 : ∀ o, H r = some o → H' r = some o) : Dw H' p r := by
  obtain ⟨ds, n, z, e, e2⟩ := d
  exact ⟨ds, n, z, k1 _ e, k2 _ e2⟩
theorem Dw.ne (d : Dw H p r) (h : H b = none) : p ≠ b := by
  obtain ⟨ds, n, z, e, e2⟩ := d
  exact ne_of_none e h
/-- p's reader goes on, all else stands -/
def Go (p r : PySem.Addr) (H H' : Hp) : Prop := R.Mv p H H' ∧ Dw H' p r ∧ KeepT H H'
theorem Go.trans (a : Go p r H H1) (b : Go p r H1 H2) : Go p r H H2 := ⟨a.1.trans b.1, b.2.1, a.2.2.trans b.2.2⟩
theorem Go.refl (d : Dw H p r) : Go p r H H := ⟨R.Mv.refl, d, KeepT.refl H⟩
theorem Go.sm (a : Go p r H H1) (s : Same H1 H2) : Go p r H H2 := ⟨a.1.trans (R.Mv.of s), a.2.1.same s, a.2.2.trans (KeepT.of s)⟩
theorem Go.new {o : HO} (a : Go p r H H1) (h : H1 q = none) : Go p r H (upd H1 q o) := a.sm (R.same_new h)
/-- a list that is filled -/
def Grow (H : Hp) (p : PySem.Addr) (n : Nat) (H' : Hp) : Prop := Same H H' ∧ ∃ ds : List Int, H' p = some (.lst (ds.map V.int)) ∧ ds.length ≤ n
theorem Grow.app {n m : Nat} {ds : List Int} {v : Int} (hp : H p = none) (sm : Same H H') (e : H' p = some (.lst (ds.map V.int))) (hl : ds.length ≤ n) (hm : n + 1 ≤ m) : Grow H p m (upd H' p (.lst (ds.map V.int ++ [.int v]))) := by
  refine ⟨fun b o hb => ?_, ds ++ [v], ?_, ?_⟩
  · rw [upd_ne (ne_of_none hb hp)]
    exact sm b o hb
  · rw [upd_same, List.map_append]
    rfl
  · rw [List.length_append]
    show ds.length + 1 ≤ m
    omega
/-- a law's own buffer -/
def mkx : Option Bool → List (Key × V)
  | none => []
  | some g => [(.inr "given", .bl g)]
def mkv (r : PySem.Addr) (S : Bs) (x : Option Bool) : List (Key × V) := (.inr "room", .int S.room) :: (.inr "policy", .str S.pol) :: (.inr "row", .ref r) :: (.inr "lost", .int S.lost) :: mkx x
def MAt (H : Hp) (pm r : PySem.Addr) (S : Bs) (x : Option Bool) : Prop := H pm = some (.dK (mkv r S x)) ∧ ∃ ws, H r = some (.lst ws) ∧ Its H ws S.L
theorem MAt.ne (m : MAt H pm r S x) : pm ≠ r := fun z => by
  obtain ⟨e, ws, e2, _⟩ := m
  rw [z, e2] at e
  cases e
theorem MAt.keep (m : MAt H pm r S x) (k : KeepT H H') (k1 : ∀ o, H pm = some o → H' pm = some o) (k2 : ∀ o, H r = some o → H' r = some o) : MAt H' pm r S x := by
  obtain ⟨e, ws, e2, i⟩ := m
  exact ⟨k1 _ e, ws, k2 _ e2, i.keep k⟩
theorem MAt.same (m : MAt H pm r S x) (s : Same H H') : MAt H' pm r S x := m.keep (KeepT.of s) (fun _ e => s _ _ e) (fun _ e => s _ _ e)
theorem MAt.keepT (m : MAt H pm r S x) (v : R.Mv pm H H') : KeepT H H' := mv_keepT v m.1 fun _ => nofun
theorem mkv_len : (mkv r S x).length ≤ 1000 := by
  cases x with
  | none => show 4 ≤ 1000; decide
  | some g => show 5 ≤ 1000; decide
theorem put_row : putK (mkv r S x) (Sum.inr "row" : Key) (V.ref q) = mkv q S x := by cases x <;> rfl
theorem put_lost {n : Int} : putK (mkv r S x) (Sum.inr "lost" : Key) (V.int n) = mkv r { S with lost := n } x := by cases x <;> rfl
theorem put_given {g g' : Bool} : putK (mkv r S (some g)) (Sum.inr "given" : Key) (V.bl g') = mkv r S (some g') := rfl
/-- m["row"] = a new list -/
theorem MAt.row (m : MAt H pm r S x) (s : Same H H') {ws : List V} {L : List It} (e : H' q = some (.lst ws)) (i : Its H' ws L) (hu : L2.upd H' pm (.dK (mkv q S x)) = H2) : MAt H2 pm q { S with L := L } x ∧ R.Mv pm H H2 ∧ KeepT H' H2 := by
  subst hu
  have em := s _ _ m.1
  have ne : q ≠ pm := fun z => by rw [z, em] at e; cases e
  have k : KeepT H' (L2.upd H' pm (.dK (mkv q S x))) := KeepT.upd em fun _ => nofun
  exact ⟨⟨upd_same, ws, by rw [upd_ne ne]; exact e, i.keep k⟩, fun b o eb hb => by rw [upd_ne hb]; exact s b o eb, k⟩
theorem MAt.lost (m : MAt H pm r S x) (s : Same H H') {n : Int} (hu : L2.upd H' pm (.dK (mkv r { S with lost := n } x)) = H2) : MAt H2 pm r { S with lost := n } x ∧ R.Mv pm H H2 ∧ KeepT H' H2 := by
  subst hu
  have em := s _ _ m.1
  have ne := m.ne
  have k : KeepT H' (L2.upd H' pm (.dK (mkv r { S with lost := n } x))) := KeepT.upd em fun _ => nofun
  obtain ⟨_, ws, e, i⟩ := m
  exact ⟨⟨upd_same, ws, by rw [upd_ne ne.symm]; exact s _ _ e, i.keep ((KeepT.of s).trans k)⟩, fun b o eb hb => by rw [upd_ne hb]; exact s b o eb, k⟩
theorem r_eqIS {Q : VK} {i : Int} {s : Str} (h : Q (.bl false) H) : rEq (.int i) (.str s) H Q := ⟨rfl, by
  rw [show decide (V.int i = V.str s) = false from decide_eq_false nofun]; exact h⟩
theorem r_neIS {Q : VK} {i : Int} {s : Str} (h : Q (.bl true) H) : rNe (.int i) (.str s) H Q := ⟨rfl, by
  rw [show decide (V.int i = V.str s) = false from decide_eq_false nofun]; exact h⟩
theorem r_eqB {Q : VK} {a b : Bool} (h : Q (.bl (decide (a = b))) H) : rEq (.bl a) (.bl b) H Q := ⟨rfl, by
  rw [show decide (V.bl a = V.bl b) = decide (a = b) from by simp]; exact h⟩
theorem r_setAt {Q : Hp → Prop} {xs : List V} {k : Int} {v : V} (e : H p = some (.lst xs)) (h0 : 0 ≤ k) (h1 : k.toNat < xs.length) (q : Q (L2.upd H p (.lst (xs.set k.toNat v)))) : rSetL (.ref p) (.int k) v H Q :=
  ⟨p, xs, k, k.toNat, rfl, rfl, e, by unfold ixN; rw [if_pos h0, if_pos (by omega)], q⟩
/-- what stands first in an item -/
def It.hd : It → V
  | .lost _ => .str "lost"
  | .rc t _ _ _ => .int t
theorem r_hd {Q : VK} {it : It} (h : ItAt H a it) (q : Q it.hd H) : rIxT K (.ref a) (.int 0) H Q := by
  cases it with
  | lost n => exact R.r_ixT (R.sqT h) (R.at_nat (by decide) rfl) q
  | rc t c s vs =>
    obtain ⟨b, ws, e1, _⟩ := h
    exact R.r_ixT (R.sqT e1) (R.at_nat (by decide) rfl) q
theorem r_eqHd {Q : VK} {it : It} (q : Q (.bl it.isL) H) : rEq it.hd (.str "lost") H Q := by
  cases it with
  | lost n => exact R.r_eqS (by rw [decide_eq_true rfl]; exact q)
  | rc t c s vs => exact r_eqIS q
theorem r_neHd {Q : VK} {it : It} (q : Q (.bl (!it.isL)) H) : rNe it.hd (.str "lost") H Q := by
  cases it with
  | lost n => exact R.r_neS (by rw [decide_eq_true rfl]; exact q)
  | rc t c s vs => exact r_neIS q
end
def spDraws (K : PySem.W.Frag) : Sp := fun vs H Q _ => ∃ (a : PySem.Addr) (ns : List Int), vs = [.ref a] ∧ SqL K H a (ns.map V.int) ∧ ns.length ≤ 63 ∧
  ∀ (H' : Hp) (p : PySem.Addr) (ds : List Int), Same H H' → H p = none → H' p = some (.lst (ds.map V.int)) → ds.length ≤ 1260 → Q (.ref p) H'
def spReader (K : PySem.W.Frag) : Sp := fun vs H Q _ => ∃ (a : PySem.Addr) (ns : List Int), vs = [.ref a] ∧ SqL K H a (ns.map V.int) ∧ ns.length ≤ 63 ∧
  ∀ (H' : Hp) (p r : PySem.Addr), Same H H' → Dw H' p r → Q (.ref p) H'
def spNext : Sp := fun vs H Q _ => ∃ (p r : PySem.Addr) (m : Int), vs = [.ref p, .int m] ∧ 0 < m ∧ Dw H p r ∧ ∀ (v : Int) (H' : Hp), 0 ≤ v → v < m → Go p r H H' → Q (.int v) H'
def spRecord : Sp := fun vs H Q _ => ∃ (p r : PySem.Addr), vs = [.ref p] ∧ Dw H p r ∧ ∀ (H' : Hp) (a : PySem.Addr) (it : It), Go p r H H' → ItAt H' a it → it.isL = false → it.ok → Q (.ref a) H'
def spBlock : Sp := fun vs H Q _ => ∃ (p r : PySem.Addr), vs = [.ref p] ∧ Dw H p r ∧ ∀ (H' : Hp) (a : PySem.Addr) (ws : List V) (M : List It), Go p r H H' → H' a = some (.tup ws) → Its H' ws M → (∀ x ∈ M, x.ok) → M.length ≤ 4 → Q (.ref a) H'
def spUsedL (K : PySem.W.Frag) : Sp := fun vs H Q _ => ∃ (l : PySem.Addr) (ws : List V) (L : List It), vs = [.ref l] ∧ SqL K H l ws ∧ Its H ws L ∧ (∀ x ∈ L, x.ok) ∧ L.length ≤ 10000 ∧ ∀ H', Same H H' → Q (.int (usd L)) H'
def spUsedT (K : PySem.W.Frag) : Sp := fun vs H Q _ => ∃ (l : PySem.Addr) (ws : List V) (L : List It), vs = [.ref l] ∧ SqT K H l ws ∧ Its H ws L ∧ (∀ x ∈ L, x.ok) ∧ L.length ≤ 10000 ∧ ∀ H', Same H H' → Q (.int (usd L)) H'
def spJoined (K : PySem.W.Frag) : Sp := fun vs H Q _ => ∃ (l : PySem.Addr) (ws : List V) (L : List It), vs = [.ref l] ∧ SqL K H l ws ∧ Its H ws L ∧ L.length ≤ 10000 ∧ ∀ H' p ws', Same H H' → H p = none → H' p = some (.lst ws') → Its H' ws' (L.foldl push []) → Q (.ref p) H'
def spMade : Sp := fun vs H Q _ => ∃ (pm r : PySem.Addr) (S : Bs) (x : Option Bool) (size : Int), vs = [.ref pm, .int size] ∧ MAt H pm r S x ∧ S.ok ∧ 0 ≤ size ∧ S.L.length ≤ 5000 ∧
  ∀ H' r', R.Mv pm H H' → MAt H' pm r' (S.mr size) x → (r' = r ∨ H r' = none) → Q (.bl (decide ((S.mr size).used + size ≤ S.room))) H'
def spLAdd : Sp := fun vs H Q _ => ∃ (pm r a : PySem.Addr) (S : Bs) (x : Option Bool) (it : It), vs = [.ref pm, .ref a] ∧ MAt H pm r S x ∧ S.ok ∧ S.L.length ≤ 5000 ∧ ItAt H a it ∧ it.isL = false ∧ it.ok ∧
  ∀ H' r', R.Mv pm H H' → MAt H' pm r' (S.addB [it]).1 x → (r' = r ∨ H r' = none) → Q (.bl (S.addB [it]).2) H'
def spLBlock : Sp := fun vs H Q _ => ∃ (pm r a : PySem.Addr) (S : Bs) (x : Option Bool) (ws : List V) (M : List It), vs = [.ref pm, .ref a] ∧ MAt H pm r S x ∧ S.ok ∧ S.L.length ≤ 5000 ∧ H a = some (.tup ws) ∧ Its H ws M ∧ (∀ x ∈ M, x.ok) ∧ M.length ≤ 1000 ∧
  ∀ H' r', R.Mv pm H H' → MAt H' pm r' (S.addB M).1 x → (r' = r ∨ H r' = none) → Q (.bl (S.addB M).2) H'
end BF
namespace BF
open PySem PySem.Spec PyProof.Rows L2 MM
theorem Go.put {p r D : PySem.Addr} {H H1 : Hp} {xs ys : List V} (g : Go p r H H1) (d0 : Dw H p r) (hD : H D = none) (e : H1 D = some (.lst xs)) : Go p r H (L2.upd H1 D (.lst ys)) := by
  have n1 : p ≠ D := d0.ne hD
  have n2 : r ≠ D := by
    obtain ⟨ds, n, z, _, e2⟩ := d0
    exact ne_of_none e2 hD
  refine ⟨fun b o eb hb => ?_, g.2.1.keep (fun o eo => by rw [upd_ne n1]; exact eo) (fun o eo => by rw [upd_ne n2]; exact eo), g.2.2.trans (KeepT.upd e fun _ => nofun)⟩
  rw [upd_ne (ne_of_none eb hD)]
  exact g.1 b o eb hb
theorem cut_abc : ∀ n : Nat, n < 11 → (cutS "abcdefghij" none (some (n : Int))).length ≤ 32 ∧ PyData.strOk (cutS "abcdefghij" none (some (n : Int))) = true := by decide +kernel
theorem pick3 {i : Int} (h0 : 0 ≤ i) (h1 : i < 3) : ∃ s : Str, PyData.strOk s = true ∧ atI [V.str "trace", V.str "say", V.str "fault"] i = some (.str s) := by
  have : i = 0 ∨ i = 1 ∨ i = 2 := by omega
  rcases this with rfl | rfl | rfl
  · exact ⟨"trace", by decide +kernel, rfl⟩
  · exact ⟨"say", by decide +kernel, rfl⟩
  · exact ⟨"fault", by decide +kernel, rfl⟩
theorem vls_keep {H H' : Hp} (k : KeepT H H') {ws : List V} {vs : List Vl} (h : All2 (VlAt H) ws vs) : All2 (VlAt H') ws vs := h.imp fun _ _ z => z.keep k
def vsz (x : Vl) : Int := match x with
  | .s z => 1 + (z.length : Int) * 1
  | .i _ => 1 + 0
theorem vsz_sum : ∀ vs : List Vl, (vs.map vsz).sum = szV vs
  | [] => rfl
  | v :: vs => by
    have h := vsz_sum vs
    unfold szV at h ⊢
    rw [List.map_cons, List.sum_cons, List.map_cons, List.sum_cons, h]
    cases v <;> simp [vsz, Vl.sz]
end BF
namespace BF
open PySem PySem.Spec PyProof.Rows L2 MM
theorem small_log {n : Int} (h : 0 ≤ n ∧ n < 1000000) : n.natAbs.log2 < 1920 := by
  have h1 : n.natAbs < 2 ^ 100 := Nat.lt_of_lt_of_le (show n.natAbs < 1000000 by omega) (by decide)
  exact Nat.lt_of_lt_of_le (PySem.Flt.log2_lt_of (k := 100) (by decide) h1) (by decide)
theorem small_len {n : Int} (h : 0 ≤ n ∧ n < 1000000) : (Str.ofString (toString n)).length ≤ 100000 := Nat.le_trans (int_text_len_1921 (small_log h)) (by decide)
end BF
namespace BF
open PySem PySem.Spec PyProof.Rows L2 MM
theorem set_last {α : Type} (xs : List α) (x y : α) : (xs ++ [x]).set xs.length y = xs ++ [y] := by
  rw [List.set_append_right (h := Nat.le_refl _), Nat.sub_self]
  rfl
theorem at_len {α : Type} (xs : List α) (x : α) : atI (xs ++ [x]) (((xs ++ [x]).length : Int) - 1) = some x := by
  refine R.at_nat (by rw [List.length_append]; simp) ?_
  rw [List.length_append]
  rw [show (((xs.length + [x].length : Nat) : Int) - 1).toNat = xs.length by simp]
  simp
theorem MAt.congr {H : Hp} {pm r : PySem.Addr} {S S' : Bs} {x : Option Bool} (m : MAt H pm r S x) (h1 : S'.room = S.room) (h2 : S'.pol = S.pol) (h3 : S'.lost = S.lost) (h4 : S'.L = S.L) : MAt H pm r S' x := by
  unfold MAt mkv at m ⊢
  rw [h1, h2, h3, h4]
  exact m
theorem sl_1 {K : PySem.W.Frag} {H : Hp} {Q : VK} {a : PySem.Addr} {v : V} {ws : List V} (h : SqL K H a (v :: ws)) (q : ∀ p, H p = none → Q (.ref p) (L2.upd H p (.lst ws))) : rSlL K (.ref a) (some 1) none H Q :=
  ⟨a, v :: ws, rfl, h, fun p hp => by
    rw [show cutV (v :: ws) (some 1) none = ws from CR.cut_from (n := 1) (v :: ws)]
    exact q p hp⟩
theorem r_cat {H : Hp} {Q : VK} {a b : PySem.Addr} {xs ys : List V} (h1 : H a = some (.lst xs)) (h2 : H b = some (.lst ys)) (hl : xs.length + ys.length ≤ 100000) (q : ∀ p, H p = none → Q (.ref p) (L2.upd H p (.lst (xs ++ ys)))) : rCat (.ref a) (.ref b) H Q :=
  ⟨a, b, xs, ys, rfl, rfl, h1, h2, R.size_of hl, q⟩
theorem isL_d {it : It} : it.isL = true ∨ it.isL = false := by cases it <;> simp [It.isL]
end BF
namespace BF
open PySem PySem.Spec PyProof.Rows L2 MM
theorem or_key {c c' : TT} {σ : L2.St} {H : Hp} {B : Bool → Hp → Prop} (J : Bool → Hp → Prop) (key : ∀ b H', J b H' → B b H') (h : (∀ b H', J b H' → B b H') → tOr c c' σ H B) : tOr c c' σ H B := h key
def lsn (a : It) : List Int := match a with
  | .lost n => [n]
  | .rc .. => []
theorem lsn_sum : ∀ M : List It, oneL M + (M.flatMap lsn).sum = numL M
  | [] => rfl
  | a :: M => by
    have h := lsn_sum M
    rw [List.flatMap_cons, List.sum_append, oneL_cons, numL_cons, ← h]
    cases a with
    | lost n => simp only [lsn, It.one, It.isL, It.num, List.sum_cons, List.sum_nil]; simp; omega
    | rc t c s vs => simp only [lsn, It.one, It.isL, It.num, List.sum_nil]; simp; omega
theorem lsn_len (M : List It) : (M.flatMap lsn).length ≤ M.length := by
  have := CR.flat_le (f := lsn) (n := 1) (fun x => by cases x <;> simp [lsn]) M
  omega
end BF
end
section
/-! a program's buffer, a law's own one and the draws side by side -/
namespace BF
open PySem PySem.Spec PyProof.Rows L2 MM
structure Jn (CB CR : PySem.Addr) (H : Hp) (pd pr b h l pm r : PySem.Addr) (S S' : Bs) (x : Option Bool) : Prop where
  d : Dw H pd pr
  B : BufAt CB CR H b h l S
  m : MAt H pm r S' x
  n1 : l ≠ r
  n2 : l ≠ pr
section
variable {CB CR : PySem.Addr} {H H' : Hp} {pd pr b h l pm r h' l' r' : PySem.Addr} {S S' S2 : Bs} {x x' : Option Bool}
theorem dict_ne {a c : PySem.Addr} {kvs : List (Key × V)} {o : HO} (e : H a = some (.dK kvs)) (e2 : H c = some o) (hn : o ≠ .dK kvs) : a ≠ c := fun z => by
  rw [z, e2] at e
  exact hn (Option.some.inj e)
theorem Jn.draw (J : Jn CB CR H pd pr b h l pm r S S' x) (g : Go pd pr H H') : Jn CB CR H' pd pr b h l pm r S S' x := by
  obtain ⟨⟨ds, n, z, ed, er⟩, B, m, n1, n2⟩ := J
  obtain ⟨⟨dx, eb⟩, ⟨dx1, eh⟩, ws, el, _⟩ := id B
  obtain ⟨em, ws2, e2, _⟩ := id m
  refine ⟨g.2.1, B.keep g.2.2 (fun o e => g.1 _ _ e ?_) (fun o e => g.1 _ _ e ?_) (fun o e => g.1 _ _ e ?_), m.keep g.2.2 (fun o e => g.1 _ _ e ?_) (fun o e => g.1 _ _ e ?_), n1, n2⟩
  · exact (dict_ne ed eb nofun).symm
  · exact (dict_ne ed eh nofun).symm
  · exact (dict_ne ed el nofun).symm
  · refine (dict_ne ed em fun q => ?_).symm
    injection q with q
    unfold mkv dd at q
    injection q with q _
    injection q with q _
    exact absurd q (by decide)
  · exact (dict_ne ed e2 nofun).symm
theorem Jn.buf (J : Jn CB CR H pd pr b h l pm r S S' x) (f : Fr [b, h, l] H H') (B' : BufAt CB CR H' b h' l' S2) (hl : l' = l ∨ H l' = none) : Jn CB CR H' pd pr b h' l' pm r S2 S' x := by
  obtain ⟨⟨ds, n, z, ed, er⟩, B, m, n1, n2⟩ := J
  have k := B.keepT f
  obtain ⟨⟨dx, eb⟩, ⟨dx1, eh⟩, ws, el, _⟩ := id B
  obtain ⟨em, ws2, e2, _⟩ := id m
  have kd : ∀ {a : PySem.Addr} {kvs : List (Key × V)}, H a = some (.dK kvs) → a ∉ [b, h, l] := fun {a} {kvs} e q => by
    simp only [List.mem_cons, List.not_mem_nil, or_false] at q
    rcases q with rfl | rfl | rfl
    · rw [eb] at e; cases e
    · rw [eh] at e; cases e
    · rw [el] at e; cases e
  have kl : ∀ {a : PySem.Addr} {xs : List V}, H a = some (.lst xs) → l ≠ a → a ∉ [b, h, l] := fun {a} {xs} e ne q => by
    simp only [List.mem_cons, List.not_mem_nil, or_false] at q
    rcases q with rfl | rfl | rfl
    · rw [eb] at e; cases e
    · rw [eh] at e; cases e
    · exact ne rfl
  refine ⟨⟨ds, n, z, f _ _ ed (kd ed), f _ _ er (kl er n2)⟩, B', m.keep k (fun o e => f _ _ e (kd em)) (fun o e => f _ _ e (kl e2 n1)), ?_, ?_⟩
  · rcases hl with rfl | hl
    · exact n1
    · exact fun z => by rw [z, e2] at hl; cases hl
  · rcases hl with rfl | hl
    · exact n2
    · exact fun z => by rw [z, er] at hl; cases hl
theorem Jn.law (J : Jn CB CR H pd pr b h l pm r S S' x) (v : R.Mv pm H H') (m' : MAt H' pm r' S2 x') (hr : r' = r ∨ H r' = none) : Jn CB CR H' pd pr b h l pm r' S S2 x' := by
  obtain ⟨⟨ds, n, z, ed, er⟩, B, m, n1, n2⟩ := J
  have k := m.keepT v
  obtain ⟨⟨dx, eb⟩, ⟨dx1, eh⟩, ws, el, _⟩ := id B
  obtain ⟨em, ws2, e2, _⟩ := id m
  have nd : pd ≠ pm := dict_ne ed em fun q => by
    injection q with q
    unfold mkv dd at q
    injection q with q _
    injection q with q _
    exact absurd q (by decide)
  refine ⟨⟨ds, n, z, v _ _ ed nd, v _ _ er (dict_ne em er nofun).symm⟩, B.keep k (fun o e => v _ _ e (dict_ne em eb nofun).symm) (fun o e => v _ _ e (dict_ne em eh nofun).symm) (fun o e => v _ _ e (dict_ne em el nofun).symm), m', ?_, n2⟩
  rcases hr with rfl | hr
  · exact n1
  · exact fun z => by rw [← z, el] at hr; cases hr
/-- another buffer stands apart -/
theorem Jn.apart (J : Jn CB CR H pd pr b h l pm r S S' x) {b2 h2 l2 : PySem.Addr} {S3 : Bs} (B2 : BufAt CB CR H b2 h2 l2 S3) (ap : ∀ c ∈ [b2, h2, l2], c ∉ [b, h, l]) (f : Fr [pd, b, h, l, pm] H H') (k : KeepT H H') : BufAt CB CR H' b2 h2 l2 S3 := by
  obtain ⟨⟨ds, n, z, ed, er⟩, B, m, n1, n2⟩ := J
  obtain ⟨⟨dx, eb⟩, ⟨dx1, eh⟩, ws, el, _⟩ := id B2
  obtain ⟨em, ws2, e2, _⟩ := id m
  have go : ∀ {c : PySem.Addr} {o : HO}, H c = some o → (∀ kvs, o ≠ .dK kvs) → c ∉ [b, h, l] → ∀ o, H c = some o → H' c = some o := fun {c} {o} e hn ap o' e' => f _ _ e' fun q => by
    simp only [List.mem_cons, List.not_mem_nil, or_false] at q ap
    rcases q with rfl | rfl | rfl | rfl | rfl
    · rw [ed] at e; exact hn _ (Option.some.inj e).symm
    · exact ap (.inl rfl)
    · exact ap (.inr (.inl rfl))
    · exact ap (.inr (.inr rfl))
    · rw [em] at e; exact hn _ (Option.some.inj e).symm
  exact B2.keep k (go eb (fun _ => nofun) (ap _ (by simp))) (go eh (fun _ => nofun) (ap _ (by simp))) (go el (fun _ => nofun) (ap _ (by simp)))
end
/-- what a deed does: the same on both sides -/
def spDeed22 (CB CR : PySem.Addr) : Sp := fun vs H Q _ => ∃ (pd pr b h l pm r : PySem.Addr) (S : Bs), vs = [.ref pd, .ref b, .ref pm] ∧ Jn CB CR H pd pr b h l pm r S S (some S.rd) ∧ S.ok ∧ S.L.length ≤ 4000 ∧
  ∀ H' h' l' r' S', Jn CB CR H' pd pr b h' l' pm r' S' S' (some S'.rd) → S'.ok → S'.L.length ≤ S.L.length + 6 → Fr [pd, b, h, l, pm] H H' → KeepT H H' → (h' = h ∨ H h' = none) → (l' = l ∨ H l' = none) → Q (.bl true) H'
end BF
end
section
/-! things side by side, each with its own addresses -/
namespace BF
open PySem PySem.Spec PyProof.Rows L2 MM
structure Ob where
  fp : List PySem.Addr
  P : Hp → Prop
  nt : ∀ H, P H → ∀ a ∈ fp, ∃ u, H a = some u ∧ ∀ xs, u ≠ .tup xs
  st : ∀ H H', P H → KeepT H H' → (∀ a ∈ fp, ∀ u, H a = some u → H' a = some u) → P H'
def Sep (H : Hp) (os : List Ob) : Prop := (∀ o ∈ os, o.P H) ∧ os.Pairwise fun o o' => ∀ a ∈ o.fp, a ∉ o'.fp
section
variable {H H' : Hp} {o o' : Ob} {pre post os : List Ob}
theorem Sep.keepT (p : o.P H) (f : Fr o.fp H H') : KeepT H H' := f.keepT fun a ha xs e => by
  obtain ⟨u, e1, e2⟩ := o.nt H p a ha
  rw [e1] at e
  exact e2 xs (Option.some.inj e)
theorem Sep.same (s : Sep H os) (h : Same H H') : Sep H' os := ⟨fun o ho => o.st H H' (s.1 o ho) (KeepT.of h) fun _ _ _ e => h _ _ e, s.2⟩
theorem Sep.get (s : Sep H os) (h : o ∈ os) : o.P H := s.1 o h
theorem Sep.apart (s : Sep H (pre ++ o :: post)) : ∀ p ∈ pre ++ post, ∀ a ∈ p.fp, a ∉ o.fp := by
  obtain ⟨_, h⟩ := s
  rw [List.pairwise_append] at h
  obtain ⟨_, h2, h3⟩ := h
  rw [List.pairwise_cons] at h2
  intro p hp a ha hb
  rcases List.mem_append.mp hp with z | z
  · exact h3 p z o List.mem_cons_self a ha hb
  · exact h2.1 p z a hb ha
/-- one of them changes -/
theorem Sep.upd (s : Sep H (pre ++ o :: post)) (f : Fr o.fp H H') (p : o'.P H') (hf : ∀ a ∈ o'.fp, a ∈ o.fp ∨ H a = none) : Sep H' (pre ++ o' :: post) := by
  have po : o.P H := s.1 o (List.mem_append_right _ List.mem_cons_self)
  have k : KeepT H H' := Sep.keepT po f
  have ap := s.apart
  have keep : ∀ q ∈ pre ++ post, q.P H' := fun q hq => by
    have hq' : q ∈ pre ++ o :: post := by
      rcases List.mem_append.mp hq with z | z
      · exact List.mem_append_left _ z
      · exact List.mem_append_right _ (List.mem_cons_of_mem _ z)
    exact q.st H H' (s.1 q hq') k fun a ha u e => f a u e (ap q hq a ha)
  have fresh : ∀ q ∈ pre ++ post, ∀ a ∈ q.fp, a ∉ o'.fp := fun q hq a ha hb => by
    rcases hf a hb with z | z
    · exact ap q hq a ha z
    · have hq' : q ∈ pre ++ o :: post := by
        rcases List.mem_append.mp hq with z | z
        · exact List.mem_append_left _ z
        · exact List.mem_append_right _ (List.mem_cons_of_mem _ z)
      obtain ⟨u, e, _⟩ := q.nt H (s.1 q hq') a ha
      rw [z] at e
      cases e
  refine ⟨fun q hq => ?_, ?_⟩
  · rcases List.mem_append.mp hq with z | z
    · exact keep q (List.mem_append_left _ z)
    · rcases List.mem_cons.mp z with z | z
      · rw [z]; exact p
      · exact keep q (List.mem_append_right _ z)
  · have h := s.2
    rw [List.pairwise_append, List.pairwise_cons] at h ⊢
    refine ⟨h.1, ⟨fun q hq a ha hb => fresh q (List.mem_append_right _ hq) a hb ha, h.2.1.2⟩, fun q hq r hr => ?_⟩
    rcases List.mem_cons.mp hr with z | z
    · subst z
      exact fun a ha hb => fresh q (List.mem_append_left _ hq) a ha hb
    · exact h.2.2 q hq r (List.mem_cons_of_mem _ z)
theorem Sep.add (s : Sep H os) (h : Same H H') (p : o.P H') (hf : ∀ a ∈ o.fp, H a = none) : Sep H' (o :: os) := by
  have s' := s.same h
  refine ⟨fun q hq => ?_, List.pairwise_cons.mpr ⟨fun q hq a ha hb => ?_, s'.2⟩⟩
  · rcases List.mem_cons.mp hq with z | z
    · rw [z]; exact p
    · exact s'.1 q z
  · obtain ⟨u, e, _⟩ := q.nt H (s.1 q hq) a hb
    rw [hf a ha] at e
    cases e
theorem Sep.perm {os' : List Ob} (s : Sep H os) (h : os.Perm os') : Sep H os' :=
  ⟨fun o ho => s.1 o (h.mem_iff.mpr ho), (h.pairwise_iff (fun {o o'} (r : ∀ a ∈ o.fp, a ∉ o'.fp) a ha hb => r a hb ha)).mp s.2⟩
theorem Sep.drop (s : Sep H (pre ++ o :: post)) : Sep H (pre ++ post) :=
  ⟨fun q hq => s.1 q (by
    rcases List.mem_append.mp hq with z | z
    · exact List.mem_append_left _ z
    · exact List.mem_append_right _ (List.mem_cons_of_mem _ z)), by
    have h := s.2
    rw [List.pairwise_append, List.pairwise_cons] at h
    rw [List.pairwise_append]
    exact ⟨h.1, h.2.1.2, fun q hq r hr => h.2.2 q hq r (List.mem_cons_of_mem _ hr)⟩⟩
end
/-- the draws -/
def obD (p r : PySem.Addr) : Ob where
  fp := [p, r]
  P := fun H => Dw H p r
  nt := fun H ⟨ds, n, z, e, e2⟩ a ha => by
    simp only [List.mem_cons, List.not_mem_nil, or_false] at ha
    rcases ha with rfl | rfl
    · exact ⟨_, e, fun _ => nofun⟩
    · exact ⟨_, e2, fun _ => nofun⟩
  st := fun H H' d _ k => d.keep (fun o e => k p (by simp) o e) (fun o e => k r (by simp) o e)
/-- a buffer -/
def obB (CB CR b h l : PySem.Addr) (S : Bs) : Ob where
  fp := [b, h, l]
  P := fun H => BufAt CB CR H b h l S
  nt := fun H B a ha => by
    obtain ⟨⟨dx, eb⟩, ⟨dx1, eh⟩, ws, el, _⟩ := B
    simp only [List.mem_cons, List.not_mem_nil, or_false] at ha
    rcases ha with rfl | rfl | rfl
    · exact ⟨_, eb, fun _ => nofun⟩
    · exact ⟨_, eh, fun _ => nofun⟩
    · exact ⟨_, el, fun _ => nofun⟩
  st := fun H H' B kt k => B.keep kt (fun o e => k b (by simp) o e) (fun o e => k h (by simp) o e) (fun o e => k l (by simp) o e)
/-- a law's own buffer -/
def obM (pm r : PySem.Addr) (S : Bs) (x : Option Bool) : Ob where
  fp := [pm, r]
  P := fun H => MAt H pm r S x
  nt := fun H m a ha => by
    obtain ⟨e, ws, e2, _⟩ := m
    simp only [List.mem_cons, List.not_mem_nil, or_false] at ha
    rcases ha with rfl | rfl
    · exact ⟨_, e, fun _ => nofun⟩
    · exact ⟨_, e2, fun _ => nofun⟩
  st := fun H H' m kt k => m.keep kt (fun o e => k pm (by simp) o e) (fun o e => k r (by simp) o e)
/-- speculations: how many places, their room, lost, given -/
structure Sq where
  places : Int
  room : Int
  lost : Int
  given : Int
def fsS (wt : PySem.Addr) (P : Sq) : List (Str × V) := [("places", .int P.places), ("room", .int P.room), ("lost", .int P.lost), ("given", .int P.given), ("waiting", .ref wt)]
def SpAt (CS : PySem.Addr) (H : Hp) (sp wt : PySem.Addr) (P : Sq) (kvs : List (Key × V)) : Prop := (∃ dx, H sp = some (.ins CS dx (fsS wt P))) ∧ H wt = some (.dK kvs)
def obS (CS sp wt : PySem.Addr) (P : Sq) (kvs : List (Key × V)) : Ob where
  fp := [sp, wt]
  P := fun H => SpAt CS H sp wt P kvs
  nt := fun H m a ha => by
    obtain ⟨⟨dx, e⟩, e2⟩ := m
    simp only [List.mem_cons, List.not_mem_nil, or_false] at ha
    rcases ha with rfl | rfl
    · exact ⟨_, e, fun _ => nofun⟩
    · exact ⟨_, e2, fun _ => nofun⟩
  st := fun H H' ⟨⟨dx, e⟩, e2⟩ kt k => ⟨⟨dx, k sp (by simp) _ e⟩, k wt (by simp) _ e2⟩
/-- a law's own speculations -/
def sdv (so : PySem.Addr) (P : Sq) : List (Key × V) := [(.inr "places", .int P.places), (.inr "room", .int P.room), (.inr "open", .ref so), (.inr "last", .int P.given), (.inr "lost", .int P.lost)]
def StAt (H : Hp) (sd so : PySem.Addr) (P : Sq) (kvs : List (Key × V)) : Prop := H sd = some (.dK (sdv so P)) ∧ H so = some (.dK kvs) ∧ sd ≠ so
def obT (sd so : PySem.Addr) (P : Sq) (kvs : List (Key × V)) : Ob where
  fp := [sd, so]
  P := fun H => StAt H sd so P kvs
  nt := fun H m a ha => by
    obtain ⟨e, e2, _⟩ := m
    simp only [List.mem_cons, List.not_mem_nil, or_false] at ha
    rcases ha with rfl | rfl
    · exact ⟨_, e, fun _ => nofun⟩
    · exact ⟨_, e2, fun _ => nofun⟩
  st := fun H H' ⟨e, e2, n⟩ kt k => ⟨k sd (by simp) _ e, k so (by simp) _ e2, n⟩
/-- the open ones -/
structure En where
  n : Int
  b : PySem.Addr
  h : PySem.Addr
  l : PySem.Addr
  pm : PySem.Addr
  r : PySem.Addr
  S : Bs
def kvB (es : List En) : List (Key × V) := es.map fun e => (.inl e.n, .ref e.b)
def kvM (es : List En) : List (Key × V) := es.map fun e => (.inl e.n, .ref e.pm)
def asc (es : List En) : Prop := es.Pairwise fun a b => a.n < b.n
theorem valV_at {f : En → V} {pre post : List En} {e : En} (h : asc (pre ++ e :: post)) : valV ((pre ++ e :: post).map fun e => ((.inl e.n : Key), f e)) (.inl e.n) = some (f e) := by
  induction pre with
  | nil => exact valV_pos rfl
  | cons a pre ih =>
    have h' := List.pairwise_cons.mp h
    have hn : a.n < e.n := h'.1 e (List.mem_append_right _ List.mem_cons_self)
    rw [List.cons_append, List.map_cons, valV_neg (by show ¬ (Sum.inl a.n : Key) = .inl e.n; intro z; injection z with z; omega)]
    exact ih h'.2
theorem valV_none {f : En → V} {n : Int} : ∀ {es : List En}, (∀ e ∈ es, e.n ≠ n) → valV (es.map fun e => ((.inl e.n : Key), f e)) (.inl n) = none
  | [], _ => rfl
  | a :: es, h => by
    rw [List.map_cons, valV_neg (by show ¬ (Sum.inl a.n : Key) = .inl n; intro z; injection z with z; exact h a List.mem_cons_self z)]
    exact valV_none fun e he => h e (List.mem_cons_of_mem _ he)
theorem en_cases {n : Int} (es : List En) : (∀ e ∈ es, e.n ≠ n) ∨ ∃ pre e post, es = pre ++ e :: post ∧ e.n = n := by
  induction es with
  | nil => exact .inl fun _ h => nomatch h
  | cons a es ih =>
    by_cases z : a.n = n
    · exact .inr ⟨[], a, es, rfl, z⟩
    · rcases ih with h | ⟨pre, e, post, rfl, h⟩
      · exact .inl fun e he => by
          rcases List.mem_cons.mp he with y | y
          · rw [y]; exact z
          · exact h e y
      · exact .inr ⟨a :: pre, e, post, rfl, h⟩
theorem dropK_at {f : En → V} {pre post : List En} {e : En} (h : asc (pre ++ e :: post)) : dropK ((pre ++ e :: post).map fun e => ((.inl e.n : Key), f e)) (.inl e.n) = (pre ++ post).map fun e => ((.inl e.n : Key), f e) := by
  have h' := List.pairwise_append.mp h
  have h2 := List.pairwise_cons.mp h'.2.1
  have id' : ∀ {l : List En}, (∀ x ∈ l, x.n ≠ e.n) → (l.map fun e => ((.inl e.n : Key), f e)).filter (fun kv => decide (kv.1 ≠ .inl e.n)) = l.map fun e => ((.inl e.n : Key), f e) := by
    intro l hl
    rw [List.filter_eq_self]
    intro kv hk
    obtain ⟨x, hx, rfl⟩ := List.mem_map.mp hk
    rw [decide_eq_true_iff]
    intro z
    injection z with z
    exact hl x hx z
  unfold dropK
  rw [List.map_append, List.map_append, List.map_cons, List.filter_append, List.filter_cons_of_neg (by simp), id' fun x hx => by
    have := h'.2.2 x hx e List.mem_cons_self
    omega, id' fun x hx => by
    have := h2.1 x hx
    omega]
theorem putK_new {f : En → V} {n : Int} {v : V} {es : List En} (h : ∀ e ∈ es, e.n ≠ n) : putK (es.map fun e => ((.inl e.n : Key), f e)) (.inl n) v = (es.map fun e => ((.inl e.n : Key), f e)) ++ [(.inl n, v)] := by
  unfold putK
  rw [if_neg]
  rw [valV_any, valV_none h]
  exact Bool.false_ne_true
theorem asc_drop {pre post : List En} {e : En} (h : asc (pre ++ e :: post)) : asc (pre ++ post) := by
  have h' := List.pairwise_append.mp h
  have h2 := List.pairwise_cons.mp h'.2.1
  exact List.pairwise_append.mpr ⟨h'.1, h2.2, fun a ha b hb => h'.2.2 a ha b (List.mem_cons_of_mem _ hb)⟩
theorem asc_chg {pre post : List En} {e e' : En} (h : asc (pre ++ e :: post)) (hn : e'.n = e.n) : asc (pre ++ e' :: post) := by
  have h' := List.pairwise_append.mp h
  have h2 := List.pairwise_cons.mp h'.2.1
  refine List.pairwise_append.mpr ⟨h'.1, List.pairwise_cons.mpr ⟨fun b hb => by rw [hn]; exact h2.1 b hb, h2.2⟩, fun a ha b hb => ?_⟩
  rcases List.mem_cons.mp hb with z | z
  · rw [z, hn]; exact h'.2.2 a ha e List.mem_cons_self
  · exact h'.2.2 a ha b (List.mem_cons_of_mem _ z)
theorem asc_new {es : List En} {e : En} (h : asc es) (hn : ∀ x ∈ es, x.n < e.n) : asc (es ++ [e]) :=
  List.pairwise_append.mpr ⟨h, List.pairwise_singleton _ _, fun a ha b hb => by
    rw [List.mem_singleton] at hb
    rw [hb]; exact hn a ha⟩
def obE (CB CR : PySem.Addr) (es : List En) : List Ob := es.flatMap fun e => [obB CB CR e.b e.h e.l e.S, obM e.pm e.r e.S none]
theorem obE_app {CB CR : PySem.Addr} {es fs : List En} : obE CB CR (es ++ fs) = obE CB CR es ++ obE CB CR fs := List.flatMap_append
theorem obE_cons {CB CR : PySem.Addr} {e : En} {fs : List En} : obE CB CR (e :: fs) = obB CB CR e.b e.h e.l e.S :: obM e.pm e.r e.S none :: obE CB CR fs := rfl
/-! promises of speculations -/
section
variable (CB CR CS : PySem.Addr)
def spSNew : Sp := fun vs H Q _ => ∃ (sp dx : PySem.Addr) (pl rm : Int), vs = [.ref sp, .int pl, .int rm] ∧ H sp = some (.ins CS dx []) ∧ ∀ H' wt, H wt = none → Fr [sp] H H' → SpAt CS H' sp wt ⟨pl, rm, 0, 0⟩ [] → Q .non H'
def spBegin : Sp := fun vs H Q _ => ∃ (sp wt : PySem.Addr) (P : Sq) (kvs : List (Key × V)), vs = [.ref sp] ∧ SpAt CS H sp wt P kvs ∧ kvs.length ≤ 100 ∧ (P.places ≤ kvs.length → Q (.int 0) H) ∧
  (kvs.length < P.places → ∀ H1 H2 H' b h l, Fr [sp, wt] H H1 → H1 b = none → H1 h = none → H1 l = none → SpAt CS H1 sp wt { P with given := P.given + 1 } kvs → Same H1 H2 → BufAt CB CR H2 b h l ⟨P.room, "hold", 0, 0, false, []⟩ → Fr [sp, wt] H2 H' →
    SpAt CS H' sp wt { P with given := P.given + 1 } (putK kvs (.inl (P.given + 1)) (.ref b)) → Q (.int (P.given + 1)) H')
def spIsOpen : Sp := fun vs H Q _ => ∃ (sp wt : PySem.Addr) (P : Sq) (kvs : List (Key × V)) (n : Int), vs = [.ref sp, .int n] ∧ SpAt CS H sp wt P kvs ∧ Q (.bl (valV kvs (.inl n)).isSome) H
def spSAdd : Sp := fun vs H Q _ => ∃ (sp wt a b h l : PySem.Addr) (P : Sq) (kvs : List (Key × V)) (n : Int) (S : Bs) (it : It), vs = [.ref sp, .int n, .ref a] ∧ SpAt CS H sp wt P kvs ∧ valV kvs (.inl n) = some (.ref b) ∧ BufAt CB CR H b h l S ∧ (∀ c ∈ [sp, wt], c ∉ [b, h, l]) ∧ S.ok ∧ S.L.length ≤ 5000 ∧ ItAt H a it ∧ it.ok ∧
  ∀ H1 H', Fr [b, h, l] H H1 → BufAt CB CR H1 b h l (S.addB [it]).1 → Fr [sp, wt] H1 H' → SpAt CS H' sp wt { P with lost := P.lost + (if (S.addB [it]).2 = true then 0 else 1) } kvs → Q (.bl (S.addB [it]).2) H'
def spSHeld : Sp := fun vs H Q _ => ∃ (sp wt b h l : PySem.Addr) (P : Sq) (kvs : List (Key × V)) (n : Int) (S : Bs), vs = [.ref sp, .int n] ∧ SpAt CS H sp wt P kvs ∧ valV kvs (.inl n) = some (.ref b) ∧ BufAt CB CR H b h l S ∧
  ∀ H' p ws, Same H H' → H' p = some (.tup ws) → Its H' ws S.L → Q (.ref p) H'
def spCommit : Sp := fun vs H Q _ => ∃ (sp wt b h l b0 h0 l0 : PySem.Addr) (P : Sq) (kvs : List (Key × V)) (n : Int) (S S0 : Bs), vs = [.ref sp, .int n, .ref b0] ∧ SpAt CS H sp wt P kvs ∧ valV kvs (.inl n) = some (.ref b) ∧ BufAt CB CR H b h l S ∧ BufAt CB CR H b0 h0 l0 S0 ∧
  S.ok ∧ S.L.length ≤ 1000 ∧ S0.ok ∧ S0.L.length ≤ 5000 ∧ ∀ H1 H2 H', Fr [sp, wt] H H1 → SpAt CS H1 sp wt P (dropK kvs (.inl n)) → Same H1 H2 → Fr [b0, h0, l0] H2 H' → BufAt CB CR H' b0 h0 l0 (S0.addB S.L).1 → Q (.bl (S0.addB S.L).2) H'
def spDiscard : Sp := fun vs H Q _ => ∃ (sp wt : PySem.Addr) (P : Sq) (kvs : List (Key × V)) (n : Int), vs = [.ref sp, .int n] ∧ SpAt CS H sp wt P kvs ∧ (valV kvs (.inl n)).isSome = true ∧ ∀ H', Fr [sp, wt] H H' → SpAt CS H' sp wt P (dropK kvs (.inl n)) → Q .non H'
end
end BF
namespace BF
open PySem PySem.Spec PyProof.Rows L2 MM
theorem r_ddel {td ty : TE} {nx bk ct : L2.St → Hp → Prop} {rt : V → Hp → Prop} {σ : L2.St} {H : Hp} (h : td σ H fun x H1 => ty σ H1 fun y H2 => ∃ a kvs k, x = .ref a ∧ H2 a = some (.dK kvs) ∧ y = kV k ∧ (valV kvs k).isSome = true ∧ nx σ (L2.upd H2 a (.dK (dropK kvs k)))) : sDDel td ty ⟨nx, rt, bk, ct⟩ σ H := h
end BF
namespace BF
open PySem PySem.Spec PyProof.Rows L2 MM
/-- all that a run has -/
structure Pl where
  pd : PySem.Addr
  pr : PySem.Addr
  sp : PySem.Addr
  wt : PySem.Addr
  sd : PySem.Addr
  so : PySem.Addr
  b0 : PySem.Addr
  h0 : PySem.Addr
  l0 : PySem.Addr
  pm0 : PySem.Addr
structure Wo (CB CR CS : PySem.Addr) (H : Hp) (A : Pl) (r0 : PySem.Addr) (P : Sq) (S0 : Bs) (es : List En) : Prop where
  sep : Sep H (obD A.pd A.pr :: obS CS A.sp A.wt P (kvB es) :: obT A.sd A.so P (kvM es) :: obB CB CR A.b0 A.h0 A.l0 S0 :: obM A.pm0 r0 S0 none :: obE CB CR es)
  asc : asc es
  rng : ∀ e ∈ es, 1 ≤ e.n ∧ e.n ≤ P.given
  g0 : 0 ≤ P.given
  r0 : 0 ≤ P.room
  ok0 : S0.ok
  ok : ∀ e ∈ es, e.S.ok
section
variable {CB CR CS : PySem.Addr} {H H' : Hp} {A : Pl} {r0 : PySem.Addr} {P : Sq} {S0 : Bs} {es : List En}
theorem Wo.d (W : Wo CB CR CS H A r0 P S0 es) : Dw H A.pd A.pr := W.sep.1 (obD A.pd A.pr) (by simp)
theorem Wo.s (W : Wo CB CR CS H A r0 P S0 es) : SpAt CS H A.sp A.wt P (kvB es) := W.sep.1 (obS CS A.sp A.wt P (kvB es)) (by simp)
theorem Wo.t (W : Wo CB CR CS H A r0 P S0 es) : StAt H A.sd A.so P (kvM es) := W.sep.1 (obT A.sd A.so P (kvM es)) (by simp)
theorem Wo.b (W : Wo CB CR CS H A r0 P S0 es) : BufAt CB CR H A.b0 A.h0 A.l0 S0 := W.sep.1 (obB CB CR A.b0 A.h0 A.l0 S0) (by simp)
theorem Wo.m (W : Wo CB CR CS H A r0 P S0 es) : MAt H A.pm0 r0 S0 none := W.sep.1 (obM A.pm0 r0 S0 none) (by simp)
theorem Wo.same (W : Wo CB CR CS H A r0 P S0 es) (s : Same H H') : Wo CB CR CS H' A r0 P S0 es := ⟨W.sep.same s, W.asc, W.rng, W.g0, W.r0, W.ok0, W.ok⟩
theorem Wo.draw (W : Wo CB CR CS H A r0 P S0 es) (g : Go A.pd A.pr H H') : Wo CB CR CS H' A r0 P S0 es :=
  ⟨Sep.upd (pre := []) (o := obD A.pd A.pr) (o' := obD A.pd A.pr) W.sep (Fr.mv g.1 (by simp [obD])) g.2.1 fun _ h => .inl h, W.asc, W.rng, W.g0, W.r0, W.ok0, W.ok⟩
theorem en_mem {pre post : List En} {e : En} : obB CB CR e.b e.h e.l e.S ∈ obE CB CR (pre ++ e :: post) ∧ obM e.pm e.r e.S none ∈ obE CB CR (pre ++ e :: post) := by
  rw [obE_app, obE_cons]
  exact ⟨List.mem_append_right _ List.mem_cons_self, List.mem_append_right _ (List.mem_cons_of_mem _ List.mem_cons_self)⟩
theorem Wo.eb {pre post : List En} {e : En} (W : Wo CB CR CS H A r0 P S0 (pre ++ e :: post)) : BufAt CB CR H e.b e.h e.l e.S := W.sep.1 (obB CB CR e.b e.h e.l e.S) (by have := (en_mem (CB := CB) (CR := CR) (pre := pre) (post := post) (e := e)).1; simp [this])
theorem Wo.em {pre post : List En} {e : En} (W : Wo CB CR CS H A r0 P S0 (pre ++ e :: post)) : MAt H e.pm e.r e.S none := W.sep.1 (obM e.pm e.r e.S none) (by have := (en_mem (CB := CB) (CR := CR) (pre := pre) (post := post) (e := e)).2; simp [this])
theorem Wo.vB {pre post : List En} {e : En} (W : Wo CB CR CS H A r0 P S0 (pre ++ e :: post)) : valV (kvB (pre ++ e :: post)) (.inl e.n) = some (.ref e.b) := valV_at (f := fun e => .ref e.b) W.asc
theorem Wo.vM {pre post : List En} {e : En} (W : Wo CB CR CS H A r0 P S0 (pre ++ e :: post)) : valV (kvM (pre ++ e :: post)) (.inl e.n) = some (.ref e.pm) := valV_at (f := fun e => .ref e.pm) W.asc
theorem kv_len : (kvB es).length = es.length ∧ (kvM es).length = es.length := by
  unfold kvB kvM
  rw [List.length_map, List.length_map]
  exact ⟨rfl, rfl⟩
end
section
variable (CB CR CS : PySem.Addr)
def spLBegin : Sp := fun vs H Q _ => ∃ (A : Pl) (r0 : PySem.Addr) (P : Sq) (S0 : Bs) (es : List En), vs = [.ref A.sp, .ref A.sd] ∧ Wo CB CR CS H A r0 P S0 es ∧ es.length ≤ 60 ∧
  ∀ H' P' es', Wo CB CR CS H' A r0 P' S0 es' → es'.length ≤ es.length + 1 → P'.given ≤ P.given + 1 → (∀ e ∈ es', e ∈ es ∨ e.S.L = []) → Q (.bl true) H'
def spDeed24 : Sp := fun vs H Q _ => ∃ (A : Pl) (r0 : PySem.Addr) (P : Sq) (S0 : Bs) (es : List En) (k : Nat), vs = [.ref A.pd, .ref A.sp, .ref A.sd, .ref A.b0, .ref A.pm0] ∧ Wo CB CR CS H A r0 P S0 es ∧ es.length ≤ k ∧ S0.L.length ≤ 101 * k ∧ (∀ e ∈ es, e.S.L.length ≤ 2 * k) ∧ k < 50 ∧ P.given ≤ k ∧
  ∀ H' r0' P' S0' es', Wo CB CR CS H' A r0' P' S0' es' → es'.length ≤ k + 1 → P'.given ≤ (k : Int) + 1 → S0'.L.length ≤ 101 * (k + 1) → (∀ e ∈ es', e.S.L.length ≤ 2 * (k + 1)) → Q (.bl true) H'
def spAlike24 : Sp := fun vs H Q _ => ∃ (A : Pl) (r0 : PySem.Addr) (P : Sq) (S0 : Bs) (es : List En), vs = [.ref A.sp, .ref A.sd, .ref A.b0, .ref A.pm0] ∧ Wo CB CR CS H A r0 P S0 es ∧ P.given ≤ 1000000 ∧ ∀ H', Wo CB CR CS H' A r0 P S0 es → Q (.bl true) H'
end
theorem put_last {so : PySem.Addr} {P : Sq} {n : Int} : putK (sdv so P) (Sum.inr "last" : Key) (V.int n) = sdv so { P with given := n } := rfl
theorem put_slost {so : PySem.Addr} {P : Sq} {n : Int} : putK (sdv so P) (Sum.inr "lost" : Key) (V.int n) = sdv so { P with lost := n } := rfl
end BF
namespace BF
open PySem PySem.Spec PyProof.Rows L2 MM
section
variable {H H' : Hp} {os : List Ob} {o : Ob} {p : PySem.Addr}
theorem Sep.none (s : Sep H os) (hp : H p = none) : ∀ q ∈ os, p ∉ q.fp := fun q hq hb => by
  obtain ⟨u, e, _⟩ := q.nt H (s.1 q hq) p hb
  rw [hp] at e
  cases e
/-- p is none of theirs -/
theorem Sep.put (s : Sep H os) (hn : ∀ q ∈ os, p ∉ q.fp) {u u' : HO} (e : H p = some u) (ht : ∀ xs, u ≠ .tup xs) : Sep (L2.upd H p u') os :=
  ⟨fun q hq => q.st H _ (s.1 q hq) (KeepT.upd e ht) fun a ha v ev => by rw [upd_ne (fun z => by rw [z] at ha; exact hn q hq ha)]; exact ev, s.2⟩
theorem Sep.cons (s : Sep H os) (h : o.P H) (hd : ∀ a ∈ o.fp, ∀ q ∈ os, a ∉ q.fp) : Sep H (o :: os) :=
  ⟨fun q hq => by
    rcases List.mem_cons.mp hq with z | z
    · rw [z]; exact h
    · exact s.1 q z, List.pairwise_cons.mpr ⟨fun q hq a ha => hd a ha q hq, s.2⟩⟩
theorem Sep.one (h : o.P H) : Sep H [o] := ⟨fun q hq => by rw [List.mem_singleton] at hq; rw [hq]; exact h, List.pairwise_singleton _ _⟩
theorem r_neB {Q : VK} {a b : Bool} (h : Q (.bl (!decide (a = b))) H) : rNe (.bl a) (.bl b) H Q := ⟨rfl, by
  rw [show decide (V.bl a = V.bl b) = decide (a = b) from by simp]; exact h⟩
theorem isi_bool {K : PySem.W.Frag} {b : Bool} : R.CIsi K H (.bl b) (.ty "bool") true := ⟨_, _, .ty _, .base (.bl b), kit_ty (by decide +kernel)⟩
end
section
variable {tb : TS} {g : TG} {nx bk ct : L2.St → Hp → Prop} {rt : V → Hp → Prop} {σ : L2.St} {H : Hp} {tr : TA}
theorem r_rng2 (h : tr σ H fun vs H1 => ∃ i j : Int, vs = [.int i, .int j] ∧ (-(2 ^ 62) ≤ i ∧ i < 2 ^ 62 ∧ -(2 ^ 62) ≤ j ∧ j < 2 ^ 62) ∧ FW (Itr i (j - i).toNat) g tb nx rt σ H1) : tFor (iRng2 tr) g tb ⟨nx, rt, bk, ct⟩ σ H := h
theorem for_rng2 {lo : Int} {n : Nat} (Pv : Nat → L2.St → Hp → Prop) (h0 : Pv 0 σ H) (hs : ∀ (i : Nat) σ H, i < n → Pv i σ H → g (.int (lo + (i : Int))) σ H fun σ2 H2 => tb ⟨Pv (i + 1), rt, nx, Pv (i + 1)⟩ σ2 H2) (hd : ∀ σ H, Pv n σ H → nx σ H) : FW (Itr lo n) g tb nx rt σ H := by
  refine for_it (D := ⟨nx, rt, fun _ _ => False, fun _ _ => False⟩) (walk_range (lo := lo) (n := n)) Pv h0 (fun _ _ _ _ _ => trivial) (fun i x σ H H' hi p y => ?_) hd
  obtain ⟨rfl, rfl⟩ := y
  exact hs i σ _ hi p
end
end BF
theorem BF.perm5 {α : Type} {a b c d e : α} : List.Perm [a, b, c, d, e] [e, b, d, a, c] := by
  have h1 : List.Perm [a, b, c, d, e] [e, a, b, c, d] := List.perm_append_comm (l₁ := [a, b, c, d]) (l₂ := [e])
  refine h1.trans (List.Perm.cons e ?_)
  refine (List.Perm.swap b a [c, d]).trans (List.Perm.cons b ?_)
  exact List.perm_append_comm (l₁ := [a, c]) (l₂ := [d])
end
section
namespace K24
open PySem PySem.Spec PyProof.Rows L2
def topS (i : Nat) : Stmt := PySem.Challenge.pw_tapline_k24_speculations_by_model.main.body.getD i (.Pass ⟨0, 0, 0, 0⟩)
abbrev s_is_lost : Stmt := topS 2
abbrev N_is_lost : List Str := ["item"]
theorem sc_is_lost : FnScope N_is_lost ["item"] (defScope s_is_lost) := ⟨rfl, rfl, rfl, by decide +kernel, rfl, by decide +kernel, by decide +kernel⟩
abbrev s_ItemRow___init__ : Stmt := inClass (topS 3) 0
abbrev N_ItemRow___init__ : List Str := ["self"]
theorem sc_ItemRow___init__ : FnScope N_ItemRow___init__ ["self"] (defScope s_ItemRow___init__) := ⟨rfl, rfl, rfl, by decide +kernel, rfl, by decide +kernel, by decide +kernel⟩
abbrev s_ItemRow_add : Stmt := inClass (topS 3) 1
abbrev N_ItemRow_add : List Str := ["self", "item"]
theorem sc_ItemRow_add : FnScope N_ItemRow_add ["self", "item"] (defScope s_ItemRow_add) := ⟨rfl, rfl, rfl, by decide +kernel, rfl, by decide +kernel, by decide +kernel⟩
abbrev s_ItemRow_add_lost : Stmt := inClass (topS 3) 2
abbrev N_ItemRow_add_lost : List Str := ["self", "n"]
theorem sc_ItemRow_add_lost : FnScope N_ItemRow_add_lost ["self", "n"] (defScope s_ItemRow_add_lost) := ⟨rfl, rfl, rfl, by decide +kernel, rfl, by decide +kernel, by decide +kernel⟩
abbrev s_ItemRow_lose_first : Stmt := inClass (topS 3) 3
abbrev N_ItemRow_lose_first : List Str := ["self", "n", "item"]
theorem sc_ItemRow_lose_first : FnScope N_ItemRow_lose_first ["self"] (defScope s_ItemRow_lose_first) := ⟨rfl, rfl, rfl, by decide +kernel, rfl, by decide +kernel, by decide +kernel⟩
abbrev s_ItemRow_image : Stmt := inClass (topS 3) 4
abbrev N_ItemRow_image : List Str := ["self"]
theorem sc_ItemRow_image : FnScope N_ItemRow_image ["self"] (defScope s_ItemRow_image) := ⟨rfl, rfl, rfl, by decide +kernel, rfl, by decide +kernel, by decide +kernel⟩
abbrev s_size_of : Stmt := topS 6
abbrev N_size_of : List Str := ["record", "values", "kind", "held"]
theorem sc_size_of : FnScope N_size_of ["record"] (defScope s_size_of) := ⟨rfl, rfl, rfl, by decide +kernel, rfl, by decide +kernel, by decide +kernel⟩
abbrev s_Buffer___init__ : Stmt := inClass (topS 7) 0
abbrev N_Buffer___init__ : List Str := ["self", "room", "policy"]
theorem sc_Buffer___init__ : FnScope N_Buffer___init__ ["self", "room", "policy"] (defScope s_Buffer___init__) := ⟨rfl, rfl, rfl, by decide +kernel, rfl, by decide +kernel, by decide +kernel⟩
abbrev s_Buffer_add : Stmt := inClass (topS 7) 1
abbrev N_Buffer_add : List Str := ["self", "record"]
theorem sc_Buffer_add : FnScope N_Buffer_add ["self", "record"] (defScope s_Buffer_add) := ⟨rfl, rfl, rfl, by decide +kernel, rfl, by decide +kernel, by decide +kernel⟩
abbrev s_Buffer_add_block : Stmt := inClass (topS 7) 2
abbrev N_Buffer_add_block : List Str := ["self", "items", "size", "item"]
theorem sc_Buffer_add_block : FnScope N_Buffer_add_block ["self", "items"] (defScope s_Buffer_add_block) := ⟨rfl, rfl, rfl, by decide +kernel, rfl, by decide +kernel, by decide +kernel⟩
abbrev s_Buffer_make_room : Stmt := inClass (topS 7) 3
abbrev N_Buffer_make_room : List Str := ["self", "size"]
theorem sc_Buffer_make_room : FnScope N_Buffer_make_room ["self", "size"] (defScope s_Buffer_make_room) := ⟨rfl, rfl, rfl, by decide +kernel, rfl, by decide +kernel, by decide +kernel⟩
abbrev s_Buffer_lose : Stmt := inClass (topS 7) 4
abbrev N_Buffer_lose : List Str := ["self", "items", "item"]
theorem sc_Buffer_lose : FnScope N_Buffer_lose ["self", "items"] (defScope s_Buffer_lose) := ⟨rfl, rfl, rfl, by decide +kernel, rfl, by decide +kernel, by decide +kernel⟩
abbrev s_Buffer_held : Stmt := inClass (topS 7) 5
abbrev N_Buffer_held : List Str := ["self"]
theorem sc_Buffer_held : FnScope N_Buffer_held ["self"] (defScope s_Buffer_held) := ⟨rfl, rfl, rfl, by decide +kernel, rfl, by decide +kernel, by decide +kernel⟩
abbrev s_Speculations___init__ : Stmt := inClass (topS 9) 0
abbrev N_Speculations___init__ : List Str := ["self", "places", "room"]
theorem sc_Speculations___init__ : FnScope N_Speculations___init__ ["self", "places", "room"] (defScope s_Speculations___init__) := ⟨rfl, rfl, rfl, by decide +kernel, rfl, by decide +kernel, by decide +kernel⟩
abbrev s_Speculations_begin : Stmt := inClass (topS 9) 1
abbrev N_Speculations_begin : List Str := ["self"]
theorem sc_Speculations_begin : FnScope N_Speculations_begin ["self"] (defScope s_Speculations_begin) := ⟨rfl, rfl, rfl, by decide +kernel, rfl, by decide +kernel, by decide +kernel⟩
abbrev s_Speculations_is_open : Stmt := inClass (topS 9) 2
abbrev N_Speculations_is_open : List Str := ["self", "number"]
theorem sc_Speculations_is_open : FnScope N_Speculations_is_open ["self", "number"] (defScope s_Speculations_is_open) := ⟨rfl, rfl, rfl, by decide +kernel, rfl, by decide +kernel, by decide +kernel⟩
abbrev s_Speculations_add : Stmt := inClass (topS 9) 3
abbrev N_Speculations_add : List Str := ["self", "number", "record", "added"]
theorem sc_Speculations_add : FnScope N_Speculations_add ["self", "number", "record"] (defScope s_Speculations_add) := ⟨rfl, rfl, rfl, by decide +kernel, rfl, by decide +kernel, by decide +kernel⟩
abbrev s_Speculations_held : Stmt := inClass (topS 9) 4
abbrev N_Speculations_held : List Str := ["self", "number"]
theorem sc_Speculations_held : FnScope N_Speculations_held ["self", "number"] (defScope s_Speculations_held) := ⟨rfl, rfl, rfl, by decide +kernel, rfl, by decide +kernel, by decide +kernel⟩
abbrev s_Speculations_commit : Stmt := inClass (topS 9) 5
abbrev N_Speculations_commit : List Str := ["self", "number", "buffer"]
theorem sc_Speculations_commit : FnScope N_Speculations_commit ["self", "number", "buffer"] (defScope s_Speculations_commit) := ⟨rfl, rfl, rfl, by decide +kernel, rfl, by decide +kernel, by decide +kernel⟩
abbrev s_Speculations_discard : Stmt := inClass (topS 9) 6
abbrev N_Speculations_discard : List Str := ["self", "number"]
theorem sc_Speculations_discard : FnScope N_Speculations_discard ["self", "number"] (defScope s_Speculations_discard) := ⟨rfl, rfl, rfl, by decide +kernel, rfl, by decide +kernel, by decide +kernel⟩
abbrev s_law_draws : Stmt := topS 11
abbrev N_law_draws : List Str := ["script", "draws", "k", "cell", "turn", "mixed"]
theorem sc_law_draws : FnScope N_law_draws ["script"] (defScope s_law_draws) := ⟨rfl, rfl, rfl, by decide +kernel, rfl, by decide +kernel, by decide +kernel⟩
abbrev s_law_reader : Stmt := topS 12
abbrev N_law_reader : List Str := ["script", "row", "seed"]
theorem sc_law_reader : FnScope N_law_reader ["script"] (defScope s_law_reader) := ⟨rfl, rfl, rfl, by decide +kernel, rfl, by decide +kernel, by decide +kernel⟩
abbrev s_law_next : Stmt := topS 13
abbrev N_law_next : List Str := ["draws", "many", "at", "mixed"]
theorem sc_law_next : FnScope N_law_next ["draws", "many"] (defScope s_law_next) := ⟨rfl, rfl, rfl, by decide +kernel, rfl, by decide +kernel, by decide +kernel⟩
abbrev s_law_record : Stmt := topS 14
abbrev N_law_record : List Str := ["draws", "values", "k"]
theorem sc_law_record : FnScope N_law_record ["draws"] (defScope s_law_record) := ⟨rfl, rfl, rfl, by decide +kernel, rfl, by decide +kernel, by decide +kernel⟩
abbrev s_law_size : Stmt := topS 15
abbrev N_law_size : List Str := ["record", "kind", "value"]
theorem sc_law_size : FnScope N_law_size ["record"] (defScope s_law_size) := ⟨rfl, rfl, rfl, by decide +kernel, rfl, by decide +kernel, by decide +kernel⟩
abbrev s_law_used : Stmt := topS 16
abbrev N_law_used : List Str := ["row", "item"]
theorem sc_law_used : FnScope N_law_used ["row"] (defScope s_law_used) := ⟨rfl, rfl, rfl, by decide +kernel, rfl, by decide +kernel, by decide +kernel⟩
abbrev s_law_joined : Stmt := topS 17
abbrev N_law_joined : List Str := ["row", "found", "item"]
theorem sc_law_joined : FnScope N_law_joined ["row"] (defScope s_law_joined) := ⟨rfl, rfl, rfl, by decide +kernel, rfl, by decide +kernel, by decide +kernel⟩
abbrev s_law_made_room : Stmt := topS 18
abbrev N_law_made_room : List Str := ["m", "size", "gone", "item"]
theorem sc_law_made_room : FnScope N_law_made_room ["m", "size"] (defScope s_law_made_room) := ⟨rfl, rfl, rfl, by decide +kernel, rfl, by decide +kernel, by decide +kernel⟩
abbrev s_law_add : Stmt := topS 19
abbrev N_law_add : List Str := ["m", "record"]
theorem sc_law_add : FnScope N_law_add ["m", "record"] (defScope s_law_add) := ⟨rfl, rfl, rfl, by decide +kernel, rfl, by decide +kernel, by decide +kernel⟩
abbrev s_law_add_block : Stmt := topS 20
abbrev N_law_add_block : List Str := ["m", "block", "records", "item", "told"]
theorem sc_law_add_block : FnScope N_law_add_block ["m", "block"] (defScope s_law_add_block) := ⟨rfl, rfl, rfl, by decide +kernel, rfl, by decide +kernel, by decide +kernel⟩
abbrev s_law_begin : Stmt := topS 22
abbrev N_law_begin : List Str := ["specs", "s", "told"]
theorem sc_law_begin : FnScope N_law_begin ["specs", "s"] (defScope s_law_begin) := ⟨rfl, rfl, rfl, by decide +kernel, rfl, by decide +kernel, by decide +kernel⟩
abbrev s_law_deed : Stmt := topS 23
abbrev N_law_deed : List Str := ["draws", "specs", "s", "buffer", "m", "pick", "known", "number", "record", "due", "row"]
theorem sc_law_deed : FnScope N_law_deed ["draws", "specs", "s", "buffer", "m"] (defScope s_law_deed) := ⟨rfl, rfl, rfl, by decide +kernel, rfl, by decide +kernel, by decide +kernel⟩
abbrev s_law_alike : Stmt := topS 24
abbrev N_law_alike : List Str := ["specs", "s", "buffer", "m", "number", "told"]
theorem sc_law_alike : FnScope N_law_alike ["specs", "s", "buffer", "m"] (defScope s_law_alike) := ⟨rfl, rfl, rfl, by decide +kernel, rfl, by decide +kernel, by decide +kernel⟩
abbrev s_law : Stmt := topS 25
abbrev N_law : List Str := ["script", "draws", "s", "m", "specs", "buffer", "k"]
theorem sc_law : FnScope N_law ["script"] (defScope s_law) := ⟨rfl, rfl, rfl, by decide +kernel, rfl, by decide +kernel, by decide +kernel⟩
structure Na_ItemRow (K : PySem.W.Frag) (C : Addr) : Prop where
  inner : NoAttr K C "inner"
structure Na_Buffer (K : PySem.W.Frag) (C : Addr) : Prop where
  room : NoAttr K C "room"
  policy : NoAttr K C "policy"
  used : NoAttr K C "used"
  lost : NoAttr K C "lost"
  half : NoAttr K C "half"
  reading : NoAttr K C "reading"
structure Na_Speculations (K : PySem.W.Frag) (C : Addr) : Prop where
  places : NoAttr K C "places"
  room : NoAttr K C "room"
  lost : NoAttr K C "lost"
  given : NoAttr K C "given"
  waiting : NoAttr K C "waiting"
structure Txt (K : PySem.W.Frag) (mg : Str → Option Value) where
  c_ItemRow : R.ClP K mg "ItemRow"
  n_ItemRow : Na_ItemRow K c_ItemRow.a
  c_Buffer : R.ClP K mg "Buffer"
  n_Buffer : Na_Buffer K c_Buffer.a
  c_Speculations : R.ClP K mg "Speculations"
  n_Speculations : Na_Speculations K c_Speculations.a
  p_is_lost : R.FnP K mg "is_lost" "is_lost" s_is_lost ["item"]
  p_ItemRow___init__ : R.InP K "__init__" "ItemRow.__init__" s_ItemRow___init__ ["self"] c_ItemRow.a
  p_ItemRow_add : R.MtP K "add" "ItemRow.add" s_ItemRow_add ["self", "item"] c_ItemRow.a
  p_ItemRow_add_lost : R.MtP K "add_lost" "ItemRow.add_lost" s_ItemRow_add_lost ["self", "n"] c_ItemRow.a
  p_ItemRow_lose_first : R.MtP K "lose_first" "ItemRow.lose_first" s_ItemRow_lose_first ["self"] c_ItemRow.a
  p_ItemRow_image : R.MtP K "image" "ItemRow.image" s_ItemRow_image ["self"] c_ItemRow.a
  p_size_of : R.FnP K mg "size_of" "size_of" s_size_of ["record"]
  p_Buffer___init__ : R.InP K "__init__" "Buffer.__init__" s_Buffer___init__ ["self", "room", "policy"] c_Buffer.a
  p_Buffer_add : R.MtP K "add" "Buffer.add" s_Buffer_add ["self", "record"] c_Buffer.a
  p_Buffer_add_block : R.MtP K "add_block" "Buffer.add_block" s_Buffer_add_block ["self", "items"] c_Buffer.a
  p_Buffer_make_room : R.MtP K "make_room" "Buffer.make_room" s_Buffer_make_room ["self", "size"] c_Buffer.a
  p_Buffer_lose : R.MtP K "lose" "Buffer.lose" s_Buffer_lose ["self", "items"] c_Buffer.a
  p_Buffer_held : R.MtP K "held" "Buffer.held" s_Buffer_held ["self"] c_Buffer.a
  p_Speculations___init__ : R.InP K "__init__" "Speculations.__init__" s_Speculations___init__ ["self", "places", "room"] c_Speculations.a
  p_Speculations_begin : R.MtP K "begin" "Speculations.begin" s_Speculations_begin ["self"] c_Speculations.a
  p_Speculations_is_open : R.MtP K "is_open" "Speculations.is_open" s_Speculations_is_open ["self", "number"] c_Speculations.a
  p_Speculations_add : R.MtP K "add" "Speculations.add" s_Speculations_add ["self", "number", "record"] c_Speculations.a
  p_Speculations_held : R.MtP K "held" "Speculations.held" s_Speculations_held ["self", "number"] c_Speculations.a
  p_Speculations_commit : R.MtP K "commit" "Speculations.commit" s_Speculations_commit ["self", "number", "buffer"] c_Speculations.a
  p_Speculations_discard : R.MtP K "discard" "Speculations.discard" s_Speculations_discard ["self", "number"] c_Speculations.a
  p_law_draws : R.FnP K mg "_law_draws" "_law_draws" s_law_draws ["script"]
  p_law_reader : R.FnP K mg "_law_reader" "_law_reader" s_law_reader ["script"]
  p_law_next : R.FnP K mg "_law_next" "_law_next" s_law_next ["draws", "many"]
  p_law_record : R.FnP K mg "_law_record" "_law_record" s_law_record ["draws"]
  p_law_size : R.FnP K mg "_law_size" "_law_size" s_law_size ["record"]
  p_law_used : R.FnP K mg "_law_used" "_law_used" s_law_used ["row"]
  p_law_joined : R.FnP K mg "_law_joined" "_law_joined" s_law_joined ["row"]
  p_law_made_room : R.FnP K mg "_law_made_room" "_law_made_room" s_law_made_room ["m", "size"]
  p_law_add : R.FnP K mg "_law_add" "_law_add" s_law_add ["m", "record"]
  p_law_add_block : R.FnP K mg "_law_add_block" "_law_add_block" s_law_add_block ["m", "block"]
  p_law_begin : R.FnP K mg "_law_begin" "_law_begin" s_law_begin ["specs", "s"]
  p_law_deed : R.FnP K mg "_law_deed" "_law_deed" s_law_deed ["draws", "specs", "s", "buffer", "m"]
  p_law_alike : R.FnP K mg "_law_alike" "_law_alike" s_law_alike ["specs", "s", "buffer", "m"]
  p_law : R.FnP K mg "law" "law" s_law ["script"]
  m_abs : mg "abs" = none
  m_bool : mg "bool" = none
  m_int : mg "int" = none
  m_isinstance : mg "isinstance" = none
  m_len : mg "len" = none
  m_list : mg "list" = none
  m_min : mg "min" = none
  m_range : mg "range" = none
  m_sorted : mg "sorted" = none
  m_str : mg "str" = none
  m_sum : mg "sum" = none
  m_tuple : mg "tuple" = none
  v_BARE_SIZE : Value
  c_BARE_SIZE : mg "BARE_SIZE" = some v_BARE_SIZE
  r_BARE_SIZE : RelV (V.int 2) v_BARE_SIZE
end K24
end
section
local macro_rules | `(tactic| walk_at "s1") => `(tactic| first
  | ((with_reducible apply R.r_var); · rfl)
  | with_reducible apply R.r_c
  | with_reducible apply R.r_op
  | with_reducible apply R.r_I0
  | with_reducible apply R.r_cb
  | with_reducible apply R.r_cons
  | with_reducible apply R.r_nil
  | with_reducible apply R.r_seq
  | with_reducible apply R.r_asg
  | with_reducible apply R.r_ret
  | with_reducible apply R.r_ifS
  | with_reducible apply R.r_test
  | with_reducible apply R.r_t
  | with_reducible apply R.r_f
  | with_reducible apply R.r_nt
  | with_reducible apply R.r_nf
  | with_reducible apply R.r_bl
  | with_reducible apply R.r_U
  | with_reducible apply R.r_un
  | with_reducible apply R.r_eqI
  | with_reducible apply R.r_eqS
  | with_reducible apply R.r_neI
  | with_reducible apply R.r_neS
  | with_reducible apply R.r_and
  | with_reducible apply R.r_or
  | with_reducible apply R.r_not
  | with_reducible apply R.r_andV
  | with_reducible apply R.r_orV
  | with_reducible apply R.r_notV
  | with_reducible apply R.r_blV
  | with_reducible apply R.r_B
  | with_reducible apply R.r_ifE
  | with_reducible apply R.r_tup
  | with_reducible apply R.r_lst
  | with_reducible apply R.r_call
  | with_reducible apply R.r_drop
  | with_reducible apply R.r_next
  | with_reducible apply R.r_abs
  | with_reducible apply R.r_int1
  | with_reducible apply R.r_int1b
  | with_reducible apply R.r_min2
  | with_reducible apply R.r_bm
  | with_reducible apply R.r_bm0
  | with_reducible apply R.r_dget
  | with_reducible apply R.r_dput
  | with_reducible apply R.r_disp
  | with_reducible apply R.r_pnil
  | with_reducible apply R.r_pcons
  | with_reducible apply R.r_fld
  | with_reducible apply R.r_slice
  | with_reducible apply R.r_nopart
  | with_reducible apply R.r_part
  | with_reducible apply R.r_int
  | with_reducible apply R.r_yes
  | with_reducible apply R.r_retN
  | with_reducible apply R.r_asgG
  | with_reducible apply R.r_gname
  | with_reducible apply R.r_rng1
  | with_reducible apply R.r_brk
  | with_reducible apply R.r_cnt
  | with_reducible apply R.r_m1
  | with_reducible apply R.r_lcr
  | with_reducible apply R.r_p2_63
  | with_reducible apply R.r_p2_64
  | with_reducible apply R.r_p2_32
  | with_reducible apply R.r_p2_31
  | with_reducible apply R.r_p10_18
  | with_reducible apply R.r_p10_30
  | with_reducible refine R.r_mod (by omega) ?_
  | with_reducible refine R.r_div (by omega) ?_
  | with_reducible refine R.r_mulR (by omega) ?_
  | with_reducible refine R.r_mulL (by omega) ?_
  | with_reducible refine R.r_iteY (by decide +kernel) ?_
  | with_reducible refine R.r_iteF (by decide +kernel) ?_
  | with_reducible refine R.r_isi R.isi_int ?_
  | with_reducible refine R.r_isi R.isi_intB ?_)
local macro_rules | `(tactic| walk_at "go") => `(tactic| repeat (walk_at "s1"))

local macro_rules | `(tactic| walk_at "b1") => `(tactic| first
  | walk_at "s1"
  | with_reducible apply MM.r_meth
  | with_reducible apply MM.r_make
  | with_reducible apply MM.r_sfld
  | with_reducible apply MM.r_gsub
  | with_reducible apply MM.r_chain
  | with_reducible apply MM.r_daug
  | with_reducible apply MM.r_add
  | with_reducible apply MM.r_ip
  | with_reducible apply MM.r_din
  | with_reducible apply MM.r_dnotin
  | with_reducible apply BF.r_faug
  | with_reducible apply BF.r_sub)
local macro_rules | `(tactic| walk_at "bgo") => `(tactic| repeat (walk_at "b1"))

namespace K24
open PySem PySem.Spec PyProof.Rows L2
section
variable {P : Program} {w : World} {K : PySem.W.Frag} {mg : Str → Option Value} {base : Heap}
theorem ok_is_lost (T : Txt K mg) : FnOk P w K mg base CX0 1 T.p_is_lost.f T.p_is_lost.fd ["item"] BF.spIsLost := by
  refine T.p_is_lost.F.ok sc_is_lost (fun vs H Q E h => ?_) (fun cdv A outer s H vs Q E hr h => ?_)
  · obtain ⟨a, it, rfl, _⟩ := h
    rfl
  · obtain ⟨a, it, rfl, hi, q⟩ := h
    refine ⟨_, (pss_one (ps_ret (pe_not (pe_callB call_isi (by rfl) T.m_isinstance (by decide +kernel) (pa_cons (pe_ix ix_tup (pv 0) (pe_un un_neg pe_int) (fun _ _ => rfl)) (pa_cons (pe_bltn (v := .ty "tuple") (u := .type "tuple") (by rfl) T.m_tuple (by decide +kernel) rfl) pa_nil)))))), ?_⟩
    walk_at "bgo"
    cases it with
    | lost n =>
      refine R.r_ixT (v := .int n) (R.sqT hi) rfl ?_
      walk_at "bgo"
      refine R.r_isi BF.isi_intT ?_
      walk_at "bgo"
      exact q
    | rc t c s vs =>
      obtain ⟨b, ws, e1, e2, e3⟩ := hi
      refine R.r_ixT (v := .ref b) (R.sqT e1) rfl ?_
      walk_at "bgo"
      refine R.r_isi (R.isi_tup e2) ?_
      walk_at "bgo"
      exact q
theorem ok_ItemRow___init__ (T : Txt K mg) : FnOk P w K mg base CX0 1 T.p_ItemRow___init__.f T.p_ItemRow___init__.fd ["self"] (BF.spRowNew T.c_ItemRow.a) := by
  refine T.p_ItemRow___init__.F.ok sc_ItemRow___init__ (fun vs H Q E h => ?_) (fun cdv A outer s H vs Q E hr h => ?_)
  · obtain ⟨a, dx, rfl, _⟩ := h
    rfl
  · obtain ⟨a, dx, rfl, e, q⟩ := h
    refine ⟨_, (pss_one (ps_fld (pv 0) (pe_lst pa_nil) rfl)), ?_⟩
    walk_at "bgo"
    refine ⟨Nat.le_of_ble_eq_true rfl, fun p hp => ?_⟩
    walk_at "bgo"
    have s1 := R.same_new (o := .lst []) hp
    refine ⟨_, _, _, _, rfl, (s1 _ _ e), T.c_ItemRow.cl, T.n_ItemRow.inner, by decide, ?_⟩
    walk_at "bgo"
    have ne : p ≠ a := fun z => by rw [z, e] at hp; cases hp
    exact q _ p hp (fun b o eb hb => by rw [upd_ne hb]; exact s1 _ _ eb) ⟨⟨dx, upd_same⟩, [], by rw [upd_ne ne]; exact upd_same, .nil⟩
theorem ok_ItemRow_add_lost (T : Txt K mg) : FnOk P w K mg base CX0 2 T.p_ItemRow_add_lost.f T.p_ItemRow_add_lost.fd ["self", "n"] (BF.spAddLost T.c_ItemRow.a) := by
  refine T.p_ItemRow_add_lost.F.ok sc_ItemRow_add_lost (fun vs H Q E h => ?_) (fun cdv A outer s H vs Q E hr h => ?_)
  · obtain ⟨h, l, L, n, rfl, _⟩ := h
    rfl
  · obtain ⟨h, l, L, n, rfl, r, hl, q⟩ := h
    obtain ⟨⟨dx, e1⟩, ws, e2, i⟩ := id r
    have len := i.length
    refine ⟨_, (pss_cons (ps_if ((pw_and (pt_truth (pe_fld (pv 0) rfl) (fun _ => rfl)) (pw_and1 (pt_val (pe_call (ok_is_lost T) (hr.mono (by decide)) (by rfl) T.p_is_lost.g T.p_is_lost.F.kp T.p_is_lost.b .nil pass0 (pa_cons (pe_ix ix_list (pe_fld (pv 0) rfl) (pe_un un_neg pe_int) (fun _ _ => rfl)) pa_nil)))))).pt
 (pss_one (ps_set (i := 1) sc_ItemRow_add_lost.nd rfl (.inl rfl) (pe_op op_add (pv 1) (pe_ix ix_tup (pe_bm0 PySem.F.plainAttrs_list PySem.F.slot_list_pop PySem.F.type_list_pop mt_pop (pe_fld (pv 0) rfl)) pe_int (fun _ _ => rfl)))))
 pss_nil)
(pss_one (ps_expr (pe_bm PySem.F.plainAttrs_list PySem.F.slot_list_append PySem.F.type_list_append mt_append (pe_fld (pv 0) rfl) (pa_cons (pe_tup (pa_cons pe_str (pa_cons (pv 1) pa_nil))) pa_nil))))), ?_⟩
    walk_at "bgo"
    refine ⟨_, _, _, _, _, rfl, e1, T.c_ItemRow.cl, T.n_ItemRow.inner, rfl, ?_⟩
    refine ⟨_, .inl ⟨_, R.sqL e2, rfl⟩, ?_⟩
    have ne : h ≠ l := fun z => by rw [z, e2] at e1; cases e1
    rcases BF.last_cases L with rfl | ⟨M, x, rfl⟩
    · obtain rfl : ws = [] := List.length_eq_zero_iff.mp len
      refine R.iteF' Bool.false_ne_true ?_
      walk_at "bgo"
      refine ⟨_, _, _, _, _, rfl, e1, T.c_ItemRow.cl, T.n_ItemRow.inner, rfl, ?_⟩
      refine ⟨.inl ⟨rfl, _, R.sqL e2⟩, ?_⟩
      walk_at "bgo"
      refine ⟨Nat.le_of_ble_eq_true rfl, fun p hp => ?_⟩
      have s1 := R.same_new (o := .tup [.str "lost", .int n]) hp
      refine ⟨_, _, _, rfl, rfl, s1 _ _ e2, by decide, ?_⟩
      walk_at "bgo"
      obtain ⟨r2, m2⟩ := r.put s1 (ws := [] ++ [.ref p]) (L2 := [.lost n]) (BF.Its.cons (BF.itv_lost upd_same) .nil)
      exact q _ m2 r2
    · obtain ⟨ws', v, rfl, i', iv⟩ := BF.its_snoc i
      obtain ⟨a, rfl, ha⟩ := iv
      refine R.iteT' (by simp) ?_
      walk_at "bgo"
      refine ⟨_, _, _, _, _, rfl, e1, T.c_ItemRow.cl, T.n_ItemRow.inner, rfl, ?_⟩
      walk_at "bgo"
      refine R.r_ixL (v := .ref a) (R.sqL e2) (BF.at_last _ _) ?_
      walk_at "bgo"
      refine ⟨a, x, rfl, ha, ?_⟩
      walk_at "bgo"
      cases x with
      | rc t c s vs =>
        refine R.iteF' Bool.false_ne_true ?_
        walk_at "bgo"
        refine ⟨_, _, _, _, _, rfl, e1, T.c_ItemRow.cl, T.n_ItemRow.inner, rfl, ?_⟩
        refine ⟨.inl ⟨rfl, _, R.sqL e2⟩, ?_⟩
        walk_at "bgo"
        refine ⟨Nat.le_of_ble_eq_true rfl, fun p hp => ?_⟩
        have s1 := R.same_new (o := .tup [.str "lost", .int n]) hp
        refine ⟨_, _, _, rfl, rfl, s1 _ _ e2, R.size_lt (by omega), ?_⟩
        walk_at "bgo"
        rw [BF.pushL_rec rfl] at q
        obtain ⟨r2, m2⟩ := r.put s1 (ws := (ws' ++ [.ref a]) ++ [.ref p]) (L2 := (M ++ [.rc t c s vs]) ++ [.lost n]) (BF.Its.snoc (BF.Its.keep (MM.KeepT.of s1) i) (BF.itv_lost upd_same))
        exact q _ m2 r2
      | lost m =>
        refine R.iteT' rfl ?_
        walk_at "bgo"
        refine ⟨_, _, _, _, _, rfl, e1, T.c_ItemRow.cl, T.n_ItemRow.inner, rfl, ?_⟩
        refine ⟨.inl ⟨rfl, _, R.sqL e2⟩, ?_⟩
        refine ⟨_, _, .ref a, rfl, rfl, e2, by simp, ?_⟩
        rw [List.dropLast_concat]
        replace ha : H a = some (.tup [.str "lost", .int m]) := ha
        have ha2 : upd H l (.lst ws') a = some (.tup [.str "lost", .int m]) := by
          rw [upd_ne (fun z => by rw [z, e2] at ha; cases ha)]
          exact ha
        walk_at "bgo"
        refine R.r_ixT (v := .int m) (R.sqT ha2) (R.at_nat (by decide) rfl) ?_
        walk_at "bgo"
        obtain ⟨r2, m2⟩ := r.put (Same.refl _) (ws := ws') (L2 := M) i'
        obtain ⟨⟨dx2, e12⟩, ws2, e22, i2⟩ := id r2
        obtain rfl : ws2 = ws' := by
          rw [upd_same] at e22
          injection (Option.some.inj e22) with z
          exact z.symm
        generalize upd H l (.lst ws2) = H2 at *
        refine ⟨_, _, _, _, _, rfl, e12, T.c_ItemRow.cl, T.n_ItemRow.inner, rfl, ?_⟩
        refine ⟨.inl ⟨rfl, _, R.sqL e22⟩, ?_⟩
        walk_at "bgo"
        refine ⟨Nat.le_of_ble_eq_true rfl, fun p hp => ?_⟩
        have s1 := R.same_new (o := .tup [.str "lost", .int (n + m)]) hp
        have len2 := i2.length
        refine ⟨_, _, _, rfl, rfl, s1 _ _ e22, R.size_lt (by rw [List.length_append] at hl; omega), ?_⟩
        walk_at "bgo"
        rw [BF.pushL_lost] at q
        obtain ⟨r3, m3⟩ := r2.put s1 (ws := ws2 ++ [.ref p]) (L2 := M ++ [.lost (n + m)]) (BF.Its.snoc (BF.Its.keep (MM.KeepT.of s1) i2) (BF.itv_lost upd_same))
        exact q _ (m2.trans m3) r3
theorem ok_ItemRow_add (T : Txt K mg) : FnOk P w K mg base CX0 3 T.p_ItemRow_add.f T.p_ItemRow_add.fd ["self", "item"] (BF.spRowAdd T.c_ItemRow.a) := by
  refine T.p_ItemRow_add.F.ok sc_ItemRow_add (fun vs H Q E h => ?_) (fun cdv A outer s H vs Q E hr h => ?_)
  · obtain ⟨h, l, L, a, it, rfl, _⟩ := h
    rfl
  · obtain ⟨h, l, L, a, it, rfl, r, hl, hi, q⟩ := h
    obtain ⟨⟨dx, e1⟩, ws, e2, i⟩ := id r
    have len := i.length
    refine ⟨_, (pss_one (ps_if (pt_val (pe_call (ok_is_lost T) (hr.mono (by decide)) (by rfl) T.p_is_lost.g T.p_is_lost.F.kp T.p_is_lost.b .nil pass0 (pa_cons (pv 1) pa_nil)))
 (pss_one (ps_expr (pe_meth (pv 0) T.c_ItemRow.cl T.p_ItemRow_add_lost.me (ok_ItemRow_add_lost T) (hr.mono (by decide)) T.p_ItemRow_add_lost.b .nil pass0 (pa_cons (pe_ix ix_tup (pv 1) pe_int (fun _ _ => rfl)) pa_nil))))
 (pss_one (ps_expr (pe_bm PySem.F.plainAttrs_list PySem.F.slot_list_append PySem.F.type_list_append mt_append (pe_fld (pv 0) rfl) (pa_cons (pv 1) pa_nil)))))), ?_⟩
    walk_at "bgo"
    refine ⟨a, it, rfl, hi, ?_⟩
    walk_at "bgo"
    cases it with
    | lost n =>
      refine R.iteT' rfl ?_
      walk_at "bgo"
      refine ⟨_, _, _, rfl, e1, rfl, ?_⟩
      walk_at "bgo"
      refine R.r_ixT (v := .int n) (R.sqT hi) (R.at_nat (by decide) rfl) ?_
      walk_at "bgo"
      refine ⟨h, l, L, n, rfl, r, hl, fun H' m r' => ?_⟩
      walk_at "bgo"
      exact q _ m r'
    | rc t c s vs =>
      refine R.iteF' Bool.false_ne_true ?_
      walk_at "bgo"
      refine ⟨_, _, _, _, _, rfl, e1, T.c_ItemRow.cl, T.n_ItemRow.inner, rfl, ?_⟩
      refine ⟨.inl ⟨rfl, _, R.sqL e2⟩, ?_⟩
      walk_at "bgo"
      refine ⟨_, _, _, rfl, rfl, e2, R.size_lt (by omega), ?_⟩
      walk_at "bgo"
      obtain ⟨r2, m2⟩ := r.put (Same.refl _) (ws := ws ++ [.ref a]) (L2 := L ++ [.rc t c s vs]) (BF.Its.snoc i ⟨a, rfl, hi⟩)
      exact q _ m2 r2
end
end K24
end
section
local macro_rules | `(tactic| walk_at "s1") => `(tactic| first
  | ((with_reducible apply R.r_var); · rfl)
  | with_reducible apply R.r_c
  | with_reducible apply R.r_op
  | with_reducible apply R.r_I0
  | with_reducible apply R.r_cb
  | with_reducible apply R.r_cons
  | with_reducible apply R.r_nil
  | with_reducible apply R.r_seq
  | with_reducible apply R.r_asg
  | with_reducible apply R.r_ret
  | with_reducible apply R.r_ifS
  | with_reducible apply R.r_test
  | with_reducible apply R.r_t
  | with_reducible apply R.r_f
  | with_reducible apply R.r_nt
  | with_reducible apply R.r_nf
  | with_reducible apply R.r_bl
  | with_reducible apply R.r_U
  | with_reducible apply R.r_un
  | with_reducible apply R.r_eqI
  | with_reducible apply R.r_eqS
  | with_reducible apply R.r_neI
  | with_reducible apply R.r_neS
  | with_reducible apply R.r_and
  | with_reducible apply R.r_or
  | with_reducible apply R.r_not
  | with_reducible apply R.r_andV
  | with_reducible apply R.r_orV
  | with_reducible apply R.r_notV
  | with_reducible apply R.r_blV
  | with_reducible apply R.r_B
  | with_reducible apply R.r_ifE
  | with_reducible apply R.r_tup
  | with_reducible apply R.r_lst
  | with_reducible apply R.r_call
  | with_reducible apply R.r_drop
  | with_reducible apply R.r_next
  | with_reducible apply R.r_abs
  | with_reducible apply R.r_int1
  | with_reducible apply R.r_int1b
  | with_reducible apply R.r_min2
  | with_reducible apply R.r_bm
  | with_reducible apply R.r_bm0
  | with_reducible apply R.r_dget
  | with_reducible apply R.r_dput
  | with_reducible apply R.r_disp
  | with_reducible apply R.r_pnil
  | with_reducible apply R.r_pcons
  | with_reducible apply R.r_fld
  | with_reducible apply R.r_slice
  | with_reducible apply R.r_nopart
  | with_reducible apply R.r_part
  | with_reducible apply R.r_int
  | with_reducible apply R.r_yes
  | with_reducible apply R.r_retN
  | with_reducible apply R.r_asgG
  | with_reducible apply R.r_gname
  | with_reducible apply R.r_rng1
  | with_reducible apply R.r_brk
  | with_reducible apply R.r_cnt
  | with_reducible apply R.r_m1
  | with_reducible apply R.r_lcr
  | with_reducible apply R.r_p2_63
  | with_reducible apply R.r_p2_64
  | with_reducible apply R.r_p2_32
  | with_reducible apply R.r_p2_31
  | with_reducible apply R.r_p10_18
  | with_reducible apply R.r_p10_30
  | with_reducible refine R.r_mod (by omega) ?_
  | with_reducible refine R.r_div (by omega) ?_
  | with_reducible refine R.r_mulR (by omega) ?_
  | with_reducible refine R.r_mulL (by omega) ?_
  | with_reducible refine R.r_iteY (by decide +kernel) ?_
  | with_reducible refine R.r_iteF (by decide +kernel) ?_
  | with_reducible refine R.r_isi R.isi_int ?_
  | with_reducible refine R.r_isi R.isi_intB ?_)
local macro_rules | `(tactic| walk_at "go") => `(tactic| repeat (walk_at "s1"))

local macro_rules | `(tactic| walk_at "b1") => `(tactic| first
  | walk_at "s1"
  | with_reducible apply MM.r_meth
  | with_reducible apply MM.r_make
  | with_reducible apply MM.r_sfld
  | with_reducible apply MM.r_gsub
  | with_reducible apply MM.r_chain
  | with_reducible apply MM.r_daug
  | with_reducible apply MM.r_add
  | with_reducible apply MM.r_ip
  | with_reducible apply MM.r_din
  | with_reducible apply MM.r_dnotin
  | with_reducible apply BF.r_faug
  | with_reducible apply BF.r_sub)
local macro_rules | `(tactic| walk_at "bgo") => `(tactic| repeat (walk_at "b1"))

namespace K24
open PySem PySem.Spec PyProof.Rows L2
section
variable {P : Program} {w : World} {K : PySem.W.Frag} {mg : Str → Option Value} {base : Heap}
theorem ok_ItemRow_lose_first (T : Txt K mg) : FnOk P w K mg base CX0 2 T.p_ItemRow_lose_first.f T.p_ItemRow_lose_first.fd ["self"] (BF.spLoseFirst T.c_ItemRow.a) := by
  refine T.p_ItemRow_lose_first.F.ok sc_ItemRow_lose_first (fun vs H Q E h => ?_) (fun cdv A outer s H vs Q E hr h => ?_)
  · obtain ⟨h, l, L, r, R0, n, rfl, _⟩ := h
    rfl
  · obtain ⟨h, l, L, r, R0, n, rfl, ra, hl, hr0, hL, q⟩ := h
    obtain ⟨⟨dx, e1⟩, ws, e2, i⟩ := id ra
    refine ⟨_, (pss_cons (ps_set (i := 1) sc_ItemRow_lose_first.nd rfl (.inl rfl) pe_int)
(pss_cons (ps_set (i := 2) sc_ItemRow_lose_first.nd rfl (.inl rfl) (pe_bm PySem.F.plainAttrs_list PySem.F.slot_list_pop PySem.F.type_list_pop mt_popAt (pe_fld (pv 0) rfl) (pa_cons pe_int pa_nil)))
(C8.pss_cut (ps_if (pt_val (pe_call (ok_is_lost T) (hr.mono (by decide)) (by rfl) T.p_is_lost.g T.p_is_lost.F.kp T.p_is_lost.b .nil pass0 (pa_cons (pv 2) pa_nil)))
 (pss_cons (ps_set (i := 1) sc_ItemRow_lose_first.nd rfl (.inl rfl) (pe_op op_add (pv 1) (pe_ix ix_tup (pv 2) pe_int (fun _ _ => rfl))))
(pss_one (ps_set (i := 2) sc_ItemRow_lose_first.nd rfl (.inl rfl) (pe_bm PySem.F.plainAttrs_list PySem.F.slot_list_pop PySem.F.type_list_pop mt_popAt (pe_fld (pv 0) rfl) (pa_cons pe_int pa_nil)))))
 pss_nil)
(C8.pss_cut (ps_if ((pw_and (pt_truth (pe_fld (pv 0) rfl) (fun _ => rfl)) (pw_and1 (pt_val (pe_call (ok_is_lost T) (hr.mono (by decide)) (by rfl) T.p_is_lost.g T.p_is_lost.F.kp T.p_is_lost.b .nil pass0 (pa_cons (pe_ix ix_list (pe_fld (pv 0) rfl) pe_int (fun _ _ => rfl)) pa_nil)))))).pt
 (pss_one (ps_set (i := 1) sc_ItemRow_lose_first.nd rfl (.inl rfl) (pe_op op_add (pv 1) (pe_ix ix_tup (pe_bm PySem.F.plainAttrs_list PySem.F.slot_list_pop PySem.F.type_list_pop mt_popAt (pe_fld (pv 0) rfl) (pa_cons pe_int pa_nil)) pe_int (fun _ _ => rfl)))))
 pss_nil)
(pss_cons (ps_expr (pe_bm PySem.F.plainAttrs_list PySem.F.slot_list_insert PySem.F.type_list_insert mt_insert (pe_fld (pv 0) rfl) (pa_cons pe_int (pa_cons (pe_tup (pa_cons pe_str (pa_cons (pv 1) pa_nil))) pa_nil))))
(pss_one (ps_ret (pv 2)))))))), ?_⟩
    walk_at "bgo"
    refine ⟨_, _, _, _, _, rfl, e1, T.c_ItemRow.cl, T.n_ItemRow.inner, rfl, ?_⟩
    refine ⟨BF.tyL e2, ?_⟩
    walk_at "bgo"
    have step2 : ∀ (σ : L2.St) (H' : Hp) (Mid : L2.St → Hp → Prop), True := fun _ _ _ => trivial
    have first : ∃ x a ws0 L0, ws = V.ref a :: ws0 ∧ L = x :: L0 ∧ BF.ItAt H a x ∧ BF.Its H ws0 L0 := by
      rcases hL with ⟨rfl, _⟩ | ⟨m, rfl, _⟩
      · obtain ⟨a, ws0, rfl, ha, i0⟩ := BF.its_cons i
        exact ⟨_, a, ws0, _, rfl, rfl, ha, i0⟩
      · obtain ⟨a, ws0, rfl, ha, i0⟩ := BF.its_cons i
        exact ⟨_, a, ws0, _, rfl, rfl, ha, i0⟩
    obtain ⟨x, a, ws0, L0, rfl, rfl, ha, i0⟩ := first
    refine BF.r_pop0 e2 ?_
    generalize hu : upd H l (.lst ws0) = H1
    obtain ⟨r1, m1, e12, i1, k1⟩ := ra.put' i0 hu
    walk_at "bgo"
    refine R.r_cut (fun σ H' => ∃ a' ws', σ = [some (.ref h), some (.int n), some (.ref a')] ∧ R.Mv l H H' ∧ BF.RowAt T.c_ItemRow.a H' h l R0 ∧ BF.ItAt H' a' r ∧ H' l = some (.lst ws') ∧ BF.Its H' ws' R0) ?_ ?_
    · walk_at "bgo"
      refine ⟨a, x, rfl, ha.keep k1, ?_⟩
      walk_at "bgo"
      rcases hL with ⟨hL, rfl⟩ | ⟨m, hL, rfl⟩
      · injection hL with hL1 hL2
        subst hL1 hL2
        refine R.iteF' (by rw [hr0]; exact Bool.false_ne_true) ?_
        walk_at "bgo"
        exact ⟨a, ws0, rfl, m1, r1, ha.keep k1, e12, i1⟩
      · injection hL with hL1 hL2
        subst hL1 hL2
        refine R.iteT' rfl ?_
        walk_at "bgo"
        refine R.r_ixT (v := .int m) (R.sqT (ha.keep k1)) (R.at_nat (by decide) rfl) ?_
        walk_at "bgo"
        obtain ⟨⟨dx2, e11⟩, _⟩ := id r1
        refine ⟨_, _, _, _, _, rfl, e11, T.c_ItemRow.cl, T.n_ItemRow.inner, rfl, ?_⟩
        refine ⟨BF.tyL e12, ?_⟩
        walk_at "bgo"
        obtain ⟨a2, ws2, rfl, ha2, i2⟩ := BF.its_cons i1
        refine BF.r_pop0 e12 ?_
        generalize hu2 : upd H1 l (.lst ws2) = H2
        obtain ⟨r2, m2, e22, i22, k2⟩ := r1.put' i2 hu2
        walk_at "bgo"
        exact ⟨a2, ws2, rfl, m1.trans m2, r2, ha2.keep k2, e22, i22⟩
    · rintro σ H2 ⟨a', ws', rfl, m2, r2, ha2, e22, i2⟩
      obtain ⟨⟨dx2, e21⟩, _⟩ := id r2
      have len2 := i2.len
      have lR : R0.length ≤ 10000 := by
        rcases hL with ⟨hL, _⟩ | ⟨m, hL, _⟩
        · rw [hL] at hl
          simp only [List.length_cons] at hl
          omega
        · rw [hL] at hl
          simp only [List.length_cons] at hl
          omega
      walk_at "bgo"
      refine R.r_cut (fun σ H' => ∃ n' ws' R1, σ = [some (.ref h), some (.int n'), some (.ref a')] ∧ R.Mv l H H' ∧ BF.RowAt T.c_ItemRow.a H' h l R1 ∧ BF.ItAt H' a' r ∧ H' l = some (.lst ws') ∧ BF.Its H' ws' R1 ∧ BF.glue n R0 = .lost n' :: R1 ∧ R1.length ≤ 10000) ?_ ?_
      · walk_at "bgo"
        refine ⟨_, _, _, _, _, rfl, e21, T.c_ItemRow.cl, T.n_ItemRow.inner, rfl, ?_⟩
        refine ⟨_, .inl ⟨_, R.sqL e22, rfl⟩, ?_⟩
        cases R0 with
        | nil =>
          obtain rfl : ws' = [] := List.length_eq_zero_iff.mp len2
          refine R.iteF' Bool.false_ne_true ?_
          walk_at "bgo"
          exact ⟨n, [], [], rfl, m2, r2, ha2, e22, i2, rfl, by simp⟩
        | cons y R1 =>
          obtain ⟨b, ws2, rfl, hb, i3⟩ := BF.its_cons i2
          refine R.iteT' rfl ?_
          walk_at "bgo"
          refine ⟨_, _, _, _, _, rfl, e21, T.c_ItemRow.cl, T.n_ItemRow.inner, rfl, ?_⟩
          walk_at "bgo"
          refine R.r_ixL (v := .ref b) (R.sqL e22) (R.at_nat (by decide) rfl) ?_
          walk_at "bgo"
          refine ⟨b, y, rfl, hb, ?_⟩
          walk_at "bgo"
          cases y with
          | rc t c s vs =>
            refine R.iteF' Bool.false_ne_true ?_
            walk_at "bgo"
            exact ⟨n, _, _, rfl, m2, r2, ha2, e22, i2, rfl, lR⟩
          | lost k =>
            refine R.iteT' rfl ?_
            walk_at "bgo"
            refine ⟨_, _, _, _, _, rfl, e21, T.c_ItemRow.cl, T.n_ItemRow.inner, rfl, ?_⟩
            refine ⟨BF.tyL e22, ?_⟩
            walk_at "bgo"
            refine BF.r_pop0 e22 ?_
            generalize hu3 : upd H2 l (.lst ws2) = H3
            obtain ⟨r3, m3, e32, i33, k3⟩ := r2.put' i3 hu3
            walk_at "bgo"
            refine R.r_ixT (v := .int k) (R.sqT (hb.keep k3)) (R.at_nat (by decide) rfl) ?_
            walk_at "bgo"
            exact ⟨n + k, ws2, R1, rfl, m2.trans m3, r3, ha2.keep k3, e32, i33, rfl, by simp only [List.length_cons] at lR; omega⟩
      · rintro σ H3 ⟨n', ws', R1, rfl, m3, r3, ha3, e32, i3, eg, lR1⟩
        obtain ⟨⟨dx3, e31⟩, _⟩ := id r3
        have len3 := i3.len
        walk_at "bgo"
        refine ⟨_, _, _, _, _, rfl, e31, T.c_ItemRow.cl, T.n_ItemRow.inner, rfl, ?_⟩
        refine ⟨BF.tyL e32, ?_⟩
        walk_at "bgo"
        refine ⟨Nat.le_of_ble_eq_true rfl, fun p hp => ?_⟩
        have s4 := R.same_new (o := .tup [.str "lost", .int n']) hp
        refine ⟨_, _, _, _, rfl, rfl, s4 _ _ e32, R.size_lt (by omega), by decide, by decide, ?_⟩
        show _
        walk_at "bgo"
        obtain ⟨r5, m5⟩ := r3.put s4 (ws := .ref p :: ws') (L2 := .lost n' :: R1) (BF.Its.cons (BF.itv_lost upd_same) (BF.Its.keep (MM.KeepT.of s4) i3))
        rw [eg] at q
        refine q _ a' (m3.trans m5) r5 (ha3.keep (r3.keepT m5))
theorem ok_ItemRow_image (T : Txt K mg) : FnOk P w K mg base CX0 1 T.p_ItemRow_image.f T.p_ItemRow_image.fd ["self"] (BF.spImage T.c_ItemRow.a) := by
  refine T.p_ItemRow_image.F.ok sc_ItemRow_image (fun vs H Q E h => ?_) (fun cdv A outer s H vs Q E hr h => ?_)
  · obtain ⟨h, l, L, rfl, _⟩ := h
    rfl
  · obtain ⟨h, l, L, rfl, ⟨⟨dx, e1⟩, ws, e2, i⟩, q⟩ := h
    refine ⟨_, (pss_one (ps_ret (pe_callTy MM.cTupOf (by rfl) T.m_tuple (by decide +kernel) (pa_cons (pe_fld (pv 0) rfl) pa_nil)))), ?_⟩
    walk_at "bgo"
    refine ⟨_, _, _, _, _, rfl, e1, T.c_ItemRow.cl, T.n_ItemRow.inner, rfl, ?_⟩
    walk_at "bgo"
    refine ⟨_, _, rfl, .inl ⟨R.sqL e2, fun p hp => ?_⟩⟩
    exact q _ p ws (R.same_new hp) upd_same (i.keep (MM.KeepT.of (R.same_new hp)))
theorem ok_size_of (T : Txt K mg) : FnOk P w K mg base CX0 1 T.p_size_of.f T.p_size_of.fd ["record"] BF.spSizeOf := by
  refine T.p_size_of.F.ok sc_size_of (fun vs H Q E h => ?_) (fun cdv A outer s H vs Q E hr h => ?_)
  · obtain ⟨a, it, rfl, _⟩ := h
    rfl
  · obtain ⟨a, it, rfl, hi, hL, ok, q⟩ := h
    cases it with
    | lost n => cases hL
    | rc t c st vs =>
      obtain ⟨b, ws, e1, e2, e3⟩ := hi
      have len := MM.All2.length e3
      have hk := ok.2.2
      refine ⟨_, (pss_cons (ps_set (i := 1) sc_size_of.nd rfl (.inl rfl) (pe_ix ix_tup (pv 0) (pe_un un_neg pe_int) (fun _ _ => rfl)))
(pss_one (ps_ret (pe_op op_add (pe_op op_add (pe_glob (by rfl) T.c_BARE_SIZE T.r_BARE_SIZE) (pe_callB R.cLenS (by rfl) T.m_len (by decide +kernel) (pa_cons (pv 1) pa_nil))) (pe_callB (cr_sum rfl) (by rfl) T.m_sum (by decide +kernel) (pa_cons (pe_lc (own := [("kind", 2), ("held", 3)]) (g := gTup _ 2 (gCons (gName 2) (gCons (gName 3) gNil))) rfl sc_size_of.nd (pi_tup (pv 1)) (blkOk_by (own := [("kind", 2), ("held", 3)]) (N := N_size_of) (sc := defScope s_size_of) (by decide +kernel)) (fun _ _ _ _ _ => (pg_tup rfl (pgs_cons (pg_name (i := 2) sc_size_of.nd rfl (.inl rfl)) (pgs_cons (pg_name (i := 3) sc_size_of.nd rfl (.inl rfl)) pgs_nil)))) (fun _ _ _ _ _ => (pts_one (pt_cmpR op_eq (pv 2) pe_str (nomark _)))) (fun _ _ _ _ _ => (pe_callB BF.cLenZ (by rfl) T.m_len (by decide +kernel) (pa_cons (pv 3) pa_nil)))) pa_nil)))))), ?_⟩
      walk_at "bgo"
      refine R.r_ixT (v := .ref b) (R.sqT e1) rfl ?_
      walk_at "bgo"
      refine R.r_lenT (R.sqT e2) ?_
      walk_at "bgo"
      refine MM.r_lcT ?_
      walk_at "bgo"
      refine ⟨b, rfl, ⟨_, R.sqT e2⟩, ?_⟩
      refine MM.lc_go (walk_tup (xs := ws)) (fun D i H' => Same H H' ∧ H' D = some (.lst (((vs.take i).flatMap BF.txl).map V.int))) ?_ ?_ ?_ ?_
      · intro D hD
        exact ⟨R.same_new hD, upd_same⟩
      · rintro D i H' hD ⟨s, _⟩
        exact R.sqT (s _ _ e2)
      · rintro D i y H2 H2' hD hi ⟨s, eD⟩ ⟨rfl, ey⟩
        obtain ⟨x, ax, rfl, ex, eax⟩ := BF.vls_get e3 ey
        refine ⟨ax, _, rfl, R.sqT (s _ _ eax), rfl, _, _, rfl, _, _, rfl, rfl, ?_⟩
        refine ⟨rfl, ?_⟩
        have lb : ((vs.take i).flatMap BF.txl).length < 1000 := by
          have := BF.txl_len (vs.take i)
          rw [List.length_take] at this
          omega
        rw [BF.lens_app ex]
        walk_at "bgo"
        cases x with
        | s z =>
          refine R.r_iteY rfl ?_
          walk_at "bgo"
          refine BF.r_lenZ (z := z) ?_ ?_
          · have zo : z.length ≤ 32 := (ok.2.1 (.s z) (List.mem_of_getElem? ex)).1
            omega
          walk_at "bgo"
          refine ⟨_, eD, R.size_lt (by rw [List.length_map]; exact Nat.lt_trans lb (by decide)), CR.same_acc hD s, ?_⟩
          rw [upd_same, List.map_append]
          rfl
        | i n =>
          refine R.r_iteF (show ¬ ("int" : Str) = "str" by decide +kernel) ?_
          refine ⟨s, ?_⟩
          rw [eD]
          show _ = some (HO.lst (List.map V.int (_ ++ [])))
          rw [List.append_nil]
      · rintro D H2 hD ⟨s, eD⟩
        rw [List.take_of_length_le (by omega)] at eD
        walk_at "bgo"
        refine ⟨_, _, rfl, R.sqL eD, ?_⟩
        walk_at "bgo"
        have z := BF.txl_sum vs
        rw [len, show (2 : Int) + (vs.length : Int) + (vs.flatMap BF.txl).sum = BF.It.sz (.rc t c st vs) by show _ = 2 + BF.szV vs; omega]
        exact q _ s
end
end K24
end
section
local macro_rules | `(tactic| walk_at "s1") => `(tactic| first
  | ((with_reducible apply R.r_var); · rfl)
  | with_reducible apply R.r_c
  | with_reducible apply R.r_op
  | with_reducible apply R.r_I0
  | with_reducible apply R.r_cb
  | with_reducible apply R.r_cons
  | with_reducible apply R.r_nil
  | with_reducible apply R.r_seq
  | with_reducible apply R.r_asg
  | with_reducible apply R.r_ret
  | with_reducible apply R.r_ifS
  | with_reducible apply R.r_test
  | with_reducible apply R.r_t
  | with_reducible apply R.r_f
  | with_reducible apply R.r_nt
  | with_reducible apply R.r_nf
  | with_reducible apply R.r_bl
  | with_reducible apply R.r_U
  | with_reducible apply R.r_un
  | with_reducible apply R.r_eqI
  | with_reducible apply R.r_eqS
  | with_reducible apply R.r_neI
  | with_reducible apply R.r_neS
  | with_reducible apply R.r_and
  | with_reducible apply R.r_or
  | with_reducible apply R.r_not
  | with_reducible apply R.r_andV
  | with_reducible apply R.r_orV
  | with_reducible apply R.r_notV
  | with_reducible apply R.r_blV
  | with_reducible apply R.r_B
  | with_reducible apply R.r_ifE
  | with_reducible apply R.r_tup
  | with_reducible apply R.r_lst
  | with_reducible apply R.r_call
  | with_reducible apply R.r_drop
  | with_reducible apply R.r_next
  | with_reducible apply R.r_abs
  | with_reducible apply R.r_int1
  | with_reducible apply R.r_int1b
  | with_reducible apply R.r_min2
  | with_reducible apply R.r_bm
  | with_reducible apply R.r_bm0
  | with_reducible apply R.r_dget
  | with_reducible apply R.r_dput
  | with_reducible apply R.r_disp
  | with_reducible apply R.r_pnil
  | with_reducible apply R.r_pcons
  | with_reducible apply R.r_fld
  | with_reducible apply R.r_slice
  | with_reducible apply R.r_nopart
  | with_reducible apply R.r_part
  | with_reducible apply R.r_int
  | with_reducible apply R.r_yes
  | with_reducible apply R.r_retN
  | with_reducible apply R.r_asgG
  | with_reducible apply R.r_gname
  | with_reducible apply R.r_rng1
  | with_reducible apply R.r_brk
  | with_reducible apply R.r_cnt
  | with_reducible apply R.r_m1
  | with_reducible apply R.r_lcr
  | with_reducible apply R.r_p2_63
  | with_reducible apply R.r_p2_64
  | with_reducible apply R.r_p2_32
  | with_reducible apply R.r_p2_31
  | with_reducible apply R.r_p10_18
  | with_reducible apply R.r_p10_30
  | with_reducible refine R.r_mod (by omega) ?_
  | with_reducible refine R.r_div (by omega) ?_
  | with_reducible refine R.r_mulR (by omega) ?_
  | with_reducible refine R.r_mulL (by omega) ?_
  | with_reducible refine R.r_iteY (by decide +kernel) ?_
  | with_reducible refine R.r_iteF (by decide +kernel) ?_
  | with_reducible refine R.r_isi R.isi_int ?_
  | with_reducible refine R.r_isi R.isi_intB ?_)
local macro_rules | `(tactic| walk_at "go") => `(tactic| repeat (walk_at "s1"))

local macro_rules | `(tactic| walk_at "b1") => `(tactic| first
  | walk_at "s1"
  | with_reducible apply MM.r_meth
  | with_reducible apply MM.r_make
  | with_reducible apply MM.r_sfld
  | with_reducible apply MM.r_gsub
  | with_reducible apply MM.r_chain
  | with_reducible apply MM.r_daug
  | with_reducible apply MM.r_add
  | with_reducible apply MM.r_ip
  | with_reducible apply MM.r_din
  | with_reducible apply MM.r_dnotin
  | with_reducible apply BF.r_faug
  | with_reducible apply BF.r_sub)
local macro_rules | `(tactic| walk_at "bgo") => `(tactic| repeat (walk_at "b1"))

namespace K24
open PySem PySem.Spec PyProof.Rows L2
section
variable {P : Program} {w : World} {K : PySem.W.Frag} {mg : Str → Option Value} {base : Heap}
theorem ok_Buffer_held (T : Txt K mg) : FnOk P w K mg base CX0 2 T.p_Buffer_held.f T.p_Buffer_held.fd ["self"] (BF.spHeld T.c_Buffer.a T.c_ItemRow.a) := by
  refine T.p_Buffer_held.F.ok sc_Buffer_held (fun vs H Q E h => ?_) (fun cdv A outer s H vs Q E hr h => ?_)
  · obtain ⟨b, h, l, S, rfl, _⟩ := h
    rfl
  · obtain ⟨b, h, l, S, rfl, B, q⟩ := h
    obtain ⟨⟨dx, e⟩, r⟩ := id B
    obtain ⟨⟨dx1, e1⟩, _⟩ := id r
    refine ⟨_, (pss_one (ps_ret (pe_meth0 (pe_fld (pv 0) rfl) T.c_ItemRow.cl T.p_ItemRow_image.me (ok_ItemRow_image T) (hr.mono (by decide)) T.p_ItemRow_image.b .nil pass0))), ?_⟩
    walk_at "bgo"
    refine ⟨_, _, _, _, _, rfl, e, T.c_Buffer.cl, T.n_Buffer.half, rfl, ?_⟩
    refine ⟨_, _, _, rfl, e1, rfl, ?_⟩
    exact ⟨h, l, S.L, rfl, r, q⟩
theorem ok_Buffer___init__ (T : Txt K mg) : FnOk P w K mg base CX0 3 T.p_Buffer___init__.f T.p_Buffer___init__.fd ["self", "room", "policy"] (BF.spBufNew T.c_Buffer.a T.c_ItemRow.a) := by
  refine T.p_Buffer___init__.F.ok sc_Buffer___init__ (fun vs H Q E h => ?_) (fun cdv A outer s H vs Q E hr h => ?_)
  · obtain ⟨b, dx, room, pol, rfl, _⟩ := h
    rfl
  · obtain ⟨b, dx, room, pol, rfl, e, q⟩ := h
    refine ⟨_, (pss_cons (ps_fld (pv 0) (pv 1) rfl)
(pss_cons (ps_fld (pv 0) (pv 2) rfl)
(pss_cons (ps_fld (pv 0) pe_int rfl)
(pss_cons (ps_fld (pv 0) pe_int rfl)
(pss_cons (ps_fld (pv 0) (pe_make0 T.p_ItemRow___init__.M (ok_ItemRow___init__ T) (hr.mono (by decide)) (by rfl) T.c_ItemRow.g T.p_ItemRow___init__.b .nil pass0) rfl)
(pss_one (ps_fld (pv 0) pe_bl rfl))))))), ?_⟩
    walk_at "bgo"
    refine ⟨_, _, _, _, rfl, e, T.c_Buffer.cl, T.n_Buffer.room, Nat.le_of_ble_eq_true rfl, ?_⟩
    generalize hu1 : upd H b _ = H1
    have e1 := upd_same.symm.trans (congrFun hu1 b) |>.symm
    have m1 : R.Mv b H H1 := hu1 ▸ R.Mv.upd
    walk_at "bgo"
    refine ⟨_, _, _, _, rfl, e1, T.c_Buffer.cl, T.n_Buffer.policy, Nat.le_of_ble_eq_true rfl, ?_⟩
    generalize hu2 : upd H1 b _ = H2
    have e2 := upd_same.symm.trans (congrFun hu2 b) |>.symm
    have m2 : R.Mv b H H2 := m1.trans (hu2 ▸ R.Mv.upd)
    walk_at "bgo"
    refine ⟨_, _, _, _, rfl, e2, T.c_Buffer.cl, T.n_Buffer.used, Nat.le_of_ble_eq_true rfl, ?_⟩
    generalize hu3 : upd H2 b _ = H3
    have e3 := upd_same.symm.trans (congrFun hu3 b) |>.symm
    have m3 : R.Mv b H H3 := m2.trans (hu3 ▸ R.Mv.upd)
    walk_at "bgo"
    refine ⟨_, _, _, _, rfl, e3, T.c_Buffer.cl, T.n_Buffer.lost, Nat.le_of_ble_eq_true rfl, ?_⟩
    generalize hu4 : upd H3 b _ = H4
    have e4 := upd_same.symm.trans (congrFun hu4 b) |>.symm
    have m4 : R.Mv b H H4 := m3.trans (hu4 ▸ R.Mv.upd)
    walk_at "bgo"
    intro h dh hh hdh ne
    have s5 : Same H4 (upd (upd H4 dh (.own h)) h (.ins T.c_ItemRow.a dh [])) := fun b o e => by
      rw [upd_ne (ne_of_none e hh), upd_ne (ne_of_none e hdh)]
      exact e
    generalize hu5 : upd (upd H4 dh (.own h)) h (.ins T.c_ItemRow.a dh []) = H5 at s5
    have e5 : H5 h = some (.ins T.c_ItemRow.a dh []) := by rw [← hu5]; exact upd_same
    refine ⟨h, dh, rfl, e5, fun H6 l hl m6 r6 => ⟨rfl, ?_⟩⟩
    have nb : b ≠ h := fun z => by rw [← z, e4] at hh; cases hh
    have e6 := m6 _ _ (s5 _ _ e4) nb
    have f6 : R.Mv b H H6 := fun c o ec hc => by
      have z := s5 _ _ (m4 _ _ ec hc)
      refine m6 _ _ z fun y => ?_
      have := m4 _ _ ec hc
      rw [y, hh] at this
      cases this
    walk_at "bgo"
    refine ⟨_, _, _, _, rfl, e6, T.c_Buffer.cl, T.n_Buffer.half, Nat.le_of_ble_eq_true rfl, ?_⟩
    generalize hu7 : upd H6 b _ = H7
    have e7 := upd_same.symm.trans (congrFun hu7 b) |>.symm
    have m7 : R.Mv b H6 H7 := hu7 ▸ R.Mv.upd
    walk_at "bgo"
    refine ⟨_, _, _, _, rfl, e7, T.c_Buffer.cl, T.n_Buffer.reading, Nat.le_of_ble_eq_true rfl, ?_⟩
    generalize hu8 : upd H7 b _ = H8
    have e8 := upd_same.symm.trans (congrFun hu8 b) |>.symm
    have m8 : R.Mv b H6 H8 := m7.trans (hu8 ▸ R.Mv.upd)
    walk_at "bgo"
    obtain ⟨⟨d6, er⟩, ws, el, i⟩ := id r6
    have nl : l ≠ b := fun z => by rw [z, s5 _ _ e4] at hl; cases hl
    have k : MM.KeepT H6 H8 := BF.mv_keepT m8 e6 fun _ => nofun
    have hh0 : H h = none := by
      cases z : H h with
      | none => rfl
      | some o => rw [m4 _ _ z nb.symm] at hh; cases hh
    have hl0 : H l = none := by
      cases z : H l with
      | none => rfl
      | some o => rw [s5 _ _ (m4 _ _ z nl)] at hl; cases hl
    refine q H8 h l hh0 hl0 (BF.Fr.mv (f6.trans m8) (List.mem_singleton.mpr rfl)) ⟨⟨dx, e8⟩, r6.keep k (fun o eo => m8 _ _ eo nb.symm) (fun o eo => m8 _ _ eo nl)⟩
theorem ok_Buffer_lose (T : Txt K mg) : FnOk P w K mg base CX0 4 T.p_Buffer_lose.f T.p_Buffer_lose.fd ["self", "items"] (BF.spLose T.c_Buffer.a T.c_ItemRow.a) := by
  refine T.p_Buffer_lose.F.ok sc_Buffer_lose (fun vs H Q E h => ?_) (fun cdv A outer s H vs Q E hr h => ?_)
  · obtain ⟨b, h, l, p, S, ws, M, rfl, _⟩ := h
    rfl
  · obtain ⟨b, h, l, p, S, ws, M, rfl, B, hl, ep, ip, hm, q⟩ := h
    have len := ip.len
    refine ⟨_, (pss_one (ps_for PassesOwn.never rfl (pi_tup (pv 1)) (pg_name (i := 2) sc_Buffer_lose.nd rfl (.inl rfl))
 (pss_one (ps_if (pt_val (pe_call (ok_is_lost T) (hr.mono (by decide)) (by rfl) T.p_is_lost.g T.p_is_lost.F.kp T.p_is_lost.b .nil pass0 (pa_cons (pv 2) pa_nil)))
 (pss_one (ps_expr (pe_meth (pe_fld (pv 0) rfl) T.c_ItemRow.cl T.p_ItemRow_add.me (ok_ItemRow_add T) (hr.mono (by decide)) T.p_ItemRow_add.b .nil pass0 (pa_cons (pv 2) pa_nil))))
 (pss_cons (ps_expr (pe_meth (pe_fld (pv 0) rfl) T.c_ItemRow.cl T.p_ItemRow_add_lost.me (ok_ItemRow_add_lost T) (hr.mono (by decide)) T.p_ItemRow_add_lost.b .nil pass0 (pa_cons pe_int pa_nil)))
(pss_one (ps_fldaug (pv 0) pe_int in_add))))))), ?_⟩
    refine BF.r_forT ?_
    walk_at "bgo"
    refine ⟨p, rfl, ⟨_, R.sqT ep⟩, ?_⟩
    refine BF.for_tupG (xs := ws) (fun i σ H' => ∃ y2, σ = [some (.ref b), some (.ref p), y2] ∧ BF.Fr [b, h, l] H H' ∧ BF.BufAt T.c_Buffer.a T.c_ItemRow.a H' b h l { S with lost := S.lost + BF.oneL (M.take i), L := (M.take i).foldl (fun L a => BF.pushL L a.num) S.L }) ?_ ?_ ?_ ?_
    · refine ⟨_, rfl, BF.Fr.refl, ?_⟩
      show BF.BufAt _ _ _ _ _ _ { S with lost := S.lost + 0, L := S.L }
      rw [Int.add_zero]
      exact B
    · rintro i σ H' ⟨y2, rfl, f, _⟩
      exact R.sqT (B.keepT f _ _ ep)
    · rintro i v σ H' ev ⟨y2, rfl, f, B'⟩
      obtain ⟨a, x, rfl, ex, ha⟩ := (ip.keep (B.keepT f)).get' ev
      have hi : i < M.length := (List.getElem?_eq_some_iff.mp ex).1
      obtain ⟨⟨dx, e⟩, r⟩ := id B'
      obtain ⟨⟨dx1, e1⟩, _⟩ := id r
      have lb : ((M.take i).foldl (fun L a => BF.pushL L a.num) S.L).length ≤ 10000 := by
        have := BF.lose_len (M := M.take i) (L := S.L)
        rw [List.length_take] at this
        omega
      have en : M.take (i + 1) = M.take i ++ [x] := MM.take_snoc ex
      have e_o : BF.oneL (M.take (i + 1)) = BF.oneL (M.take i) + x.one := by
        rw [en]
        unfold BF.oneL
        rw [List.map_append, List.sum_append]
        simp
      have e_f : (M.take (i + 1)).foldl (fun L a => BF.pushL L a.num) S.L = BF.pushL ((M.take i).foldl (fun L a => BF.pushL L a.num) S.L) x.num := by
        rw [en, List.foldl_append]
        rfl
      rw [e_o, e_f]
      obtain ⟨n1, n2, n3⟩ := B'.ne
      walk_at "bgo"
      refine ⟨a, x, rfl, ha, ?_⟩
      walk_at "bgo"
      cases x with
      | lost n =>
        refine R.iteT' rfl ?_
        walk_at "bgo"
        refine ⟨_, _, _, _, _, rfl, e, T.c_Buffer.cl, T.n_Buffer.half, rfl, ?_⟩
        refine ⟨_, _, _, rfl, e1, rfl, ?_⟩
        walk_at "bgo"
        refine ⟨h, l, _, a, .lost n, rfl, r, lb, ha, fun H2 m2 r2 => ?_⟩
        walk_at "bgo"
        refine ⟨_, rfl, f.trans (BF.Fr.mv m2 (by simp)), ?_⟩
        show BF.BufAt _ _ _ _ _ _ { S with lost := S.lost + (BF.oneL (M.take i) + 0), L := _ }
        rw [Int.add_zero]
        exact B'.row m2 r2
      | rc t c st vs =>
        refine R.iteF' Bool.false_ne_true ?_
        walk_at "bgo"
        refine ⟨_, _, _, _, _, rfl, e, T.c_Buffer.cl, T.n_Buffer.half, rfl, ?_⟩
        refine ⟨_, _, _, rfl, e1, rfl, ?_⟩
        walk_at "bgo"
        refine ⟨h, l, _, 1, rfl, r, lb, fun H2 m2 r2 => ?_⟩
        walk_at "bgo"
        refine ⟨_, _, _, _, _, rfl, m2 _ _ e n2, T.c_Buffer.cl, T.n_Buffer.lost, rfl, ?_⟩
        walk_at "bgo"
        refine ⟨_, _, m2 _ _ e n2, Nat.le_of_ble_eq_true rfl, ?_⟩
        have B2 := B'.row m2 r2
        obtain ⟨B3, m3⟩ := B2.fld (S2 := { S with lost := S.lost + BF.oneL (M.take i) + 1, L := _ }) (Same.refl _) (dx := dx) (fs := _) rfl rfl
        refine ⟨_, rfl, (f.trans (BF.Fr.mv m2 (by simp))).trans (BF.Fr.mv m3 (by simp)), ?_⟩
        show BF.BufAt _ _ _ _ _ _ { S with lost := S.lost + (BF.oneL (M.take i) + 1), L := _ }
        rw [← Int.add_assoc]
        exact B3
    · rintro σ H' ⟨y2, rfl, f, B'⟩
      rw [List.take_of_length_le (by omega)] at B'
      exact q _ f B'
end
end K24
end
section
local macro_rules | `(tactic| walk_at "s1") => `(tactic| first
  | ((with_reducible apply R.r_var); · rfl)
  | with_reducible apply R.r_c
  | with_reducible apply R.r_op
  | with_reducible apply R.r_I0
  | with_reducible apply R.r_cb
  | with_reducible apply R.r_cons
  | with_reducible apply R.r_nil
  | with_reducible apply R.r_seq
  | with_reducible apply R.r_asg
  | with_reducible apply R.r_ret
  | with_reducible apply R.r_ifS
  | with_reducible apply R.r_test
  | with_reducible apply R.r_t
  | with_reducible apply R.r_f
  | with_reducible apply R.r_nt
  | with_reducible apply R.r_nf
  | with_reducible apply R.r_bl
  | with_reducible apply R.r_U
  | with_reducible apply R.r_un
  | with_reducible apply R.r_eqI
  | with_reducible apply R.r_eqS
  | with_reducible apply R.r_neI
  | with_reducible apply R.r_neS
  | with_reducible apply R.r_and
  | with_reducible apply R.r_or
  | with_reducible apply R.r_not
  | with_reducible apply R.r_andV
  | with_reducible apply R.r_orV
  | with_reducible apply R.r_notV
  | with_reducible apply R.r_blV
  | with_reducible apply R.r_B
  | with_reducible apply R.r_ifE
  | with_reducible apply R.r_tup
  | with_reducible apply R.r_lst
  | with_reducible apply R.r_call
  | with_reducible apply R.r_drop
  | with_reducible apply R.r_next
  | with_reducible apply R.r_abs
  | with_reducible apply R.r_int1
  | with_reducible apply R.r_int1b
  | with_reducible apply R.r_min2
  | with_reducible apply R.r_bm
  | with_reducible apply R.r_bm0
  | with_reducible apply R.r_dget
  | with_reducible apply R.r_dput
  | with_reducible apply R.r_disp
  | with_reducible apply R.r_pnil
  | with_reducible apply R.r_pcons
  | with_reducible apply R.r_fld
  | with_reducible apply R.r_slice
  | with_reducible apply R.r_nopart
  | with_reducible apply R.r_part
  | with_reducible apply R.r_int
  | with_reducible apply R.r_yes
  | with_reducible apply R.r_retN
  | with_reducible apply R.r_asgG
  | with_reducible apply R.r_gname
  | with_reducible apply R.r_rng1
  | with_reducible apply R.r_brk
  | with_reducible apply R.r_cnt
  | with_reducible apply R.r_m1
  | with_reducible apply R.r_lcr
  | with_reducible apply R.r_p2_63
  | with_reducible apply R.r_p2_64
  | with_reducible apply R.r_p2_32
  | with_reducible apply R.r_p2_31
  | with_reducible apply R.r_p10_18
  | with_reducible apply R.r_p10_30
  | with_reducible refine R.r_mod (by omega) ?_
  | with_reducible refine R.r_div (by omega) ?_
  | with_reducible refine R.r_mulR (by omega) ?_
  | with_reducible refine R.r_mulL (by omega) ?_
  | with_reducible refine R.r_iteY (by decide +kernel) ?_
  | with_reducible refine R.r_iteF (by decide +kernel) ?_
  | with_reducible refine R.r_isi R.isi_int ?_
  | with_reducible refine R.r_isi R.isi_intB ?_)
local macro_rules | `(tactic| walk_at "go") => `(tactic| repeat (walk_at "s1"))

local macro_rules | `(tactic| walk_at "b1") => `(tactic| first
  | walk_at "s1"
  | with_reducible apply MM.r_meth
  | with_reducible apply MM.r_make
  | with_reducible apply MM.r_sfld
  | with_reducible apply MM.r_gsub
  | with_reducible apply MM.r_chain
  | with_reducible apply MM.r_daug
  | with_reducible apply MM.r_add
  | with_reducible apply MM.r_ip
  | with_reducible apply MM.r_din
  | with_reducible apply MM.r_dnotin
  | with_reducible apply BF.r_faug
  | with_reducible apply BF.r_sub)
local macro_rules | `(tactic| walk_at "bgo") => `(tactic| repeat (walk_at "b1"))

namespace K24
open PySem PySem.Spec PyProof.Rows L2
section
variable {P : Program} {w : World} {K : PySem.W.Frag} {mg : Str → Option Value} {base : Heap}
theorem ok_Buffer_make_room (T : Txt K mg) : FnOk P w K mg base CX0 4 T.p_Buffer_make_room.f T.p_Buffer_make_room.fd ["self", "size"] (BF.spMakeRoom T.c_Buffer.a T.c_ItemRow.a) := by
  refine T.p_Buffer_make_room.F.ok sc_Buffer_make_room (fun vs H Q E h => ?_) (fun cdv A outer s H vs Q E hr h => ?_)
  · obtain ⟨b, h, l, S, size, rfl, _⟩ := h
    rfl
  · obtain ⟨b, h, l, S, size, rfl, B, O, hl, hz, q⟩ := h
    obtain ⟨⟨dx, e⟩, r⟩ := id B
    refine ⟨_, (C8.pss_cut (ps_if ((pw_and (pt_cmpR op_eq (pe_fld (pv 0) rfl) pe_str (nomark _)) (pw_and1 (pt_cmpR op_le (pv 1) (pe_fld (pv 0) rfl) (nomark _))))).pt
 (pss_one (ps_while PassesOwn.never (pt_cmpR op_gt (pe_op op_add (pe_fld (pv 0) rfl) (pv 1)) (pe_fld (pv 0) rfl) (nomark _))
 (pss_cons (ps_fldaug (pv 0) (pe_call (ok_size_of T) (hr.mono (by decide)) (by rfl) T.p_size_of.g T.p_size_of.F.kp T.p_size_of.b .nil pass0 (pa_cons (pe_meth0 (pe_fld (pv 0) rfl) T.c_ItemRow.cl T.p_ItemRow_lose_first.me (ok_ItemRow_lose_first T) (hr.mono (by decide)) T.p_ItemRow_lose_first.b .nil pass0) pa_nil)) in_sub)
(pss_one (ps_fldaug (pv 0) pe_int in_add)))))
 pss_nil)
(pss_one (ps_ret (pe_cmpR op_le (pe_op op_add (pe_fld (pv 0) rfl) (pv 1)) (pe_fld (pv 0) rfl) (nomark _))))), ?_⟩
    walk_at "bgo"
    refine R.r_cut (fun σ H' => σ = [some (.ref b), some (.int size)] ∧ BF.Fr [b, h, l] H H' ∧ BF.BufAt T.c_Buffer.a T.c_ItemRow.a H' b h l (S.mr size)) ?_ ?_
    · walk_at "bgo"
      refine ⟨_, _, _, _, _, rfl, e, T.c_Buffer.cl, T.n_Buffer.policy, rfl, ?_⟩
      walk_at "bgo"
      refine R.r_ite (fun c1 => ?_) (fun c1 => ?_)
      rotate_left
      · refine R.iteF' Bool.false_ne_true ?_
        refine ⟨rfl, BF.Fr.refl, ?_⟩
        rw [BF.Bs.mr_hold (fun z => c1 z.1)]
        exact B
      walk_at "bgo"
      refine ⟨_, _, _, _, _, rfl, e, T.c_Buffer.cl, T.n_Buffer.room, rfl, ?_⟩
      walk_at "bgo"
      refine R.r_ite (fun c2 => ?_) (fun c2 => ?_)
      rotate_left
      · refine ⟨rfl, BF.Fr.refl, ?_⟩
        rw [BF.Bs.mr_hold (fun z => c2 z.2)]
        exact B
      refine ⟨fun m σ H' => σ = [some (.ref b), some (.int size)] ∧ BF.Fr [b, h, l] H H' ∧ ∃ R0 g c, m = R0.length ∧ BF.BufAt T.c_Buffer.a T.c_ItemRow.a H' b h l { S with used := BF.usd R0, lost := S.lost + c, L := BF.glu g R0 } ∧
        BF.jnd R0 ∧ (∀ a ∈ R0, a.ok) ∧ 0 ≤ g ∧ BF.trim S.room size R0 g c = BF.trim S.room size S.L 0 0 ∧ R0.length ≤ S.L.length, ⟨_, rfl, BF.Fr.refl, S.L, 0, 0, rfl, ?_, O.j, O.it, Int.le_refl _, rfl, Nat.le_refl _⟩, ?_⟩
      · rw [← O.used, Int.add_zero]
        exact B
      · rintro m σ H1 ⟨rfl, f1, R0, g, c, rfl, B1, j1, o1, hg, et, hR⟩
        obtain ⟨⟨dx1, e1⟩, r1⟩ := id B1
        obtain ⟨⟨dx2, e2⟩, _⟩ := id r1
        obtain ⟨n1, n2, n3⟩ := B1.ne
        walk_at "bgo"
        refine ⟨_, _, _, _, _, rfl, e1, T.c_Buffer.cl, T.n_Buffer.used, rfl, ?_⟩
        walk_at "bgo"
        refine ⟨_, _, _, _, _, rfl, e1, T.c_Buffer.cl, T.n_Buffer.room, rfl, ?_⟩
        walk_at "bgo"
        refine R.r_ite (fun c3 => ?_) (fun c3 => ?_)
        · obtain ⟨r0, R2, g2, h1, h2, h3, h4, h5, h6, h7, h8, _, h9⟩ := BF.trim_step (c := c) j1 o1 hg c2 c3
          refine ⟨fun σ' H' => ∃ m', m' < R0.length ∧ _, fun _ _ h => h, ?_⟩
          walk_at "bgo"
          refine ⟨_, _, _, _, _, rfl, e1, T.c_Buffer.cl, T.n_Buffer.used, rfl, ?_⟩
          walk_at "bgo"
          refine ⟨_, _, _, _, _, rfl, e1, T.c_Buffer.cl, T.n_Buffer.half, rfl, ?_⟩
          refine ⟨_, _, _, rfl, e2, rfl, ?_⟩
          refine ⟨h, l, _, r0, R2, g2, rfl, r1, ?_, h1, h9, fun H2 a m2 r2 ha => ?_⟩
          · have := BF.glu_len (n := g) (R := R0)
            show (BF.glu g R0).length ≤ _
            omega
          walk_at "bgo"
          refine ⟨a, r0, rfl, ha, h1, o1 _ h2, fun H3 s3 => ?_⟩
          walk_at "bgo"
          have B2 := B1.row m2 r2
          have B3 := B2.same s3
          obtain ⟨⟨dx3, e3⟩, _⟩ := id B3
          refine ⟨_, _, e3, Nat.le_of_ble_eq_true rfl, ?_⟩
          generalize hu4 : upd H3 b _ = H4
          obtain ⟨B4, m4⟩ := B3.fldU (S2 := { S with used := BF.usd R0 - r0.sz, lost := S.lost + c, L := BF.glue g2 R2 }) (Same.refl _) hu4 rfl rfl
          obtain ⟨⟨dx4, e4⟩, _⟩ := id B4
          walk_at "bgo"
          refine ⟨_, _, _, _, _, rfl, e4, T.c_Buffer.cl, T.n_Buffer.lost, rfl, ?_⟩
          walk_at "bgo"
          refine ⟨_, _, e4, Nat.le_of_ble_eq_true rfl, ?_⟩
          obtain ⟨B5, m5⟩ := B4.fld (S2 := { S with used := BF.usd R0 - r0.sz, lost := S.lost + c + 1, L := BF.glue g2 R2 }) (Same.refl _) (dx := dx4) (fs := _) rfl rfl
          refine ⟨_, h7, rfl, ?_, R2, g2, c + 1, rfl, ?_, h5, fun a ha => o1 a (h6 a ha), by omega, by rw [← h3, et], by omega⟩
          · exact ((f1.trans (BF.Fr.mv m2 (by simp))).trans (BF.Fr.of s3)).trans ((BF.Fr.mv m4 (by simp)).trans (BF.Fr.mv m5 (by simp)))
          · rw [BF.glu_one h8, h4, ← Int.add_assoc]
            exact B5
        · refine ⟨rfl, f1, ?_⟩
          unfold BF.Bs.mr
          rw [if_pos ⟨c1, c2⟩, ← et, BF.trim_stop (by dsimp only at c3; omega)]
          exact B1
    · rintro σ H1 ⟨rfl, f1, B1⟩
      obtain ⟨⟨dx1, e1⟩, _⟩ := id B1
      walk_at "bgo"
      refine ⟨_, _, _, _, _, rfl, e1, T.c_Buffer.cl, T.n_Buffer.used, rfl, ?_⟩
      walk_at "bgo"
      refine ⟨_, _, _, _, _, rfl, e1, T.c_Buffer.cl, T.n_Buffer.room, rfl, ?_⟩
      walk_at "bgo"
      rw [BF.Bs.mr_room]
      exact q _ f1 B1
theorem ok_Buffer_add_block (T : Txt K mg) : FnOk P w K mg base CX0 5 T.p_Buffer_add_block.f T.p_Buffer_add_block.fd ["self", "items"] (BF.spAddBlock T.c_Buffer.a T.c_ItemRow.a) := by
  refine T.p_Buffer_add_block.F.ok sc_Buffer_add_block (fun vs H Q E h => ?_) (fun cdv A outer s H vs Q E hr h => ?_)
  · obtain ⟨b, h, l, p, S, ws, M, rfl, _⟩ := h
    rfl
  · obtain ⟨b, h, l, p, S, ws, M, rfl, B, O, hl, ep, ip, om, hm, q⟩ := h
    have len := ip.len
    obtain ⟨⟨dx, e⟩, r⟩ := id B
    refine ⟨_, (pss_cons (ps_set (i := 2) sc_Buffer_add_block.nd rfl (.inl rfl) (pe_callB (cr_sum rfl) (by rfl) T.m_sum (by decide +kernel) (pa_cons (pe_lc (own := [("item", 3)]) (g := gName 3) rfl sc_Buffer_add_block.nd (pi_tup (pv 1)) (blkOk_by (own := [("item", 3)]) (N := N_Buffer_add_block) (sc := defScope s_Buffer_add_block) (by decide +kernel)) (fun _ _ _ _ _ => (pg_name (i := 3) sc_Buffer_add_block.nd rfl (.inl rfl))) (fun _ _ _ _ _ => (pts_one (pt_not (pt_val (pe_call (ok_is_lost T) (hr.mono (by decide)) (by rfl) T.p_is_lost.g T.p_is_lost.F.kp T.p_is_lost.b .nil pass0 (pa_cons (pv 3) pa_nil)))))) (fun _ _ _ _ _ => (pe_call (ok_size_of T) (hr.mono (by decide)) (by rfl) T.p_size_of.g T.p_size_of.F.kp T.p_size_of.b .nil pass0 (pa_cons (pv 3) pa_nil)))) pa_nil)))
(pss_cons (ps_if (pt_not (pt_val (pe_meth (pv 0) T.c_Buffer.cl T.p_Buffer_make_room.me (ok_Buffer_make_room T) (hr.mono (by decide)) T.p_Buffer_make_room.b .nil pass0 (pa_cons (pv 2) pa_nil))))
 (pss_cons (ps_expr (pe_meth (pv 0) T.c_Buffer.cl T.p_Buffer_lose.me (ok_Buffer_lose T) (hr.mono (by decide)) T.p_Buffer_lose.b .nil pass0 (pa_cons (pv 1) pa_nil)))
(pss_one (ps_ret pe_bl)))
 pss_nil)
(pss_cons (ps_for PassesOwn.never rfl (pi_tup (pv 1)) (pg_name (i := 3) sc_Buffer_add_block.nd rfl (.inl rfl))
 (pss_one (ps_expr (pe_meth (pe_fld (pv 0) rfl) T.c_ItemRow.cl T.p_ItemRow_add.me (ok_ItemRow_add T) (hr.mono (by decide)) T.p_ItemRow_add.b .nil pass0 (pa_cons (pv 3) pa_nil)))))
(pss_cons (ps_fldaug (pv 0) (pv 2) in_add)
(pss_one (ps_ret pe_bl)))))), ?_⟩
    walk_at "bgo"
    refine MM.r_lcT ?_
    walk_at "bgo"
    refine ⟨p, rfl, ⟨_, R.sqT ep⟩, ?_⟩
    refine MM.lc_go (walk_tup (xs := ws)) (fun D i H' => Same H H' ∧ H' D = some (.lst (((M.take i).flatMap BF.rsz).map V.int))) ?_ ?_ ?_ ?_
    · intro D hD
      exact ⟨R.same_new hD, upd_same⟩
    · rintro D i H' hD ⟨s, _⟩
      exact R.sqT (s _ _ ep)
    · rintro D i y H2 H2' hD hi ⟨s, eD⟩ ⟨rfl, ey⟩
      obtain ⟨a, x, rfl, ex, ha⟩ := (ip.keep (MM.KeepT.of s)).get' ey
      refine ⟨rfl, ?_⟩
      rw [CR.flat_snoc ex]
      have lb : ((M.take i).flatMap BF.rsz).length < 100000 := by
        have := BF.rsz_len (M.take i)
        rw [List.length_take] at this
        omega
      walk_at "bgo"
      refine ⟨a, x, rfl, ha, ?_⟩
      walk_at "bgo"
      cases c : x.isL with
      | true =>
        refine R.iteF' Bool.false_ne_true ?_
        refine ⟨s, ?_⟩
        rw [eD, show BF.rsz x = [] by unfold BF.rsz; rw [c]; rfl, List.append_nil]
      | false =>
        refine R.iteT' rfl ?_
        walk_at "bgo"
        refine ⟨a, x, rfl, ha, c, om x (List.mem_of_getElem? ex), fun H3 s3 => ?_⟩
        refine ⟨_, s3 _ _ eD, R.size_lt (by rw [List.length_map]; exact lb), CR.same_acc hD (s.trans s3), ?_⟩
        rw [upd_same, List.map_append, show BF.rsz x = [x.sz] by unfold BF.rsz; rw [c]; rfl]
        rfl
    · rintro D H2 hD ⟨s, eD⟩
      rw [List.take_of_length_le (by omega)] at eD
      walk_at "bgo"
      refine ⟨_, _, rfl, R.sqL eD, ?_⟩
      rw [BF.rsz_sum]
      walk_at "bgo"
      refine ⟨_, _, _, rfl, s _ _ e, rfl, ?_⟩
      walk_at "bgo"
      refine ⟨b, h, l, S, _, rfl, B.same s, O, hl, BF.usd_nn M, fun H3 f3 B3 => ?_⟩
      have f03 : BF.Fr [b, h, l] H H3 := (BF.Fr.of s).trans f3
      obtain ⟨⟨dx3, e3⟩, _⟩ := id B3
      have k3 := B.keepT f03
      have l3 := BF.Bs.mr_len O (size := BF.usd M)
      walk_at "bgo"
      refine R.r_iteN (fun c => ?_) (fun c => ?_)
      · walk_at "bgo"
        refine ⟨_, _, _, rfl, e3, rfl, ?_⟩
        walk_at "bgo"
        refine ⟨b, h, l, p, _, ws, M, rfl, B3, by omega, k3 _ _ ep, ip.keep k3, hm, fun H4 f4 B4 => ?_⟩
        walk_at "bgo"
        unfold BF.Bs.addB at q
        rw [if_neg c] at q
        exact q _ (f03.trans f4) B4
      · walk_at "bgo"
        refine BF.r_forT ?_
        walk_at "bgo"
        refine ⟨p, rfl, ⟨_, R.sqT (k3 _ _ ep)⟩, ?_⟩
        refine BF.for_tupG (xs := ws) (fun i σ H' => ∃ y3, σ = [some (.ref b), some (.ref p), some (.int (BF.usd M)), y3] ∧ BF.Fr [b, h, l] H H' ∧ BF.BufAt T.c_Buffer.a T.c_ItemRow.a H' b h l { S.mr (BF.usd M) with L := (M.take i).foldl BF.push (S.mr (BF.usd M)).L }) ?_ ?_ ?_ ?_
        · exact ⟨_, rfl, f03, B3⟩
        · rintro i σ H' ⟨y2, rfl, f, _⟩
          exact R.sqT (B.keepT f _ _ ep)
        · rintro i v σ H' ev ⟨y2, rfl, f, B'⟩
          obtain ⟨a, x, rfl, ex, ha⟩ := (ip.keep (B.keepT f)).get' ev
          have hi : i < M.length := (List.getElem?_eq_some_iff.mp ex).1
          obtain ⟨⟨dx', e'⟩, r'⟩ := id B'
          obtain ⟨⟨dx1, e1⟩, _⟩ := id r'
          have lb : ((M.take i).foldl BF.push (S.mr (BF.usd M)).L).length ≤ 10000 := by
            have := BF.foldl_len (M := M.take i) (L := (S.mr (BF.usd M)).L)
            rw [List.length_take] at this
            omega
          have en : M.take (i + 1) = M.take i ++ [x] := MM.take_snoc ex
          rw [en, List.foldl_append]
          walk_at "bgo"
          refine ⟨_, _, _, _, _, rfl, e', T.c_Buffer.cl, T.n_Buffer.half, rfl, ?_⟩
          refine ⟨_, _, _, rfl, e1, rfl, ?_⟩
          walk_at "bgo"
          refine ⟨h, l, _, a, x, rfl, r', lb, ha, fun H2 m2 r2 => ?_⟩
          walk_at "bgo"
          exact ⟨_, rfl, f.trans (BF.Fr.mv m2 (by simp)), B'.row m2 r2⟩
        · rintro σ H' ⟨y2, rfl, f, B'⟩
          rw [List.take_of_length_le (by omega)] at B'
          obtain ⟨⟨dx', e'⟩, r'⟩ := id B'
          walk_at "bgo"
          refine ⟨_, _, _, _, _, rfl, e', T.c_Buffer.cl, T.n_Buffer.used, rfl, ?_⟩
          walk_at "bgo"
          refine ⟨_, _, e', Nat.le_of_ble_eq_true rfl, ?_⟩
          obtain ⟨B5, m5⟩ := B'.fld (S2 := { S.mr (BF.usd M) with used := (S.mr (BF.usd M)).used + BF.usd M, L := M.foldl BF.push (S.mr (BF.usd M)).L }) (Same.refl _) (dx := dx') (fs := _) rfl rfl
          walk_at "bgo"
          unfold BF.Bs.addB at q
          rw [if_pos c] at q
          exact q _ (f.trans (BF.Fr.mv m5 (by simp))) B5
theorem ok_Buffer_add (T : Txt K mg) : FnOk P w K mg base CX0 6 T.p_Buffer_add.f T.p_Buffer_add.fd ["self", "record"] (BF.spAdd T.c_Buffer.a T.c_ItemRow.a) := by
  refine T.p_Buffer_add.F.ok sc_Buffer_add (fun vs H Q E h => ?_) (fun cdv A outer s H vs Q E hr h => ?_)
  · obtain ⟨b, h, l, a, S, it, rfl, _⟩ := h
    rfl
  · obtain ⟨b, h, l, a, S, it, rfl, B, O, hl, ha, oa, q⟩ := h
    obtain ⟨⟨dx, e⟩, r⟩ := id B
    refine ⟨_, (pss_one (ps_ret (pe_meth (pv 0) T.c_Buffer.cl T.p_Buffer_add_block.me (ok_Buffer_add_block T) (hr.mono (by decide)) T.p_Buffer_add_block.b .nil pass0 (pa_cons (pe_tup (pa_cons (pv 1) pa_nil)) pa_nil)))), ?_⟩
    walk_at "bgo"
    refine ⟨_, _, _, rfl, e, rfl, ?_⟩
    walk_at "bgo"
    refine ⟨Nat.le_of_ble_eq_true rfl, fun p hp => ?_⟩
    have s1 := R.same_new (o := .tup [.ref a]) hp
    walk_at "bgo"
    refine ⟨b, h, l, p, S, [.ref a], [it], rfl, B.same s1, O, hl, upd_same, .cons ⟨a, rfl, ha.keep (MM.KeepT.of s1)⟩ .nil, fun x hx => ?_, Nat.le_of_ble_eq_true rfl, fun H' f' B' => ?_⟩
    · rw [List.mem_singleton] at hx
      rw [hx]; exact oa
    · exact q _ ((BF.Fr.of s1).trans f') B'
end
end K24
end
section
local macro_rules | `(tactic| walk_at "s1") => `(tactic| first
  | ((with_reducible apply R.r_var); · rfl)
  | with_reducible apply R.r_c
  | with_reducible apply R.r_op
  | with_reducible apply R.r_I0
  | with_reducible apply R.r_cb
  | with_reducible apply R.r_cons
  | with_reducible apply R.r_nil
  | with_reducible apply R.r_seq
  | with_reducible apply R.r_asg
  | with_reducible apply R.r_ret
  | with_reducible apply R.r_ifS
  | with_reducible apply R.r_test
  | with_reducible apply R.r_t
  | with_reducible apply R.r_f
  | with_reducible apply R.r_nt
  | with_reducible apply R.r_nf
  | with_reducible apply R.r_bl
  | with_reducible apply R.r_U
  | with_reducible apply R.r_un
  | with_reducible apply R.r_eqI
  | with_reducible apply R.r_eqS
  | with_reducible apply R.r_neI
  | with_reducible apply R.r_neS
  | with_reducible apply R.r_and
  | with_reducible apply R.r_or
  | with_reducible apply R.r_not
  | with_reducible apply R.r_andV
  | with_reducible apply R.r_orV
  | with_reducible apply R.r_notV
  | with_reducible apply R.r_blV
  | with_reducible apply R.r_B
  | with_reducible apply R.r_ifE
  | with_reducible apply R.r_tup
  | with_reducible apply R.r_lst
  | with_reducible apply R.r_call
  | with_reducible apply R.r_drop
  | with_reducible apply R.r_next
  | with_reducible apply R.r_abs
  | with_reducible apply R.r_int1
  | with_reducible apply R.r_int1b
  | with_reducible apply R.r_min2
  | with_reducible apply R.r_bm
  | with_reducible apply R.r_bm0
  | with_reducible apply R.r_dget
  | with_reducible apply R.r_dput
  | with_reducible apply R.r_disp
  | with_reducible apply R.r_pnil
  | with_reducible apply R.r_pcons
  | with_reducible apply R.r_fld
  | with_reducible apply R.r_slice
  | with_reducible apply R.r_nopart
  | with_reducible apply R.r_part
  | with_reducible apply R.r_int
  | with_reducible apply R.r_yes
  | with_reducible apply R.r_retN
  | with_reducible apply R.r_asgG
  | with_reducible apply R.r_gname
  | with_reducible apply R.r_rng1
  | with_reducible apply R.r_brk
  | with_reducible apply R.r_cnt
  | with_reducible apply R.r_m1
  | with_reducible apply R.r_lcr
  | with_reducible apply R.r_p2_63
  | with_reducible apply R.r_p2_64
  | with_reducible apply R.r_p2_32
  | with_reducible apply R.r_p2_31
  | with_reducible apply R.r_p10_18
  | with_reducible apply R.r_p10_30
  | with_reducible refine R.r_mod (by omega) ?_
  | with_reducible refine R.r_div (by omega) ?_
  | with_reducible refine R.r_mulR (by omega) ?_
  | with_reducible refine R.r_mulL (by omega) ?_
  | with_reducible refine R.r_iteY (by decide +kernel) ?_
  | with_reducible refine R.r_iteF (by decide +kernel) ?_
  | with_reducible refine R.r_isi R.isi_int ?_
  | with_reducible refine R.r_isi R.isi_intB ?_)
local macro_rules | `(tactic| walk_at "go") => `(tactic| repeat (walk_at "s1"))

local macro_rules | `(tactic| walk_at "b1") => `(tactic| first
  | walk_at "s1"
  | with_reducible apply MM.r_meth
  | with_reducible apply MM.r_make
  | with_reducible apply MM.r_sfld
  | with_reducible apply MM.r_gsub
  | with_reducible apply MM.r_chain
  | with_reducible apply MM.r_daug
  | with_reducible apply MM.r_add
  | with_reducible apply MM.r_ip
  | with_reducible apply MM.r_din
  | with_reducible apply MM.r_dnotin
  | with_reducible apply BF.r_faug
  | with_reducible apply BF.r_sub)
local macro_rules | `(tactic| walk_at "bgo") => `(tactic| repeat (walk_at "b1"))

namespace K24
open PySem PySem.Spec PyProof.Rows L2
section
variable {P : Program} {w : World} {K : PySem.W.Frag} {mg : Str → Option Value} {base : Heap}
theorem ok_law_draws (T : Txt K mg) : FnOk P w K mg base CX0 1 T.p_law_draws.f T.p_law_draws.fd ["script"] (BF.spDraws K) := by
  refine T.p_law_draws.F.ok sc_law_draws (fun vs H Q E h => ?_) (fun cdv A outer s H vs Q E hr h => ?_)
  · obtain ⟨a, ns, rfl, _⟩ := h
    rfl
  · obtain ⟨a, ns, rfl, hS, hlen, q⟩ := h
    refine ⟨_, (pss_cons (ps_set (i := 1) sc_law_draws.nd rfl (.inl rfl) (pe_lst pa_nil))
(pss_cons (ps_for PassesOwn.never rfl (pi_range1 rfl T.m_range (pa_cons (pe_callB (R.cMin2 rfl) (by rfl) T.m_min (by decide +kernel) (pa_cons (pe_callB R.cLenS (by rfl) T.m_len (by decide +kernel) (pa_cons (pv 0) pa_nil)) (pa_cons pe_int pa_nil))) pa_nil)) (pg_name (i := 2) sc_law_draws.nd rfl (.inl rfl))
 (pss_cons (ps_set (i := 3) sc_law_draws.nd rfl (.inl rfl) (pe_callB R.cAbs (by rfl) T.m_abs (by decide +kernel) (pa_cons (pe_ix ix_list (pv 0) (pv 2) (fun _ _ => rfl)) pa_nil)))
(pss_one (ps_if (pt_cmpR op_ge (pv 3) (pe_op op_pow pe_int pe_int) (nomark _))
 (pss_one (ps_for PassesOwn.never rfl (pi_range1 rfl T.m_range (pa_cons pe_int pa_nil)) (pg_name (i := 4) sc_law_draws.nd rfl (.inl rfl))
 (pss_one (ps_if (pt_cmpR op_gt (pv 3) pe_int (nomark _))
 (pss_cons (ps_expr (pe_bm PySem.F.plainAttrs_list PySem.F.slot_list_append PySem.F.type_list_append mt_append (pv 1) (pa_cons (pe_op op_mod (pv 3) pe_int) pa_nil)))
(pss_one (ps_set (i := 3) sc_law_draws.nd rfl (.inl rfl) (pe_op op_fdiv (pv 3) pe_int))))
 pss_nil))))
 (pss_cons (ps_set (i := 5) sc_law_draws.nd rfl (.inl rfl) (pe_op op_mod (pe_callTy R.cInt1 (by rfl) T.m_int (by decide +kernel) (pa_cons (pe_op op_add (pe_op op_add (pe_op op_mul (pe_ix ix_list (pv 0) (pv 2) (fun _ _ => rfl)) pe_int) (pe_op op_mul (pv 2) pe_int)) pe_int) pa_nil)) pe_int))
(pss_one (ps_for PassesOwn.never rfl (pi_range1 rfl T.m_range (pa_cons pe_int pa_nil)) (pg_name (i := 4) sc_law_draws.nd rfl (.inl rfl))
 (pss_cons (ps_set (i := 5) sc_law_draws.nd rfl (.inl rfl) (pe_op op_mod (pe_callTy R.cInt1 (by rfl) T.m_int (by decide +kernel) (pa_cons (pe_op op_add (pe_op op_add (pe_op op_mul (pv 5) (pv 5)) (pe_op op_mul (pv 4) pe_int)) pe_int) pa_nil)) pe_int))
(pss_one (ps_expr (pe_bm PySem.F.plainAttrs_list PySem.F.slot_list_append PySem.F.type_list_append mt_append (pv 1) (pa_cons (pe_op op_mod (pv 5) pe_int) pa_nil))))))))))))
(pss_one (ps_ret (pv 1))))), ?_⟩
    walk_at "go"
    refine ⟨by decide, fun p hp => ?_⟩
    have sm : Same H (upd H p (.lst [])) := R.same_new hp
    walk_at "go"
    refine R.r_lenL (sm.seq hS) ?_
    walk_at "go"
    rw [List.length_map, show (if (63 : Int) < (ns.length : Int) then 63 else (ns.length : Int)) = (ns.length : Int) from if_neg (by omega)]
    refine R.r_rngL (fun k σ H' => ∃ y2 y3 y4 y5, σ = [some (.ref a), some (.ref p), y2, y3, y4, y5] ∧ BF.Grow H p (20 * k) H') (by omega) ?_ ?_ ?_
    · exact ⟨none, none, none, none, rfl, sm, [], upd_same, Nat.le_refl _⟩
    · rintro k σ H1 hk ⟨y2, y3, y4, y5, rfl, s1, ds, e1, l1⟩
      have hk1 : k < ns.length := by omega
      have g : (ns.map V.int)[k]? = some (.int ns[k]) := by
        rw [List.getElem?_map, List.getElem?_eq_getElem hk1]
        rfl
      walk_at "go"
      refine R.r_ixL (s1.seq hS) (atI_nat g) ?_
      walk_at "go"
      refine R.r_ite (fun e => ?_) (fun e => ?_)
      · walk_at "go"
        refine R.r_rngL (fun t σ H' => ∃ c y4, 0 ≤ c ∧ σ = [some (.ref a), some (.ref p), some (.int (k : Int)), some (.int c), y4, y5] ∧ BF.Grow H p (20 * k + t) H') (by decide) ?_ ?_ ?_
        · exact ⟨_, _, by split <;> omega, rfl, s1, ds, e1, by omega⟩
        · rintro t σ H2 ht ⟨c, y4, hc, rfl, s2, ds2, e2, l2⟩
          walk_at "go"
          refine R.r_ite (fun e' => ?_) (fun e' => ?_)
          · walk_at "go"
            refine ⟨.inl ⟨rfl, _, R.sqL e2⟩, ?_⟩
            walk_at "go"
            refine ⟨_, _, _, rfl, rfl, e2, R.size_lt (by rw [List.length_map]; omega), ?_⟩
            walk_at "go"
            exact ⟨_, _, by omega, rfl, BF.Grow.app hp s2 e2 l2 (by omega)⟩
          · walk_at "go"
            exact ⟨_, _, hc, rfl, s2, ds2, e2, by omega⟩
        · rintro σ H2 ⟨c, y4, hc, rfl, s2, ds2, e2, l2⟩
          exact ⟨_, _, _, _, rfl, s2, ds2, e2, by omega⟩
      · walk_at "go"
        refine R.r_ixL (s1.seq hS) (atI_nat g) ?_
        walk_at "go"
        refine R.r_rngL (fun t σ H' => ∃ m y3 y4, (0 ≤ m ∧ m < 2147483647) ∧ σ = [some (.ref a), some (.ref p), some (.int (k : Int)), y3, y4, some (.int m)] ∧ BF.Grow H p (20 * k + t) H') (by decide) ?_ ?_ ?_
        · refine ⟨_, _, _, ?_, rfl, s1, ds, e1, by omega⟩
          omega
        · rintro t σ H2 ht ⟨c, y3, y4, hc, rfl, s2, ds2, e2, l2⟩
          walk_at "go"
          refine ⟨.inl ⟨rfl, _, R.sqL e2⟩, ?_⟩
          walk_at "go"
          refine ⟨_, _, _, rfl, rfl, e2, R.size_lt (by rw [List.length_map]; omega), ?_⟩
          walk_at "go"
          refine ⟨_, _, _, ?_, rfl, BF.Grow.app hp s2 e2 l2 (by omega)⟩
          omega
        · rintro σ H2 ⟨c, y3, y4, hc, rfl, s2, ds2, e2, l2⟩
          exact ⟨_, _, _, _, rfl, s2, ds2, e2, by omega⟩
    · rintro σ H1 ⟨y2, y3, y4, y5, rfl, s1, ds, e1, l1⟩
      walk_at "go"
      exact q H1 p ds s1 hp e1 (by omega)
theorem ok_law_reader (T : Txt K mg) : FnOk P w K mg base CX0 2 T.p_law_reader.f T.p_law_reader.fd ["script"] (BF.spReader K) := by
  refine T.p_law_reader.F.ok sc_law_reader (fun vs H Q E h => ?_) (fun cdv A outer s H vs Q E hr h => ?_)
  · obtain ⟨a, ns, rfl, _⟩ := h
    rfl
  · obtain ⟨a, ns, rfl, hS, hlen, q⟩ := h
    refine ⟨_, (pss_cons (ps_set (i := 1) sc_law_reader.nd rfl (.inl rfl) (pe_call (ok_law_draws T) (hr.mono (by decide)) (by rfl) T.p_law_draws.g T.p_law_draws.F.kp T.p_law_draws.b .nil pass0 (pa_cons (pv 0) pa_nil)))
(pss_cons (ps_set (i := 2) sc_law_reader.nd rfl (.inl rfl) pe_int)
(pss_cons (ps_if (pt_cmpR op_gt (pe_callB R.cLenS (by rfl) T.m_len (by decide +kernel) (pa_cons (pv 0) pa_nil)) pe_int (nomark _))
 (pss_one (ps_set (i := 2) sc_law_reader.nd rfl (.inl rfl) (pe_op op_mod (pe_callB R.cAbs (by rfl) T.m_abs (by decide +kernel) (pa_cons (pe_ix ix_list (pv 0) (pe_un un_neg pe_int) (fun _ _ => rfl)) pa_nil)) pe_int)))
 pss_nil)
(pss_one (ps_ret (pe_disp (pps_cons pe_str (pv 1) (pps_cons pe_str pe_int (pps_cons pe_str (pv 2) pps_nil))) (by rfl) (by rfl) (fun z => by cases z) (by decide))))))), ?_⟩
    walk_at "go"
    refine ⟨a, ns, rfl, hS, hlen, fun H1 r ds s1 hr1 e1 l1 => ?_⟩
    walk_at "go"
    refine R.r_lenL (s1.seq hS) ?_
    walk_at "go"
    have fin : ∀ (z : Int) (b : Addr), H1 b = none → Q (.ref b) (upd (upd H1 b (.dK [])) b (.dK (BF.dd r 0 z))) := fun z b hb => by
      refine q _ _ r (fun c o e => ?_) ⟨ds, 0, z, upd_same, ?_⟩
      · have hc := ne_of_none e (s1.free hb)
        rw [upd_ne hc, upd_ne hc]
        exact s1 c o e
      · rw [upd_ne (ne_of_none e1 hb), upd_ne (ne_of_none e1 hb)]
        exact e1
    refine R.r_ite (fun e => ?_) (fun e => ?_)
    · walk_at "go"
      obtain ⟨x, xs, rfl⟩ : ∃ x xs, ns = xs ++ [x] := by
        rcases List.eq_nil_or_concat ns with h | ⟨xs, x, h⟩
        · subst h
          exact absurd e (by decide)
        · exact ⟨x, xs, h.trans (List.concat_eq_append ..)⟩
      refine R.r_ixL (s1.seq hS) (v := .int x) (by rw [List.map_append]; exact atI_last _ _) ?_
      walk_at "go"
      intro b hb
      walk_at "go"
      refine ⟨upd_same, [(.inr "row", _), (.inr "at", _), (.inr "seed", _)], rfl, Nat.le_of_ble_eq_true rfl, ?_⟩
      exact fin _ b hb
    · walk_at "go"
      intro b hb
      walk_at "go"
      refine ⟨upd_same, [(.inr "row", _), (.inr "at", _), (.inr "seed", _)], rfl, Nat.le_of_ble_eq_true rfl, ?_⟩
      exact fin _ b hb
theorem ok_law_next (T : Txt K mg) : FnOk P w K mg base CX0 1 T.p_law_next.f T.p_law_next.fd ["draws", "many"] BF.spNext := by
  refine T.p_law_next.F.ok sc_law_next (fun vs H Q E h => ?_) (fun cdv A outer s H vs Q E hr h => ?_)
  · obtain ⟨p, r, m, rfl, _⟩ := h
    rfl
  · obtain ⟨p, r, m, rfl, hm, ⟨ds, n, z, e, e2⟩, q⟩ := h
    have npr : r ≠ p := fun h => by
      rw [h, e] at e2
      cases e2
    refine ⟨_, (pss_cons (ps_set (i := 2) sc_law_next.nd rfl (.inl rfl) (pe_dget (hu_of hr) (pv 0) pe_str (fun _ _ => rfl)))
(pss_cons (ps_dput (hu_of hr) (pv 0) pe_str (pe_op op_add (pv 2) pe_int) rfl)
(pss_cons (ps_if (pt_cmpR op_lt (pv 2) (pe_callB R.cLenS (by rfl) T.m_len (by decide +kernel) (pa_cons (pe_dget (hu_of hr) (pv 0) pe_str (fun _ _ => rfl)) pa_nil)) (nomark _))
 (pss_one (ps_ret (pe_op op_mod (pe_ix ix_list (pe_dget (hu_of hr) (pv 0) pe_str (fun _ _ => rfl)) (pv 2) (fun _ _ => rfl)) (pv 1))))
 pss_nil)
(pss_cons (ps_set (i := 3) sc_law_next.nd rfl (.inl rfl) (pe_op op_mod (pe_callTy R.cInt1 (by rfl) T.m_int (by decide +kernel) (pa_cons (pe_op op_mul (pe_op op_add (pe_op op_add (pe_dget (hu_of hr) (pv 0) pe_str (fun _ _ => rfl)) (pe_op op_mul pe_int (pv 2))) pe_int) pe_int) pa_nil)) pe_int))
(pss_one (ps_ret (pe_op op_mod (pe_op op_fdiv (pe_op op_mod (pe_callTy R.cInt1 (by rfl) T.m_int (by decide +kernel) (pa_cons (pe_op op_add (pe_op op_mul (pv 3) (pv 3)) (pv 2)) pa_nil)) pe_int) pe_int) (pv 1)))))))), ?_⟩
    walk_at "go"
    refine R.r_dgetS e (v := .int (n : Int)) rfl ?_
    walk_at "go"
    refine R.r_dputS e (kvs' := BF.dd r (n + 1) z) (by show 3 ≤ 1000; decide) rfl ?_
    have e' : upd H p (.dK (BF.dd r (n + 1) z)) r = some (.lst (ds.map V.int)) := by
      rw [upd_ne npr]
      exact e2
    have go : BF.Go p r H (upd H p (.dK (BF.dd r (n + 1) z))) := ⟨R.Mv.upd, ⟨ds, n + 1, z, upd_same, e'⟩, MM.KeepT.upd e fun _ => nofun⟩
    walk_at "go"
    refine R.r_dgetS (k := "row") (kvs := BF.dd r (n + 1) z) upd_same (v := .ref r) rfl ?_
    walk_at "go"
    refine R.r_lenL (R.sqL e') ?_
    walk_at "go"
    refine R.r_ite (fun h => ?_) (fun h => ?_)
    · rw [List.length_map] at h
      have hn : n < ds.length := by omega
      walk_at "go"
      refine R.r_dgetS (k := "row") (kvs := BF.dd r (n + 1) z) upd_same (v := .ref r) rfl ?_
      walk_at "go"
      refine R.r_ixL (R.sqL e') (v := .int ds[n]) (atI_nat (by rw [List.getElem?_map, List.getElem?_eq_getElem hn]; rfl)) ?_
      walk_at "go"
      exact q _ _ (Int.emod_nonneg _ (by omega)) (Int.emod_lt_of_pos _ hm) go
    · walk_at "go"
      refine R.r_dgetS (k := "seed") (kvs := BF.dd r (n + 1) z) upd_same (v := .int z) rfl ?_
      walk_at "go"
      exact q _ _ (Int.emod_nonneg _ (by omega)) (Int.emod_lt_of_pos _ hm) go
end
end K24
end
section
local macro_rules | `(tactic| walk_at "s1") => `(tactic| first
  | ((with_reducible apply R.r_var); · rfl)
  | with_reducible apply R.r_c
  | with_reducible apply R.r_op
  | with_reducible apply R.r_I0
  | with_reducible apply R.r_cb
  | with_reducible apply R.r_cons
  | with_reducible apply R.r_nil
  | with_reducible apply R.r_seq
  | with_reducible apply R.r_asg
  | with_reducible apply R.r_ret
  | with_reducible apply R.r_ifS
  | with_reducible apply R.r_test
  | with_reducible apply R.r_t
  | with_reducible apply R.r_f
  | with_reducible apply R.r_nt
  | with_reducible apply R.r_nf
  | with_reducible apply R.r_bl
  | with_reducible apply R.r_U
  | with_reducible apply R.r_un
  | with_reducible apply R.r_eqI
  | with_reducible apply R.r_eqS
  | with_reducible apply R.r_neI
  | with_reducible apply R.r_neS
  | with_reducible apply R.r_and
  | with_reducible apply R.r_or
  | with_reducible apply R.r_not
  | with_reducible apply R.r_andV
  | with_reducible apply R.r_orV
  | with_reducible apply R.r_notV
  | with_reducible apply R.r_blV
  | with_reducible apply R.r_B
  | with_reducible apply R.r_ifE
  | with_reducible apply R.r_tup
  | with_reducible apply R.r_lst
  | with_reducible apply R.r_call
  | with_reducible apply R.r_drop
  | with_reducible apply R.r_next
  | with_reducible apply R.r_abs
  | with_reducible apply R.r_int1
  | with_reducible apply R.r_int1b
  | with_reducible apply R.r_min2
  | with_reducible apply R.r_bm
  | with_reducible apply R.r_bm0
  | with_reducible apply R.r_dget
  | with_reducible apply R.r_dput
  | with_reducible apply R.r_disp
  | with_reducible apply R.r_pnil
  | with_reducible apply R.r_pcons
  | with_reducible apply R.r_fld
  | with_reducible apply R.r_slice
  | with_reducible apply R.r_nopart
  | with_reducible apply R.r_part
  | with_reducible apply R.r_int
  | with_reducible apply R.r_yes
  | with_reducible apply R.r_retN
  | with_reducible apply R.r_asgG
  | with_reducible apply R.r_gname
  | with_reducible apply R.r_rng1
  | with_reducible apply R.r_brk
  | with_reducible apply R.r_cnt
  | with_reducible apply R.r_m1
  | with_reducible apply R.r_lcr
  | with_reducible apply R.r_p2_63
  | with_reducible apply R.r_p2_64
  | with_reducible apply R.r_p2_32
  | with_reducible apply R.r_p2_31
  | with_reducible apply R.r_p10_18
  | with_reducible apply R.r_p10_30
  | with_reducible refine R.r_mod (by omega) ?_
  | with_reducible refine R.r_div (by omega) ?_
  | with_reducible refine R.r_mulR (by omega) ?_
  | with_reducible refine R.r_mulL (by omega) ?_
  | with_reducible refine R.r_iteY (by decide +kernel) ?_
  | with_reducible refine R.r_iteF (by decide +kernel) ?_
  | with_reducible refine R.r_isi R.isi_int ?_
  | with_reducible refine R.r_isi R.isi_intB ?_)
local macro_rules | `(tactic| walk_at "go") => `(tactic| repeat (walk_at "s1"))

local macro_rules | `(tactic| walk_at "b1") => `(tactic| first
  | walk_at "s1"
  | with_reducible apply MM.r_meth
  | with_reducible apply MM.r_make
  | with_reducible apply MM.r_sfld
  | with_reducible apply MM.r_gsub
  | with_reducible apply MM.r_chain
  | with_reducible apply MM.r_daug
  | with_reducible apply MM.r_add
  | with_reducible apply MM.r_ip
  | with_reducible apply MM.r_din
  | with_reducible apply MM.r_dnotin
  | with_reducible apply BF.r_faug
  | with_reducible apply BF.r_sub)
local macro_rules | `(tactic| walk_at "bgo") => `(tactic| repeat (walk_at "b1"))

namespace K24
open PySem PySem.Spec PyProof.Rows L2
section
variable {P : Program} {w : World} {K : PySem.W.Frag} {mg : Str → Option Value} {base : Heap}
theorem ok_law_record (T : Txt K mg) : FnOk P w K mg base CX0 2 T.p_law_record.f T.p_law_record.fd ["draws"] BF.spRecord := by
  refine T.p_law_record.F.ok sc_law_record (fun vs H Q E h => ?_) (fun cdv A outer s H vs Q E hr h => ?_)
  · obtain ⟨p, r, rfl, _⟩ := h
    rfl
  · obtain ⟨p, r, rfl, d, q⟩ := h
    refine ⟨_, (pss_cons (ps_set (i := 1) sc_law_record.nd rfl (.inl rfl) (pe_lst pa_nil))
(pss_cons (ps_for PassesOwn.never rfl (pi_range1 rfl T.m_range (pa_cons (pe_call (ok_law_next T) (hr.mono (by decide)) (by rfl) T.p_law_next.g T.p_law_next.F.kp T.p_law_next.b .nil pass0 (pa_cons (pv 0) (pa_cons pe_int pa_nil))) pa_nil)) (pg_name (i := 2) sc_law_record.nd rfl (.inl rfl))
 (pss_one (ps_if (pt_cmpR op_eq (pe_call (ok_law_next T) (hr.mono (by decide)) (by rfl) T.p_law_next.g T.p_law_next.F.kp T.p_law_next.b .nil pass0 (pa_cons (pv 0) (pa_cons pe_int pa_nil))) pe_int (nomark _))
 (pss_one (ps_expr (pe_bm PySem.F.plainAttrs_list PySem.F.slot_list_append PySem.F.type_list_append mt_append (pv 1) (pa_cons (pe_tup (pa_cons pe_str (pa_cons (pe_slice sl_str pe_str po_none (po_some (pe_call (ok_law_next T) (hr.mono (by decide)) (by rfl) T.p_law_next.g T.p_law_next.F.kp T.p_law_next.b .nil pass0 (pa_cons (pv 0) (pa_cons pe_int pa_nil))))) pa_nil))) pa_nil))))
 (pss_one (ps_expr (pe_bm PySem.F.plainAttrs_list PySem.F.slot_list_append PySem.F.type_list_append mt_append (pv 1) (pa_cons (pe_tup (pa_cons pe_str (pa_cons (pe_call (ok_law_next T) (hr.mono (by decide)) (by rfl) T.p_law_next.g T.p_law_next.F.kp T.p_law_next.b .nil pass0 (pa_cons (pv 0) (pa_cons pe_int pa_nil))) pa_nil))) pa_nil)))))))
(pss_one (ps_ret (pe_tup (pa_cons (pe_call (ok_law_next T) (hr.mono (by decide)) (by rfl) T.p_law_next.g T.p_law_next.F.kp T.p_law_next.b .nil pass0 (pa_cons (pv 0) (pa_cons pe_int pa_nil))) (pa_cons (pe_call (ok_law_next T) (hr.mono (by decide)) (by rfl) T.p_law_next.g T.p_law_next.F.kp T.p_law_next.b .nil pass0 (pa_cons (pv 0) (pa_cons pe_int pa_nil))) (pa_cons (pe_ix ix_list (pe_lst (pa_cons pe_str (pa_cons pe_str (pa_cons pe_str pa_nil)))) (pe_call (ok_law_next T) (hr.mono (by decide)) (by rfl) T.p_law_next.g T.p_law_next.F.kp T.p_law_next.b .nil pass0 (pa_cons (pv 0) (pa_cons pe_int pa_nil))) (fun _ _ => rfl)) (pa_cons (pe_callTy MM.cTupOf (by rfl) T.m_tuple (by decide +kernel) (pa_cons (pv 1) pa_nil)) pa_nil))))))))), ?_⟩
    walk_at "bgo"
    refine ⟨Nat.zero_le _, fun D hD => ?_⟩
    have g0 : BF.Go p r H (upd H D (.lst [])) := (BF.Go.refl d).new hD
    have e0 : upd H D (.lst []) D = some (.lst []) := upd_same
    generalize upd H D (.lst []) = H0 at *
    walk_at "bgo"
    refine ⟨p, r, 4, rfl, by decide, g0.2.1, fun m H1 m0 m1 g1 => ?_⟩
    walk_at "bgo"
    have nD : D ≠ p := fun z => (d.ne hD) z.symm
    refine R.r_rngL (fun k σ H' => ∃ y2, σ = [some (.ref p), some (.ref D), y2] ∧ BF.Go p r H H' ∧ ∃ ws vs, H' D = some (.lst ws) ∧ MM.All2 (BF.VlAt H') ws vs ∧ (∀ v ∈ vs, v.ok) ∧ vs.length ≤ k) (by omega) ?_ ?_ ?_
    · exact ⟨_, rfl, g0.trans g1, [], [], g1.1 _ _ e0 nD, .nil, (fun _ h => nomatch h), Nat.le_refl _⟩
    · rintro k σ H2 hk ⟨y2, rfl, g2, ws, vs, e2, i2, o2, l2⟩
      have len := MM.All2.length i2
      have fin : ∀ (H3 : Hp) (a : Addr) (x : BF.Vl), BF.Go p r H2 H3 → H3 a = some (.tup [.str x.kd, x.v]) → x.ok → ∃ y2, [some (V.ref p), some (.ref D), some (.int (k : Int))] = [some (V.ref p), some (.ref D), y2] ∧ BF.Go p r H (upd H3 D (.lst (ws ++ [.ref a]))) ∧ ∃ ws' vs', (upd H3 D (.lst (ws ++ [.ref a]))) D = some (.lst ws') ∧ MM.All2 (BF.VlAt (upd H3 D (.lst (ws ++ [.ref a])))) ws' vs' ∧ (∀ v ∈ vs', v.ok) ∧ vs'.length ≤ k + 1 := by
        intro H3 a x g3 ea ox
        have e3 : H3 D = some (.lst ws) := g3.1 _ _ e2 nD
        have kp : MM.KeepT H3 (upd H3 D (.lst (ws ++ [.ref a]))) := MM.KeepT.upd e3 fun _ => nofun
        refine ⟨_, rfl, (g2.trans g3).put d hD e3, ws ++ [.ref a], vs ++ [x], upd_same, MM.All2.snoc ⟨a, rfl, kp _ _ ea⟩ (BF.vls_keep (g3.2.2.trans kp) i2), fun v hv => ?_, by rw [List.length_append]; show vs.length + 1 ≤ k + 1; omega⟩
        rcases List.mem_append.mp hv with z | z
        · exact o2 v z
        · rw [List.mem_singleton] at z
          rw [z]; exact ox
      walk_at "bgo"
      refine ⟨p, r, 3, rfl, by decide, g2.2.1, fun v H3 _ _ g3 => ?_⟩
      walk_at "bgo"
      refine R.r_ite (fun c => ?_) (fun c => ?_)
      · walk_at "bgo"
        refine ⟨BF.tyL (g3.1 _ _ e2 nD), ?_⟩
        walk_at "bgo"
        refine ⟨p, r, 11, rfl, by decide, g3.2.1, fun n H4 n0 n1 g4 => ?_⟩
        walk_at "bgo"
        obtain ⟨n, rfl⟩ := Int.eq_ofNat_of_zero_le n0
        obtain ⟨c1, c2⟩ := BF.cut_abc n (by omega)
        refine ⟨_, rfl, by decide, ?_⟩
        walk_at "bgo"
        refine ⟨Nat.le_of_ble_eq_true rfl, fun a ha => ?_⟩
        have g5 := (g3.trans g4).new (o := .tup [.str "str", .str (cutS "abcdefghij" none (some (n : Int)))]) ha
        refine ⟨_, _, _, rfl, rfl, g5.1 _ _ e2 nD, R.size_lt (by omega), ?_⟩
        walk_at "bgo"
        exact fin _ a (.s (cutS "abcdefghij" none (some (n : Int)))) g5 upd_same ⟨c1, c2⟩
      · walk_at "bgo"
        refine ⟨BF.tyL (g3.1 _ _ e2 nD), ?_⟩
        walk_at "bgo"
        refine ⟨p, r, 1000, rfl, by decide, g3.2.1, fun n H4 n0 n1 g4 => ?_⟩
        walk_at "bgo"
        refine ⟨Nat.le_of_ble_eq_true rfl, fun a ha => ?_⟩
        have g5 := (g3.trans g4).new (o := .tup [.str "int", .int n]) ha
        refine ⟨_, _, _, rfl, rfl, g5.1 _ _ e2 nD, R.size_lt (by omega), ?_⟩
        walk_at "bgo"
        exact fin _ a (.i n) g5 upd_same ⟨n0, by omega⟩
    · rintro σ H2 ⟨y2, rfl, g2, ws, vs, e2, i2, o2, l2⟩
      walk_at "bgo"
      refine ⟨p, r, 50, rfl, by decide, g2.2.1, fun t H3 _ _ g3 => ?_⟩
      walk_at "bgo"
      refine ⟨p, r, 3, rfl, by decide, g3.2.1, fun c H4 _ _ g4 => ?_⟩
      walk_at "bgo"
      refine ⟨Nat.le_of_ble_eq_true rfl, fun L hL => ?_⟩
      have g5 := (g3.trans g4).new (o := .lst [V.str "trace", .str "say", .str "fault"]) hL
      have eL : upd H4 L (.lst [V.str "trace", .str "say", .str "fault"]) L = some (.lst [V.str "trace", .str "say", .str "fault"]) := upd_same
      generalize upd H4 L (.lst [V.str "trace", .str "say", .str "fault"]) = H5 at *
      walk_at "bgo"
      refine ⟨p, r, 3, rfl, by decide, g5.2.1, fun j H6 j0 j1 g6 => ?_⟩
      have nL : L ≠ p := fun z => by
        have := (g3.trans g4).2.1.ne hL
        exact this z.symm
      obtain ⟨st, so, ei⟩ := BF.pick3 j0 j1
      refine R.r_ixL (R.sqL (g6.1 _ _ eL nL)) ei ?_
      walk_at "bgo"
      have g7 := g5.trans g6
      have e7 := g7.1 _ _ e2 nD
      refine ⟨_, _, rfl, .inl ⟨R.sqL e7, fun b hb => ?_⟩⟩
      have g8 := g7.new (o := .tup ws) hb
      have eb : upd H6 b (.tup ws) b = some (.tup ws) := upd_same
      generalize upd H6 b (.tup ws) = H8 at *
      walk_at "bgo"
      refine ⟨Nat.le_of_ble_eq_true rfl, fun a ha => ?_⟩
      have g9 := g8.new (o := .tup [.int t, .int c, .str st, .ref b]) ha
      refine q _ a (.rc t c st vs) (g2.trans g9) ⟨b, ws, upd_same, R.same_new ha _ _ eb, BF.vls_keep g9.2.2 i2⟩ rfl ⟨so, o2, by omega⟩
theorem ok_law_size (T : Txt K mg) : FnOk P w K mg base CX0 1 T.p_law_size.f T.p_law_size.fd ["record"] BF.spSizeOf := by
  refine T.p_law_size.F.ok sc_law_size (fun vs H Q E h => ?_) (fun cdv A outer s H vs Q E hr h => ?_)
  · obtain ⟨a, it, rfl, _⟩ := h
    rfl
  · obtain ⟨a, it, rfl, hi, hL, ok, q⟩ := h
    cases it with
    | lost n => cases hL
    | rc t c st vs =>
      obtain ⟨b, ws, e1, e2, e3⟩ := hi
      have len := MM.All2.length e3
      have hk := ok.2.2
      refine ⟨_, (pss_one (ps_ret (pe_op op_add pe_int (pe_callB (cr_sum rfl) (by rfl) T.m_sum (by decide +kernel) (pa_cons (pe_lc (own := [("kind", 1), ("value", 2)]) (g := gTup _ 2 (gCons (gName 1) (gCons (gName 2) gNil))) (tt := tYes) rfl sc_law_size.nd (pi_tup (pe_ix ix_tup (pv 0) pe_int (fun _ _ => rfl))) (blkOk_by (own := [("kind", 1), ("value", 2)]) (N := N_law_size) (sc := defScope s_law_size) (by decide +kernel)) (fun _ _ _ _ _ => (pg_tup rfl (pgs_cons (pg_name (i := 1) sc_law_size.nd rfl (.inl rfl)) (pgs_cons (pg_name (i := 2) sc_law_size.nd rfl (.inl rfl)) pgs_nil)))) (fun _ _ _ _ _ => pts_nil) (fun _ _ _ _ _ => (pe_op op_add pe_int (pe_op op_mul (pe_callB BF.cLenZ (by rfl) T.m_len (by decide +kernel) (pa_cons (pe_callTy BF.cStrZ (by rfl) T.m_str (by decide +kernel) (pa_cons (pv 2) pa_nil)) pa_nil)) (pe_callTy R.cInt1 (by rfl) T.m_int (by decide +kernel) (pa_cons (pe_cmpR op_eq (pv 1) pe_str (nomark _)) pa_nil)))))) pa_nil))))), ?_⟩
      walk_at "bgo"
      refine MM.r_lcT ?_
      walk_at "bgo"
      refine R.r_ixT (v := .ref b) (R.sqT e1) (R.at_nat (by decide) rfl) ?_
      refine ⟨b, rfl, ⟨_, R.sqT e2⟩, ?_⟩
      refine MM.lc_go (walk_tup (xs := ws)) (fun D i H' => Same H H' ∧ H' D = some (.lst ((vs.take i).map fun x => V.int (BF.vsz x)))) ?_ ?_ ?_ ?_
      · intro D hD
        exact ⟨R.same_new hD, upd_same⟩
      · rintro D i H' hD ⟨s, _⟩
        exact R.sqT (s _ _ e2)
      · rintro D i y H2 H2' hD hi ⟨s, eD⟩ ⟨rfl, ey⟩
        obtain ⟨x, ax, rfl, ex, eax⟩ := BF.vls_get e3 ey
        have ox := ok.2.1 x (List.mem_of_getElem? ex)
        refine ⟨ax, _, rfl, R.sqT (s _ _ eax), rfl, _, _, rfl, _, _, rfl, rfl, ?_⟩
        refine ⟨rfl, ?_⟩
        have fin : ∀ z : Int, z = BF.vsz x → ∃ acc, H2' D = some (.lst acc) ∧ acc.length < sizeLine ∧ Same H (upd H2' D (.lst (acc ++ [.int z]))) ∧ upd H2' D (.lst (acc ++ [.int z])) D = some (.lst ((vs.take (i + 1)).map fun x => V.int (BF.vsz x))) := by
          rintro z rfl
          refine ⟨_, eD, R.size_lt (by rw [List.length_map, List.length_take]; omega), CR.same_acc hD s, ?_⟩
          rw [upd_same, MM.take_snoc ex, List.map_append]
          rfl
        walk_at "bgo"
        cases x with
        | s z =>
          refine .inr ⟨z, rfl, ?_⟩
          walk_at "bgo"
          refine BF.r_lenZ (z := z) (by have := ox.1; omega) ?_
          walk_at "bgo"
          exact fin _ rfl
        | i n =>
          refine .inl ⟨n, rfl, BF.small_log ox, ?_⟩
          walk_at "bgo"
          refine BF.r_lenZ (BF.small_len ox) ?_
          walk_at "bgo"
          refine fin _ ?_
          show 1 + _ * (if decide (("int" : Str) = "str") = true then (1 : Int) else 0) = 1 + 0
          rw [show decide (("int" : Str) = "str") = false by decide +kernel]
          simp
      · rintro D H2 hD ⟨s, eD⟩
        rw [List.take_of_length_le (by omega)] at eD
        walk_at "bgo"
        refine ⟨_, vs.map BF.vsz, rfl, R.sqL (by rw [eD, List.map_map]; rfl), ?_⟩
        walk_at "bgo"
        rw [BF.vsz_sum]
        exact q _ s
end
end K24
end
section
local macro_rules | `(tactic| walk_at "s1") => `(tactic| first
  | ((with_reducible apply R.r_var); · rfl)
  | with_reducible apply R.r_c
  | with_reducible apply R.r_op
  | with_reducible apply R.r_I0
  | with_reducible apply R.r_cb
  | with_reducible apply R.r_cons
  | with_reducible apply R.r_nil
  | with_reducible apply R.r_seq
  | with_reducible apply R.r_asg
  | with_reducible apply R.r_ret
  | with_reducible apply R.r_ifS
  | with_reducible apply R.r_test
  | with_reducible apply R.r_t
  | with_reducible apply R.r_f
  | with_reducible apply R.r_nt
  | with_reducible apply R.r_nf
  | with_reducible apply R.r_bl
  | with_reducible apply R.r_U
  | with_reducible apply R.r_un
  | with_reducible apply R.r_eqI
  | with_reducible apply R.r_eqS
  | with_reducible apply R.r_neI
  | with_reducible apply R.r_neS
  | with_reducible apply R.r_and
  | with_reducible apply R.r_or
  | with_reducible apply R.r_not
  | with_reducible apply R.r_andV
  | with_reducible apply R.r_orV
  | with_reducible apply R.r_notV
  | with_reducible apply R.r_blV
  | with_reducible apply R.r_B
  | with_reducible apply R.r_ifE
  | with_reducible apply R.r_tup
  | with_reducible apply R.r_lst
  | with_reducible apply R.r_call
  | with_reducible apply R.r_drop
  | with_reducible apply R.r_next
  | with_reducible apply R.r_abs
  | with_reducible apply R.r_int1
  | with_reducible apply R.r_int1b
  | with_reducible apply R.r_min2
  | with_reducible apply R.r_bm
  | with_reducible apply R.r_bm0
  | with_reducible apply R.r_dget
  | with_reducible apply R.r_dput
  | with_reducible apply R.r_disp
  | with_reducible apply R.r_pnil
  | with_reducible apply R.r_pcons
  | with_reducible apply R.r_fld
  | with_reducible apply R.r_slice
  | with_reducible apply R.r_nopart
  | with_reducible apply R.r_part
  | with_reducible apply R.r_int
  | with_reducible apply R.r_yes
  | with_reducible apply R.r_retN
  | with_reducible apply R.r_asgG
  | with_reducible apply R.r_gname
  | with_reducible apply R.r_rng1
  | with_reducible apply R.r_brk
  | with_reducible apply R.r_cnt
  | with_reducible apply R.r_m1
  | with_reducible apply R.r_lcr
  | with_reducible apply R.r_p2_63
  | with_reducible apply R.r_p2_64
  | with_reducible apply R.r_p2_32
  | with_reducible apply R.r_p2_31
  | with_reducible apply R.r_p10_18
  | with_reducible apply R.r_p10_30
  | with_reducible refine R.r_mod (by omega) ?_
  | with_reducible refine R.r_div (by omega) ?_
  | with_reducible refine R.r_mulR (by omega) ?_
  | with_reducible refine R.r_mulL (by omega) ?_
  | with_reducible refine R.r_iteY (by decide +kernel) ?_
  | with_reducible refine R.r_iteF (by decide +kernel) ?_
  | with_reducible refine R.r_isi R.isi_int ?_
  | with_reducible refine R.r_isi R.isi_intB ?_)
local macro_rules | `(tactic| walk_at "go") => `(tactic| repeat (walk_at "s1"))

local macro_rules | `(tactic| walk_at "b1") => `(tactic| first
  | walk_at "s1"
  | with_reducible apply MM.r_meth
  | with_reducible apply MM.r_make
  | with_reducible apply MM.r_sfld
  | with_reducible apply MM.r_gsub
  | with_reducible apply MM.r_chain
  | with_reducible apply MM.r_daug
  | with_reducible apply MM.r_add
  | with_reducible apply MM.r_ip
  | with_reducible apply MM.r_din
  | with_reducible apply MM.r_dnotin
  | with_reducible apply BF.r_faug
  | with_reducible apply BF.r_sub)
local macro_rules | `(tactic| walk_at "bgo") => `(tactic| repeat (walk_at "b1"))

namespace K24
open PySem PySem.Spec PyProof.Rows L2
section
variable {P : Program} {w : World} {K : PySem.W.Frag} {mg : Str → Option Value} {base : Heap}
theorem ok_law_used (T : Txt K mg) : FnOk P w K mg base CX0 2 T.p_law_used.f T.p_law_used.fd ["row"] (BF.spUsedL K) := by
  refine T.p_law_used.F.ok sc_law_used (fun vs H Q E h => ?_) (fun cdv A outer s H vs Q E hr h => ?_)
  · obtain ⟨l, ws, L, rfl, _⟩ := h
    rfl
  · obtain ⟨l, ws, M, rfl, ep, ip, om, hm, q⟩ := h
    have len := ip.len
    refine ⟨_, (pss_one (ps_ret (pe_callB (cr_sum rfl) (by rfl) T.m_sum (by decide +kernel) (pa_cons (pe_lc (own := [("item", 1)]) (g := gName 1) rfl sc_law_used.nd (pi_list (pv 0)) (blkOk_by (own := [("item", 1)]) (N := N_law_used) (sc := defScope s_law_used) (by decide +kernel)) (fun _ _ _ _ _ => (pg_name (i := 1) sc_law_used.nd rfl (.inl rfl))) (fun _ _ _ _ _ => (pts_one (pt_cmpR op_ne (pe_ix (R.ixTK (K0 := K) rfl) (pv 1) pe_int (fun _ _ => rfl)) pe_str (nomark _)))) (fun _ _ _ _ _ => (pe_call (ok_law_size T) (hr.mono (by decide)) (by rfl) T.p_law_size.g T.p_law_size.F.kp T.p_law_size.b .nil pass0 (pa_cons (pv 1) pa_nil)))) pa_nil)))), ?_⟩
    walk_at "bgo"
    refine MM.r_lcL ?_
    walk_at "bgo"
    refine ⟨l, rfl, ⟨_, ep⟩, ?_⟩
    refine MM.lc_go (walk_list (xs := ws)) (fun D i H' => Same H H' ∧ H' D = some (.lst (((M.take i).flatMap BF.rsz).map V.int))) ?_ ?_ ?_ ?_
    · intro D hD
      exact ⟨R.same_new hD, upd_same⟩
    · rintro D i H' hD ⟨s, _⟩
      exact s.seq ep
    · rintro D i y H2 H2' hD hi ⟨s, eD⟩ ⟨rfl, ey⟩
      obtain ⟨a, x, rfl, ex, ha⟩ := (ip.keep (MM.KeepT.of s)).get' ey
      refine ⟨rfl, ?_⟩
      rw [CR.flat_snoc ex]
      have lb : ((M.take i).flatMap BF.rsz).length < 100000 := by
        have := BF.rsz_len (M.take i)
        rw [List.length_take] at this
        omega
      walk_at "bgo"
      refine BF.r_hd ha ?_
      walk_at "bgo"
      refine BF.r_neHd ?_
      walk_at "bgo"
      cases c : x.isL with
      | true =>
        refine R.iteF' Bool.false_ne_true ?_
        refine ⟨s, ?_⟩
        rw [eD, show BF.rsz x = [] by unfold BF.rsz; rw [c]; rfl, List.append_nil]
      | false =>
        refine R.iteT' rfl ?_
        walk_at "bgo"
        refine ⟨a, x, rfl, ha, c, om x (List.mem_of_getElem? ex), fun H3 s3 => ?_⟩
        refine ⟨_, s3 _ _ eD, R.size_lt (by rw [List.length_map]; exact lb), CR.same_acc hD (s.trans s3), ?_⟩
        rw [upd_same, List.map_append, show BF.rsz x = [x.sz] by unfold BF.rsz; rw [c]; rfl]
        rfl
    · rintro D H2 hD ⟨s, eD⟩
      rw [List.take_of_length_le (by omega)] at eD
      walk_at "bgo"
      refine ⟨_, _, rfl, R.sqL eD, ?_⟩
      rw [BF.rsz_sum]
      exact q _ s
theorem ok_law_usedT (T : Txt K mg) : FnOk P w K mg base CX0 2 T.p_law_used.f T.p_law_used.fd ["row"] (BF.spUsedT K) := by
  refine T.p_law_used.F.ok sc_law_used (fun vs H Q E h => ?_) (fun cdv A outer s H vs Q E hr h => ?_)
  · obtain ⟨l, ws, L, rfl, _⟩ := h
    rfl
  · obtain ⟨l, ws, M, rfl, ep, ip, om, hm, q⟩ := h
    have len := ip.len
    refine ⟨_, (pss_one (ps_ret (pe_callB (cr_sum rfl) (by rfl) T.m_sum (by decide +kernel) (pa_cons (pe_lc (own := [("item", 1)]) (g := gName 1) rfl sc_law_used.nd (pi_tup (pv 0)) (blkOk_by (own := [("item", 1)]) (N := N_law_used) (sc := defScope s_law_used) (by decide +kernel)) (fun _ _ _ _ _ => (pg_name (i := 1) sc_law_used.nd rfl (.inl rfl))) (fun _ _ _ _ _ => (pts_one (pt_cmpR op_ne (pe_ix (R.ixTK (K0 := K) rfl) (pv 1) pe_int (fun _ _ => rfl)) pe_str (nomark _)))) (fun _ _ _ _ _ => (pe_call (ok_law_size T) (hr.mono (by decide)) (by rfl) T.p_law_size.g T.p_law_size.F.kp T.p_law_size.b .nil pass0 (pa_cons (pv 1) pa_nil)))) pa_nil)))), ?_⟩
    walk_at "bgo"
    refine MM.r_lcT ?_
    walk_at "bgo"
    refine ⟨l, rfl, ⟨_, ep⟩, ?_⟩
    refine MM.lc_go (walk_tup (xs := ws)) (fun D i H' => Same H H' ∧ H' D = some (.lst (((M.take i).flatMap BF.rsz).map V.int))) ?_ ?_ ?_ ?_
    · intro D hD
      exact ⟨R.same_new hD, upd_same⟩
    · rintro D i H' hD ⟨s, _⟩
      exact R.Same.sqt s ep
    · rintro D i y H2 H2' hD hi ⟨s, eD⟩ ⟨rfl, ey⟩
      obtain ⟨a, x, rfl, ex, ha⟩ := (ip.keep (MM.KeepT.of s)).get' ey
      refine ⟨rfl, ?_⟩
      rw [CR.flat_snoc ex]
      have lb : ((M.take i).flatMap BF.rsz).length < 100000 := by
        have := BF.rsz_len (M.take i)
        rw [List.length_take] at this
        omega
      walk_at "bgo"
      refine BF.r_hd ha ?_
      walk_at "bgo"
      refine BF.r_neHd ?_
      walk_at "bgo"
      cases c : x.isL with
      | true =>
        refine R.iteF' Bool.false_ne_true ?_
        refine ⟨s, ?_⟩
        rw [eD, show BF.rsz x = [] by unfold BF.rsz; rw [c]; rfl, List.append_nil]
      | false =>
        refine R.iteT' rfl ?_
        walk_at "bgo"
        refine ⟨a, x, rfl, ha, c, om x (List.mem_of_getElem? ex), fun H3 s3 => ?_⟩
        refine ⟨_, s3 _ _ eD, R.size_lt (by rw [List.length_map]; exact lb), CR.same_acc hD (s.trans s3), ?_⟩
        rw [upd_same, List.map_append, show BF.rsz x = [x.sz] by unfold BF.rsz; rw [c]; rfl]
        rfl
    · rintro D H2 hD ⟨s, eD⟩
      rw [List.take_of_length_le (by omega)] at eD
      walk_at "bgo"
      refine ⟨_, _, rfl, R.sqL eD, ?_⟩
      rw [BF.rsz_sum]
      exact q _ s
theorem ok_law_joined (T : Txt K mg) : FnOk P w K mg base CX0 1 T.p_law_joined.f T.p_law_joined.fd ["row"] (BF.spJoined K) := by
  refine T.p_law_joined.F.ok sc_law_joined (fun vs H Q E h => ?_) (fun cdv A outer s H vs Q E hr h => ?_)
  · obtain ⟨l, ws, L, rfl, _⟩ := h
    rfl
  · obtain ⟨l, ws, M, rfl, ep, ip, hm, q⟩ := h
    have len := ip.len
    refine ⟨_, (pss_cons (ps_set (i := 1) sc_law_joined.nd rfl (.inl rfl) (pe_lst pa_nil))
(pss_cons (ps_for PassesOwn.never rfl (pi_list (pv 0)) (pg_name (i := 2) sc_law_joined.nd rfl (.inl rfl))
 (pss_one (ps_if ((pw_and (pt_cmpR op_eq (pe_ix ix_tup (pv 2) pe_int (fun _ _ => rfl)) pe_str (nomark _)) (pw_and (pt_cmpR op_gt (pe_callB R.cLenS (by rfl) T.m_len (by decide +kernel) (pa_cons (pv 1) pa_nil)) pe_int (nomark _)) (pw_and1 (pt_cmpR op_eq (pe_ix ix_tup (pe_ix ix_list (pv 1) (pe_op op_sub (pe_callB R.cLenS (by rfl) T.m_len (by decide +kernel) (pa_cons (pv 1) pa_nil)) pe_int) (fun _ _ => rfl)) pe_int (fun _ _ => rfl)) pe_str (nomark _)))))).pt
 (pss_one (ps_asg (pe_tup (pa_cons pe_str (pa_cons (pe_op op_add (pe_ix ix_tup (pe_ix ix_list (pv 1) (pe_op op_sub (pe_callB R.cLenS (by rfl) T.m_len (by decide +kernel) (pa_cons (pv 1) pa_nil)) pe_int) (fun _ _ => rfl)) pe_int (fun _ _ => rfl)) (pe_ix ix_tup (pv 2) pe_int (fun _ _ => rfl))) pa_nil))) (pg_sub (pv 1) (pe_op op_sub (pe_callB R.cLenS (by rfl) T.m_len (by decide +kernel) (pa_cons (pv 1) pa_nil)) pe_int) set_list)))
 (pss_one (ps_expr (pe_bm PySem.F.plainAttrs_list PySem.F.slot_list_append PySem.F.type_list_append mt_append (pv 1) (pa_cons (pv 2) pa_nil)))))))
(pss_one (ps_ret (pv 1))))), ?_⟩
    walk_at "bgo"
    refine ⟨Nat.zero_le _, fun p hp => ?_⟩
    have s0 : Same H (upd H p (.lst [])) := R.same_new hp
    have e0 : upd H p (.lst []) p = some (.lst []) := upd_same
    generalize upd H p (.lst []) = H0 at *
    walk_at "bgo"
    refine MM.r_forL ?_
    walk_at "bgo"
    refine ⟨l, rfl, ⟨_, s0.seq ep⟩, ?_⟩
    refine CR.for_listG (xs := ws) (fun i σ H' => ∃ y2, σ = [some (.ref l), some (.ref p), y2] ∧ Same H H' ∧ ∃ ws', H' p = some (.lst ws') ∧ BF.Its H' ws' ((M.take i).foldl BF.push [])) ?_ ?_ ?_ ?_
    · exact ⟨_, rfl, s0, [], e0, .nil⟩
    · rintro i σ H' ⟨y2, rfl, s1, _⟩
      exact s1.seq ep
    · rintro i v σ H1 ev ⟨y2, rfl, s1, ws', e1, i1⟩
      obtain ⟨a, x, rfl, ex, ha⟩ := (ip.keep (MM.KeepT.of s1)).get' ev
      have hi : i < M.length := (List.getElem?_eq_some_iff.mp ex).1
      have len1 := i1.len
      have lb : ((M.take i).foldl BF.push []).length ≤ 10000 := by
        have := BF.foldl_len (M := M.take i) (L := [])
        rw [List.length_take] at this
        simp only [List.length_nil] at this
        omega
      rw [MM.take_snoc ex, List.foldl_append]
      show _
      generalize (M.take i).foldl BF.push [] = F at *
      have app : BF.push F x = F ++ [x] → ∃ y2, [some (V.ref l), some (.ref p), some (.ref a)] = [some (.ref l), some (.ref p), y2] ∧ Same H (upd H1 p (.lst (ws' ++ [.ref a]))) ∧ ∃ ws2, upd H1 p (.lst (ws' ++ [.ref a])) p = some (.lst ws2) ∧ BF.Its (upd H1 p (.lst (ws' ++ [.ref a]))) ws2 ([x].foldl BF.push F) := by
        intro ep2
        refine ⟨_, rfl, CR.same_acc hp s1, _, upd_same, ?_⟩
        show BF.Its _ _ (BF.push F x)
        rw [ep2]
        have k : MM.KeepT H1 (upd H1 p (.lst (ws' ++ [.ref a]))) := MM.KeepT.upd e1 fun _ => nofun
        exact BF.Its.snoc (i1.keep k) ⟨a, rfl, ha.keep k⟩
      walk_at "bgo"
      refine BF.r_hd ha ?_
      walk_at "bgo"
      refine BF.r_eqHd ?_
      walk_at "bgo"
      cases x with
      | rc t c st vs =>
        refine R.iteF' Bool.false_ne_true ?_
        refine R.iteF' Bool.false_ne_true ?_
        walk_at "bgo"
        refine ⟨BF.tyL e1, ?_⟩
        walk_at "bgo"
        refine ⟨_, _, _, rfl, rfl, e1, R.size_lt (by omega), ?_⟩
        exact app rfl
      | lost n =>
        refine R.iteT' rfl ?_
        walk_at "bgo"
        refine R.r_lenL (R.sqL e1) ?_
        walk_at "bgo"
        rcases BF.last_cases F with rfl | ⟨F0, y, rfl⟩
        · obtain rfl : ws' = [] := List.length_eq_zero_iff.mp len1
          refine R.r_iteF (by simp) ?_
          refine R.iteF' Bool.false_ne_true ?_
          walk_at "bgo"
          refine ⟨BF.tyL e1, ?_⟩
          walk_at "bgo"
          refine ⟨_, _, _, rfl, rfl, e1, by decide, ?_⟩
          exact app rfl
        · obtain ⟨ws0, v, rfl, i0, iv⟩ := BF.its_snoc i1
          obtain ⟨b, rfl, hb⟩ := iv
          refine R.r_iteY (by simp) ?_
          walk_at "bgo"
          refine R.r_lenL (R.sqL e1) ?_
          walk_at "bgo"
          refine R.r_ixL (v := .ref b) (R.sqL e1) (BF.at_len _ _) ?_
          walk_at "bgo"
          refine BF.r_hd hb ?_
          walk_at "bgo"
          refine BF.r_eqHd ?_
          walk_at "bgo"
          cases y with
          | rc t c st vs =>
            refine R.iteF' Bool.false_ne_true ?_
            walk_at "bgo"
            refine ⟨BF.tyL e1, ?_⟩
            walk_at "bgo"
            refine ⟨_, _, _, rfl, rfl, e1, R.size_lt (by omega), ?_⟩
            exact app (BF.pushL_rec rfl)
          | lost m =>
            refine R.iteT' rfl ?_
            walk_at "bgo"
            refine R.r_lenL (R.sqL e1) ?_
            walk_at "bgo"
            refine R.r_ixL (v := .ref b) (R.sqL e1) (BF.at_len _ _) ?_
            walk_at "bgo"
            refine R.r_ixT (v := .int m) (R.sqT hb) (R.at_nat (by decide) rfl) ?_
            walk_at "bgo"
            refine R.r_ixT (v := .int n) (R.sqT ha) (R.at_nat (by decide) rfl) ?_
            walk_at "bgo"
            refine ⟨Nat.le_of_ble_eq_true rfl, fun c hc => ?_⟩
            have s2 := R.same_new (o := .tup [.str "lost", .int (m + n)]) hc
            have ec : upd H1 c (.tup [.str "lost", .int (m + n)]) c = some (.tup [.str "lost", .int (m + n)]) := upd_same
            generalize upd H1 c (.tup [.str "lost", .int (m + n)]) = H2 at *
            walk_at "bgo"
            refine R.r_lenL (R.sqL (s2 _ _ e1)) ?_
            walk_at "bgo"
            refine BF.r_setAt (s2 _ _ e1) (by rw [List.length_append]; simp) (by rw [List.length_append]; simp) ?_
            rw [show (((ws0 ++ [V.ref b]).length : Int) - 1).toNat = ws0.length by rw [List.length_append]; simp, BF.set_last]
            refine ⟨_, rfl, CR.same_acc hp (s1.trans s2), _, upd_same, ?_⟩
            show BF.Its _ _ (BF.pushL (F0 ++ [.lost m]) n)
            rw [BF.pushL_lost, Int.add_comm n m]
            have k : MM.KeepT H2 (upd H2 p (.lst (ws0 ++ [.ref c]))) := MM.KeepT.upd (s2 _ _ e1) fun _ => nofun
            exact BF.Its.snoc (i0.keep ((MM.KeepT.of s2).trans k)) (BF.itv_lost (k _ _ ec))
    · rintro σ H1 ⟨y2, rfl, s1, ws', e1, i1⟩
      rw [List.take_of_length_le (by omega)] at i1
      walk_at "bgo"
      exact q _ p ws' s1 hp e1 i1
end
end K24
end
section
local macro_rules | `(tactic| walk_at "s1") => `(tactic| first
  | ((with_reducible apply R.r_var); · rfl)
  | with_reducible apply R.r_c
  | with_reducible apply R.r_op
  | with_reducible apply R.r_I0
  | with_reducible apply R.r_cb
  | with_reducible apply R.r_cons
  | with_reducible apply R.r_nil
  | with_reducible apply R.r_seq
  | with_reducible apply R.r_asg
  | with_reducible apply R.r_ret
  | with_reducible apply R.r_ifS
  | with_reducible apply R.r_test
  | with_reducible apply R.r_t
  | with_reducible apply R.r_f
  | with_reducible apply R.r_nt
  | with_reducible apply R.r_nf
  | with_reducible apply R.r_bl
  | with_reducible apply R.r_U
  | with_reducible apply R.r_un
  | with_reducible apply R.r_eqI
  | with_reducible apply R.r_eqS
  | with_reducible apply R.r_neI
  | with_reducible apply R.r_neS
  | with_reducible apply R.r_and
  | with_reducible apply R.r_or
  | with_reducible apply R.r_not
  | with_reducible apply R.r_andV
  | with_reducible apply R.r_orV
  | with_reducible apply R.r_notV
  | with_reducible apply R.r_blV
  | with_reducible apply R.r_B
  | with_reducible apply R.r_ifE
  | with_reducible apply R.r_tup
  | with_reducible apply R.r_lst
  | with_reducible apply R.r_call
  | with_reducible apply R.r_drop
  | with_reducible apply R.r_next
  | with_reducible apply R.r_abs
  | with_reducible apply R.r_int1
  | with_reducible apply R.r_int1b
  | with_reducible apply R.r_min2
  | with_reducible apply R.r_bm
  | with_reducible apply R.r_bm0
  | with_reducible apply R.r_dget
  | with_reducible apply R.r_dput
  | with_reducible apply R.r_disp
  | with_reducible apply R.r_pnil
  | with_reducible apply R.r_pcons
  | with_reducible apply R.r_fld
  | with_reducible apply R.r_slice
  | with_reducible apply R.r_nopart
  | with_reducible apply R.r_part
  | with_reducible apply R.r_int
  | with_reducible apply R.r_yes
  | with_reducible apply R.r_retN
  | with_reducible apply R.r_asgG
  | with_reducible apply R.r_gname
  | with_reducible apply R.r_rng1
  | with_reducible apply R.r_brk
  | with_reducible apply R.r_cnt
  | with_reducible apply R.r_m1
  | with_reducible apply R.r_lcr
  | with_reducible apply R.r_p2_63
  | with_reducible apply R.r_p2_64
  | with_reducible apply R.r_p2_32
  | with_reducible apply R.r_p2_31
  | with_reducible apply R.r_p10_18
  | with_reducible apply R.r_p10_30
  | with_reducible refine R.r_mod (by omega) ?_
  | with_reducible refine R.r_div (by omega) ?_
  | with_reducible refine R.r_mulR (by omega) ?_
  | with_reducible refine R.r_mulL (by omega) ?_
  | with_reducible refine R.r_iteY (by decide +kernel) ?_
  | with_reducible refine R.r_iteF (by decide +kernel) ?_
  | with_reducible refine R.r_isi R.isi_int ?_
  | with_reducible refine R.r_isi R.isi_intB ?_)
local macro_rules | `(tactic| walk_at "go") => `(tactic| repeat (walk_at "s1"))

local macro_rules | `(tactic| walk_at "b1") => `(tactic| first
  | walk_at "s1"
  | with_reducible apply MM.r_meth
  | with_reducible apply MM.r_make
  | with_reducible apply MM.r_sfld
  | with_reducible apply MM.r_gsub
  | with_reducible apply MM.r_chain
  | with_reducible apply MM.r_daug
  | with_reducible apply MM.r_add
  | with_reducible apply MM.r_ip
  | with_reducible apply MM.r_din
  | with_reducible apply MM.r_dnotin
  | with_reducible apply BF.r_faug
  | with_reducible apply BF.r_sub)
local macro_rules | `(tactic| walk_at "bgo") => `(tactic| repeat (walk_at "b1"))

namespace K24
open PySem PySem.Spec PyProof.Rows L2
section
variable {P : Program} {w : World} {K : PySem.W.Frag} {mg : Str → Option Value} {base : Heap}
theorem ok_law_made_room (T : Txt K mg) : FnOk P w K mg base CX0 3 T.p_law_made_room.f T.p_law_made_room.fd ["m", "size"] BF.spMade := by
  refine T.p_law_made_room.F.ok sc_law_made_room (fun vs H Q E h => ?_) (fun cdv A outer s H vs Q E hr h => ?_)
  · obtain ⟨pm, r, S, x, size, rfl, _⟩ := h
    rfl
  · obtain ⟨pm, r, S, x, size, rfl, M, O, hz, hl, q⟩ := h
    obtain ⟨em, ws, er, i⟩ := id M
    have un := BF.usd_nn S.L
    have ou := O.used
    refine ⟨_, (pss_cons (ps_if (pt_cmpR op_gt (pv 1) (pe_dget (hu_of hr) (pv 0) pe_str (fun _ _ => rfl)) (nomark _))
 (pss_one (ps_ret pe_bl))
 pss_nil)
(pss_cons (ps_if (pt_cmpR op_eq (pe_dget (hu_of hr) (pv 0) pe_str (fun _ _ => rfl)) pe_str (nomark _))
 (pss_one (ps_ret (pe_cmpR op_le (pe_op op_add (pe_call (ok_law_used T) (hr.mono (by decide)) (by rfl) T.p_law_used.g T.p_law_used.F.kp T.p_law_used.b .nil pass0 (pa_cons (pe_dget (hu_of hr) (pv 0) pe_str (fun _ _ => rfl)) pa_nil)) (pv 1)) (pe_dget (hu_of hr) (pv 0) pe_str (fun _ _ => rfl)) (nomark _))))
 pss_nil)
(pss_cons (ps_set (i := 2) sc_law_made_room.nd rfl (.inl rfl) pe_int)
(pss_cons (ps_while PassesOwn.never (pt_cmpR op_gt (pe_op op_add (pe_call (ok_law_used T) (hr.mono (by decide)) (by rfl) T.p_law_used.g T.p_law_used.F.kp T.p_law_used.b .nil pass0 (pa_cons (pe_dget (hu_of hr) (pv 0) pe_str (fun _ _ => rfl)) pa_nil)) (pv 1)) (pe_dget (hu_of hr) (pv 0) pe_str (fun _ _ => rfl)) (nomark _))
 (pss_cons (ps_set (i := 3) sc_law_made_room.nd rfl (.inl rfl) (pe_ix ix_list (pe_dget (hu_of hr) (pv 0) pe_str (fun _ _ => rfl)) pe_int (fun _ _ => rfl)))
(pss_cons (ps_dput (hu_of hr) (pv 0) pe_str (pe_slice sl_list (pe_dget (hu_of hr) (pv 0) pe_str (fun _ _ => rfl)) (po_some pe_int) po_none) rfl)
(pss_one (ps_if (pt_cmpR op_eq (pe_ix ix_tup (pv 3) pe_int (fun _ _ => rfl)) pe_str (nomark _))
 (pss_one (ps_set (i := 2) sc_law_made_room.nd rfl (.inl rfl) (pe_op op_add (pv 2) (pe_ix ix_tup (pv 3) pe_int (fun _ _ => rfl)))))
 (pss_cons (ps_set (i := 2) sc_law_made_room.nd rfl (.inl rfl) (pe_op op_add (pv 2) pe_int))
(pss_one (ps_dput (hu_of hr) (pv 0) pe_str (pe_op op_add (pe_dget (hu_of hr) (pv 0) pe_str (fun _ _ => rfl)) pe_int) rfl))))))))
(pss_cons (ps_if (pt_cmpR op_gt (pv 2) pe_int (nomark _))
 (pss_one (ps_dput (hu_of hr) (pv 0) pe_str (pe_call (ok_law_joined T) (hr.mono (by decide)) (by rfl) T.p_law_joined.g T.p_law_joined.F.kp T.p_law_joined.b .nil pass0 (pa_cons (pe_op op_cat (pe_lst (pa_cons (pe_tup (pa_cons pe_str (pa_cons (pv 2) pa_nil))) pa_nil)) (pe_dget (hu_of hr) (pv 0) pe_str (fun _ _ => rfl))) pa_nil)) rfl))
 pss_nil)
(pss_one (ps_ret pe_bl))))))), ?_⟩
    walk_at "bgo"
    refine R.r_dgetS (v := .int S.room) em rfl ?_
    walk_at "bgo"
    refine R.r_ite (fun c1 => ?_) (fun c1 => ?_)
    · walk_at "bgo"
      have e := BF.Bs.mr_hold (S := S) (size := size) fun z => absurd z.2 (by omega)
      have := q H r R.Mv.refl (by rw [e]; exact M) (.inl rfl)
      rwa [e, decide_eq_false (by omega)] at this
    walk_at "bgo"
    refine R.r_dgetS (v := .str S.pol) em rfl ?_
    walk_at "bgo"
    refine R.r_ite (fun c2 => ?_) (fun c2 => ?_)
    · walk_at "bgo"
      refine R.r_dgetS (v := .ref r) em rfl ?_
      walk_at "bgo"
      refine ⟨r, ws, S.L, rfl, R.sqL er, i, O.it, by omega, fun H1 s1 => ?_⟩
      walk_at "bgo"
      refine R.r_dgetS (v := .int S.room) (s1 _ _ em) rfl ?_
      walk_at "bgo"
      have e := BF.Bs.mr_hold (S := S) (size := size) fun z => absurd (c2.symm.trans z.1) (by decide +kernel)
      have := q H1 r (R.Mv.of s1) (by rw [e]; exact M.same s1) (.inl rfl)
      rwa [e, ou] at this
    have cr : S.pol = "ring" := O.pol.resolve_left c2
    have c1' : size ≤ S.room := by omega
    walk_at "bgo"
    refine ⟨fun m σ H' => ∃ g y3, σ = [some (.ref pm), some (.int size), some (.int g), y3] ∧ R.Mv pm H H' ∧ ∃ R0 c r', m = R0.length ∧ BF.MAt H' pm r' { S with lost := S.lost + c, L := R0 } x ∧ (r' = r ∨ H r' = none) ∧
      BF.jnd R0 ∧ (∀ a ∈ R0, a.ok) ∧ 0 ≤ g ∧ BF.trim S.room size R0 g c = BF.trim S.room size S.L 0 0 ∧ R0.length ≤ S.L.length, ⟨_, 0, _, rfl, R.Mv.refl, S.L, 0, r, rfl, ?_, .inl rfl, O.j, O.it, Int.le_refl _, rfl, Nat.le_refl _⟩, ?_⟩
    · exact M.congr rfl rfl (Int.add_zero _) rfl
    rintro m σ H1 ⟨g, y3, rfl, m1, R0, c, r', rfl, M1, hr', j1, o1, hg, et, hR⟩
    obtain ⟨em1, ws1, er1, i1⟩ := id M1
    have len1 := i1.len
    walk_at "bgo"
    refine R.r_dgetS (v := .ref r') em1 rfl ?_
    walk_at "bgo"
    refine ⟨r', ws1, R0, rfl, R.sqL er1, i1, o1, by omega, fun H2 s2 => ?_⟩
    have M2 := M1.same s2
    obtain ⟨em2, ws2, er2, i2⟩ := id M2
    walk_at "bgo"
    refine R.r_dgetS (v := .int S.room) em2 rfl ?_
    walk_at "bgo"
    refine R.r_ite (fun c3 => ?_) (fun c3 => ?_)
    · refine ⟨fun σ' H' => ∃ m', m' < R0.length ∧ _, fun _ _ h => h, ?_⟩
      cases R0 with
      | nil => rw [BF.usd_nil] at c3; omega
      | cons a0 R1 =>
        obtain ⟨a, ws3, rfl, ha, i3⟩ := BF.its_cons i2
        walk_at "bgo"
        refine R.r_dgetS (v := .ref r') em2 rfl ?_
        walk_at "bgo"
        refine R.r_ixL (v := .ref a) (R.sqL er2) (R.at_nat (by decide) rfl) ?_
        walk_at "bgo"
        refine R.r_dgetS (v := .ref r') em2 rfl ?_
        walk_at "bgo"
        refine BF.sl_1 (R.sqL er2) fun q1 hq1 => ?_
        have s3 := R.same_new (o := .lst ws3) hq1
        have eq3 : upd H2 q1 (.lst ws3) q1 = some (.lst ws3) := upd_same
        generalize upd H2 q1 (.lst ws3) = H3 at *
        walk_at "bgo"
        refine R.r_dputS (s3 _ _ em2) BF.mkv_len BF.put_row ?_
        generalize hu4 : upd H3 pm _ = H4
        obtain ⟨M4, m4, k4⟩ := M2.row s3 eq3 (i3.keep (MM.KeepT.of s3)) hu4
        obtain ⟨em4, ws4, er4, i4⟩ := id M4
        have k24 : MM.KeepT H2 H4 := (MM.KeepT.of s3).trans k4
        have m04 : R.Mv pm H H4 := (m1.trans (R.Mv.of s2)).trans m4
        have fr : H q1 = none := by
          cases z : H q1 with
          | none => rfl
          | some o =>
            have hne : q1 ≠ pm := fun y => by rw [y, em2] at hq1; cases hq1
            rw [s2 _ _ (m1 _ _ z hne)] at hq1
            cases hq1
        walk_at "bgo"
        refine BF.r_hd (ha.keep k24) ?_
        walk_at "bgo"
        refine BF.r_eqHd ?_
        walk_at "bgo"
        have et' := et
        rw [BF.trim_go c3] at et'
        cases a0 with
        | lost n =>
          have hn : 1 ≤ n := o1 _ List.mem_cons_self
          refine R.iteT' rfl ?_
          walk_at "bgo"
          refine R.r_ixT (v := .int n) (R.sqT (ha.keep k24)) (R.at_nat (by decide) rfl) ?_
          walk_at "bgo"
          refine ⟨_, Nat.lt_succ_self _, _, _, rfl, m04, R1, c, q1, rfl, M4, .inr fr, j1.tail, fun a ha => o1 a (List.mem_cons_of_mem _ ha), by omega, ?_, by simp only [List.length_cons] at hR; omega⟩
          rw [← et', show c + BF.It.one (.lost n) = c from Int.add_zero c]
          rfl
        | rc t c0 st vs =>
          refine R.iteF' Bool.false_ne_true ?_
          walk_at "bgo"
          refine R.r_dgetS (v := .int (S.lost + c)) em4 rfl ?_
          walk_at "bgo"
          refine R.r_dputS em4 BF.mkv_len BF.put_lost ?_
          generalize hu5 : upd H4 pm _ = H5
          obtain ⟨M5, m5, k5⟩ := M4.lost (Same.refl _) hu5
          refine ⟨_, Nat.lt_succ_self _, _, _, rfl, m04.trans m5, R1, c + 1, q1, rfl, M5.congr rfl rfl (by show S.lost + (c + 1) = S.lost + c + 1; omega) rfl, .inr fr, j1.tail, fun a ha => o1 a (List.mem_cons_of_mem _ ha), by omega, ?_, by simp only [List.length_cons] at hR; omega⟩
          rw [← et']
          rfl
    · rw [BF.trim_stop (by omega)] at et
      have e1 : S.mr size = { S with used := BF.usd R0, lost := S.lost + c, L := BF.glu g R0 } := by
        unfold BF.Bs.mr
        rw [if_pos ⟨cr, c1'⟩, ← et]
      have m12 : R.Mv pm H H2 := m1.trans (R.Mv.of s2)
      have fits := BF.Bs.mr_fits O ⟨cr, c1'⟩
      walk_at "bgo"
      refine R.r_ite (fun c4 => ?_) (fun c4 => ?_)
      · walk_at "bgo"
        refine ⟨Nat.le_of_ble_eq_true rfl, fun t ht => ?_⟩
        have s3 := R.same_new (o := .tup [.str "lost", .int g]) ht
        have et3 : upd H2 t (.tup [.str "lost", .int g]) t = some (.tup [.str "lost", .int g]) := upd_same
        generalize upd H2 t (.tup [.str "lost", .int g]) = H3 at *
        walk_at "bgo"
        refine ⟨Nat.le_of_ble_eq_true rfl, fun l1 hl1 => ?_⟩
        have s4 := R.same_new (o := .lst [.ref t]) hl1
        have el1 : upd H3 l1 (.lst [.ref t]) l1 = some (.lst [.ref t]) := upd_same
        generalize upd H3 l1 (.lst [.ref t]) = H4 at *
        have s24 := s3.trans s4
        walk_at "bgo"
        refine R.r_dgetS (v := .ref r') (s24 _ _ em2) rfl ?_
        walk_at "bgo"
        have len2 : ws2.length = R0.length := i2.len
        refine BF.r_cat el1 (s24 _ _ er2) (by simp only [List.length_cons, List.length_nil]; omega) fun l2 hl2 => ?_
        have s5 := R.same_new (o := .lst ([.ref t] ++ ws2)) hl2
        have el2 : upd H4 l2 (.lst ([.ref t] ++ ws2)) l2 = some (.lst ([.ref t] ++ ws2)) := upd_same
        generalize upd H4 l2 (.lst ([.ref t] ++ ws2)) = H5 at *
        have s25 := s24.trans s5
        walk_at "bgo"
        refine ⟨l2, _, .lost g :: R0, rfl, R.sqL el2, .cons (BF.itv_lost (s5 _ _ (s4 _ _ et3))) (i2.keep (MM.KeepT.of s25)), by simp only [List.length_cons]; omega, fun H6 l3 ws6 s6 hl3 e6 i6 => ?_⟩
        rw [show (BF.It.lost g :: R0).foldl BF.push [] = BF.glue g R0 from BF.joined_glue j1] at i6
        have s26 := s25.trans s6
        walk_at "bgo"
        refine R.r_dputS (s26 _ _ em2) BF.mkv_len BF.put_row ?_
        generalize hu7 : upd H6 pm _ = H7
        obtain ⟨M7, m7, k7⟩ := M2.row s26 e6 i6 hu7
        walk_at "bgo"
        have fr : H l3 = none := by
          cases z : H l3 with
          | none => rfl
          | some o =>
            have hne : l3 ≠ pm := fun y => by rw [y, s25 _ _ em2] at hl3; cases hl3
            rw [s25 _ _ (m12 _ _ z hne)] at hl3
            cases hl3
        have := q H7 l3 (m12.trans m7) (by rw [e1]; exact M7.congr rfl rfl rfl (by show BF.glu g R0 = _; exact if_pos c4)) (.inr fr)
        rwa [decide_eq_true fits] at this
      · walk_at "bgo"
        have := q H2 r' m12 (by rw [e1]; exact M2.congr rfl rfl rfl (by show BF.glu g R0 = _; exact if_neg c4)) hr'
        rwa [decide_eq_true fits] at this
theorem ok_law_add (T : Txt K mg) : FnOk P w K mg base CX0 4 T.p_law_add.f T.p_law_add.fd ["m", "record"] BF.spLAdd := by
  refine T.p_law_add.F.ok sc_law_add (fun vs H Q E h => ?_) (fun cdv A outer s H vs Q E hr h => ?_)
  · obtain ⟨pm, r, a, S, x, it, rfl, _⟩ := h
    rfl
  · obtain ⟨pm, r, a, S, x, it, rfl, M, O, hl, ha, hit, oit, q⟩ := h
    obtain ⟨em, ws, er, i⟩ := id M
    have hsz := it.sz_nn
    rw [BF.Bs.addB_one O hit] at q
    refine ⟨_, (pss_cons (ps_if (pt_val (pe_call (ok_law_made_room T) (hr.mono (by decide)) (by rfl) T.p_law_made_room.g T.p_law_made_room.F.kp T.p_law_made_room.b .nil pass0 (pa_cons (pv 0) (pa_cons (pe_call (ok_law_size T) (hr.mono (by decide)) (by rfl) T.p_law_size.g T.p_law_size.F.kp T.p_law_size.b .nil pass0 (pa_cons (pv 1) pa_nil)) pa_nil))))
 (pss_cons (ps_dput (hu_of hr) (pv 0) pe_str (pe_op op_cat (pe_dget (hu_of hr) (pv 0) pe_str (fun _ _ => rfl)) (pe_lst (pa_cons (pv 1) pa_nil))) rfl)
(pss_one (ps_ret pe_bl)))
 pss_nil)
(pss_cons (ps_dput (hu_of hr) (pv 0) pe_str (pe_op op_add (pe_dget (hu_of hr) (pv 0) pe_str (fun _ _ => rfl)) pe_int) rfl)
(pss_cons (ps_dput (hu_of hr) (pv 0) pe_str (pe_call (ok_law_joined T) (hr.mono (by decide)) (by rfl) T.p_law_joined.g T.p_law_joined.F.kp T.p_law_joined.b .nil pass0 (pa_cons (pe_op op_cat (pe_dget (hu_of hr) (pv 0) pe_str (fun _ _ => rfl)) (pe_lst (pa_cons (pe_tup (pa_cons pe_str (pa_cons pe_int pa_nil))) pa_nil))) pa_nil)) rfl)
(pss_one (ps_ret pe_bl))))), ?_⟩
    walk_at "bgo"
    refine ⟨a, it, rfl, ha, hit, oit, fun H1 s1 => ?_⟩
    walk_at "bgo"
    refine ⟨pm, r, S, x, it.sz, rfl, M.same s1, O, hsz, hl, fun H2 r2 m2 M2 hr2 => ?_⟩
    have m02 : R.Mv pm H H2 := (R.Mv.of s1).trans m2
    have k02 : MM.KeepT H H2 := M.keepT m02
    obtain ⟨em2, ws2, er2, i2⟩ := id M2
    have len2 := i2.len
    have l2 := BF.Bs.mr_len O (size := it.sz)
    have fr0 : r2 = r ∨ H r2 = none := hr2.imp id s1.free
    have fr : ∀ {H3 : Hp} {l : Addr}, Same H2 H3 → H3 l = none → H l = none := by
      intro H3 l s3 hl3
      cases z : H l with
      | none => rfl
      | some o =>
        have hne : l ≠ pm := fun y => by rw [y, s3 _ _ em2] at hl3; cases hl3
        rw [s3 _ _ (m02 _ _ z hne)] at hl3
        cases hl3
    walk_at "bgo"
    refine R.r_ite (fun c => ?_) (fun c => ?_)
    · rw [if_pos c] at q
      walk_at "bgo"
      refine R.r_dgetS (v := .ref r2) em2 rfl ?_
      walk_at "bgo"
      refine ⟨Nat.le_of_ble_eq_true rfl, fun l1 hl1 => ?_⟩
      have s3 := R.same_new (o := .lst [.ref a]) hl1
      have el1 : upd H2 l1 (.lst [.ref a]) l1 = some (.lst [.ref a]) := upd_same
      generalize upd H2 l1 (.lst [.ref a]) = H3 at *
      walk_at "bgo"
      refine BF.r_cat (s3 _ _ er2) el1 (by simp only [List.length_cons, List.length_nil]; omega) fun l2 hl2 => ?_
      have s4 := R.same_new (o := .lst (ws2 ++ [.ref a])) hl2
      have el2 : upd H3 l2 (.lst (ws2 ++ [.ref a])) l2 = some (.lst (ws2 ++ [.ref a])) := upd_same
      generalize upd H3 l2 (.lst (ws2 ++ [.ref a])) = H4 at *
      walk_at "bgo"
      refine R.r_dputS ((s3.trans s4) _ _ em2) BF.mkv_len BF.put_row ?_
      generalize hu5 : upd H4 pm _ = H5
      have k4 : MM.KeepT H2 H4 := MM.KeepT.of (s3.trans s4)
      obtain ⟨M5, m5, k5⟩ := M2.row (s3.trans s4) el2 (L := (S.mr it.sz).L ++ [it]) (BF.Its.snoc (i2.keep k4) ⟨a, rfl, (ha.keep k02).keep k4⟩) hu5
      walk_at "bgo"
      exact q H5 l2 (m02.trans m5) (M5.congr rfl rfl rfl rfl) (.inr (fr s3 hl2))
    · rw [if_neg c] at q
      walk_at "bgo"
      refine R.r_dgetS (v := .int (S.mr it.sz).lost) em2 rfl ?_
      walk_at "bgo"
      refine R.r_dputS em2 BF.mkv_len BF.put_lost ?_
      generalize hu3 : upd H2 pm _ = H3
      obtain ⟨M3, m3, k3⟩ := M2.lost (Same.refl _) hu3
      obtain ⟨em3, ws3, er3, i3⟩ := id M3
      have len3 : ws3.length = (S.mr it.sz).L.length := i3.len
      walk_at "bgo"
      refine R.r_dgetS (v := .ref r2) em3 rfl ?_
      walk_at "bgo"
      refine ⟨Nat.le_of_ble_eq_true rfl, fun t ht => ?_⟩
      have s4 := R.same_new (o := .tup [.str "lost", .int 1]) ht
      have et4 : upd H3 t (.tup [.str "lost", .int 1]) t = some (.tup [.str "lost", .int 1]) := upd_same
      generalize upd H3 t (.tup [.str "lost", .int 1]) = H4 at *
      walk_at "bgo"
      refine ⟨Nat.le_of_ble_eq_true rfl, fun l1 hl1 => ?_⟩
      have s5 := R.same_new (o := .lst [.ref t]) hl1
      have el1 : upd H4 l1 (.lst [.ref t]) l1 = some (.lst [.ref t]) := upd_same
      generalize upd H4 l1 (.lst [.ref t]) = H5 at *
      walk_at "bgo"
      have s35 := s4.trans s5
      refine BF.r_cat (s35 _ _ er3) el1 (by simp only [List.length_cons, List.length_nil]; omega) fun l2 hl2 => ?_
      have s6 := R.same_new (o := .lst (ws3 ++ [.ref t])) hl2
      have el2 : upd H5 l2 (.lst (ws3 ++ [.ref t])) l2 = some (.lst (ws3 ++ [.ref t])) := upd_same
      generalize upd H5 l2 (.lst (ws3 ++ [.ref t])) = H6 at *
      have s36 := s35.trans s6
      walk_at "bgo"
      have ok2 := BF.Bs.mr_ok O hsz
      refine ⟨l2, _, (S.mr it.sz).L ++ [.lost 1], rfl, R.sqL el2, BF.Its.snoc (i3.keep (MM.KeepT.of s36)) (BF.itv_lost (s6 _ _ (s5 _ _ et4))), by rw [List.length_append]; simp only [List.length_cons, List.length_nil]; omega, fun H7 l3 ws7 s7 hl3 e7 i7 => ?_⟩
      rw [BF.joined_app ok2.j] at i7
      have s37 := s36.trans s7
      walk_at "bgo"
      refine R.r_dputS (s37 _ _ em3) BF.mkv_len BF.put_row ?_
      generalize hu8 : upd H7 pm _ = H8
      obtain ⟨M8, m8, k8⟩ := M3.row s37 e7 i7 hu8
      walk_at "bgo"
      refine q H8 l3 ((m02.trans m3).trans m8) (M8.congr rfl rfl rfl rfl) (.inr ?_)
      cases z : H l3 with
      | none => rfl
      | some o =>
        have hne : l3 ≠ pm := fun y => by rw [y, s36 _ _ em3] at hl3; cases hl3
        rw [s36 _ _ (m3 _ _ (m02 _ _ z hne) hne)] at hl3
        cases hl3
end
end K24
end
section
local macro_rules | `(tactic| walk_at "s1") => `(tactic| first
  | ((with_reducible apply R.r_var); · rfl)
  | with_reducible apply R.r_c
  | with_reducible apply R.r_op
  | with_reducible apply R.r_I0
  | with_reducible apply R.r_cb
  | with_reducible apply R.r_cons
  | with_reducible apply R.r_nil
  | with_reducible apply R.r_seq
  | with_reducible apply R.r_asg
  | with_reducible apply R.r_ret
  | with_reducible apply R.r_ifS
  | with_reducible apply R.r_test
  | with_reducible apply R.r_t
  | with_reducible apply R.r_f
  | with_reducible apply R.r_nt
  | with_reducible apply R.r_nf
  | with_reducible apply R.r_bl
  | with_reducible apply R.r_U
  | with_reducible apply R.r_un
  | with_reducible apply R.r_eqI
  | with_reducible apply R.r_eqS
  | with_reducible apply R.r_neI
  | with_reducible apply R.r_neS
  | with_reducible apply R.r_and
  | with_reducible apply R.r_or
  | with_reducible apply R.r_not
  | with_reducible apply R.r_andV
  | with_reducible apply R.r_orV
  | with_reducible apply R.r_notV
  | with_reducible apply R.r_blV
  | with_reducible apply R.r_B
  | with_reducible apply R.r_ifE
  | with_reducible apply R.r_tup
  | with_reducible apply R.r_lst
  | with_reducible apply R.r_call
  | with_reducible apply R.r_drop
  | with_reducible apply R.r_next
  | with_reducible apply R.r_abs
  | with_reducible apply R.r_int1
  | with_reducible apply R.r_int1b
  | with_reducible apply R.r_min2
  | with_reducible apply R.r_bm
  | with_reducible apply R.r_bm0
  | with_reducible apply R.r_dget
  | with_reducible apply R.r_dput
  | with_reducible apply R.r_disp
  | with_reducible apply R.r_pnil
  | with_reducible apply R.r_pcons
  | with_reducible apply R.r_fld
  | with_reducible apply R.r_slice
  | with_reducible apply R.r_nopart
  | with_reducible apply R.r_part
  | with_reducible apply R.r_int
  | with_reducible apply R.r_yes
  | with_reducible apply R.r_retN
  | with_reducible apply R.r_asgG
  | with_reducible apply R.r_gname
  | with_reducible apply R.r_rng1
  | with_reducible apply R.r_brk
  | with_reducible apply R.r_cnt
  | with_reducible apply R.r_m1
  | with_reducible apply R.r_lcr
  | with_reducible apply R.r_p2_63
  | with_reducible apply R.r_p2_64
  | with_reducible apply R.r_p2_32
  | with_reducible apply R.r_p2_31
  | with_reducible apply R.r_p10_18
  | with_reducible apply R.r_p10_30
  | with_reducible refine R.r_mod (by omega) ?_
  | with_reducible refine R.r_div (by omega) ?_
  | with_reducible refine R.r_mulR (by omega) ?_
  | with_reducible refine R.r_mulL (by omega) ?_
  | with_reducible refine R.r_iteY (by decide +kernel) ?_
  | with_reducible refine R.r_iteF (by decide +kernel) ?_
  | with_reducible refine R.r_isi R.isi_int ?_
  | with_reducible refine R.r_isi R.isi_intB ?_)
local macro_rules | `(tactic| walk_at "go") => `(tactic| repeat (walk_at "s1"))

local macro_rules | `(tactic| walk_at "b1") => `(tactic| first
  | walk_at "s1"
  | with_reducible apply MM.r_meth
  | with_reducible apply MM.r_make
  | with_reducible apply MM.r_sfld
  | with_reducible apply MM.r_gsub
  | with_reducible apply MM.r_chain
  | with_reducible apply MM.r_daug
  | with_reducible apply MM.r_add
  | with_reducible apply MM.r_ip
  | with_reducible apply MM.r_din
  | with_reducible apply MM.r_dnotin
  | with_reducible apply BF.r_faug
  | with_reducible apply BF.r_sub)
local macro_rules | `(tactic| walk_at "bgo") => `(tactic| repeat (walk_at "b1"))

namespace K24
open PySem PySem.Spec PyProof.Rows L2
section
variable {P : Program} {w : World} {K : PySem.W.Frag} {mg : Str → Option Value} {base : Heap}
theorem ok_law_add_block (T : Txt K mg) : FnOk P w K mg base CX0 4 T.p_law_add_block.f T.p_law_add_block.fd ["m", "block"] BF.spLBlock := by
  refine T.p_law_add_block.F.ok sc_law_add_block (fun vs H Q E h => ?_) (fun cdv A outer s H vs Q E hr h => ?_)
  · obtain ⟨pm, r, a, S, x, ws, M, rfl, _⟩ := h
    rfl
  · obtain ⟨pm, r, a, S, x, wb, B, rfl, M, O, hl, ea, ib, ob, hb, q⟩ := h
    obtain ⟨em, ws, er, i⟩ := id M
    have lb := ib.len
    have li := i.len
    refine ⟨_, (C8.pss_cut (ps_setLc (i := 2) (own := [("item", 3)]) (g := gName 3) rfl sc_law_add_block.nd rfl rfl (sw_true rfl rfl rfl (by decide +kernel)) (pi_tup (pv 1)) (blkOk_by (own := [("item", 3)]) (N := N_law_add_block) (sc := defScope s_law_add_block) (by decide +kernel)) (fun _ _ _ _ _ => (pg_name (i := 3) sc_law_add_block.nd rfl (.inl rfl))) (fun _ _ _ _ _ => (pts_one (pt_cmpR op_ne (pe_ix (R.ixTK (K0 := K) rfl) (pv 3) pe_int (fun _ _ => rfl)) pe_str (nomark _)))) (fun _ _ _ _ _ => (pv 3)))
(pss_cons (ps_if ((pw_or (pt_cmpR op_eq (pe_callB R.cLenS (by rfl) T.m_len (by decide +kernel) (pa_cons (pv 2) pa_nil)) pe_int (nomark _)) (pw_or1 (pt_val (pe_call (ok_law_made_room T) (hr.mono (by decide)) (by rfl) T.p_law_made_room.g T.p_law_made_room.F.kp T.p_law_made_room.b .nil pass0 (pa_cons (pv 0) (pa_cons (pe_call (ok_law_usedT T) (hr.mono (by decide)) (by rfl) T.p_law_used.g T.p_law_used.F.kp T.p_law_used.b .nil pass0 (pa_cons (pv 1) pa_nil)) pa_nil))))))).pt
 (pss_cons (ps_dput (hu_of hr) (pv 0) pe_str (pe_call (ok_law_joined T) (hr.mono (by decide)) (by rfl) T.p_law_joined.g T.p_law_joined.F.kp T.p_law_joined.b .nil pass0 (pa_cons (pe_op op_cat (pe_dget (hu_of hr) (pv 0) pe_str (fun _ _ => rfl)) (pe_callTy MM.cListOf (by rfl) T.m_list (by decide +kernel) (pa_cons (pv 1) pa_nil))) pa_nil)) rfl)
(pss_one (ps_ret pe_bl)))
 pss_nil)
(pss_cons (ps_dput (hu_of hr) (pv 0) pe_str (pe_op op_add (pe_dget (hu_of hr) (pv 0) pe_str (fun _ _ => rfl)) (pe_callB R.cLenS (by rfl) T.m_len (by decide +kernel) (pa_cons (pv 2) pa_nil))) rfl)
(pss_cons (ps_set (i := 4) sc_law_add_block.nd rfl (.inl rfl) (pe_callB (cr_sum rfl) (by rfl) T.m_sum (by decide +kernel) (pa_cons (pe_lc (own := [("item", 3)]) (g := gName 3) rfl sc_law_add_block.nd (pi_tup (pv 1)) (blkOk_by (own := [("item", 3)]) (N := N_law_add_block) (sc := defScope s_law_add_block) (by decide +kernel)) (fun _ _ _ _ _ => (pg_name (i := 3) sc_law_add_block.nd rfl (.inl rfl))) (fun _ _ _ _ _ => (pts_one (pt_cmpR op_eq (pe_ix (R.ixTK (K0 := K) rfl) (pv 3) pe_int (fun _ _ => rfl)) pe_str (nomark _)))) (fun _ _ _ _ _ => (pe_ix (R.ixTK (K0 := K) rfl) (pv 3) pe_int (fun _ _ => rfl)))) pa_nil)))
(pss_cons (ps_dput (hu_of hr) (pv 0) pe_str (pe_call (ok_law_joined T) (hr.mono (by decide)) (by rfl) T.p_law_joined.g T.p_law_joined.F.kp T.p_law_joined.b .nil pass0 (pa_cons (pe_op op_cat (pe_dget (hu_of hr) (pv 0) pe_str (fun _ _ => rfl)) (pe_lst (pa_cons (pe_tup (pa_cons pe_str (pa_cons (pe_op op_add (pe_callB R.cLenS (by rfl) T.m_len (by decide +kernel) (pa_cons (pv 2) pa_nil)) (pv 4)) pa_nil))) pa_nil))) pa_nil)) rfl)
(pss_one (ps_ret pe_bl))))))), ?_⟩
    walk_at "bgo"
    refine R.r_cut (fun σ H' => ∃ D acc y3 y4, σ = [some (.ref pm), some (.ref a), some (.ref D), y3, y4] ∧ Same H H' ∧ H' D = some (.lst acc) ∧ H D = none ∧ (acc.length : Int) = BF.oneL B) ?_ ?_
    · refine R.r_asg ?_
      refine MM.r_lcT ?_
      walk_at "bgo"
      refine ⟨a, rfl, ⟨_, R.sqT ea⟩, ?_⟩
      refine MM.lc_go (walk_tup (xs := wb)) (fun D i H' => Same H H' ∧ ∃ acc, H' D = some (.lst acc) ∧ acc.length = ((B.take i).filter fun a => !a.isL).length) ?_ ?_ ?_ ?_
      · intro D hD
        exact ⟨R.same_new hD, [], upd_same, rfl⟩
      · rintro D i H' hD ⟨s, _⟩
        exact R.sqT (s _ _ ea)
      · rintro D i y H2 H2' hD hi ⟨s, acc, eD, ll⟩ ⟨rfl, ey⟩
        obtain ⟨b, x, rfl, ex, hb'⟩ := (ib.keep (MM.KeepT.of s)).get' ey
        refine ⟨rfl, ?_⟩
        rw [MM.take_snoc ex, List.filter_append]
        have lt : ((B.take i).filter fun a => !a.isL).length ≤ B.length := Nat.le_trans (List.length_filter_le _ _) (by rw [List.length_take]; omega)
        walk_at "bgo"
        refine BF.r_hd hb' ?_
        walk_at "bgo"
        refine BF.r_neHd ?_
        walk_at "bgo"
        cases c : x.isL with
        | true =>
          refine R.iteF' Bool.false_ne_true ?_
          refine ⟨s, acc, eD, ?_⟩
          rw [ll, List.filter_cons_of_neg (by rw [c]; exact Bool.false_ne_true)]
          simp
        | false =>
          refine R.iteT' rfl ?_
          walk_at "bgo"
          refine ⟨acc, eD, R.size_lt (by omega), CR.same_acc hD s, _, upd_same, ?_⟩
          rw [List.length_append, List.length_append, ll, List.filter_cons_of_pos (by rw [c]; rfl)]
          rfl
      · rintro D H1 hD ⟨s1, acc, eD, ll⟩
        rw [List.take_of_length_le (by omega)] at ll
        exact ⟨D, acc, _, _, rfl, s1, eD, hD, by rw [BF.oneL_filter, ll]⟩
    rintro σ H1 ⟨D, acc, y3, y4, rfl, s1, eD, hD, ll⟩
    have hDpm : D ≠ pm := fun z => by rw [z, em] at hD; cases hD
    have nn := BF.usd_nn B
    refine R.r_seq (R.r_ifS (BF.or_key (fun b H' => ∃ r2, b = decide ((S.mr (BF.usd B)).used + BF.usd B ≤ S.room) ∧ R.Mv pm H H' ∧ BF.MAt H' pm r2 (S.mr (BF.usd B)) x ∧ (r2 = r ∨ H r2 = none) ∧ H' D = some (.lst acc)) ?_ fun key => ?_))
    · rintro b H2 ⟨r2, rfl, m02, M2, hr2, eD2⟩
      have k02 : MM.KeepT H H2 := M.keepT m02
      obtain ⟨em2, ws2, er2, i2⟩ := id M2
      have len2 := i2.len
      have l2 := BF.Bs.mr_len O (size := BF.usd B)
      have ok2 := BF.Bs.mr_ok O nn
      have fr : ∀ {H3 : Hp} {l : Addr}, Same H2 H3 → H3 l = none → H l = none := by
        intro H3 l s3 hl3
        cases z : H l with
        | none => rfl
        | some o =>
          have hne : l ≠ pm := fun y => by rw [y, s3 _ _ em2] at hl3; cases hl3
          rw [s3 _ _ (m02 _ _ z hne)] at hl3
          cases hl3
      unfold BF.Bs.addB at q
      refine R.r_ite (fun c => ?_) (fun c => ?_)
      · rw [if_pos c] at q
        walk_at "bgo"
        refine R.r_dgetS (v := .ref r2) em2 rfl ?_
        walk_at "bgo"
        refine ⟨a, wb, rfl, .inr (R.sqT (k02 _ _ ea)), fun l1 hl1 => ?_⟩
        have s3 := R.same_new (o := .lst wb) hl1
        have el1 : upd H2 l1 (.lst wb) l1 = some (.lst wb) := upd_same
        generalize upd H2 l1 (.lst wb) = H3 at *
        refine BF.r_cat (s3 _ _ er2) el1 (by omega) fun l2 hl2 => ?_
        have s4 := R.same_new (o := .lst (ws2 ++ wb)) hl2
        have el2 : upd H3 l2 (.lst (ws2 ++ wb)) l2 = some (.lst (ws2 ++ wb)) := upd_same
        generalize upd H3 l2 (.lst (ws2 ++ wb)) = H4 at *
        have s24 := s3.trans s4
        walk_at "bgo"
        refine ⟨l2, _, (S.mr (BF.usd B)).L ++ B, rfl, R.sqL el2, BF.Its.app (i2.keep (MM.KeepT.of s24)) ((ib.keep k02).keep (MM.KeepT.of s24)), by rw [List.length_append]; omega, fun H5 l3 ws5 s5 hl3 e5 i5 => ?_⟩
        rw [BF.joined_app ok2.j] at i5
        have s25 := s24.trans s5
        walk_at "bgo"
        refine R.r_dputS (s25 _ _ em2) BF.mkv_len BF.put_row ?_
        generalize hu6 : upd H5 pm _ = H6
        obtain ⟨M6, m6, k6⟩ := M2.row s25 e5 i5 hu6
        walk_at "bgo"
        exact q H6 l3 (m02.trans m6) (M6.congr rfl rfl rfl rfl) (.inr (fr s24 hl3))
      · rw [if_neg c] at q
        have hB : B ≠ [] := fun z => by
          rw [z, BF.usd_nil] at c
          have := O.fit
          rw [BF.Bs.mr_0 O] at c
          omega
        walk_at "bgo"
        refine R.r_dgetS (v := .int (S.mr (BF.usd B)).lost) em2 rfl ?_
        walk_at "bgo"
        refine R.r_lenL (R.sqL eD2) ?_
        walk_at "bgo"
        rw [ll]
        refine R.r_dputS em2 BF.mkv_len BF.put_lost ?_
        generalize hu3 : upd H2 pm _ = H3
        obtain ⟨M3, m3, k3⟩ := M2.lost (Same.refl _) hu3
        obtain ⟨em3, ws3, er3, i3⟩ := id M3
        have len3 : ws3.length = (S.mr (BF.usd B)).L.length := i3.len
        have eD3 : H3 D = some (.lst acc) := m3 _ _ eD2 hDpm
        have k03 := k02.trans k3
        walk_at "bgo"
        refine MM.r_lcT ?_
        walk_at "bgo"
        refine ⟨a, rfl, ⟨_, R.sqT (k03 _ _ ea)⟩, ?_⟩
        refine MM.lc_go (walk_tup (xs := wb)) (fun D i H' => Same H3 H' ∧ H' D = some (.lst (((B.take i).flatMap BF.lsn).map V.int))) ?_ ?_ ?_ ?_
        · intro D hD
          exact ⟨R.same_new hD, upd_same⟩
        · rintro D i H' hD ⟨s, _⟩
          exact R.sqT (s _ _ (k03 _ _ ea))
        · rintro D i y H2 H2' hD hi ⟨s, eD⟩ ⟨rfl, ey⟩
          obtain ⟨b, x, rfl, ex, hb'⟩ := ((ib.keep k03).keep (MM.KeepT.of s)).get' ey
          refine ⟨rfl, ?_⟩
          rw [CR.flat_snoc ex]
          have lb : ((B.take i).flatMap BF.lsn).length < 100000 := by
            have := BF.lsn_len (B.take i)
            rw [List.length_take] at this
            omega
          walk_at "bgo"
          refine BF.r_hd hb' ?_
          walk_at "bgo"
          refine BF.r_eqHd ?_
          walk_at "bgo"
          cases x with
          | rc t c st vs =>
            refine R.iteF' Bool.false_ne_true ?_
            refine ⟨s, ?_⟩
            rw [eD]
            show _ = some (HO.lst (List.map V.int (_ ++ [])))
            rw [List.append_nil]
          | lost n =>
            refine R.iteT' rfl ?_
            walk_at "bgo"
            refine R.r_ixT (v := .int n) (R.sqT hb') (R.at_nat (by decide) rfl) ?_
            walk_at "bgo"
            refine ⟨_, eD, R.size_lt (by rw [List.length_map]; exact lb), CR.same_acc hD s, ?_⟩
            rw [upd_same, List.map_append]
            rfl
        rintro D' H4 hD' ⟨s4, eD4⟩
        rw [List.take_of_length_le (by omega)] at eD4
        walk_at "bgo"
        refine ⟨_, _, rfl, R.sqL eD4, ?_⟩
        walk_at "bgo"
        refine R.r_dgetS (v := .ref r2) (s4 _ _ em3) rfl ?_
        walk_at "bgo"
        refine R.r_lenL (R.sqL (s4 _ _ eD3)) ?_
        walk_at "bgo"
        rw [ll, BF.lsn_sum]
        refine ⟨Nat.le_of_ble_eq_true rfl, fun t ht => ?_⟩
        have s5 := R.same_new (o := .tup [.str "lost", .int (BF.numL B)]) ht
        have et5 : upd H4 t (.tup [.str "lost", .int (BF.numL B)]) t = some (.tup [.str "lost", .int (BF.numL B)]) := upd_same
        generalize upd H4 t (.tup [.str "lost", .int (BF.numL B)]) = H5 at *
        walk_at "bgo"
        refine ⟨Nat.le_of_ble_eq_true rfl, fun l1 hl1 => ?_⟩
        have s6 := R.same_new (o := .lst [.ref t]) hl1
        have el1 : upd H5 l1 (.lst [.ref t]) l1 = some (.lst [.ref t]) := upd_same
        generalize upd H5 l1 (.lst [.ref t]) = H6 at *
        have s36 := s4.trans (s5.trans s6)
        walk_at "bgo"
        refine BF.r_cat (s36 _ _ er3) el1 (by simp only [List.length_cons, List.length_nil]; omega) fun l2 hl2 => ?_
        have s7 := R.same_new (o := .lst (ws3 ++ [.ref t])) hl2
        have el2 : upd H6 l2 (.lst (ws3 ++ [.ref t])) l2 = some (.lst (ws3 ++ [.ref t])) := upd_same
        generalize upd H6 l2 (.lst (ws3 ++ [.ref t])) = H7 at *
        have s37 := s36.trans s7
        walk_at "bgo"
        refine ⟨l2, _, (S.mr (BF.usd B)).L ++ [.lost (BF.numL B)], rfl, R.sqL el2, BF.Its.snoc (i3.keep (MM.KeepT.of s37)) (BF.itv_lost (s7 _ _ (s6 _ _ et5))), by rw [List.length_append]; simp only [List.length_cons, List.length_nil]; omega, fun H8 l3 ws8 s8 hl3 e8 i8 => ?_⟩
        rw [BF.joined_app ok2.j, show [BF.It.lost (BF.numL B)].foldl BF.push (S.mr (BF.usd B)).L = B.foldl (fun L a => BF.pushL L a.num) (S.mr (BF.usd B)).L from (BF.lose_eq hB).symm] at i8
        have s38 := s37.trans s8
        walk_at "bgo"
        refine R.r_dputS (s38 _ _ em3) BF.mkv_len BF.put_row ?_
        generalize hu9 : upd H8 pm _ = H9
        obtain ⟨M9, m9, k9⟩ := M3.row s38 e8 i8 hu9
        walk_at "bgo"
        refine q H9 l3 ((m02.trans m3).trans m9) (M9.congr rfl rfl rfl rfl) (.inr ?_)
        cases z : H l3 with
        | none => rfl
        | some o =>
          have hne : l3 ≠ pm := fun y => by rw [y, s37 _ _ em3] at hl3; cases hl3
          rw [s37 _ _ (m3 _ _ (m02 _ _ z hne) hne)] at hl3
          cases hl3
    · walk_at "bgo"
      refine R.r_lenL (R.sqL eD) ?_
      walk_at "bgo"
      rw [ll]
      refine R.r_ite (fun c => ?_) (fun c => ?_)
      · have hf : B.filter (fun a => !a.isL) = [] := by
          rw [BF.oneL_filter] at c
          exact List.length_eq_zero_iff.mp (by omega)
        have hu := BF.usd_none hf
        refine key true H1 ⟨r, ?_, R.Mv.of s1, ?_, .inl rfl, eD⟩
        · rw [hu, BF.Bs.mr_0 O, decide_eq_true (by have := O.fit; omega)]
        · rw [hu, BF.Bs.mr_0 O]
          exact M.same s1
      · walk_at "bgo"
        refine ⟨a, wb, B, rfl, R.sqT (s1 _ _ ea), ib.keep (MM.KeepT.of s1), ob, by omega, fun H2 s2 => ?_⟩
        walk_at "bgo"
        have s12 := s1.trans s2
        refine ⟨pm, r, S, x, _, rfl, M.same s12, O, nn, hl, fun H3 r3 m3 M3 hr3 => ?_⟩
        walk_at "bgo"
        exact key _ H3 ⟨r3, rfl, (R.Mv.of s12).trans m3, M3, hr3.imp id s12.free, m3 _ _ (s2 _ _ eD) hDpm⟩
end
end K24
end
section
local macro_rules | `(tactic| walk_at "s1") => `(tactic| first
  | ((with_reducible apply R.r_var); · rfl)
  | with_reducible apply R.r_c
  | with_reducible apply R.r_op
  | with_reducible apply R.r_I0
  | with_reducible apply R.r_cb
  | with_reducible apply R.r_cons
  | with_reducible apply R.r_nil
  | with_reducible apply R.r_seq
  | with_reducible apply R.r_asg
  | with_reducible apply R.r_ret
  | with_reducible apply R.r_ifS
  | with_reducible apply R.r_test
  | with_reducible apply R.r_t
  | with_reducible apply R.r_f
  | with_reducible apply R.r_nt
  | with_reducible apply R.r_nf
  | with_reducible apply R.r_bl
  | with_reducible apply R.r_U
  | with_reducible apply R.r_un
  | with_reducible apply R.r_eqI
  | with_reducible apply R.r_eqS
  | with_reducible apply R.r_neI
  | with_reducible apply R.r_neS
  | with_reducible apply R.r_and
  | with_reducible apply R.r_or
  | with_reducible apply R.r_not
  | with_reducible apply R.r_andV
  | with_reducible apply R.r_orV
  | with_reducible apply R.r_notV
  | with_reducible apply R.r_blV
  | with_reducible apply R.r_B
  | with_reducible apply R.r_ifE
  | with_reducible apply R.r_tup
  | with_reducible apply R.r_lst
  | with_reducible apply R.r_call
  | with_reducible apply R.r_drop
  | with_reducible apply R.r_next
  | with_reducible apply R.r_abs
  | with_reducible apply R.r_int1
  | with_reducible apply R.r_int1b
  | with_reducible apply R.r_min2
  | with_reducible apply R.r_bm
  | with_reducible apply R.r_bm0
  | with_reducible apply R.r_dget
  | with_reducible apply R.r_dput
  | with_reducible apply R.r_disp
  | with_reducible apply R.r_pnil
  | with_reducible apply R.r_pcons
  | with_reducible apply R.r_fld
  | with_reducible apply R.r_slice
  | with_reducible apply R.r_nopart
  | with_reducible apply R.r_part
  | with_reducible apply R.r_int
  | with_reducible apply R.r_yes
  | with_reducible apply R.r_retN
  | with_reducible apply R.r_asgG
  | with_reducible apply R.r_gname
  | with_reducible apply R.r_rng1
  | with_reducible apply R.r_brk
  | with_reducible apply R.r_cnt
  | with_reducible apply R.r_m1
  | with_reducible apply R.r_lcr
  | with_reducible apply R.r_p2_63
  | with_reducible apply R.r_p2_64
  | with_reducible apply R.r_p2_32
  | with_reducible apply R.r_p2_31
  | with_reducible apply R.r_p10_18
  | with_reducible apply R.r_p10_30
  | with_reducible refine R.r_mod (by omega) ?_
  | with_reducible refine R.r_div (by omega) ?_
  | with_reducible refine R.r_mulR (by omega) ?_
  | with_reducible refine R.r_mulL (by omega) ?_
  | with_reducible refine R.r_iteY (by decide +kernel) ?_
  | with_reducible refine R.r_iteF (by decide +kernel) ?_
  | with_reducible refine R.r_isi R.isi_int ?_
  | with_reducible refine R.r_isi R.isi_intB ?_)
local macro_rules | `(tactic| walk_at "go") => `(tactic| repeat (walk_at "s1"))

local macro_rules | `(tactic| walk_at "b1") => `(tactic| first
  | walk_at "s1"
  | with_reducible apply MM.r_meth
  | with_reducible apply MM.r_make
  | with_reducible apply MM.r_sfld
  | with_reducible apply MM.r_gsub
  | with_reducible apply MM.r_chain
  | with_reducible apply MM.r_daug
  | with_reducible apply MM.r_add
  | with_reducible apply MM.r_ip
  | with_reducible apply MM.r_din
  | with_reducible apply MM.r_dnotin
  | with_reducible apply BF.r_faug
  | with_reducible apply BF.r_sub)
local macro_rules | `(tactic| walk_at "bgo") => `(tactic| repeat (walk_at "b1"))

namespace K24
open PySem PySem.Spec PyProof.Rows L2
section
variable {P : Program} {w : World} {K : PySem.W.Frag} {mg : Str → Option Value} {base : Heap}
theorem ok_Speculations___init__ (T : Txt K mg) : FnOk P w K mg base CX0 1 T.p_Speculations___init__.f T.p_Speculations___init__.fd ["self", "places", "room"] (BF.spSNew T.c_Speculations.a) := by
  refine T.p_Speculations___init__.F.ok sc_Speculations___init__ (fun vs H Q E h => ?_) (fun cdv A outer s H vs Q E hr h => ?_)
  · obtain ⟨sp, dx, pl, rm, rfl, _⟩ := h
    rfl
  · obtain ⟨b, dx, pl, rm, rfl, e, q⟩ := h
    refine ⟨_, (pss_cons (ps_fld (pv 0) (pv 1) rfl)
(pss_cons (ps_fld (pv 0) (pv 2) rfl)
(pss_cons (ps_fld (pv 0) pe_int rfl)
(pss_cons (ps_fld (pv 0) pe_int rfl)
(pss_one (ps_fld (pv 0) pe_dnewK rfl)))))), ?_⟩
    walk_at "bgo"
    refine ⟨_, _, _, _, rfl, e, T.c_Speculations.cl, T.n_Speculations.places, Nat.le_of_ble_eq_true rfl, ?_⟩
    generalize hu1 : upd H b _ = H1
    have e1 := upd_same.symm.trans (congrFun hu1 b) |>.symm
    have m1 : R.Mv b H H1 := hu1 ▸ R.Mv.upd
    walk_at "bgo"
    refine ⟨_, _, _, _, rfl, e1, T.c_Speculations.cl, T.n_Speculations.room, Nat.le_of_ble_eq_true rfl, ?_⟩
    generalize hu2 : upd H1 b _ = H2
    have e2 := upd_same.symm.trans (congrFun hu2 b) |>.symm
    have m2 : R.Mv b H H2 := m1.trans (hu2 ▸ R.Mv.upd)
    walk_at "bgo"
    refine ⟨_, _, _, _, rfl, e2, T.c_Speculations.cl, T.n_Speculations.lost, Nat.le_of_ble_eq_true rfl, ?_⟩
    generalize hu3 : upd H2 b _ = H3
    have e3 := upd_same.symm.trans (congrFun hu3 b) |>.symm
    have m3 : R.Mv b H H3 := m2.trans (hu3 ▸ R.Mv.upd)
    walk_at "bgo"
    refine ⟨_, _, _, _, rfl, e3, T.c_Speculations.cl, T.n_Speculations.given, Nat.le_of_ble_eq_true rfl, ?_⟩
    generalize hu4 : upd H3 b _ = H4
    have e4 := upd_same.symm.trans (congrFun hu4 b) |>.symm
    have m4 : R.Mv b H H4 := m3.trans (hu4 ▸ R.Mv.upd)
    walk_at "bgo"
    intro wt hwt
    have s5 := R.same_new (o := .dK []) hwt
    have e5 : upd H4 wt (.dK []) wt = some (.dK []) := upd_same
    generalize upd H4 wt (.dK []) = H5 at *
    walk_at "bgo"
    refine ⟨_, _, _, _, rfl, s5 _ _ e4, T.c_Speculations.cl, T.n_Speculations.waiting, Nat.le_of_ble_eq_true rfl, ?_⟩
    have nb : wt ≠ b := fun z => by rw [z, e4] at hwt; cases hwt
    walk_at "bgo"
    refine q _ wt ?_ (BF.Fr.mv (p := b) (fun c o ec hc => by rw [upd_ne hc]; exact s5 _ _ (m4 _ _ ec hc)) (by simp)) ⟨⟨dx, upd_same⟩, by rw [upd_ne nb]; exact e5⟩
    cases z : H wt with
    | none => rfl
    | some o => rw [m4 _ _ z nb] at hwt; cases hwt
theorem ok_Speculations_begin (T : Txt K mg) : FnOk P w K mg base CX0 5 T.p_Speculations_begin.f T.p_Speculations_begin.fd ["self"] (BF.spBegin T.c_Buffer.a T.c_ItemRow.a T.c_Speculations.a) := by
  refine T.p_Speculations_begin.F.ok sc_Speculations_begin (fun vs H Q E h => ?_) (fun cdv A outer s H vs Q E hr h => ?_)
  · obtain ⟨sp, wt, S, kvs, rfl, _⟩ := h
    rfl
  · obtain ⟨sp, wt, S, kvs, rfl, ⟨⟨dx, e⟩, ew⟩, hl, q0, q1⟩ := h
    refine ⟨_, (pss_cons (ps_if (pt_cmpR op_ge (pe_callB call_lenD (by rfl) T.m_len (by decide +kernel) (pa_cons (pe_fld (pv 0) rfl) pa_nil)) (pe_fld (pv 0) rfl) (nomark _))
 (pss_one (ps_ret pe_int))
 pss_nil)
(pss_cons (ps_fldaug (pv 0) pe_int in_add)
(pss_cons (ps_dput (hu_of hr) (pe_fld (pv 0) rfl) (pe_fld (pv 0) rfl) (pe_make T.p_Buffer___init__.M (ok_Buffer___init__ T) (hr.mono (by decide)) (by rfl) T.c_Buffer.g T.p_Buffer___init__.b .nil pass0 (pa_cons (pe_fld (pv 0) rfl) (pa_cons pe_str pa_nil))) rfl)
(pss_one (ps_ret (pe_fld (pv 0) rfl)))))), ?_⟩
    walk_at "bgo"
    refine ⟨_, _, _, _, _, rfl, e, T.c_Speculations.cl, T.n_Speculations.waiting, rfl, ?_⟩
    walk_at "bgo"
    refine ⟨wt, kvs, rfl, ew, ?_⟩
    walk_at "bgo"
    refine ⟨_, _, _, _, _, rfl, e, T.c_Speculations.cl, T.n_Speculations.places, rfl, ?_⟩
    walk_at "bgo"
    refine R.r_ite (fun c => ?_) (fun c => ?_)
    · walk_at "bgo"
      exact q0 c
    have ne : sp ≠ wt := fun z => by rw [z, ew] at e; cases e
    walk_at "bgo"
    refine ⟨_, _, _, _, _, rfl, e, T.c_Speculations.cl, T.n_Speculations.given, rfl, ?_⟩
    walk_at "bgo"
    refine ⟨_, _, e, Nat.le_of_ble_eq_true rfl, ?_⟩
    generalize hu1 : upd H sp _ = H1
    have e1 : H1 sp = some (.ins T.c_Speculations.a dx (BF.fsS wt { S with given := S.given + 1 })) := by rw [← hu1]; exact upd_same
    have ew1 : H1 wt = some (.dK kvs) := by rw [← hu1, upd_ne ne.symm]; exact ew
    have m1 : BF.Fr [sp, wt] H H1 := hu1 ▸ BF.Fr.upd (by simp)
    walk_at "bgo"
    refine ⟨_, _, _, _, _, rfl, e1, T.c_Speculations.cl, T.n_Speculations.room, rfl, ?_⟩
    walk_at "bgo"
    intro b dxb hb hdx ne1
    have s8 : Same H1 (upd (upd H1 dxb (.own b)) b (.ins T.c_Buffer.a dxb [])) := fun c o e => by
      rw [upd_ne (ne_of_none e hb), upd_ne (ne_of_none e hdx)]
      exact e
    have e8 : upd (upd H1 dxb (.own b)) b (.ins T.c_Buffer.a dxb []) b = some (.ins T.c_Buffer.a dxb []) := upd_same
    generalize upd (upd H1 dxb (.own b)) b (.ins T.c_Buffer.a dxb []) = H8 at *
    refine ⟨b, dxb, _, _, rfl, e8, fun H9 h l hh hl2 f9 B9 => ⟨rfl, ?_⟩⟩
    have f19 : Same H1 H9 := fun c o e => f9 _ _ (s8 _ _ e) (by simp only [List.mem_singleton]; exact ne_of_none e hb)
    walk_at "bgo"
    refine ⟨_, _, _, _, _, rfl, f19 _ _ e1, T.c_Speculations.cl, T.n_Speculations.waiting, rfl, ?_⟩
    walk_at "bgo"
    refine ⟨_, _, _, _, _, rfl, f19 _ _ e1, T.c_Speculations.cl, T.n_Speculations.given, rfl, ?_⟩
    refine ⟨_, _, rfl, DPut.k (k := (Sum.inl (S.given + 1) : Key)) (f19 _ _ ew1) (by show kvs.length < sizeLine; exact R.size_lt (by omega)), ?_⟩
    walk_at "bgo"
    have e10 : upd H9 wt (.dK (putK kvs (Sum.inl (S.given + 1)) (.ref b))) sp = some (.ins T.c_Speculations.a dx (BF.fsS wt { S with given := S.given + 1 })) := by rw [upd_ne ne]; exact f19 _ _ e1
    refine ⟨_, _, _, _, _, rfl, e10, T.c_Speculations.cl, T.n_Speculations.given, rfl, ?_⟩
    have fresh : ∀ {c : Addr}, H8 c = none → H1 c = none := fun {c} hc => s8.free hc
    exact q1 (by omega) H1 H9 _ b h l m1 hb (fresh hh) (fresh hl2) ⟨⟨dx, e1⟩, ew1⟩ f19 B9 (BF.Fr.upd (by simp)) ⟨⟨dx, e10⟩, upd_same⟩
theorem ok_Speculations_is_open (T : Txt K mg) : FnOk P w K mg base CX0 1 T.p_Speculations_is_open.f T.p_Speculations_is_open.fd ["self", "number"] (BF.spIsOpen T.c_Speculations.a) := by
  refine T.p_Speculations_is_open.F.ok sc_Speculations_is_open (fun vs H Q E h => ?_) (fun cdv A outer s H vs Q E hr h => ?_)
  · obtain ⟨sp, wt, S, kvs, n, rfl, _⟩ := h
    rfl
  · obtain ⟨sp, wt, S, kvs, n, rfl, ⟨⟨dx, e⟩, ew⟩, q⟩ := h
    refine ⟨_, (pss_one (ps_ret (pe_cmp (pc_din (hu_of hr) (pv 1) (pe_fld (pv 0) rfl))))), ?_⟩
    walk_at "bgo"
    refine ⟨_, _, _, _, _, rfl, e, T.c_Speculations.cl, T.n_Speculations.waiting, rfl, ?_⟩
    exact ⟨_, _, rfl, DGet.k (k := (Sum.inl n : Key)) ew, q⟩
theorem ok_Speculations_add (T : Txt K mg) : FnOk P w K mg base CX0 7 T.p_Speculations_add.f T.p_Speculations_add.fd ["self", "number", "record"] (BF.spSAdd T.c_Buffer.a T.c_ItemRow.a T.c_Speculations.a) := by
  refine T.p_Speculations_add.F.ok sc_Speculations_add (fun vs H Q E h => ?_) (fun cdv A outer s H vs Q E hr h => ?_)
  · obtain ⟨sp, wt, a, b, h, l, S, kvs, n, S1, it, rfl, _⟩ := h
    rfl
  · obtain ⟨sp, wt, a, b, h, l, S, kvs, n, S1, it, rfl, ⟨⟨dx, e⟩, ew⟩, hv, B, ap, O, hl, ha, oa, q⟩ := h
    obtain ⟨⟨dxb, eb⟩, _⟩ := id B
    refine ⟨_, (pss_cons (ps_set (i := 3) sc_Speculations_add.nd rfl (.inl rfl) (pe_meth (pe_dget (hu_of hr) (pe_fld (pv 0) rfl) (pv 1) (fun _ _ => rfl)) T.c_Buffer.cl T.p_Buffer_add.me (ok_Buffer_add T) (hr.mono (by decide)) T.p_Buffer_add.b .nil pass0 (pa_cons (pv 2) pa_nil)))
(pss_cons (ps_if (pt_not (pt_val (pv 3)))
 (pss_one (ps_fldaug (pv 0) pe_int in_add))
 pss_nil)
(pss_one (ps_ret (pv 3))))), ?_⟩
    walk_at "bgo"
    refine ⟨_, _, _, _, _, rfl, e, T.c_Speculations.cl, T.n_Speculations.waiting, rfl, ?_⟩
    walk_at "bgo"
    refine ⟨wt, .ref b, rfl, by have z := DGet.k (k := (Sum.inl n : Key)) ew; rw [hv] at z; exact z, ?_⟩
    refine ⟨_, _, _, rfl, eb, rfl, ?_⟩
    walk_at "bgo"
    refine ⟨b, h, l, a, S1, it, rfl, B, O, hl, ha, oa, fun H1 f1 B1 => ?_⟩
    have e1 := f1 _ _ e (ap sp (by simp))
    have ew1 := f1 _ _ ew (ap wt (by simp))
    have ne : sp ≠ wt := fun z => by rw [z, ew] at e; cases e
    walk_at "bgo"
    cases c : (S1.addB [it]).2 with
    | true =>
      refine R.iteF' Bool.false_ne_true ?_
      walk_at "bgo"
      rw [c] at q
      refine q H1 H1 f1 B1 BF.Fr.refl ⟨⟨dx, ?_⟩, ew1⟩
      rw [if_pos rfl, Int.add_zero]
      exact e1
    | false =>
      refine R.iteT' rfl ?_
      walk_at "bgo"
      refine ⟨_, _, _, _, _, rfl, e1, T.c_Speculations.cl, T.n_Speculations.lost, rfl, ?_⟩
      walk_at "bgo"
      refine ⟨_, _, e1, Nat.le_of_ble_eq_true rfl, ?_⟩
      walk_at "bgo"
      rw [c] at q
      refine q H1 _ f1 B1 (BF.Fr.upd (by simp)) ⟨⟨dx, ?_⟩, by rw [upd_ne ne.symm]; exact ew1⟩
      rw [if_neg Bool.false_ne_true]
      exact upd_same
theorem ok_Speculations_held (T : Txt K mg) : FnOk P w K mg base CX0 3 T.p_Speculations_held.f T.p_Speculations_held.fd ["self", "number"] (BF.spSHeld T.c_Buffer.a T.c_ItemRow.a T.c_Speculations.a) := by
  refine T.p_Speculations_held.F.ok sc_Speculations_held (fun vs H Q E h => ?_) (fun cdv A outer s H vs Q E hr h => ?_)
  · obtain ⟨sp, wt, b, h, l, S, kvs, n, S1, rfl, _⟩ := h
    rfl
  · obtain ⟨sp, wt, b, h, l, S, kvs, n, S1, rfl, ⟨⟨dx, e⟩, ew⟩, hv, B, q⟩ := h
    obtain ⟨⟨dxb, eb⟩, _⟩ := id B
    refine ⟨_, (pss_one (ps_ret (pe_meth0 (pe_dget (hu_of hr) (pe_fld (pv 0) rfl) (pv 1) (fun _ _ => rfl)) T.c_Buffer.cl T.p_Buffer_held.me (ok_Buffer_held T) (hr.mono (by decide)) T.p_Buffer_held.b .nil pass0))), ?_⟩
    walk_at "bgo"
    refine ⟨_, _, _, _, _, rfl, e, T.c_Speculations.cl, T.n_Speculations.waiting, rfl, ?_⟩
    walk_at "bgo"
    refine ⟨wt, .ref b, rfl, by have z := DGet.k (k := (Sum.inl n : Key)) ew; rw [hv] at z; exact z, ?_⟩
    refine ⟨_, _, _, rfl, eb, rfl, ?_⟩
    exact ⟨b, h, l, S1, rfl, B, q⟩
theorem ok_Speculations_commit (T : Txt K mg) : FnOk P w K mg base CX0 6 T.p_Speculations_commit.f T.p_Speculations_commit.fd ["self", "number", "buffer"] (BF.spCommit T.c_Buffer.a T.c_ItemRow.a T.c_Speculations.a) := by
  refine T.p_Speculations_commit.F.ok sc_Speculations_commit (fun vs H Q E h => ?_) (fun cdv A outer s H vs Q E hr h => ?_)
  · obtain ⟨sp, wt, b, h, l, b0, h0, l0, S, kvs, n, S1, S0, rfl, _⟩ := h
    rfl
  · obtain ⟨sp, wt, b, h, l, b0, h0, l0, S, kvs, n, S1, S0, rfl, ⟨⟨dx, e⟩, ew⟩, hv, B, B0, O, hl, O0, hl0, q⟩ := h
    have ne : sp ≠ wt := fun z => by rw [z, ew] at e; cases e
    have kp : MM.KeepT H (upd H wt (.dK (dropK kvs (Sum.inl n)))) := MM.KeepT.upd ew fun _ => nofun
    have kb : ∀ {b h l : Addr} {S : BF.Bs}, BF.BufAt T.c_Buffer.a T.c_ItemRow.a H b h l S → BF.BufAt T.c_Buffer.a T.c_ItemRow.a (upd H wt (.dK (dropK kvs (Sum.inl n)))) b h l S := fun {b h l S} B => by
      obtain ⟨⟨dy, eb⟩, ⟨dy1, eh⟩, ws, el, _⟩ := id B
      exact B.keep kp (fun o e => by rw [upd_ne (fun z => by rw [z, ew] at eb; cases eb)]; exact e) (fun o e => by rw [upd_ne (fun z => by rw [z, ew] at eh; cases eh)]; exact e) (fun o e => by rw [upd_ne (fun z => by rw [z, ew] at el; cases el)]; exact e)
    obtain ⟨⟨dxb, eb⟩, _⟩ := id B0
    refine ⟨_, (pss_one (ps_ret (pe_meth (pv 2) T.c_Buffer.cl T.p_Buffer_add_block.me (ok_Buffer_add_block T) (hr.mono (by decide)) T.p_Buffer_add_block.b .nil pass0 (pa_cons (pe_meth0 (pe_dpop1 (pe_fld (pv 0) rfl) (pv 1) ⟨rfl, rfl, rfl, rfl⟩) T.c_Buffer.cl T.p_Buffer_held.me (ok_Buffer_held T) (hr.mono (by decide)) T.p_Buffer_held.b .nil pass0) pa_nil)))), ?_⟩
    walk_at "bgo"
    refine ⟨_, _, _, rfl, eb, rfl, ?_⟩
    walk_at "bgo"
    refine MM.r_dpop1 ?_
    walk_at "bgo"
    refine ⟨_, _, _, _, _, rfl, e, T.c_Speculations.cl, T.n_Speculations.waiting, rfl, ?_⟩
    refine ⟨wt, rfl, .inl ⟨kvs, .inl ew⟩, ?_⟩
    walk_at "bgo"
    refine ⟨kvs, .inl n, .ref b, ew, rfl, hv, ?_⟩
    have B1 := kb B
    have B01 := kb B0
    have S1' : BF.SpAt T.c_Speculations.a (upd H wt (.dK (dropK kvs (Sum.inl n)))) sp wt S (dropK kvs (.inl n)) := ⟨⟨dx, by rw [upd_ne ne]; exact e⟩, upd_same⟩
    have f1 : BF.Fr [sp, wt] H (upd H wt (.dK (dropK kvs (Sum.inl n)))) := BF.Fr.upd (by simp)
    generalize upd H wt (.dK (dropK kvs (Sum.inl n))) = H1 at *
    obtain ⟨⟨dxc, ec⟩, _⟩ := id B1
    refine ⟨_, _, _, rfl, ec, rfl, ?_⟩
    refine ⟨b, h, l, S1, rfl, B1, fun H2 p ws s2 ep ip => ?_⟩
    walk_at "bgo"
    refine ⟨b0, h0, l0, p, S0, ws, S1.L, rfl, B01.same s2, O0, hl0, ep, ip, O.it, hl, fun H3 f3 B3 => ?_⟩
    exact q H1 H2 H3 f1 S1' s2 f3 B3
theorem ok_Speculations_discard (T : Txt K mg) : FnOk P w K mg base CX0 1 T.p_Speculations_discard.f T.p_Speculations_discard.fd ["self", "number"] (BF.spDiscard T.c_Speculations.a) := by
  refine T.p_Speculations_discard.F.ok sc_Speculations_discard (fun vs H Q E h => ?_) (fun cdv A outer s H vs Q E hr h => ?_)
  · obtain ⟨sp, wt, S, kvs, n, rfl, _⟩ := h
    rfl
  · obtain ⟨sp, wt, S, kvs, n, rfl, ⟨⟨dx, e⟩, ew⟩, hv, q⟩ := h
    have ne : sp ≠ wt := fun z => by rw [z, ew] at e; cases e
    refine ⟨_, (pss_one (ps_ddel (pe_fld (pv 0) rfl) (pv 1))), ?_⟩
    walk_at "bgo"
    refine BF.r_ddel ?_
    walk_at "bgo"
    refine ⟨_, _, _, _, _, rfl, e, T.c_Speculations.cl, T.n_Speculations.waiting, rfl, ?_⟩
    walk_at "bgo"
    refine ⟨wt, kvs, .inl n, rfl, ew, rfl, hv, ?_⟩
    exact q _ (BF.Fr.upd (by simp)) ⟨⟨dx, by rw [upd_ne ne]; exact e⟩, upd_same⟩
end
end K24
end
section
local macro_rules | `(tactic| walk_at "s1") => `(tactic| first
  | ((with_reducible apply R.r_var); · rfl)
  | with_reducible apply R.r_c
  | with_reducible apply R.r_op
  | with_reducible apply R.r_I0
  | with_reducible apply R.r_cb
  | with_reducible apply R.r_cons
  | with_reducible apply R.r_nil
  | with_reducible apply R.r_seq
  | with_reducible apply R.r_asg
  | with_reducible apply R.r_ret
  | with_reducible apply R.r_ifS
  | with_reducible apply R.r_test
  | with_reducible apply R.r_t
  | with_reducible apply R.r_f
  | with_reducible apply R.r_nt
  | with_reducible apply R.r_nf
  | with_reducible apply R.r_bl
  | with_reducible apply R.r_U
  | with_reducible apply R.r_un
  | with_reducible apply R.r_eqI
  | with_reducible apply R.r_eqS
  | with_reducible apply R.r_neI
  | with_reducible apply R.r_neS
  | with_reducible apply R.r_and
  | with_reducible apply R.r_or
  | with_reducible apply R.r_not
  | with_reducible apply R.r_andV
  | with_reducible apply R.r_orV
  | with_reducible apply R.r_notV
  | with_reducible apply R.r_blV
  | with_reducible apply R.r_B
  | with_reducible apply R.r_ifE
  | with_reducible apply R.r_tup
  | with_reducible apply R.r_lst
  | with_reducible apply R.r_call
  | with_reducible apply R.r_drop
  | with_reducible apply R.r_next
  | with_reducible apply R.r_abs
  | with_reducible apply R.r_int1
  | with_reducible apply R.r_int1b
  | with_reducible apply R.r_min2
  | with_reducible apply R.r_bm
  | with_reducible apply R.r_bm0
  | with_reducible apply R.r_dget
  | with_reducible apply R.r_dput
  | with_reducible apply R.r_disp
  | with_reducible apply R.r_pnil
  | with_reducible apply R.r_pcons
  | with_reducible apply R.r_fld
  | with_reducible apply R.r_slice
  | with_reducible apply R.r_nopart
  | with_reducible apply R.r_part
  | with_reducible apply R.r_int
  | with_reducible apply R.r_yes
  | with_reducible apply R.r_retN
  | with_reducible apply R.r_asgG
  | with_reducible apply R.r_gname
  | with_reducible apply R.r_rng1
  | with_reducible apply R.r_brk
  | with_reducible apply R.r_cnt
  | with_reducible apply R.r_m1
  | with_reducible apply R.r_lcr
  | with_reducible apply R.r_p2_63
  | with_reducible apply R.r_p2_64
  | with_reducible apply R.r_p2_32
  | with_reducible apply R.r_p2_31
  | with_reducible apply R.r_p10_18
  | with_reducible apply R.r_p10_30
  | with_reducible refine R.r_mod (by omega) ?_
  | with_reducible refine R.r_div (by omega) ?_
  | with_reducible refine R.r_mulR (by omega) ?_
  | with_reducible refine R.r_mulL (by omega) ?_
  | with_reducible refine R.r_iteY (by decide +kernel) ?_
  | with_reducible refine R.r_iteF (by decide +kernel) ?_
  | with_reducible refine R.r_isi R.isi_int ?_
  | with_reducible refine R.r_isi R.isi_intB ?_)
local macro_rules | `(tactic| walk_at "go") => `(tactic| repeat (walk_at "s1"))

local macro_rules | `(tactic| walk_at "b1") => `(tactic| first
  | walk_at "s1"
  | with_reducible apply MM.r_meth
  | with_reducible apply MM.r_make
  | with_reducible apply MM.r_sfld
  | with_reducible apply MM.r_gsub
  | with_reducible apply MM.r_chain
  | with_reducible apply MM.r_daug
  | with_reducible apply MM.r_add
  | with_reducible apply MM.r_ip
  | with_reducible apply MM.r_din
  | with_reducible apply MM.r_dnotin
  | with_reducible apply BF.r_faug
  | with_reducible apply BF.r_sub)
local macro_rules | `(tactic| walk_at "bgo") => `(tactic| repeat (walk_at "b1"))

namespace K24
open PySem PySem.Spec PyProof.Rows L2
section
variable {P : Program} {w : World} {K : PySem.W.Frag} {mg : Str → Option Value} {base : Heap}
theorem ok_law_begin (T : Txt K mg) : FnOk P w K mg base CX0 6 T.p_law_begin.f T.p_law_begin.fd ["specs", "s"] (BF.spLBegin T.c_Buffer.a T.c_ItemRow.a T.c_Speculations.a) := by
  refine T.p_law_begin.F.ok sc_law_begin (fun vs H Q E h => ?_) (fun cdv A outer s H vs Q E hr h => ?_)
  · obtain ⟨A, r0, S, S0, es, rfl, _⟩ := h
    rfl
  · obtain ⟨A, r0, S, S0, es, rfl, W, hl, q⟩ := h
    obtain ⟨l1, l2⟩ := BF.kv_len (es := es)
    obtain ⟨ed, eo, ndo⟩ := id W.t
    refine ⟨_, (pss_cons (ps_set (i := 2) sc_law_begin.nd rfl (.inl rfl) (pe_meth0 (pv 0) T.c_Speculations.cl T.p_Speculations_begin.me (ok_Speculations_begin T) (hr.mono (by decide)) T.p_Speculations_begin.b .nil pass0))
(pss_cons (ps_if (pt_cmpR op_ge (pe_callB call_lenD (by rfl) T.m_len (by decide +kernel) (pa_cons (pe_dget (hu_of hr) (pv 1) pe_str (fun _ _ => rfl)) pa_nil)) (pe_dget (hu_of hr) (pv 1) pe_str (fun _ _ => rfl)) (nomark _))
 (pss_one (ps_ret (pe_cmpR op_eq (pv 2) pe_int (nomark _))))
 pss_nil)
(pss_cons (ps_dput (hu_of hr) (pv 1) pe_str (pe_op op_add (pe_dget (hu_of hr) (pv 1) pe_str (fun _ _ => rfl)) pe_int) rfl)
(pss_cons (ps_dput (hu_of hr) (pe_dget (hu_of hr) (pv 1) pe_str (fun _ _ => rfl)) (pe_dget (hu_of hr) (pv 1) pe_str (fun _ _ => rfl)) (pe_disp (pps_cons pe_str (pe_dget (hu_of hr) (pv 1) pe_str (fun _ _ => rfl)) (pps_cons pe_str pe_str (pps_cons pe_str (pe_lst pa_nil) (pps_cons pe_str pe_int pps_nil)))) (by rfl) (by rfl) (fun z => by cases z) (by decide)) rfl)
(pss_one (ps_ret (pe_cmpR op_eq (pv 2) (pe_dget (hu_of hr) (pv 1) pe_str (fun _ _ => rfl)) (nomark _)))))))), ?_⟩
    obtain ⟨⟨dxs, eS⟩, ews⟩ := id W.s
    walk_at "bgo"
    refine ⟨_, _, _, rfl, eS, rfl, ?_⟩
    refine ⟨A.sp, A.wt, S, BF.kvB es, rfl, W.s, by omega, fun c => ?_, fun c H1 H2 H3 b h l f1 hb hh hl2 S1 s2 B2 f3 S3 => ?_⟩
    · walk_at "bgo"
      refine R.r_dgetS (v := .ref A.so) ed rfl ?_
      walk_at "bgo"
      refine ⟨_, _, rfl, eo, ?_⟩
      walk_at "bgo"
      refine R.r_dgetS (v := .int S.places) ed rfl ?_
      walk_at "bgo"
      refine R.r_iteY (by omega) ?_
      walk_at "bgo"
      rw [decide_eq_true rfl]
      exact q H S es W (by omega) (by omega) fun e he => .inl he
    · have sep1 := BF.Sep.upd (pre := [BF.obD A.pd A.pr]) (o := BF.obS T.c_Speculations.a A.sp A.wt S (BF.kvB es)) (o' := BF.obS T.c_Speculations.a A.sp A.wt { S with given := S.given + 1 } (BF.kvB es)) W.sep f1 S1 fun _ h => .inl h
      have sep2 := BF.Sep.add (o := BF.obB T.c_Buffer.a T.c_ItemRow.a b h l ⟨S.room, "hold", 0, 0, false, []⟩) sep1 s2 B2 (by
        intro a ha
        simp only [BF.obB, List.mem_cons, List.not_mem_nil, or_false] at ha
        rcases ha with rfl | rfl | rfl
        · exact hb
        · exact hh
        · exact hl2)
      have hnew : ∀ e ∈ es, e.n ≠ S.given + 1 := fun e he => by
        have := W.rng e he
        omega
      have ep1 : putK (BF.kvB es) (Sum.inl (S.given + 1)) (.ref b) = BF.kvB es ++ [((.inl (S.given + 1) : Key), V.ref b)] := BF.putK_new (f := fun e => .ref e.b) hnew
      rw [ep1] at S3
      have sep3 := BF.Sep.upd (pre := [BF.obB T.c_Buffer.a T.c_ItemRow.a b h l ⟨S.room, "hold", 0, 0, false, []⟩, BF.obD A.pd A.pr]) (o := BF.obS T.c_Speculations.a A.sp A.wt { S with given := S.given + 1 } (BF.kvB es)) (o' := BF.obS T.c_Speculations.a A.sp A.wt { S with given := S.given + 1 } (BF.kvB es ++ [((.inl (S.given + 1) : Key), V.ref b)])) sep2 f3 S3 fun _ h => .inl h
      obtain ⟨ed3, eo3, _⟩ := sep3.1 (BF.obT A.sd A.so S (BF.kvM es)) (by simp)
      walk_at "bgo"
      refine R.r_dgetS (v := .ref A.so) ed3 rfl ?_
      walk_at "bgo"
      refine ⟨_, _, rfl, eo3, ?_⟩
      walk_at "bgo"
      refine R.r_dgetS (v := .int S.places) ed3 rfl ?_
      walk_at "bgo"
      refine R.r_iteF (by omega) ?_
      walk_at "bgo"
      refine R.r_dgetS (v := .int S.given) ed3 rfl ?_
      walk_at "bgo"
      refine R.r_dputS ed3 (Nat.le_of_ble_eq_true rfl) BF.put_last ?_
      generalize hu4 : upd H3 A.sd _ = H4
      have ed4 : H4 A.sd = some (.dK (BF.sdv A.so { S with given := S.given + 1 })) := by rw [← hu4]; exact upd_same
      have eo4 : H4 A.so = some (.dK (BF.kvM es)) := by rw [← hu4, upd_ne ndo.symm]; exact eo3
      have sep4 := BF.Sep.upd (pre := [BF.obB T.c_Buffer.a T.c_ItemRow.a b h l ⟨S.room, "hold", 0, 0, false, []⟩, BF.obD A.pd A.pr, BF.obS T.c_Speculations.a A.sp A.wt { S with given := S.given + 1 } (BF.kvB es ++ [((.inl (S.given + 1) : Key), V.ref b)])]) (o := BF.obT A.sd A.so S (BF.kvM es)) (o' := BF.obT A.sd A.so { S with given := S.given + 1 } (BF.kvM es)) (H' := H4) sep3 (hu4 ▸ BF.Fr.upd (by simp [BF.obT])) ⟨ed4, eo4, ndo⟩ fun _ h => .inl h
      walk_at "bgo"
      intro pm hpm
      have s5 := R.same_new (o := .dK []) hpm
      have e5 : upd H4 pm (.dK []) pm = some (.dK []) := upd_same
      generalize upd H4 pm (.dK []) = H5 at *
      walk_at "bgo"
      refine R.r_dgetS (v := .int S.room) (s5 _ _ ed4) rfl ?_
      walk_at "bgo"
      refine ⟨Nat.zero_le _, fun r hr => ?_⟩
      have s6 := R.same_new (o := .lst []) hr
      have e6 : upd H5 r (.lst []) r = some (.lst []) := upd_same
      have nrp : r ≠ pm := fun z => by rw [z, e5] at hr; cases hr
      generalize upd H5 r (.lst []) = H6 at *
      walk_at "bgo"
      have e56 := s6 _ _ e5
      refine ⟨e56, [(.inr "room", _), (.inr "policy", _), (.inr "row", _), (.inr "lost", _)], rfl, Nat.le_of_ble_eq_true rfl, ?_⟩
      have em0 : mergeK [] [((.inr "room" : Key), V.int S.room), (.inr "policy", .str "hold"), (.inr "row", .ref r), (.inr "lost", .int 0)] = BF.mkv r ⟨S.room, "hold", 0, 0, false, []⟩ none := rfl
      rw [em0]
      have M7 : BF.MAt (upd H6 pm (.dK (BF.mkv r ⟨S.room, "hold", 0, 0, false, []⟩ none))) pm r ⟨S.room, "hold", 0, 0, false, []⟩ none := ⟨upd_same, [], by rw [upd_ne nrp]; exact e6, .nil⟩
      have s47 : Same H4 (upd H6 pm (.dK (BF.mkv r ⟨S.room, "hold", 0, 0, false, []⟩ none))) := fun c o e => by
        rw [upd_ne (ne_of_none e hpm)]
        exact s6 _ _ (s5 _ _ e)
      generalize upd H6 pm (.dK (BF.mkv r ⟨S.room, "hold", 0, 0, false, []⟩ none)) = H7 at *
      have sep7 := BF.Sep.add (o := BF.obM pm r ⟨S.room, "hold", 0, 0, false, []⟩ none) sep4 s47 M7 (by
        intro a ha
        simp only [BF.obM, List.mem_cons, List.not_mem_nil, or_false] at ha
        rcases ha with rfl | rfl
        · exact hpm
        · exact s5.free hr)
      have ed7 := s47 _ _ ed4
      have eo7 := s47 _ _ eo4
      walk_at "bgo"
      refine R.r_dgetS (v := .ref A.so) ed7 rfl ?_
      walk_at "bgo"
      refine R.r_dgetS (v := .int (S.given + 1)) ed7 rfl ?_
      refine ⟨_, _, rfl, DPut.k (k := (Sum.inl (S.given + 1) : Key)) eo7 (by show (BF.kvM es).length < sizeLine; exact R.size_lt (by omega)), ?_⟩
      rw [show putK (BF.kvM es) (Sum.inl (S.given + 1)) (.ref pm) = BF.kvM es ++ [((.inl (S.given + 1) : Key), V.ref pm)] from BF.putK_new (f := fun e => .ref e.pm) hnew]
      have ed8 : upd H7 A.so (.dK (BF.kvM es ++ [((.inl (S.given + 1) : Key), V.ref pm)])) A.sd = some (.dK (BF.sdv A.so { S with given := S.given + 1 })) := by rw [upd_ne ndo]; exact ed7
      have sep8 := BF.Sep.upd (pre := [BF.obM pm r ⟨S.room, "hold", 0, 0, false, []⟩ none, BF.obB T.c_Buffer.a T.c_ItemRow.a b h l ⟨S.room, "hold", 0, 0, false, []⟩, BF.obD A.pd A.pr, BF.obS T.c_Speculations.a A.sp A.wt { S with given := S.given + 1 } (BF.kvB es ++ [((.inl (S.given + 1) : Key), V.ref b)])]) (o := BF.obT A.sd A.so { S with given := S.given + 1 } (BF.kvM es)) (o' := BF.obT A.sd A.so { S with given := S.given + 1 } (BF.kvM es ++ [((.inl (S.given + 1) : Key), V.ref pm)])) (H' := upd H7 A.so (.dK (BF.kvM es ++ [((.inl (S.given + 1) : Key), V.ref pm)]))) sep7 (BF.Fr.upd (by simp [BF.obT])) ⟨ed8, upd_same, ndo⟩ fun _ h => .inl h
      generalize upd H7 A.so (.dK (BF.kvM es ++ [((.inl (S.given + 1) : Key), V.ref pm)])) = H8 at *
      walk_at "bgo"
      refine R.r_dgetS (v := .int (S.given + 1)) ed8 rfl ?_
      walk_at "bgo"
      rw [decide_eq_true rfl]
      let e : BF.En := ⟨S.given + 1, b, h, l, pm, r, ⟨S.room, "hold", 0, 0, false, []⟩⟩
      have kB : BF.kvB (es ++ [e]) = BF.kvB es ++ [((.inl (S.given + 1) : Key), V.ref b)] := by unfold BF.kvB; rw [List.map_append]; rfl
      have kM : BF.kvM (es ++ [e]) = BF.kvM es ++ [((.inl (S.given + 1) : Key), V.ref pm)] := by unfold BF.kvM; rw [List.map_append]; rfl
      refine q H8 { S with given := S.given + 1 } (es ++ [e]) ⟨?_, BF.asc_new W.asc fun x hx => ?_, fun x hx => ?_, ?_, W.r0, W.ok0, fun x hx => ?_⟩ (by rw [List.length_append]; exact Nat.le_refl _) (Int.le_refl _) fun x hx => ?_
      · rw [kB, kM, BF.obE_app]
        refine sep8.perm ?_
        refine (List.perm_append_comm (l₁ := [BF.obM pm r ⟨S.room, "hold", 0, 0, false, []⟩ none, BF.obB T.c_Buffer.a T.c_ItemRow.a b h l ⟨S.room, "hold", 0, 0, false, []⟩])).trans ?_
        refine (List.Perm.append_left _ (List.Perm.swap _ _ _)).trans ?_
        exact List.Perm.refl _
      · have := W.rng x hx
        show x.n < S.given + 1
        omega
      · have := W.g0
        rcases List.mem_append.mp hx with z | z
        · have := W.rng x z
          show 1 ≤ x.n ∧ x.n ≤ S.given + 1
          omega
        · rw [List.mem_singleton] at z
          rw [z]
          show 1 ≤ S.given + 1 ∧ S.given + 1 ≤ S.given + 1
          omega
      · have := W.g0
        show 0 ≤ S.given + 1
        omega
      · rcases List.mem_append.mp hx with z | z
        · exact W.ok x z
        · rw [List.mem_singleton] at z
          rw [z]
          exact ⟨.inl rfl, rfl, W.r0, trivial, fun _ h => nomatch h⟩
      · rcases List.mem_append.mp hx with z | z
        · exact .inl z
        · rw [List.mem_singleton] at z
          rw [z]
          exact .inr rfl
end
end K24
end
section
local macro_rules | `(tactic| walk_at "s1") => `(tactic| first
  | ((with_reducible apply R.r_var); · rfl)
  | with_reducible apply R.r_c
  | with_reducible apply R.r_op
  | with_reducible apply R.r_I0
  | with_reducible apply R.r_cb
  | with_reducible apply R.r_cons
  | with_reducible apply R.r_nil
  | with_reducible apply R.r_seq
  | with_reducible apply R.r_asg
  | with_reducible apply R.r_ret
  | with_reducible apply R.r_ifS
  | with_reducible apply R.r_test
  | with_reducible apply R.r_t
  | with_reducible apply R.r_f
  | with_reducible apply R.r_nt
  | with_reducible apply R.r_nf
  | with_reducible apply R.r_bl
  | with_reducible apply R.r_U
  | with_reducible apply R.r_un
  | with_reducible apply R.r_eqI
  | with_reducible apply R.r_eqS
  | with_reducible apply R.r_neI
  | with_reducible apply R.r_neS
  | with_reducible apply R.r_and
  | with_reducible apply R.r_or
  | with_reducible apply R.r_not
  | with_reducible apply R.r_andV
  | with_reducible apply R.r_orV
  | with_reducible apply R.r_notV
  | with_reducible apply R.r_blV
  | with_reducible apply R.r_B
  | with_reducible apply R.r_ifE
  | with_reducible apply R.r_tup
  | with_reducible apply R.r_lst
  | with_reducible apply R.r_call
  | with_reducible apply R.r_drop
  | with_reducible apply R.r_next
  | with_reducible apply R.r_abs
  | with_reducible apply R.r_int1
  | with_reducible apply R.r_int1b
  | with_reducible apply R.r_min2
  | with_reducible apply R.r_bm
  | with_reducible apply R.r_bm0
  | with_reducible apply R.r_dget
  | with_reducible apply R.r_dput
  | with_reducible apply R.r_disp
  | with_reducible apply R.r_pnil
  | with_reducible apply R.r_pcons
  | with_reducible apply R.r_fld
  | with_reducible apply R.r_slice
  | with_reducible apply R.r_nopart
  | with_reducible apply R.r_part
  | with_reducible apply R.r_int
  | with_reducible apply R.r_yes
  | with_reducible apply R.r_retN
  | with_reducible apply R.r_asgG
  | with_reducible apply R.r_gname
  | with_reducible apply R.r_rng1
  | with_reducible apply R.r_brk
  | with_reducible apply R.r_cnt
  | with_reducible apply R.r_m1
  | with_reducible apply R.r_lcr
  | with_reducible apply R.r_p2_63
  | with_reducible apply R.r_p2_64
  | with_reducible apply R.r_p2_32
  | with_reducible apply R.r_p2_31
  | with_reducible apply R.r_p10_18
  | with_reducible apply R.r_p10_30
  | with_reducible refine R.r_mod (by omega) ?_
  | with_reducible refine R.r_div (by omega) ?_
  | with_reducible refine R.r_mulR (by omega) ?_
  | with_reducible refine R.r_mulL (by omega) ?_
  | with_reducible refine R.r_iteY (by decide +kernel) ?_
  | with_reducible refine R.r_iteF (by decide +kernel) ?_
  | with_reducible refine R.r_isi R.isi_int ?_
  | with_reducible refine R.r_isi R.isi_intB ?_)
local macro_rules | `(tactic| walk_at "go") => `(tactic| repeat (walk_at "s1"))

local macro_rules | `(tactic| walk_at "b1") => `(tactic| first
  | walk_at "s1"
  | with_reducible apply MM.r_meth
  | with_reducible apply MM.r_make
  | with_reducible apply MM.r_sfld
  | with_reducible apply MM.r_gsub
  | with_reducible apply MM.r_chain
  | with_reducible apply MM.r_daug
  | with_reducible apply MM.r_add
  | with_reducible apply MM.r_ip
  | with_reducible apply MM.r_din
  | with_reducible apply MM.r_dnotin
  | with_reducible apply BF.r_faug
  | with_reducible apply BF.r_sub)
local macro_rules | `(tactic| walk_at "bgo") => `(tactic| repeat (walk_at "b1"))

namespace K24
open PySem PySem.Spec PyProof.Rows L2
section
variable {P : Program} {w : World} {K : PySem.W.Frag} {mg : Str → Option Value} {base : Heap}
theorem ok_law_deed (T : Txt K mg) : FnOk P w K mg base CX0 8 T.p_law_deed.f T.p_law_deed.fd ["draws", "specs", "s", "buffer", "m"] (BF.spDeed24 T.c_Buffer.a T.c_ItemRow.a T.c_Speculations.a) := by
  refine T.p_law_deed.F.ok sc_law_deed (fun vs H Q E h => ?_) (fun cdv A outer s H vs Q E hr h => ?_)
  · obtain ⟨A, r0, S, S0, es, k, rfl, _⟩ := h
    rfl
  · obtain ⟨A, r0, S, S0, es, k, rfl, W, hl, hS0, hS, hk, hgv, q⟩ := h
    refine ⟨_, (pss_cons (ps_set (i := 5) sc_law_deed.nd rfl (.inl rfl) (pe_call (ok_law_next T) (hr.mono (by decide)) (by rfl) T.p_law_next.g T.p_law_next.F.kp T.p_law_next.b .nil pass0 (pa_cons (pv 0) (pa_cons pe_int pa_nil))))
(pss_cons (ps_set (i := 6) sc_law_deed.nd rfl (.inl rfl) (pe_callB (call_sortedDI rfl) (by rfl) T.m_sorted (by decide +kernel) (pa_cons (pe_dget (hu_of hr) (pv 2) pe_str (fun _ _ => rfl)) pa_nil)))
(pss_cons (ps_if ((pw_or (pt_cmpR op_lt (pv 5) pe_int (nomark _)) (pw_or1 (pt_cmpR op_eq (pe_callB R.cLenS (by rfl) T.m_len (by decide +kernel) (pa_cons (pv 6) pa_nil)) pe_int (nomark _))))).pt
 (pss_one (ps_ret (pe_call (ok_law_begin T) (hr.mono (by decide)) (by rfl) T.p_law_begin.g T.p_law_begin.F.kp T.p_law_begin.b .nil pass0 (pa_cons (pv 1) (pa_cons (pv 2) pa_nil)))))
 pss_nil)
(pss_cons (ps_set (i := 7) sc_law_deed.nd rfl (.inl rfl) (pe_ix ix_list (pv 6) (pe_call (ok_law_next T) (hr.mono (by decide)) (by rfl) T.p_law_next.g T.p_law_next.F.kp T.p_law_next.b .nil pass0 (pa_cons (pv 0) (pa_cons (pe_callB R.cLenS (by rfl) T.m_len (by decide +kernel) (pa_cons (pv 6) pa_nil)) pa_nil))) (fun _ _ => rfl)))
(pss_cons (ps_if (pt_cmpR op_lt (pv 5) pe_int (nomark _))
 (pss_cons (ps_set (i := 8) sc_law_deed.nd rfl (.inl rfl) (pe_call (ok_law_record T) (hr.mono (by decide)) (by rfl) T.p_law_record.g T.p_law_record.F.kp T.p_law_record.b .nil pass0 (pa_cons (pv 0) pa_nil)))
(pss_cons (ps_set (i := 9) sc_law_deed.nd rfl (.inl rfl) (pe_call (ok_law_add T) (hr.mono (by decide)) (by rfl) T.p_law_add.g T.p_law_add.F.kp T.p_law_add.b .nil pass0 (pa_cons (pe_dget (hu_of hr) (pe_dget (hu_of hr) (pv 2) pe_str (fun _ _ => rfl)) (pv 7) (fun _ _ => rfl)) (pa_cons (pv 8) pa_nil))))
(pss_cons (ps_dput (hu_of hr) (pv 2) pe_str (pe_op op_add (pe_dget (hu_of hr) (pv 2) pe_str (fun _ _ => rfl)) (pe_callTy R.cInt1 (by rfl) T.m_int (by decide +kernel) (pa_cons (pe_not (pv 9)) pa_nil))) rfl)
(pss_one (ps_ret (pe_cmpR op_eq (pe_meth (pv 1) T.c_Speculations.cl T.p_Speculations_add.me (ok_Speculations_add T) (hr.mono (by decide)) T.p_Speculations_add.b .nil pass0 (pa_cons (pv 7) (pa_cons (pv 8) pa_nil))) (pv 9) (nomark _)))))))
 pss_nil)
(pss_cons (ps_if (pt_cmpR op_eq (pv 5) pe_int (nomark _))
 (pss_cons (ps_set (i := 8) sc_law_deed.nd rfl (.inl rfl) (pe_call (ok_law_record T) (hr.mono (by decide)) (by rfl) T.p_law_record.g T.p_law_record.F.kp T.p_law_record.b .nil pass0 (pa_cons (pv 0) pa_nil)))
(pss_one (ps_ret (pe_cmpR op_eq (pe_meth (pv 3) T.c_Buffer.cl T.p_Buffer_add.me (ok_Buffer_add T) (hr.mono (by decide)) T.p_Buffer_add.b .nil pass0 (pa_cons (pv 8) pa_nil)) (pe_call (ok_law_add T) (hr.mono (by decide)) (by rfl) T.p_law_add.g T.p_law_add.F.kp T.p_law_add.b .nil pass0 (pa_cons (pv 4) (pa_cons (pv 8) pa_nil))) (nomark _)))))
 pss_nil)
(pss_cons (ps_set (i := 10) sc_law_deed.nd rfl (.inl rfl) (pe_dget (hu_of hr) (pe_dpop1 (pe_dget (hu_of hr) (pv 2) pe_str (fun _ _ => rfl)) (pv 7) ⟨rfl, rfl, rfl, rfl⟩) pe_str (fun _ _ => rfl)))
(pss_cons (ps_if (pt_cmpR op_eq (pv 5) pe_int (nomark _))
 (pss_one (ps_ret (pe_cmpR op_isN (pe_meth (pv 1) T.c_Speculations.cl T.p_Speculations_discard.me (ok_Speculations_discard T) (hr.mono (by decide)) T.p_Speculations_discard.b .nil pass0 (pa_cons (pv 7) pa_nil)) pe_non (nomark _))))
 pss_nil)
(pss_one (ps_ret (pe_cmpR op_eq (pe_meth (pv 1) T.c_Speculations.cl T.p_Speculations_commit.me (ok_Speculations_commit T) (hr.mono (by decide)) T.p_Speculations_commit.b .nil pass0 (pa_cons (pv 7) (pa_cons (pv 3) pa_nil))) (pe_call (ok_law_add_block T) (hr.mono (by decide)) (by rfl) T.p_law_add_block.g T.p_law_add_block.F.kp T.p_law_add_block.b .nil pass0 (pa_cons (pv 4) (pa_cons (pe_callTy MM.cTupOf (by rfl) T.m_tuple (by decide +kernel) (pa_cons (pv 10) pa_nil)) pa_nil))) (nomark _)))))))))))), ?_⟩
    walk_at "bgo"
    refine ⟨A.pd, A.pr, 9, rfl, by decide, W.d, fun pick H1 _ _ g1 => ?_⟩
    have W1 := W.draw g1
    obtain ⟨ed1, eo1, ndo⟩ := id W1.t
    walk_at "bgo"
    refine R.r_dgetS (v := .ref A.so) ed1 rfl ?_
    walk_at "bgo"
    refine ⟨A.so, BF.kvM es, es.map (·.n), rfl, .inl eo1, by unfold BF.kvM; rw [List.map_map, List.map_map]; rfl, by rw [List.length_map]; omega, fun ys p hperm hsort hp => ?_⟩
    have s2 := R.same_new (o := .lst (ys.map V.int)) hp
    have ep : upd H1 p (.lst (ys.map V.int)) p = some (.lst (ys.map V.int)) := upd_same
    have W2 := W1.same s2
    generalize upd H1 p (.lst (ys.map V.int)) = H2 at *
    have ly : ys.length = es.length := by rw [hperm.length_eq, List.length_map]
    obtain ⟨⟨dxs, eS⟩, ews⟩ := id W2.s
    have beg : ∀ H' P' es', BF.Wo T.c_Buffer.a T.c_ItemRow.a T.c_Speculations.a H' A r0 P' S0 es' → es'.length ≤ es.length + 1 → P'.given ≤ S.given + 1 → (∀ e ∈ es', e ∈ es ∨ e.S.L = []) → Q (.bl true) H' := fun H' P' es' W' l' lg he => q H' r0 P' S0 es' W' (by omega) (by omega) (by omega) fun e h => by
      rcases he e h with z | z
      · have := hS e z
        omega
      · rw [z]; simp
    walk_at "bgo"
    refine R.r_ite (fun c1 => ?_) (fun c1 => ?_)
    · walk_at "bgo"
      exact ⟨A, r0, S, S0, es, rfl, W2, by omega, beg⟩
    walk_at "bgo"
    refine R.r_lenL (R.sqL ep) ?_
    walk_at "bgo"
    rw [List.length_map]
    refine R.r_ite (fun c2 => ?_) (fun c2 => ?_)
    · walk_at "bgo"
      exact ⟨A, r0, S, S0, es, rfl, W2, by omega, beg⟩
    walk_at "bgo"
    refine R.r_lenL (R.sqL ep) ?_
    walk_at "bgo"
    rw [List.length_map]
    refine ⟨A.pd, A.pr, _, rfl, by omega, W2.d, fun j H3 j0 j1 g3 => ?_⟩
    have W3 := W2.draw g3
    have npd : p ≠ A.pd := fun z => by
      obtain ⟨ds, n, z', e, _⟩ := W1.d
      rw [z, e] at hp
      cases hp
    have ep3 := g3.1 _ _ ep npd
    have hj : j.toNat < ys.length := by omega
    refine R.r_ixL (v := .int ys[j.toNat]) (R.sqL ep3) (R.at_nat j0 (by rw [List.getElem?_map, List.getElem?_eq_getElem hj]; rfl)) ?_
    have hmem : ys[j.toNat] ∈ es.map (·.n) := hperm.mem_iff.mp (List.getElem_mem hj)
    obtain ⟨e, he, hen⟩ := List.mem_map.mp hmem
    obtain ⟨pre, post, rfl⟩ := List.append_of_mem he
    rw [← hen]
    have he' := hS e he
    have oke := W.ok e he
    walk_at "bgo"
    refine R.r_ite (fun c3 => ?_) (fun c3 => ?_)
    · walk_at "bgo"
      refine ⟨A.pd, A.pr, rfl, W3.d, fun H4 a it g4 ha hit oit => ?_⟩
      have W4 := W3.draw g4
      obtain ⟨ed4, eo4, _⟩ := id W4.t
      walk_at "bgo"
      refine R.r_dgetS (v := .ref A.so) ed4 rfl ?_
      walk_at "bgo"
      refine ⟨A.so, .ref e.pm, rfl, by have z := DGet.k (k := (Sum.inl e.n : Key)) eo4; rw [W4.vM] at z; exact z, ?_⟩
      walk_at "bgo"
      refine ⟨e.pm, e.r, a, e.S, none, it, rfl, W4.em, oke, by omega, ha, hit, oit, fun H5 r5 m5 M5 hr5 => ?_⟩
      have k5 := W4.em.keepT m5
      have sep4 := W4.sep
      rw [BF.obE_app, BF.obE_cons] at sep4
      have sep5 := BF.Sep.upd (pre := [BF.obD A.pd A.pr, BF.obS T.c_Speculations.a A.sp A.wt S (BF.kvB (pre ++ e :: post)), BF.obT A.sd A.so S (BF.kvM (pre ++ e :: post)), BF.obB T.c_Buffer.a T.c_ItemRow.a A.b0 A.h0 A.l0 S0, BF.obM A.pm0 r0 S0 none] ++ (BF.obE T.c_Buffer.a T.c_ItemRow.a pre ++ [BF.obB T.c_Buffer.a T.c_ItemRow.a e.b e.h e.l e.S])) (o := BF.obM e.pm e.r e.S none) (o' := BF.obM e.pm r5 (e.S.addB [it]).1 none) (post := BF.obE T.c_Buffer.a T.c_ItemRow.a post) (by simpa using sep4) (BF.Fr.mv m5 (by simp [BF.obM])) M5 (by
        intro c hc
        simp only [BF.obM, List.mem_cons, List.not_mem_nil, or_false] at hc ⊢
        rcases hc with rfl | rfl
        · exact .inl (.inl rfl)
        · exact hr5.imp .inr id)
      obtain ⟨ed5, eo5, _⟩ := sep5.1 (BF.obT A.sd A.so S (BF.kvM (pre ++ e :: post))) (by simp)
      walk_at "bgo"
      refine R.r_dgetS (v := .int S.lost) ed5 rfl ?_
      walk_at "bgo"
      refine R.r_dputS ed5 (Nat.le_of_ble_eq_true rfl) BF.put_slost ?_
      generalize hu6 : upd H5 A.sd _ = H6
      have ed6 : H6 A.sd = some (.dK (BF.sdv A.so { S with lost := S.lost + (if (!(e.S.addB [it]).2) = true then 1 else 0) })) := by rw [← hu6]; exact upd_same
      have eo6 : H6 A.so = some (.dK (BF.kvM (pre ++ e :: post))) := by rw [← hu6, upd_ne ndo.symm]; exact eo5
      have k6 : MM.KeepT H5 H6 := hu6 ▸ MM.KeepT.upd ed5 fun _ => nofun
      have sep6 := BF.Sep.upd (pre := [BF.obD A.pd A.pr, BF.obS T.c_Speculations.a A.sp A.wt S (BF.kvB (pre ++ e :: post))]) (o := BF.obT A.sd A.so S (BF.kvM (pre ++ e :: post))) (o' := BF.obT A.sd A.so { S with lost := S.lost + (if (!(e.S.addB [it]).2) = true then 1 else 0) } (BF.kvM (pre ++ e :: post))) (H' := H6) sep5 (hu6 ▸ BF.Fr.upd (by simp [BF.obT])) ⟨ed6, eo6, ndo⟩ fun _ h => .inl h
      have S6 := sep6.1 (BF.obS T.c_Speculations.a A.sp A.wt S (BF.kvB (pre ++ e :: post))) (by simp)
      have B6 := sep6.1 (BF.obB T.c_Buffer.a T.c_ItemRow.a e.b e.h e.l e.S) (by simp)
      obtain ⟨⟨dx6, eS6⟩, ew6⟩ := id S6
      walk_at "bgo"
      refine ⟨_, _, _, rfl, eS6, rfl, ?_⟩
      walk_at "bgo"
      refine ⟨A.sp, A.wt, a, e.b, e.h, e.l, S, _, e.n, e.S, it, rfl, S6, W4.vB, B6, ?_, oke, by omega, (ha.keep k5).keep k6, oit, fun H7 H8 f7 B7 f8 S8 => ?_⟩
      · obtain ⟨⟨dy, eb⟩, ⟨dy1, eh⟩, ws, el, _⟩ := id B6
        have ap := BF.Sep.apart (pre := [BF.obD A.pd A.pr]) (o := BF.obS T.c_Speculations.a A.sp A.wt S (BF.kvB (pre ++ e :: post))) sep6 (BF.obB T.c_Buffer.a T.c_ItemRow.a e.b e.h e.l e.S) (by simp)
        intro c hc hd
        exact ap c hd hc
      have sep7 := BF.Sep.upd (pre := [BF.obD A.pd A.pr, BF.obS T.c_Speculations.a A.sp A.wt S (BF.kvB (pre ++ e :: post)), BF.obT A.sd A.so { S with lost := S.lost + (if (!(e.S.addB [it]).2) = true then 1 else 0) } (BF.kvM (pre ++ e :: post)), BF.obB T.c_Buffer.a T.c_ItemRow.a A.b0 A.h0 A.l0 S0, BF.obM A.pm0 r0 S0 none] ++ BF.obE T.c_Buffer.a T.c_ItemRow.a pre) (o := BF.obB T.c_Buffer.a T.c_ItemRow.a e.b e.h e.l e.S) (o' := BF.obB T.c_Buffer.a T.c_ItemRow.a e.b e.h e.l (e.S.addB [it]).1) (post := BF.obM e.pm r5 (e.S.addB [it]).1 none :: BF.obE T.c_Buffer.a T.c_ItemRow.a post) (by simpa using sep6) f7 B7 fun _ h => .inl h
      have sep8 := BF.Sep.upd (pre := [BF.obD A.pd A.pr]) (o := BF.obS T.c_Speculations.a A.sp A.wt S (BF.kvB (pre ++ e :: post))) (o' := BF.obS T.c_Speculations.a A.sp A.wt { S with lost := S.lost + (if (e.S.addB [it]).2 = true then 0 else 1) } (BF.kvB (pre ++ e :: post))) sep7 f8 S8 fun _ h => .inl h
      walk_at "bgo"
      refine BF.r_eqB ?_
      rw [decide_eq_true rfl]
      have el : (if (!(e.S.addB [it]).2) = true then (1 : Int) else 0) = if (e.S.addB [it]).2 = true then 0 else 1 := by cases (e.S.addB [it]).2 <;> rfl
      rw [el] at sep8
      let e2 : BF.En := { e with r := r5, S := (e.S.addB [it]).1 }
      have kB : BF.kvB (pre ++ e2 :: post) = BF.kvB (pre ++ e :: post) := by unfold BF.kvB; rw [List.map_append, List.map_append]; rfl
      have kM : BF.kvM (pre ++ e2 :: post) = BF.kvM (pre ++ e :: post) := by unfold BF.kvM; rw [List.map_append, List.map_append]; rfl
      have memE : ∀ x ∈ pre ++ e2 :: post, x ∈ pre ++ e :: post ∨ x = e2 := fun x hx => by
        rcases List.mem_append.mp hx with z | z
        · exact .inl (List.mem_append_left _ z)
        · rcases List.mem_cons.mp z with z | z
          · exact .inr z
          · exact .inl (List.mem_append_right _ (List.mem_cons_of_mem _ z))
      have ok2 : (e.S.addB [it]).1.ok := BF.Bs.addB_ok oke fun y hy => by rw [List.mem_singleton] at hy; rw [hy]; exact oit
      refine q H8 r0 { S with lost := S.lost + (if (e.S.addB [it]).2 = true then 0 else 1) } S0 (pre ++ e2 :: post) ⟨?_, BF.asc_chg W.asc rfl, fun x hx => ?_, W.g0, W.r0, W.ok0, fun x hx => ?_⟩ (by rw [List.length_append, List.length_cons] at hl ⊢; omega) (show S.given ≤ (k : Int) + 1 by omega) (by omega) fun x hx => ?_
      · rw [kB, kM, BF.obE_app, BF.obE_cons]
        exact sep8
      · rcases memE x hx with z | z
        · exact W.rng x z
        · rw [z]; exact W.rng e he
      · rcases memE x hx with z | z
        · exact W.ok x z
        · rw [z]; exact ok2
      · rcases memE x hx with z | z
        · have := hS x z
          omega
        · rw [z]
          have := BF.Bs.addB_len (M := [it]) oke
          simp only [List.length_cons, List.length_nil] at this
          show (e.S.addB [it]).1.L.length ≤ _
          omega
    walk_at "bgo"
    refine R.r_ite (fun c4 => ?_) (fun c4 => ?_)
    · walk_at "bgo"
      refine ⟨A.pd, A.pr, rfl, W3.d, fun H4 a it g4 ha hit oit => ?_⟩
      have W4 := W3.draw g4
      obtain ⟨⟨dy, eb⟩, _⟩ := id W4.b
      walk_at "bgo"
      refine ⟨_, _, _, rfl, eb, rfl, ?_⟩
      walk_at "bgo"
      refine ⟨A.b0, A.h0, A.l0, a, S0, it, rfl, W4.b, W4.ok0, by omega, ha, oit, fun H5 f5 B5 => ?_⟩
      have k5 := W4.b.keepT f5
      have sep5 := BF.Sep.upd (pre := [BF.obD A.pd A.pr, BF.obS T.c_Speculations.a A.sp A.wt S (BF.kvB (pre ++ e :: post)), BF.obT A.sd A.so S (BF.kvM (pre ++ e :: post))]) (o := BF.obB T.c_Buffer.a T.c_ItemRow.a A.b0 A.h0 A.l0 S0) (o' := BF.obB T.c_Buffer.a T.c_ItemRow.a A.b0 A.h0 A.l0 (S0.addB [it]).1) W4.sep f5 B5 fun _ h => .inl h
      have M5 := sep5.1 (BF.obM A.pm0 r0 S0 none) (by simp)
      walk_at "bgo"
      refine ⟨A.pm0, r0, a, S0, none, it, rfl, M5, W4.ok0, by omega, ha.keep k5, hit, oit, fun H6 r6 m6 M6 hr6 => ?_⟩
      have sep6 := BF.Sep.upd (pre := [BF.obD A.pd A.pr, BF.obS T.c_Speculations.a A.sp A.wt S (BF.kvB (pre ++ e :: post)), BF.obT A.sd A.so S (BF.kvM (pre ++ e :: post)), BF.obB T.c_Buffer.a T.c_ItemRow.a A.b0 A.h0 A.l0 (S0.addB [it]).1]) (o := BF.obM A.pm0 r0 S0 none) (o' := BF.obM A.pm0 r6 (S0.addB [it]).1 none) sep5 (BF.Fr.mv m6 (by simp [BF.obM])) M6 (by
        intro c hc
        simp only [BF.obM, List.mem_cons, List.not_mem_nil, or_false] at hc ⊢
        rcases hc with rfl | rfl
        · exact .inl (.inl rfl)
        · exact hr6.imp .inr id)
      refine BF.r_eqB ?_
      rw [decide_eq_true rfl]
      refine q H6 r6 S (S0.addB [it]).1 (pre ++ e :: post) ⟨sep6, W.asc, W.rng, W.g0, W.r0, BF.Bs.addB_ok W.ok0 fun y hy => by rw [List.mem_singleton] at hy; rw [hy]; exact oit, W.ok⟩ (by omega) (show S.given ≤ (k : Int) + 1 by omega) ?_ fun x hx => by have := hS x hx; omega
      have := BF.Bs.addB_len (M := [it]) W.ok0
      simp only [List.length_cons, List.length_nil] at this
      omega
    obtain ⟨ed3, eo3, _⟩ := id W3.t
    walk_at "bgo"
    refine MM.r_dpop1 ?_
    walk_at "bgo"
    refine R.r_dgetS (v := .ref A.so) ed3 rfl ?_
    refine ⟨A.so, rfl, .inl ⟨_, .inl eo3⟩, ?_⟩
    walk_at "bgo"
    refine ⟨_, .inl e.n, .ref e.pm, eo3, rfl, W3.vM, ?_⟩
    rw [show dropK (BF.kvM (pre ++ e :: post)) (.inl e.n) = BF.kvM (pre ++ post) from BF.dropK_at (f := fun e => .ref e.pm) W.asc]
    have ed4 : upd H3 A.so (.dK (BF.kvM (pre ++ post))) A.sd = some (.dK (BF.sdv A.so S)) := by rw [upd_ne ndo]; exact ed3
    have sep4 := BF.Sep.upd (pre := [BF.obD A.pd A.pr, BF.obS T.c_Speculations.a A.sp A.wt S (BF.kvB (pre ++ e :: post))]) (o := BF.obT A.sd A.so S (BF.kvM (pre ++ e :: post))) (o' := BF.obT A.sd A.so S (BF.kvM (pre ++ post))) (H' := upd H3 A.so (.dK (BF.kvM (pre ++ post)))) W3.sep (BF.Fr.upd (by simp [BF.obT])) ⟨ed4, upd_same, ndo⟩ fun _ h => .inl h
    generalize upd H3 A.so (.dK (BF.kvM (pre ++ post))) = H4 at *
    rw [BF.obE_app, BF.obE_cons] at sep4
    have M4 := sep4.1 (BF.obM e.pm e.r e.S none) (by simp)
    have B4 := sep4.1 (BF.obB T.c_Buffer.a T.c_ItemRow.a e.b e.h e.l e.S) (by simp)
    have B04 := sep4.1 (BF.obB T.c_Buffer.a T.c_ItemRow.a A.b0 A.h0 A.l0 S0) (by simp)
    have S4 := sep4.1 (BF.obS T.c_Speculations.a A.sp A.wt S (BF.kvB (pre ++ e :: post))) (by simp)
    obtain ⟨⟨dx4, eS4⟩, ew4⟩ := id S4
    walk_at "bgo"
    refine R.r_dgetS (v := .ref e.r) M4.1 rfl ?_
    have dr : dropK (BF.kvB (pre ++ e :: post)) (.inl e.n) = BF.kvB (pre ++ post) := BF.dropK_at (f := fun e => .ref e.b) W.asc
    have memP : ∀ x ∈ pre ++ post, x ∈ pre ++ e :: post := fun x hx => by
      rcases List.mem_append.mp hx with z | z
      · exact List.mem_append_left _ z
      · exact List.mem_append_right _ (List.mem_cons_of_mem _ z)
    have lP : (pre ++ post).length ≤ k := by
      rw [List.length_append, List.length_cons] at hl
      rw [List.length_append]
      omega
    walk_at "bgo"
    refine R.r_ite (fun c5 => ?_) (fun c5 => ?_)
    · walk_at "bgo"
      refine ⟨_, _, _, rfl, eS4, rfl, ?_⟩
      walk_at "bgo"
      refine ⟨A.sp, A.wt, S, _, e.n, rfl, S4, by rw [W3.vB]; rfl, fun H5 f5 S5 => ?_⟩
      rw [dr] at S5
      have sep5 := BF.Sep.upd (pre := [BF.obD A.pd A.pr]) (o := BF.obS T.c_Speculations.a A.sp A.wt S (BF.kvB (pre ++ e :: post))) (o' := BF.obS T.c_Speculations.a A.sp A.wt S (BF.kvB (pre ++ post))) sep4 f5 S5 fun _ h => .inl h
      have sep6 := BF.Sep.drop (pre := [BF.obD A.pd A.pr, BF.obS T.c_Speculations.a A.sp A.wt S (BF.kvB (pre ++ post)), BF.obT A.sd A.so S (BF.kvM (pre ++ post)), BF.obB T.c_Buffer.a T.c_ItemRow.a A.b0 A.h0 A.l0 S0, BF.obM A.pm0 r0 S0 none] ++ BF.obE T.c_Buffer.a T.c_ItemRow.a pre) (o := BF.obB T.c_Buffer.a T.c_ItemRow.a e.b e.h e.l e.S) (post := BF.obM e.pm e.r e.S none :: BF.obE T.c_Buffer.a T.c_ItemRow.a post) (by simpa using sep5)
      have sep7 := BF.Sep.drop (pre := [BF.obD A.pd A.pr, BF.obS T.c_Speculations.a A.sp A.wt S (BF.kvB (pre ++ post)), BF.obT A.sd A.so S (BF.kvM (pre ++ post)), BF.obB T.c_Buffer.a T.c_ItemRow.a A.b0 A.h0 A.l0 S0, BF.obM A.pm0 r0 S0 none] ++ BF.obE T.c_Buffer.a T.c_ItemRow.a pre) (o := BF.obM e.pm e.r e.S none) (post := BF.obE T.c_Buffer.a T.c_ItemRow.a post) sep6
      walk_at "bgo"
      refine R.r_isN ?_
      rw [decide_eq_true rfl]
      exact q H5 r0 S S0 (pre ++ post) ⟨by rw [BF.obE_app]; exact sep7, BF.asc_drop W.asc, fun x hx => W.rng x (memP x hx), W.g0, W.r0, W.ok0, fun x hx => W.ok x (memP x hx)⟩ (by omega) (show S.given ≤ (k : Int) + 1 by omega) (by omega) fun x hx => by have := hS x (memP x hx); omega
    walk_at "bgo"
    refine ⟨_, _, _, rfl, eS4, rfl, ?_⟩
    walk_at "bgo"
    have apS : ∀ c ∈ [A.sp, A.wt], c ∉ [A.pm0, r0] := fun c hc hd => by
      have ap := BF.Sep.apart (pre := [BF.obD A.pd A.pr]) (o := BF.obS T.c_Speculations.a A.sp A.wt S (BF.kvB (pre ++ e :: post))) sep4 (BF.obM A.pm0 r0 S0 none) (by simp)
      exact ap c hd hc
    refine ⟨A.sp, A.wt, e.b, e.h, e.l, A.b0, A.h0, A.l0, S, _, e.n, e.S, S0, rfl, S4, W3.vB, B4, B04, oke, by omega, W.ok0, by omega, fun H5 H6 H7 f5 S5 s6 f7 B7 => ?_⟩
    rw [dr] at S5
    have sep5 := BF.Sep.upd (pre := [BF.obD A.pd A.pr]) (o := BF.obS T.c_Speculations.a A.sp A.wt S (BF.kvB (pre ++ e :: post))) (o' := BF.obS T.c_Speculations.a A.sp A.wt S (BF.kvB (pre ++ post))) sep4 f5 S5 fun _ h => .inl h
    have sep6 := sep5.same s6
    have sep7 := BF.Sep.upd (pre := [BF.obD A.pd A.pr, BF.obS T.c_Speculations.a A.sp A.wt S (BF.kvB (pre ++ post)), BF.obT A.sd A.so S (BF.kvM (pre ++ post))]) (o := BF.obB T.c_Buffer.a T.c_ItemRow.a A.b0 A.h0 A.l0 S0) (o' := BF.obB T.c_Buffer.a T.c_ItemRow.a A.b0 A.h0 A.l0 (S0.addB e.S.L).1) sep6 f7 B7 fun _ h => .inl h
    have M7 := sep7.1 (BF.obM A.pm0 r0 S0 none) (by simp)
    have Me7 := sep7.1 (BF.obM e.pm e.r e.S none) (by simp)
    obtain ⟨_, we, ere, ire⟩ := id Me7
    walk_at "bgo"
    refine ⟨_, _, rfl, .inl ⟨R.sqL ere, fun t ht => ?_⟩⟩
    have s8 := R.same_new (o := .tup we) ht
    have et : upd H7 t (.tup we) t = some (.tup we) := upd_same
    generalize upd H7 t (.tup we) = H8 at *
    have sep8 := sep7.same s8
    walk_at "bgo"
    refine ⟨A.pm0, r0, t, S0, none, we, e.S.L, rfl, M7.same s8, W.ok0, by omega, et, ire.keep (MM.KeepT.of s8), oke.it, by omega, fun H9 r9 m9 M9 hr9 => ?_⟩
    have sep9 := BF.Sep.upd (pre := [BF.obD A.pd A.pr, BF.obS T.c_Speculations.a A.sp A.wt S (BF.kvB (pre ++ post)), BF.obT A.sd A.so S (BF.kvM (pre ++ post)), BF.obB T.c_Buffer.a T.c_ItemRow.a A.b0 A.h0 A.l0 (S0.addB e.S.L).1]) (o := BF.obM A.pm0 r0 S0 none) (o' := BF.obM A.pm0 r9 (S0.addB e.S.L).1 none) sep8 (BF.Fr.mv m9 (by simp [BF.obM])) M9 (by
      intro c hc
      simp only [BF.obM, List.mem_cons, List.not_mem_nil, or_false] at hc ⊢
      rcases hc with rfl | rfl
      · exact .inl (.inl rfl)
      · exact hr9.imp .inr id)
    have sep10 := BF.Sep.drop (pre := [BF.obD A.pd A.pr, BF.obS T.c_Speculations.a A.sp A.wt S (BF.kvB (pre ++ post)), BF.obT A.sd A.so S (BF.kvM (pre ++ post)), BF.obB T.c_Buffer.a T.c_ItemRow.a A.b0 A.h0 A.l0 (S0.addB e.S.L).1, BF.obM A.pm0 r9 (S0.addB e.S.L).1 none] ++ BF.obE T.c_Buffer.a T.c_ItemRow.a pre) (o := BF.obB T.c_Buffer.a T.c_ItemRow.a e.b e.h e.l e.S) (post := BF.obM e.pm e.r e.S none :: BF.obE T.c_Buffer.a T.c_ItemRow.a post) (by simpa using sep9)
    have sep11 := BF.Sep.drop (pre := [BF.obD A.pd A.pr, BF.obS T.c_Speculations.a A.sp A.wt S (BF.kvB (pre ++ post)), BF.obT A.sd A.so S (BF.kvM (pre ++ post)), BF.obB T.c_Buffer.a T.c_ItemRow.a A.b0 A.h0 A.l0 (S0.addB e.S.L).1, BF.obM A.pm0 r9 (S0.addB e.S.L).1 none] ++ BF.obE T.c_Buffer.a T.c_ItemRow.a pre) (o := BF.obM e.pm e.r e.S none) (post := BF.obE T.c_Buffer.a T.c_ItemRow.a post) sep10
    refine BF.r_eqB ?_
    rw [decide_eq_true rfl]
    refine q H9 r9 S (S0.addB e.S.L).1 (pre ++ post) ⟨by rw [BF.obE_app]; exact sep11, BF.asc_drop W.asc, fun x hx => W.rng x (memP x hx), W.g0, W.r0, BF.Bs.addB_ok W.ok0 oke.it, fun x hx => W.ok x (memP x hx)⟩ (by omega) (show S.given ≤ (k : Int) + 1 by omega) ?_ fun x hx => by have := hS x (memP x hx); omega
    have := BF.Bs.addB_len (M := e.S.L) W.ok0
    omega
end
end K24
end
section
local macro_rules | `(tactic| walk_at "s1") => `(tactic| first
  | ((with_reducible apply R.r_var); · rfl)
  | with_reducible apply R.r_c
  | with_reducible apply R.r_op
  | with_reducible apply R.r_I0
  | with_reducible apply R.r_cb
  | with_reducible apply R.r_cons
  | with_reducible apply R.r_nil
  | with_reducible apply R.r_seq
  | with_reducible apply R.r_asg
  | with_reducible apply R.r_ret
  | with_reducible apply R.r_ifS
  | with_reducible apply R.r_test
  | with_reducible apply R.r_t
  | with_reducible apply R.r_f
  | with_reducible apply R.r_nt
  | with_reducible apply R.r_nf
  | with_reducible apply R.r_bl
  | with_reducible apply R.r_U
  | with_reducible apply R.r_un
  | with_reducible apply R.r_eqI
  | with_reducible apply R.r_eqS
  | with_reducible apply R.r_neI
  | with_reducible apply R.r_neS
  | with_reducible apply R.r_and
  | with_reducible apply R.r_or
  | with_reducible apply R.r_not
  | with_reducible apply R.r_andV
  | with_reducible apply R.r_orV
  | with_reducible apply R.r_notV
  | with_reducible apply R.r_blV
  | with_reducible apply R.r_B
  | with_reducible apply R.r_ifE
  | with_reducible apply R.r_tup
  | with_reducible apply R.r_lst
  | with_reducible apply R.r_call
  | with_reducible apply R.r_drop
  | with_reducible apply R.r_next
  | with_reducible apply R.r_abs
  | with_reducible apply R.r_int1
  | with_reducible apply R.r_int1b
  | with_reducible apply R.r_min2
  | with_reducible apply R.r_bm
  | with_reducible apply R.r_bm0
  | with_reducible apply R.r_dget
  | with_reducible apply R.r_dput
  | with_reducible apply R.r_disp
  | with_reducible apply R.r_pnil
  | with_reducible apply R.r_pcons
  | with_reducible apply R.r_fld
  | with_reducible apply R.r_slice
  | with_reducible apply R.r_nopart
  | with_reducible apply R.r_part
  | with_reducible apply R.r_int
  | with_reducible apply R.r_yes
  | with_reducible apply R.r_retN
  | with_reducible apply R.r_asgG
  | with_reducible apply R.r_gname
  | with_reducible apply R.r_rng1
  | with_reducible apply R.r_brk
  | with_reducible apply R.r_cnt
  | with_reducible apply R.r_m1
  | with_reducible apply R.r_lcr
  | with_reducible apply R.r_p2_63
  | with_reducible apply R.r_p2_64
  | with_reducible apply R.r_p2_32
  | with_reducible apply R.r_p2_31
  | with_reducible apply R.r_p10_18
  | with_reducible apply R.r_p10_30
  | with_reducible refine R.r_mod (by omega) ?_
  | with_reducible refine R.r_div (by omega) ?_
  | with_reducible refine R.r_mulR (by omega) ?_
  | with_reducible refine R.r_mulL (by omega) ?_
  | with_reducible refine R.r_iteY (by decide +kernel) ?_
  | with_reducible refine R.r_iteF (by decide +kernel) ?_
  | with_reducible refine R.r_isi R.isi_int ?_
  | with_reducible refine R.r_isi R.isi_intB ?_)
local macro_rules | `(tactic| walk_at "go") => `(tactic| repeat (walk_at "s1"))

local macro_rules | `(tactic| walk_at "b1") => `(tactic| first
  | walk_at "s1"
  | with_reducible apply MM.r_meth
  | with_reducible apply MM.r_make
  | with_reducible apply MM.r_sfld
  | with_reducible apply MM.r_gsub
  | with_reducible apply MM.r_chain
  | with_reducible apply MM.r_daug
  | with_reducible apply MM.r_add
  | with_reducible apply MM.r_ip
  | with_reducible apply MM.r_din
  | with_reducible apply MM.r_dnotin
  | with_reducible apply BF.r_faug
  | with_reducible apply BF.r_sub)
local macro_rules | `(tactic| walk_at "bgo") => `(tactic| repeat (walk_at "b1"))

namespace K24
open PySem PySem.Spec PyProof.Rows L2
section
variable {P : Program} {w : World} {K : PySem.W.Frag} {mg : Str → Option Value} {base : Heap}
theorem ok_law_alike (T : Txt K mg) : FnOk P w K mg base CX0 4 T.p_law_alike.f T.p_law_alike.fd ["specs", "s", "buffer", "m"] (BF.spAlike24 T.c_Buffer.a T.c_ItemRow.a T.c_Speculations.a) := by
  refine T.p_law_alike.F.ok sc_law_alike (fun vs H Q E h => ?_) (fun cdv A outer s H vs Q E hr h => ?_)
  · obtain ⟨A, r0, S, S0, es, rfl, _⟩ := h
    rfl
  · obtain ⟨A, r0, S, S0, es, rfl, W, hg, q⟩ := h
    obtain ⟨⟨dy, eb⟩, _⟩ := id W.b
    obtain ⟨em, wm, erm, irm⟩ := id W.m
    obtain ⟨⟨dxs, eS⟩, ews⟩ := id W.s
    obtain ⟨ed, eo, ndo⟩ := id W.t
    refine ⟨_, (pss_cons (ps_if ((pw_or (pt_cmpR (op_neD hr.units) (pe_meth0 (pv 2) T.c_Buffer.cl T.p_Buffer_held.me (ok_Buffer_held T) (hr.mono (by decide)) T.p_Buffer_held.b .nil pass0) (pe_callTy MM.cTupOf (by rfl) T.m_tuple (by decide +kernel) (pa_cons (pe_dget (hu_of hr) (pv 3) pe_str (fun _ _ => rfl)) pa_nil)) (nomark _)) (pw_or (pt_cmpR op_ne (pe_fld (pv 2) rfl) (pe_dget (hu_of hr) (pv 3) pe_str (fun _ _ => rfl)) (nomark _)) (pw_or1 (pt_cmpR op_ne (pe_fld (pv 0) rfl) (pe_dget (hu_of hr) (pv 1) pe_str (fun _ _ => rfl)) (nomark _)))))).pt
 (pss_one (ps_ret pe_bl))
 pss_nil)
(pss_cons (ps_for PassesOwn.never rfl (pi_range2 rfl T.m_range (pa_cons (pe_un un_neg pe_int) (pa_cons (pe_op op_add (pe_dget (hu_of hr) (pv 1) pe_str (fun _ _ => rfl)) pe_int) pa_nil))) (pg_name (i := 4) sc_law_alike.nd rfl (.inl rfl))
 (pss_cons (ps_set (i := 5) sc_law_alike.nd rfl (.inl rfl) (pe_meth (pv 0) T.c_Speculations.cl T.p_Speculations_is_open.me (ok_Speculations_is_open T) (hr.mono (by decide)) T.p_Speculations_is_open.b .nil pass0 (pa_cons (pv 4) pa_nil)))
(pss_cons (ps_if ((pw_or (pt_not (pt_val (pe_callB call_isi (by rfl) T.m_isinstance (by decide +kernel) (pa_cons (pv 5) (pa_cons (pe_bltn (v := .ty "bool") (u := .type "bool") (by rfl) T.m_bool (by decide +kernel) rfl) pa_nil))))) (pw_or1 (pt_cmpR op_ne (pv 5) (pe_cmp (pc_din (hu_of hr) (pv 4) (pe_dget (hu_of hr) (pv 1) pe_str (fun _ _ => rfl)))) (nomark _))))).pt
 (pss_one (ps_ret pe_bl))
 pss_nil)
(pss_one (ps_if ((pw_and (pt_val (pv 5)) (pw_and1 (pt_cmpR (op_neD hr.units) (pe_meth (pv 0) T.c_Speculations.cl T.p_Speculations_held.me (ok_Speculations_held T) (hr.mono (by decide)) T.p_Speculations_held.b .nil pass0 (pa_cons (pv 4) pa_nil)) (pe_callTy MM.cTupOf (by rfl) T.m_tuple (by decide +kernel) (pa_cons (pe_dget (hu_of hr) (pe_dget (hu_of hr) (pe_dget (hu_of hr) (pv 1) pe_str (fun _ _ => rfl)) (pv 4) (fun _ _ => rfl)) pe_str (fun _ _ => rfl)) pa_nil)) (nomark _))))).pt
 (pss_one (ps_ret pe_bl))
 pss_nil)))))
(pss_one (ps_ret pe_bl)))), ?_⟩
    walk_at "bgo"
    refine ⟨_, _, _, rfl, eb, rfl, ?_⟩
    refine ⟨A.b0, A.h0, A.l0, S0, rfl, W.b, fun H1 p ws s1 ep ip => ?_⟩
    walk_at "bgo"
    refine R.r_dgetS (v := .ref r0) (s1 _ _ em) rfl ?_
    walk_at "bgo"
    refine ⟨_, _, rfl, .inl ⟨R.sqL (s1 _ _ erm), fun t ht => ?_⟩⟩
    have s2 := R.same_new (o := .tup wm) ht
    have et : upd H1 t (.tup wm) t = some (.tup wm) := upd_same
    generalize upd H1 t (.tup wm) = H2 at *
    have s02 := s1.trans s2
    refine BF.ne_its (R.sqT (s2 _ _ ep)) (R.sqT et) (ip.keep (MM.KeepT.of s2)) (irm.keep (MM.KeepT.of s02)) W.ok0.it ?_
    walk_at "bgo"
    refine ⟨_, _, _, _, _, rfl, s02 _ _ eb, T.c_Buffer.cl, T.n_Buffer.lost, rfl, ?_⟩
    walk_at "bgo"
    refine R.r_dgetS (v := .int S0.lost) (s02 _ _ em) rfl ?_
    walk_at "bgo"
    refine R.r_iteN (fun c => absurd rfl c) (fun _ => ?_)
    walk_at "bgo"
    refine ⟨_, _, _, _, _, rfl, s02 _ _ eS, T.c_Speculations.cl, T.n_Speculations.lost, rfl, ?_⟩
    walk_at "bgo"
    refine R.r_dgetS (v := .int S.lost) (s02 _ _ ed) rfl ?_
    walk_at "bgo"
    refine R.r_iteN (fun c => absurd rfl c) (fun _ => ?_)
    walk_at "bgo"
    refine BF.r_rng2 ?_
    walk_at "bgo"
    refine R.r_dgetS (v := .int S.given) (s02 _ _ ed) rfl ?_
    walk_at "bgo"
    have hg0 := W.g0
    refine ⟨_, _, rfl, ⟨by decide, by decide, by omega, by omega⟩, ?_⟩
    refine BF.for_rng2 (fun i σ H' => ∃ y4 y5, σ = [some (.ref A.sp), some (.ref A.sd), some (.ref A.b0), some (.ref A.pm0), y4, y5] ∧ Same H H') ?_ ?_ ?_
    · exact ⟨_, _, rfl, s02⟩
    · rintro i σ H3 hi ⟨y4, y5, rfl, s3⟩
      have W3 := W.same s3
      obtain ⟨⟨dxs3, eS3⟩, ews3⟩ := id W3.s
      obtain ⟨ed3, eo3, _⟩ := id W3.t
      walk_at "bgo"
      refine ⟨_, _, _, rfl, eS3, rfl, ?_⟩
      walk_at "bgo"
      refine ⟨A.sp, A.wt, S, _, _, rfl, W3.s, ?_⟩
      walk_at "bgo"
      refine R.r_isi BF.isi_bool ?_
      walk_at "bgo"
      refine R.r_dgetS (v := .ref A.so) ed3 rfl ?_
      refine ⟨_, _, rfl, DGet.k (k := (Sum.inl (-1 + (i : Int)) : Key)) eo3, ?_⟩
      refine BF.r_neB ?_
      rcases BF.en_cases (n := -1 + (i : Int)) es with hno | ⟨pre, e, post, rfl, hen⟩
      · have v1 : valV (BF.kvB es) (.inl (-1 + (i : Int))) = none := BF.valV_none (f := fun e => .ref e.b) hno
        have v2 : valV (BF.kvM es) (.inl (-1 + (i : Int))) = none := BF.valV_none (f := fun e => .ref e.pm) hno
        rw [v1, v2]
        walk_at "bgo"
        refine R.iteF' (by simp) ?_
        walk_at "bgo"
        refine R.iteF' (by simp) ?_
        walk_at "bgo"
        exact ⟨_, _, rfl, s3⟩
      · rw [← hen, W3.vB, W3.vM]
        walk_at "bgo"
        refine R.iteF' (by simp) ?_
        walk_at "bgo"
        refine R.iteT' (by simp) ?_
        walk_at "bgo"
        refine ⟨_, _, _, rfl, eS3, rfl, ?_⟩
        walk_at "bgo"
        refine ⟨A.sp, A.wt, e.b, e.h, e.l, S, _, e.n, e.S, rfl, W3.s, W3.vB, W3.eb, fun H4 p4 ws4 s4 ep4 ip4 => ?_⟩
        have W4 := W3.same s4
        obtain ⟨ed4, eo4, _⟩ := id W4.t
        obtain ⟨em4, we, ere, ire⟩ := id W4.em
        walk_at "bgo"
        refine R.r_dgetS (v := .ref A.so) ed4 rfl ?_
        walk_at "bgo"
        refine ⟨A.so, .ref e.pm, rfl, by have z := DGet.k (k := (Sum.inl e.n : Key)) eo4; rw [W4.vM] at z; exact z, ?_⟩
        walk_at "bgo"
        refine R.r_dgetS (v := .ref e.r) em4 rfl ?_
        walk_at "bgo"
        refine ⟨_, _, rfl, .inl ⟨R.sqL ere, fun t5 ht5 => ?_⟩⟩
        have s5 := R.same_new (o := .tup we) ht5
        have et5 : upd H4 t5 (.tup we) t5 = some (.tup we) := upd_same
        generalize upd H4 t5 (.tup we) = H5 at *
        refine BF.ne_its (R.sqT (s5 _ _ ep4)) (R.sqT et5) (ip4.keep (MM.KeepT.of s5)) (ire.keep (MM.KeepT.of s5)) (W.ok e (List.mem_append_right _ List.mem_cons_self)).it ?_
        walk_at "bgo"
        exact ⟨_, _, rfl, s3.trans (s4.trans s5)⟩
    · rintro σ H3 ⟨y4, y5, rfl, s3⟩
      walk_at "bgo"
      exact q H3 (W.same s3)
def sp_law (K : PySem.W.Frag) : Sp := fun vs H Q _ => ∃ (a : Addr) (ns : List Int), vs = [.ref a] ∧ SqL K H a (ns.map V.int) ∧ ns.length ≤ 63 ∧ ∀ H', Q (.bl true) H'
theorem ok_law (T : Txt K mg) : FnOk P w K mg base CX0 9 T.p_law.f T.p_law.fd ["script"] (sp_law K) := by
  refine T.p_law.F.ok sc_law (fun vs H Q E h => ?_) (fun cdv A outer s H vs Q E hr h => ?_)
  · obtain ⟨a, dl, rfl, _⟩ := h
    rfl
  · obtain ⟨a, ns, rfl, hS, hlen, q⟩ := h
    refine ⟨_, (pss_cons (ps_set (i := 1) sc_law.nd rfl (.inl rfl) (pe_call (ok_law_reader T) (hr.mono (by decide)) (by rfl) T.p_law_reader.g T.p_law_reader.F.kp T.p_law_reader.b .nil pass0 (pa_cons (pv 0) pa_nil)))
(pss_cons (ps_set (i := 2) sc_law.nd rfl (.inl rfl) (pe_disp (pps_cons pe_str (pe_call (ok_law_next T) (hr.mono (by decide)) (by rfl) T.p_law_next.g T.p_law_next.F.kp T.p_law_next.b .nil pass0 (pa_cons (pv 1) (pa_cons pe_int pa_nil))) (pps_cons pe_str (pe_call (ok_law_next T) (hr.mono (by decide)) (by rfl) T.p_law_next.g T.p_law_next.F.kp T.p_law_next.b .nil pass0 (pa_cons (pv 1) (pa_cons pe_int pa_nil))) (pps_cons pe_str pe_dnewK (pps_cons pe_str pe_int (pps_cons pe_str pe_int pps_nil))))) (by rfl) (by rfl) (fun z => by cases z) (by decide)))
(pss_cons (ps_set (i := 3) sc_law.nd rfl (.inl rfl) (pe_disp (pps_cons pe_str (pe_call (ok_law_next T) (hr.mono (by decide)) (by rfl) T.p_law_next.g T.p_law_next.F.kp T.p_law_next.b .nil pass0 (pa_cons (pv 1) (pa_cons pe_int pa_nil))) (pps_cons pe_str (pe_ix ix_list (pe_lst (pa_cons pe_str (pa_cons pe_str pa_nil))) (pe_call (ok_law_next T) (hr.mono (by decide)) (by rfl) T.p_law_next.g T.p_law_next.F.kp T.p_law_next.b .nil pass0 (pa_cons (pv 1) (pa_cons pe_int pa_nil))) (fun _ _ => rfl)) (pps_cons pe_str (pe_lst pa_nil) (pps_cons pe_str pe_int pps_nil)))) (by rfl) (by rfl) (fun z => by cases z) (by decide)))
(pss_cons (ps_set (i := 4) sc_law.nd rfl (.inl rfl) (pe_make T.p_Speculations___init__.M (ok_Speculations___init__ T) (hr.mono (by decide)) (by rfl) T.c_Speculations.g T.p_Speculations___init__.b .nil pass0 (pa_cons (pe_dget (hu_of hr) (pv 2) pe_str (fun _ _ => rfl)) (pa_cons (pe_dget (hu_of hr) (pv 2) pe_str (fun _ _ => rfl)) pa_nil))))
(pss_cons (ps_set (i := 5) sc_law.nd rfl (.inl rfl) (pe_make T.p_Buffer___init__.M (ok_Buffer___init__ T) (hr.mono (by decide)) (by rfl) T.c_Buffer.g T.p_Buffer___init__.b .nil pass0 (pa_cons (pe_dget (hu_of hr) (pv 3) pe_str (fun _ _ => rfl)) (pa_cons (pe_dget (hu_of hr) (pv 3) pe_str (fun _ _ => rfl)) pa_nil))))
(pss_cons (ps_for PassesOwn.never rfl (pi_range1 rfl T.m_range (pa_cons (pe_op op_add pe_int (pe_call (ok_law_next T) (hr.mono (by decide)) (by rfl) T.p_law_next.g T.p_law_next.F.kp T.p_law_next.b .nil pass0 (pa_cons (pv 1) (pa_cons pe_int pa_nil)))) pa_nil)) (pg_name (i := 6) sc_law.nd rfl (.inl rfl))
 (pss_one (ps_if ((pw_or (pt_not (pt_val (pe_call (ok_law_deed T) (hr.mono (by decide)) (by rfl) T.p_law_deed.g T.p_law_deed.F.kp T.p_law_deed.b .nil pass0 (pa_cons (pv 1) (pa_cons (pv 4) (pa_cons (pv 2) (pa_cons (pv 5) (pa_cons (pv 3) pa_nil)))))))) (pw_or1 (pt_not (pt_val (pe_call (ok_law_alike T) (hr.mono (by decide)) (by rfl) T.p_law_alike.g T.p_law_alike.F.kp T.p_law_alike.b .nil pass0 (pa_cons (pv 4) (pa_cons (pv 2) (pa_cons (pv 5) (pa_cons (pv 3) pa_nil)))))))))).pt
 (pss_one (ps_ret pe_bl))
 pss_nil)))
(pss_one (ps_ret pe_bl)))))))), ?_⟩
    walk_at "bgo"
    refine ⟨a, ns, rfl, hS, hlen, fun H1 pd pr s1 d1 => ?_⟩
    have sep1 : BF.Sep H1 [BF.obD pd pr] := BF.Sep.one d1
    walk_at "bgo"
    intro sd hsd
    have s2 := R.same_new (o := .dK []) hsd
    have e2 : upd H1 sd (.dK []) sd = some (.dK []) := upd_same
    have nsd := sep1.none hsd
    have d2 := d1.same s2
    have npd : sd ≠ pd := fun z => nsd _ (List.mem_singleton.mpr rfl) (by simp [BF.obD, z])
    generalize upd H1 sd (.dK []) = H2 at *
    walk_at "bgo"
    refine ⟨pd, pr, 4, rfl, by decide, d2, fun places H3 p0 p1 g3 => ?_⟩
    walk_at "bgo"
    refine ⟨pd, pr, 41, rfl, by decide, g3.2.1, fun room H4 r0 r1 g4 => ?_⟩
    have g24 := g3.trans g4
    have e4 := g24.1 _ _ e2 npd
    have d4 := g24.2.1
    walk_at "bgo"
    intro so hso
    have s5 := R.same_new (o := .dK []) hso
    have e5 : upd H4 so (.dK []) so = some (.dK []) := upd_same
    have nso : so ≠ sd := fun z => by rw [z, e4] at hso; cases hso
    have nso2 := (BF.Sep.one (o := BF.obD pd pr) d4).none hso
    generalize upd H4 so (.dK []) = H5 at *
    have d5 := d4.same s5
    walk_at "bgo"
    have e45 := s5 _ _ e4
    refine ⟨e45, [(.inr "places", _), (.inr "room", _), (.inr "open", _), (.inr "last", _), (.inr "lost", _)], rfl, Nat.le_of_ble_eq_true rfl, ?_⟩
    have em0 : mergeK [] [((.inr "places" : Key), V.int places), (.inr "room", .int room), (.inr "open", .ref so), (.inr "last", .int 0), (.inr "lost", .int 0)] = BF.sdv so ⟨places, room, 0, 0⟩ := rfl
    rw [em0]
    have sep6 : BF.Sep (upd H5 sd (.dK (BF.sdv so ⟨places, room, 0, 0⟩))) [BF.obT sd so ⟨places, room, 0, 0⟩ [], BF.obD pd pr] := by
      refine BF.Sep.cons ((BF.Sep.one (o := BF.obD pd pr) d5).put nsd e45 fun _ => nofun) ⟨upd_same, by rw [upd_ne nso]; exact e5, nso.symm⟩ fun c hc o ho => ?_
      rw [List.mem_singleton] at ho
      subst ho
      simp only [BF.obT, List.mem_cons, List.not_mem_nil, or_false] at hc
      rcases hc with rfl | rfl
      · exact nsd _ (List.mem_singleton.mpr rfl)
      · exact nso2 _ (List.mem_singleton.mpr rfl)
    generalize upd H5 sd (.dK (BF.sdv so ⟨places, room, 0, 0⟩)) = H6 at *
    walk_at "bgo"
    intro pm hpm
    have s7 := R.same_new (o := .dK []) hpm
    have e7 : upd H6 pm (.dK []) pm = some (.dK []) := upd_same
    have npm := sep6.none hpm
    have sep7 := sep6.same s7
    have npm2 : pm ≠ pd := fun z => npm (BF.obD pd pr) (by simp) (by simp [BF.obD, z])
    generalize upd H6 pm (.dK []) = H7 at *
    have d7 := sep7.1 (BF.obD pd pr) (by simp)
    walk_at "bgo"
    refine ⟨pd, pr, 80, rfl, by decide, d7, fun room2 H8 r20 r21 g8 => ?_⟩
    walk_at "bgo"
    refine ⟨Nat.le_of_ble_eq_true rfl, fun L hL => ?_⟩
    have g9 := g8.new (o := .lst [V.str "hold", .str "ring"]) hL
    have eL : upd H8 L (.lst [V.str "hold", .str "ring"]) L = some (.lst [V.str "hold", .str "ring"]) := upd_same
    have nL := g8.2.1.ne hL
    generalize upd H8 L (.lst [V.str "hold", .str "ring"]) = H9 at *
    walk_at "bgo"
    refine ⟨pd, pr, 2, rfl, by decide, g9.2.1, fun j H10 j0 j1 g10 => ?_⟩
    obtain ⟨pol, hpol, ei⟩ : ∃ pol : Str, (pol = "hold" ∨ pol = "ring") ∧ atI [V.str "hold", V.str "ring"] j = some (.str pol) := by
      have : j = 0 ∨ j = 1 := by omega
      rcases this with rfl | rfl
      · exact ⟨"hold", .inl rfl, rfl⟩
      · exact ⟨"ring", .inr rfl, rfl⟩
    refine R.r_ixL (R.sqL (g10.1 _ _ eL nL.symm)) ei ?_
    have g710 := g9.trans g10
    have sep10 := BF.Sep.upd (pre := [BF.obT sd so ⟨places, room, 0, 0⟩ []]) (o := BF.obD pd pr) (o' := BF.obD pd pr) sep7 (BF.Fr.mv g710.1 (by simp [BF.obD])) g710.2.1 fun _ h => .inl h
    have e10 := g710.1 _ _ e7 npm2
    walk_at "bgo"
    refine ⟨Nat.zero_le _, fun n hn => ?_⟩
    have s11 := R.same_new (o := .lst []) hn
    have en : upd H10 n (.lst []) n = some (.lst []) := upd_same
    have nn := sep10.none hn
    have npn : n ≠ pm := fun z => by rw [z, e10] at hn; cases hn
    have sep11 := sep10.same s11
    generalize upd H10 n (.lst []) = H11 at *
    walk_at "bgo"
    have e11 := s11 _ _ e10
    refine ⟨e11, [(.inr "room", _), (.inr "policy", _), (.inr "row", _), (.inr "lost", _)], rfl, Nat.le_of_ble_eq_true rfl, ?_⟩
    have em1 : mergeK [] [((.inr "room" : Key), V.int room2), (.inr "policy", .str pol), (.inr "row", .ref n), (.inr "lost", .int 0)] = BF.mkv n ⟨room2, pol, 0, 0, false, []⟩ none := rfl
    rw [em1]
    have sep12 : BF.Sep (upd H11 pm (.dK (BF.mkv n ⟨room2, pol, 0, 0, false, []⟩ none))) [BF.obM pm n ⟨room2, pol, 0, 0, false, []⟩ none, BF.obT sd so ⟨places, room, 0, 0⟩ [], BF.obD pd pr] := by
      refine BF.Sep.cons (sep11.put npm e11 fun _ => nofun) ⟨upd_same, [], by rw [upd_ne npn]; exact en, .nil⟩ fun c hc o ho => ?_
      simp only [BF.obM, List.mem_cons, List.not_mem_nil, or_false] at hc
      rcases hc with rfl | rfl
      · exact npm o ho
      · exact nn o ho
    generalize upd H11 pm (.dK (BF.mkv n ⟨room2, pol, 0, 0, false, []⟩ none)) = H12 at *
    obtain ⟨ed12, eo12, ndo⟩ := sep12.1 (BF.obT sd so ⟨places, room, 0, 0⟩ []) (by simp)
    walk_at "bgo"
    refine R.r_dgetS (v := .int places) ed12 rfl ?_
    walk_at "bgo"
    refine R.r_dgetS (v := .int room) ed12 rfl ?_
    walk_at "bgo"
    intro sp dx hsp hdx ne1
    have s13 : Same H12 (upd (upd H12 dx (.own sp)) sp (.ins T.c_Speculations.a dx [])) := fun c o e => by
      rw [upd_ne (ne_of_none e hsp), upd_ne (ne_of_none e hdx)]
      exact e
    have e13 : upd (upd H12 dx (.own sp)) sp (.ins T.c_Speculations.a dx []) sp = some (.ins T.c_Speculations.a dx []) := upd_same
    generalize upd (upd H12 dx (.own sp)) sp (.ins T.c_Speculations.a dx []) = H13 at *
    refine ⟨sp, dx, _, _, rfl, e13, fun H14 wt hwt f14 S14 => ⟨rfl, ?_⟩⟩
    have f24 : Same H12 H14 := fun c o e => f14 _ _ (s13 _ _ e) (by simp only [List.mem_singleton]; exact ne_of_none e hsp)
    have sep14 := BF.Sep.add (o := BF.obS T.c_Speculations.a sp wt ⟨places, room, 0, 0⟩ []) sep12 f24 S14 (by
      intro c hc
      simp only [BF.obS, List.mem_cons, List.not_mem_nil, or_false] at hc
      rcases hc with rfl | rfl
      · exact hsp
      · exact s13.free hwt)
    have M14 := sep14.1 (BF.obM pm n ⟨room2, pol, 0, 0, false, []⟩ none) (by simp)
    walk_at "bgo"
    refine R.r_dgetS (v := .int room2) M14.1 rfl ?_
    walk_at "bgo"
    refine R.r_dgetS (v := .str pol) M14.1 rfl ?_
    walk_at "bgo"
    intro b dx2 hb hdx2 ne2
    have s15 : Same H14 (upd (upd H14 dx2 (.own b)) b (.ins T.c_Buffer.a dx2 [])) := fun c o e => by
      rw [upd_ne (ne_of_none e hb), upd_ne (ne_of_none e hdx2)]
      exact e
    have e15 : upd (upd H14 dx2 (.own b)) b (.ins T.c_Buffer.a dx2 []) b = some (.ins T.c_Buffer.a dx2 []) := upd_same
    generalize upd (upd H14 dx2 (.own b)) b (.ins T.c_Buffer.a dx2 []) = H15 at *
    refine ⟨b, dx2, _, _, rfl, e15, fun H16 h l hh hl f16 B16 => ⟨rfl, ?_⟩⟩
    have f26 : Same H14 H16 := fun c o e => f16 _ _ (s15 _ _ e) (by simp only [List.mem_singleton]; exact ne_of_none e hb)
    have sep16 := BF.Sep.add (o := BF.obB T.c_Buffer.a T.c_ItemRow.a b h l ⟨room2, pol, 0, 0, false, []⟩) sep14 f26 B16 (by
      intro c hc
      simp only [BF.obB, List.mem_cons, List.not_mem_nil, or_false] at hc
      rcases hc with rfl | rfl | rfl
      · exact hb
      · exact s15.free hh
      · exact s15.free hl)
    let A : BF.Pl := ⟨pd, pr, sp, wt, sd, so, b, h, l, pm⟩
    have W : BF.Wo T.c_Buffer.a T.c_ItemRow.a T.c_Speculations.a H16 A n ⟨places, room, 0, 0⟩ ⟨room2, pol, 0, 0, false, []⟩ [] := by
      refine ⟨?_, List.Pairwise.nil, (fun _ h => nomatch h), Int.le_refl _, r0, ⟨hpol, rfl, r20, trivial, fun _ h => nomatch h⟩, fun _ h => nomatch h⟩
      refine sep16.perm ?_
      show List.Perm [BF.obB T.c_Buffer.a T.c_ItemRow.a b h l ⟨room2, pol, 0, 0, false, []⟩, BF.obS T.c_Speculations.a sp wt ⟨places, room, 0, 0⟩ [], BF.obM pm n ⟨room2, pol, 0, 0, false, []⟩ none, BF.obT sd so ⟨places, room, 0, 0⟩ [], BF.obD pd pr] [BF.obD pd pr, BF.obS T.c_Speculations.a sp wt ⟨places, room, 0, 0⟩ [], BF.obT sd so ⟨places, room, 0, 0⟩ [], BF.obB T.c_Buffer.a T.c_ItemRow.a b h l ⟨room2, pol, 0, 0, false, []⟩, BF.obM pm n ⟨room2, pol, 0, 0, false, []⟩ none]
      exact BF.perm5
    walk_at "bgo"
    refine ⟨pd, pr, 41, rfl, by decide, W.d, fun v H17 v0 v1 g17 => ?_⟩
    have W17 := W.draw g17
    walk_at "bgo"
    refine R.r_rngL (fun k σ H' => ∃ y6, σ = [some (.ref a), some (.ref pd), some (.ref sd), some (.ref pm), some (.ref sp), some (.ref b), y6] ∧ ∃ r S S0 es, BF.Wo T.c_Buffer.a T.c_ItemRow.a T.c_Speculations.a H' A r S S0 es ∧ es.length ≤ k ∧ S0.L.length ≤ 101 * k ∧ (∀ e ∈ es, e.S.L.length ≤ 2 * k) ∧ S.given ≤ k) (by omega) ?_ ?_ ?_
    · exact ⟨_, rfl, n, _, _, [], W17, Nat.le_refl _, Nat.zero_le _, (fun _ h => nomatch h), Int.le_refl _⟩
    · rintro k σ H18 hk ⟨y6, rfl, r, S, S0, es, W18, l1, l2, l3, l4⟩
      walk_at "bgo"
      refine ⟨A, r, S, S0, es, k, rfl, W18, l1, l2, l3, by omega, l4, fun H19 r' S' S0' es' W19 m1 m4 m2 m3 => ?_⟩
      walk_at "bgo"
      refine ⟨A, r', S', S0', es', rfl, W19, by omega, fun H20 W20 => ?_⟩
      walk_at "bgo"
      exact ⟨_, rfl, r', S', S0', es', W20, m1, m2, m3, m4⟩
    · rintro σ H18 ⟨y6, rfl, r, S, S0, es, W18, l1, l2, l3, l4⟩
      walk_at "bgo"
      exact q _
end
end K24
end
namespace K24
open PySem PySem.Spec PyProof.Rows L2
theorem all_mk {l : PySem.W.OpenLaw} {w : World} {K : PySem.W.Frag} {h : Heap} {mg : Str → Option Value} {fa : Addr} (X : K.In h) (G : h.Ns mainGlobals mg) (hfa : mg "law" = some (.ref fa))
    {C1 : Addr} {C2 : Addr} {C3 : Addr} {od1 an1 : Option Addr} {sl1 : Array (Option Value)} {oc1 kV1 dc1 pm1 cd1 ct1 : Value} {f1 : Addr} {od2 an2 : Option Addr} {sl2 : Array (Option Value)} {oc2 kV2 dc2 pm2 cd2 ct2 : Value} {f2 : Addr} {od3 an3 : Option Addr} {sl3 : Array (Option Value)} {oc3 kV3 dc3 pm3 cd3 ct3 : Value} {f3 : Addr} {od4 an4 : Option Addr} {sl4 : Array (Option Value)} {oc4 kV4 dc4 pm4 cd4 ct4 : Value} {f4 : Addr} {od5 an5 : Option Addr} {sl5 : Array (Option Value)} {oc5 kV5 dc5 pm5 cd5 ct5 : Value} {f5 : Addr} {od6 an6 : Option Addr} {sl6 : Array (Option Value)} {oc6 kV6 dc6 pm6 cd6 ct6 : Value} {f6 : Addr} {od7 an7 : Option Addr} {sl7 : Array (Option Value)} {oc7 kV7 dc7 pm7 cd7 ct7 : Value} {f7 : Addr} {od8 an8 : Option Addr} {sl8 : Array (Option Value)} {oc8 kV8 dc8 pm8 cd8 ct8 : Value} {f8 : Addr} {od9 an9 : Option Addr} {sl9 : Array (Option Value)} {oc9 kV9 dc9 pm9 cd9 ct9 : Value} {f9 : Addr} {od10 an10 : Option Addr} {sl10 : Array (Option Value)} {oc10 kV10 dc10 pm10 cd10 ct10 : Value} {f10 : Addr} {od11 an11 : Option Addr} {sl11 : Array (Option Value)} {oc11 kV11 dc11 pm11 cd11 ct11 : Value} {f11 : Addr} {od12 an12 : Option Addr} {sl12 : Array (Option Value)} {oc12 kV12 dc12 pm12 cd12 ct12 : Value} {f12 : Addr} {od13 an13 : Option Addr} {sl13 : Array (Option Value)} {oc13 kV13 dc13 pm13 cd13 ct13 : Value} {f13 : Addr} {od14 an14 : Option Addr} {sl14 : Array (Option Value)} {oc14 kV14 dc14 pm14 cd14 ct14 : Value} {f14 : Addr} {od15 an15 : Option Addr} {sl15 : Array (Option Value)} {oc15 kV15 dc15 pm15 cd15 ct15 : Value} {f15 : Addr} {od16 an16 : Option Addr} {sl16 : Array (Option Value)} {oc16 kV16 dc16 pm16 cd16 ct16 : Value} {f16 : Addr} {od17 an17 : Option Addr} {sl17 : Array (Option Value)} {oc17 kV17 dc17 pm17 cd17 ct17 : Value} {f17 : Addr} {od18 an18 : Option Addr} {sl18 : Array (Option Value)} {oc18 kV18 dc18 pm18 cd18 ct18 : Value} {f18 : Addr} {od19 an19 : Option Addr} {sl19 : Array (Option Value)} {oc19 kV19 dc19 pm19 cd19 ct19 : Value} {f19 : Addr} {od20 an20 : Option Addr} {sl20 : Array (Option Value)} {oc20 kV20 dc20 pm20 cd20 ct20 : Value} {f20 : Addr} {od21 an21 : Option Addr} {sl21 : Array (Option Value)} {oc21 kV21 dc21 pm21 cd21 ct21 : Value} {f21 : Addr} {od22 an22 : Option Addr} {sl22 : Array (Option Value)} {oc22 kV22 dc22 pm22 cd22 ct22 : Value} {f22 : Addr} {od23 an23 : Option Addr} {sl23 : Array (Option Value)} {oc23 kV23 dc23 pm23 cd23 ct23 : Value} {f23 : Addr} {od24 an24 : Option Addr} {sl24 : Array (Option Value)} {oc24 kV24 dc24 pm24 cd24 ct24 : Value} {f24 : Addr} {od25 an25 : Option Addr} {sl25 : Array (Option Value)} {oc25 kV25 dc25 pm25 cd25 ct25 : Value} {f25 : Addr} {od26 an26 : Option Addr} {sl26 : Array (Option Value)} {oc26 kV26 dc26 pm26 cd26 ct26 : Value} {f26 : Addr} {od27 an27 : Option Addr} {sl27 : Array (Option Value)} {oc27 kV27 dc27 pm27 cd27 ct27 : Value} {f27 : Addr} {od28 an28 : Option Addr} {sl28 : Array (Option Value)} {oc28 kV28 dc28 pm28 cd28 ct28 : Value} {f28 : Addr} {od29 an29 : Option Addr} {sl29 : Array (Option Value)} {oc29 kV29 dc29 pm29 cd29 ct29 : Value} {f29 : Addr} {od30 an30 : Option Addr} {sl30 : Array (Option Value)} {oc30 kV30 dc30 pm30 cd30 ct30 : Value} {f30 : Addr} {od31 an31 : Option Addr} {sl31 : Array (Option Value)} {oc31 kV31 dc31 pm31 cd31 ct31 : Value} {f31 : Addr} {od32 an32 : Option Addr} {sl32 : Array (Option Value)} {oc32 kV32 dc32 pm32 cd32 ct32 : Value} {f32 : Addr} {od33 an33 : Option Addr} {sl33 : Array (Option Value)} {oc33 kV33 dc33 pm33 cd33 ct33 : Value} {f33 : Addr} {od34 an34 : Option Addr} {sl34 : Array (Option Value)} {oc34 kV34 dc34 pm34 cd34 ct34 : Value} {f34 : Addr} {w1 : Value}
    (ca1 : PySem.W.nsIn K mainGlobals "ItemRow" = some (some (.ref C1)))
    (ca2 : PySem.W.nsIn K mainGlobals "Buffer" = some (some (.ref C2)))
    (ca3 : PySem.W.nsIn K mainGlobals "Speculations" = some (some (.ref C3)))
    (a1 : PySem.W.nsIn K mainGlobals "is_lost" = some (some (.ref f1)))
    (l1 : K.lookup f1 = some ⟨oc1, od1, .func (PySem.W.fnOf "is_lost" "is_lost" (defArgs s_is_lost) (defBody s_is_lost) (defScope s_is_lost) .none kV1 dc1 pm1 an1 cd1 ct1), sl1⟩)
    (c1 : PySem.W.codeIn K cd1 "is_lost" = true)
    (k1 : PySem.W.keepIn K (.ref f1) = true)
    (fi2 : PySem.W.findIn K (.ref C1) "__init__" = some (some (.ref f2)))
    (l2 : K.lookup f2 = some ⟨oc2, od2, .func (PySem.W.fnOf "__init__" "ItemRow.__init__" (defArgs s_ItemRow___init__) (defBody s_ItemRow___init__) (defScope s_ItemRow___init__) .none kV2 dc2 pm2 an2 cd2 ct2), sl2⟩)
    (c2 : PySem.W.codeIn K cd2 "ItemRow.__init__" = true)
    (k2 : PySem.W.keepIn K (.ref f2) = true)
    (fi3 : PySem.W.findIn K (.ref C1) "add" = some (some (.ref f3)))
    (l3 : K.lookup f3 = some ⟨oc3, od3, .func (PySem.W.fnOf "add" "ItemRow.add" (defArgs s_ItemRow_add) (defBody s_ItemRow_add) (defScope s_ItemRow_add) .none kV3 dc3 pm3 an3 cd3 ct3), sl3⟩)
    (c3 : PySem.W.codeIn K cd3 "ItemRow.add" = true)
    (k3 : PySem.W.keepIn K (.ref f3) = true)
    (fi4 : PySem.W.findIn K (.ref C1) "add_lost" = some (some (.ref f4)))
    (l4 : K.lookup f4 = some ⟨oc4, od4, .func (PySem.W.fnOf "add_lost" "ItemRow.add_lost" (defArgs s_ItemRow_add_lost) (defBody s_ItemRow_add_lost) (defScope s_ItemRow_add_lost) .none kV4 dc4 pm4 an4 cd4 ct4), sl4⟩)
    (c4 : PySem.W.codeIn K cd4 "ItemRow.add_lost" = true)
    (k4 : PySem.W.keepIn K (.ref f4) = true)
    (fi5 : PySem.W.findIn K (.ref C1) "lose_first" = some (some (.ref f5)))
    (l5 : K.lookup f5 = some ⟨oc5, od5, .func (PySem.W.fnOf "lose_first" "ItemRow.lose_first" (defArgs s_ItemRow_lose_first) (defBody s_ItemRow_lose_first) (defScope s_ItemRow_lose_first) .none kV5 dc5 pm5 an5 cd5 ct5), sl5⟩)
    (c5 : PySem.W.codeIn K cd5 "ItemRow.lose_first" = true)
    (k5 : PySem.W.keepIn K (.ref f5) = true)
    (fi6 : PySem.W.findIn K (.ref C1) "image" = some (some (.ref f6)))
    (l6 : K.lookup f6 = some ⟨oc6, od6, .func (PySem.W.fnOf "image" "ItemRow.image" (defArgs s_ItemRow_image) (defBody s_ItemRow_image) (defScope s_ItemRow_image) .none kV6 dc6 pm6 an6 cd6 ct6), sl6⟩)
    (c6 : PySem.W.codeIn K cd6 "ItemRow.image" = true)
    (k6 : PySem.W.keepIn K (.ref f6) = true)
    (a7 : PySem.W.nsIn K mainGlobals "size_of" = some (some (.ref f7)))
    (l7 : K.lookup f7 = some ⟨oc7, od7, .func (PySem.W.fnOf "size_of" "size_of" (defArgs s_size_of) (defBody s_size_of) (defScope s_size_of) .none kV7 dc7 pm7 an7 cd7 ct7), sl7⟩)
    (c7 : PySem.W.codeIn K cd7 "size_of" = true)
    (k7 : PySem.W.keepIn K (.ref f7) = true)
    (fi8 : PySem.W.findIn K (.ref C2) "__init__" = some (some (.ref f8)))
    (l8 : K.lookup f8 = some ⟨oc8, od8, .func (PySem.W.fnOf "__init__" "Buffer.__init__" (defArgs s_Buffer___init__) (defBody s_Buffer___init__) (defScope s_Buffer___init__) .none kV8 dc8 pm8 an8 cd8 ct8), sl8⟩)
    (c8 : PySem.W.codeIn K cd8 "Buffer.__init__" = true)
    (k8 : PySem.W.keepIn K (.ref f8) = true)
    (fi9 : PySem.W.findIn K (.ref C2) "add" = some (some (.ref f9)))
    (l9 : K.lookup f9 = some ⟨oc9, od9, .func (PySem.W.fnOf "add" "Buffer.add" (defArgs s_Buffer_add) (defBody s_Buffer_add) (defScope s_Buffer_add) .none kV9 dc9 pm9 an9 cd9 ct9), sl9⟩)
    (c9 : PySem.W.codeIn K cd9 "Buffer.add" = true)
    (k9 : PySem.W.keepIn K (.ref f9) = true)
    (fi10 : PySem.W.findIn K (.ref C2) "add_block" = some (some (.ref f10)))
    (l10 : K.lookup f10 = some ⟨oc10, od10, .func (PySem.W.fnOf "add_block" "Buffer.add_block" (defArgs s_Buffer_add_block) (defBody s_Buffer_add_block) (defScope s_Buffer_add_block) .none kV10 dc10 pm10 an10 cd10 ct10), sl10⟩)
    (c10 : PySem.W.codeIn K cd10 "Buffer.add_block" = true)
    (k10 : PySem.W.keepIn K (.ref f10) = true)
    (fi11 : PySem.W.findIn K (.ref C2) "make_room" = some (some (.ref f11)))
    (l11 : K.lookup f11 = some ⟨oc11, od11, .func (PySem.W.fnOf "make_room" "Buffer.make_room" (defArgs s_Buffer_make_room) (defBody s_Buffer_make_room) (defScope s_Buffer_make_room) .none kV11 dc11 pm11 an11 cd11 ct11), sl11⟩)
    (c11 : PySem.W.codeIn K cd11 "Buffer.make_room" = true)
    (k11 : PySem.W.keepIn K (.ref f11) = true)
    (fi12 : PySem.W.findIn K (.ref C2) "lose" = some (some (.ref f12)))
    (l12 : K.lookup f12 = some ⟨oc12, od12, .func (PySem.W.fnOf "lose" "Buffer.lose" (defArgs s_Buffer_lose) (defBody s_Buffer_lose) (defScope s_Buffer_lose) .none kV12 dc12 pm12 an12 cd12 ct12), sl12⟩)
    (c12 : PySem.W.codeIn K cd12 "Buffer.lose" = true)
    (k12 : PySem.W.keepIn K (.ref f12) = true)
    (fi13 : PySem.W.findIn K (.ref C2) "held" = some (some (.ref f13)))
    (l13 : K.lookup f13 = some ⟨oc13, od13, .func (PySem.W.fnOf "held" "Buffer.held" (defArgs s_Buffer_held) (defBody s_Buffer_held) (defScope s_Buffer_held) .none kV13 dc13 pm13 an13 cd13 ct13), sl13⟩)
    (c13 : PySem.W.codeIn K cd13 "Buffer.held" = true)
    (k13 : PySem.W.keepIn K (.ref f13) = true)
    (fi14 : PySem.W.findIn K (.ref C3) "__init__" = some (some (.ref f14)))
    (l14 : K.lookup f14 = some ⟨oc14, od14, .func (PySem.W.fnOf "__init__" "Speculations.__init__" (defArgs s_Speculations___init__) (defBody s_Speculations___init__) (defScope s_Speculations___init__) .none kV14 dc14 pm14 an14 cd14 ct14), sl14⟩)
    (c14 : PySem.W.codeIn K cd14 "Speculations.__init__" = true)
    (k14 : PySem.W.keepIn K (.ref f14) = true)
    (fi15 : PySem.W.findIn K (.ref C3) "begin" = some (some (.ref f15)))
    (l15 : K.lookup f15 = some ⟨oc15, od15, .func (PySem.W.fnOf "begin" "Speculations.begin" (defArgs s_Speculations_begin) (defBody s_Speculations_begin) (defScope s_Speculations_begin) .none kV15 dc15 pm15 an15 cd15 ct15), sl15⟩)
    (c15 : PySem.W.codeIn K cd15 "Speculations.begin" = true)
    (k15 : PySem.W.keepIn K (.ref f15) = true)
    (fi16 : PySem.W.findIn K (.ref C3) "is_open" = some (some (.ref f16)))
    (l16 : K.lookup f16 = some ⟨oc16, od16, .func (PySem.W.fnOf "is_open" "Speculations.is_open" (defArgs s_Speculations_is_open) (defBody s_Speculations_is_open) (defScope s_Speculations_is_open) .none kV16 dc16 pm16 an16 cd16 ct16), sl16⟩)
    (c16 : PySem.W.codeIn K cd16 "Speculations.is_open" = true)
    (k16 : PySem.W.keepIn K (.ref f16) = true)
    (fi17 : PySem.W.findIn K (.ref C3) "add" = some (some (.ref f17)))
    (l17 : K.lookup f17 = some ⟨oc17, od17, .func (PySem.W.fnOf "add" "Speculations.add" (defArgs s_Speculations_add) (defBody s_Speculations_add) (defScope s_Speculations_add) .none kV17 dc17 pm17 an17 cd17 ct17), sl17⟩)
    (c17 : PySem.W.codeIn K cd17 "Speculations.add" = true)
    (k17 : PySem.W.keepIn K (.ref f17) = true)
    (fi18 : PySem.W.findIn K (.ref C3) "held" = some (some (.ref f18)))
    (l18 : K.lookup f18 = some ⟨oc18, od18, .func (PySem.W.fnOf "held" "Speculations.held" (defArgs s_Speculations_held) (defBody s_Speculations_held) (defScope s_Speculations_held) .none kV18 dc18 pm18 an18 cd18 ct18), sl18⟩)
    (c18 : PySem.W.codeIn K cd18 "Speculations.held" = true)
    (k18 : PySem.W.keepIn K (.ref f18) = true)
    (fi19 : PySem.W.findIn K (.ref C3) "commit" = some (some (.ref f19)))
    (l19 : K.lookup f19 = some ⟨oc19, od19, .func (PySem.W.fnOf "commit" "Speculations.commit" (defArgs s_Speculations_commit) (defBody s_Speculations_commit) (defScope s_Speculations_commit) .none kV19 dc19 pm19 an19 cd19 ct19), sl19⟩)
    (c19 : PySem.W.codeIn K cd19 "Speculations.commit" = true)
    (k19 : PySem.W.keepIn K (.ref f19) = true)
    (fi20 : PySem.W.findIn K (.ref C3) "discard" = some (some (.ref f20)))
    (l20 : K.lookup f20 = some ⟨oc20, od20, .func (PySem.W.fnOf "discard" "Speculations.discard" (defArgs s_Speculations_discard) (defBody s_Speculations_discard) (defScope s_Speculations_discard) .none kV20 dc20 pm20 an20 cd20 ct20), sl20⟩)
    (c20 : PySem.W.codeIn K cd20 "Speculations.discard" = true)
    (k20 : PySem.W.keepIn K (.ref f20) = true)
    (a21 : PySem.W.nsIn K mainGlobals "_law_draws" = some (some (.ref f21)))
    (l21 : K.lookup f21 = some ⟨oc21, od21, .func (PySem.W.fnOf "_law_draws" "_law_draws" (defArgs s_law_draws) (defBody s_law_draws) (defScope s_law_draws) .none kV21 dc21 pm21 an21 cd21 ct21), sl21⟩)
    (c21 : PySem.W.codeIn K cd21 "_law_draws" = true)
    (k21 : PySem.W.keepIn K (.ref f21) = true)
    (a22 : PySem.W.nsIn K mainGlobals "_law_reader" = some (some (.ref f22)))
    (l22 : K.lookup f22 = some ⟨oc22, od22, .func (PySem.W.fnOf "_law_reader" "_law_reader" (defArgs s_law_reader) (defBody s_law_reader) (defScope s_law_reader) .none kV22 dc22 pm22 an22 cd22 ct22), sl22⟩)
    (c22 : PySem.W.codeIn K cd22 "_law_reader" = true)
    (k22 : PySem.W.keepIn K (.ref f22) = true)
    (a23 : PySem.W.nsIn K mainGlobals "_law_next" = some (some (.ref f23)))
    (l23 : K.lookup f23 = some ⟨oc23, od23, .func (PySem.W.fnOf "_law_next" "_law_next" (defArgs s_law_next) (defBody s_law_next) (defScope s_law_next) .none kV23 dc23 pm23 an23 cd23 ct23), sl23⟩)
    (c23 : PySem.W.codeIn K cd23 "_law_next" = true)
    (k23 : PySem.W.keepIn K (.ref f23) = true)
    (a24 : PySem.W.nsIn K mainGlobals "_law_record" = some (some (.ref f24)))
    (l24 : K.lookup f24 = some ⟨oc24, od24, .func (PySem.W.fnOf "_law_record" "_law_record" (defArgs s_law_record) (defBody s_law_record) (defScope s_law_record) .none kV24 dc24 pm24 an24 cd24 ct24), sl24⟩)
    (c24 : PySem.W.codeIn K cd24 "_law_record" = true)
    (k24 : PySem.W.keepIn K (.ref f24) = true)
    (a25 : PySem.W.nsIn K mainGlobals "_law_size" = some (some (.ref f25)))
    (l25 : K.lookup f25 = some ⟨oc25, od25, .func (PySem.W.fnOf "_law_size" "_law_size" (defArgs s_law_size) (defBody s_law_size) (defScope s_law_size) .none kV25 dc25 pm25 an25 cd25 ct25), sl25⟩)
    (c25 : PySem.W.codeIn K cd25 "_law_size" = true)
    (k25 : PySem.W.keepIn K (.ref f25) = true)
    (a26 : PySem.W.nsIn K mainGlobals "_law_used" = some (some (.ref f26)))
    (l26 : K.lookup f26 = some ⟨oc26, od26, .func (PySem.W.fnOf "_law_used" "_law_used" (defArgs s_law_used) (defBody s_law_used) (defScope s_law_used) .none kV26 dc26 pm26 an26 cd26 ct26), sl26⟩)
    (c26 : PySem.W.codeIn K cd26 "_law_used" = true)
    (k26 : PySem.W.keepIn K (.ref f26) = true)
    (a27 : PySem.W.nsIn K mainGlobals "_law_joined" = some (some (.ref f27)))
    (l27 : K.lookup f27 = some ⟨oc27, od27, .func (PySem.W.fnOf "_law_joined" "_law_joined" (defArgs s_law_joined) (defBody s_law_joined) (defScope s_law_joined) .none kV27 dc27 pm27 an27 cd27 ct27), sl27⟩)
    (c27 : PySem.W.codeIn K cd27 "_law_joined" = true)
    (k27 : PySem.W.keepIn K (.ref f27) = true)
    (a28 : PySem.W.nsIn K mainGlobals "_law_made_room" = some (some (.ref f28)))
    (l28 : K.lookup f28 = some ⟨oc28, od28, .func (PySem.W.fnOf "_law_made_room" "_law_made_room" (defArgs s_law_made_room) (defBody s_law_made_room) (defScope s_law_made_room) .none kV28 dc28 pm28 an28 cd28 ct28), sl28⟩)
    (c28 : PySem.W.codeIn K cd28 "_law_made_room" = true)
    (k28 : PySem.W.keepIn K (.ref f28) = true)
    (a29 : PySem.W.nsIn K mainGlobals "_law_add" = some (some (.ref f29)))
    (l29 : K.lookup f29 = some ⟨oc29, od29, .func (PySem.W.fnOf "_law_add" "_law_add" (defArgs s_law_add) (defBody s_law_add) (defScope s_law_add) .none kV29 dc29 pm29 an29 cd29 ct29), sl29⟩)
    (c29 : PySem.W.codeIn K cd29 "_law_add" = true)
    (k29 : PySem.W.keepIn K (.ref f29) = true)
    (a30 : PySem.W.nsIn K mainGlobals "_law_add_block" = some (some (.ref f30)))
    (l30 : K.lookup f30 = some ⟨oc30, od30, .func (PySem.W.fnOf "_law_add_block" "_law_add_block" (defArgs s_law_add_block) (defBody s_law_add_block) (defScope s_law_add_block) .none kV30 dc30 pm30 an30 cd30 ct30), sl30⟩)
    (c30 : PySem.W.codeIn K cd30 "_law_add_block" = true)
    (k30 : PySem.W.keepIn K (.ref f30) = true)
    (a31 : PySem.W.nsIn K mainGlobals "_law_begin" = some (some (.ref f31)))
    (l31 : K.lookup f31 = some ⟨oc31, od31, .func (PySem.W.fnOf "_law_begin" "_law_begin" (defArgs s_law_begin) (defBody s_law_begin) (defScope s_law_begin) .none kV31 dc31 pm31 an31 cd31 ct31), sl31⟩)
    (c31 : PySem.W.codeIn K cd31 "_law_begin" = true)
    (k31 : PySem.W.keepIn K (.ref f31) = true)
    (a32 : PySem.W.nsIn K mainGlobals "_law_deed" = some (some (.ref f32)))
    (l32 : K.lookup f32 = some ⟨oc32, od32, .func (PySem.W.fnOf "_law_deed" "_law_deed" (defArgs s_law_deed) (defBody s_law_deed) (defScope s_law_deed) .none kV32 dc32 pm32 an32 cd32 ct32), sl32⟩)
    (c32 : PySem.W.codeIn K cd32 "_law_deed" = true)
    (k32 : PySem.W.keepIn K (.ref f32) = true)
    (a33 : PySem.W.nsIn K mainGlobals "_law_alike" = some (some (.ref f33)))
    (l33 : K.lookup f33 = some ⟨oc33, od33, .func (PySem.W.fnOf "_law_alike" "_law_alike" (defArgs s_law_alike) (defBody s_law_alike) (defScope s_law_alike) .none kV33 dc33 pm33 an33 cd33 ct33), sl33⟩)
    (c33 : PySem.W.codeIn K cd33 "_law_alike" = true)
    (k33 : PySem.W.keepIn K (.ref f33) = true)
    (a34 : PySem.W.nsIn K mainGlobals "law" = some (some (.ref f34)))
    (l34 : K.lookup f34 = some ⟨oc34, od34, .func (PySem.W.fnOf "law" "law" (defArgs s_law) (defBody s_law) (defScope s_law) .none kV34 dc34 pm34 an34 cd34 ct34), sl34⟩)
    (c34 : PySem.W.codeIn K cd34 "law" = true)
    (k34 : PySem.W.keepIn K (.ref f34) = true)
    (pg1 : PySem.W.plainGet K C1 Str.empty = true)
    (hd1 : PySem.W.hasDictIn K C1 = true)
    (po1 : PySem.W.plainOver K C1 = true)
    (sa1 : PySem.W.findIn K (.ref C1) "__setattr__" = some (some (.builtin "object.__setattr__")))
    (mk1 : PySem.W.makesIn K C1 = true)
    (kc1 : PySem.W.keepIn K (.ref C1) = true)
    (is2 : PySem.W.isFn K (.ref f2) = true)
    (is3 : PySem.W.isFn K (.ref f3) = true)
    (is4 : PySem.W.isFn K (.ref f4) = true)
    (is5 : PySem.W.isFn K (.ref f5) = true)
    (is6 : PySem.W.isFn K (.ref f6) = true)
    (na_ItemRow_inner : PySem.W.findIn K (.ref C1) "inner" = some none)
    (pg2 : PySem.W.plainGet K C2 Str.empty = true)
    (hd2 : PySem.W.hasDictIn K C2 = true)
    (po2 : PySem.W.plainOver K C2 = true)
    (sa2 : PySem.W.findIn K (.ref C2) "__setattr__" = some (some (.builtin "object.__setattr__")))
    (mk2 : PySem.W.makesIn K C2 = true)
    (kc2 : PySem.W.keepIn K (.ref C2) = true)
    (is8 : PySem.W.isFn K (.ref f8) = true)
    (is9 : PySem.W.isFn K (.ref f9) = true)
    (is10 : PySem.W.isFn K (.ref f10) = true)
    (is11 : PySem.W.isFn K (.ref f11) = true)
    (is12 : PySem.W.isFn K (.ref f12) = true)
    (is13 : PySem.W.isFn K (.ref f13) = true)
    (na_Buffer_room : PySem.W.findIn K (.ref C2) "room" = some none)
    (na_Buffer_policy : PySem.W.findIn K (.ref C2) "policy" = some none)
    (na_Buffer_used : PySem.W.findIn K (.ref C2) "used" = some none)
    (na_Buffer_lost : PySem.W.findIn K (.ref C2) "lost" = some none)
    (na_Buffer_half : PySem.W.findIn K (.ref C2) "half" = some none)
    (na_Buffer_reading : PySem.W.findIn K (.ref C2) "reading" = some none)
    (pg3 : PySem.W.plainGet K C3 Str.empty = true)
    (hd3 : PySem.W.hasDictIn K C3 = true)
    (po3 : PySem.W.plainOver K C3 = true)
    (sa3 : PySem.W.findIn K (.ref C3) "__setattr__" = some (some (.builtin "object.__setattr__")))
    (mk3 : PySem.W.makesIn K C3 = true)
    (kc3 : PySem.W.keepIn K (.ref C3) = true)
    (is14 : PySem.W.isFn K (.ref f14) = true)
    (is15 : PySem.W.isFn K (.ref f15) = true)
    (is16 : PySem.W.isFn K (.ref f16) = true)
    (is17 : PySem.W.isFn K (.ref f17) = true)
    (is18 : PySem.W.isFn K (.ref f18) = true)
    (is19 : PySem.W.isFn K (.ref f19) = true)
    (is20 : PySem.W.isFn K (.ref f20) = true)
    (na_Speculations_places : PySem.W.findIn K (.ref C3) "places" = some none)
    (na_Speculations_room : PySem.W.findIn K (.ref C3) "room" = some none)
    (na_Speculations_lost : PySem.W.findIn K (.ref C3) "lost" = some none)
    (na_Speculations_given : PySem.W.findIn K (.ref C3) "given" = some none)
    (na_Speculations_waiting : PySem.W.findIn K (.ref C3) "waiting" = some none)
    (z1 : PySem.W.nsIn K mainGlobals "abs" = some none)
    (z2 : PySem.W.nsIn K mainGlobals "bool" = some none)
    (z3 : PySem.W.nsIn K mainGlobals "int" = some none)
    (z4 : PySem.W.nsIn K mainGlobals "isinstance" = some none)
    (z5 : PySem.W.nsIn K mainGlobals "len" = some none)
    (z6 : PySem.W.nsIn K mainGlobals "list" = some none)
    (z7 : PySem.W.nsIn K mainGlobals "min" = some none)
    (z8 : PySem.W.nsIn K mainGlobals "range" = some none)
    (z9 : PySem.W.nsIn K mainGlobals "sorted" = some none)
    (z10 : PySem.W.nsIn K mainGlobals "str" = some none)
    (z11 : PySem.W.nsIn K mainGlobals "sum" = some none)
    (z12 : PySem.W.nsIn K mainGlobals "tuple" = some none)
    (y1 : PySem.W.nsIn K mainGlobals "BARE_SIZE" = some (some w1))
    (x1 : RelV (V.int 2) w1)
    : ∃ fd : FuncData, (∀ (s : Shared) (v : Value), BindsTo s fd ⟨[v], []⟩ [("script", v)]) ∧ ∀ base : Heap, K.In base → base.Ns mainGlobals mg → FnOk l.prog w K mg base CX0 9 fa fd ["script"] (sp_law K) := by
  have e := hfa.symm.trans (PySem.W.mg_of X G a34)
  cases e
  have F1 := fun_mk (st := s_is_lost) l1 c1 k1
  have b1 := F1.binds (ps := ["item"]) fun _ _ _ _ _ _ us hl => match us, hl with | [_], _ => rfl
  have F2 := fun_mk (st := s_ItemRow___init__) l2 c2 k2
  have b2 := F2.binds (ps := ["self"]) fun _ _ _ _ _ _ us hl => match us, hl with | [_], _ => rfl
  have F3 := fun_mk (st := s_ItemRow_add) l3 c3 k3
  have b3 := F3.binds (ps := ["self", "item"]) fun _ _ _ _ _ _ us hl => match us, hl with | [_, _], _ => rfl
  have F4 := fun_mk (st := s_ItemRow_add_lost) l4 c4 k4
  have b4 := F4.binds (ps := ["self", "n"]) fun _ _ _ _ _ _ us hl => match us, hl with | [_, _], _ => rfl
  have F5 := fun_mk (st := s_ItemRow_lose_first) l5 c5 k5
  have b5 := F5.binds (ps := ["self"]) fun _ _ _ _ _ _ us hl => match us, hl with | [_], _ => rfl
  have F6 := fun_mk (st := s_ItemRow_image) l6 c6 k6
  have b6 := F6.binds (ps := ["self"]) fun _ _ _ _ _ _ us hl => match us, hl with | [_], _ => rfl
  have F7 := fun_mk (st := s_size_of) l7 c7 k7
  have b7 := F7.binds (ps := ["record"]) fun _ _ _ _ _ _ us hl => match us, hl with | [_], _ => rfl
  have F8 := fun_mk (st := s_Buffer___init__) l8 c8 k8
  have b8 := F8.binds (ps := ["self", "room", "policy"]) fun _ _ _ _ _ _ us hl => match us, hl with | [_, _, _], _ => rfl
  have F9 := fun_mk (st := s_Buffer_add) l9 c9 k9
  have b9 := F9.binds (ps := ["self", "record"]) fun _ _ _ _ _ _ us hl => match us, hl with | [_, _], _ => rfl
  have F10 := fun_mk (st := s_Buffer_add_block) l10 c10 k10
  have b10 := F10.binds (ps := ["self", "items"]) fun _ _ _ _ _ _ us hl => match us, hl with | [_, _], _ => rfl
  have F11 := fun_mk (st := s_Buffer_make_room) l11 c11 k11
  have b11 := F11.binds (ps := ["self", "size"]) fun _ _ _ _ _ _ us hl => match us, hl with | [_, _], _ => rfl
  have F12 := fun_mk (st := s_Buffer_lose) l12 c12 k12
  have b12 := F12.binds (ps := ["self", "items"]) fun _ _ _ _ _ _ us hl => match us, hl with | [_, _], _ => rfl
  have F13 := fun_mk (st := s_Buffer_held) l13 c13 k13
  have b13 := F13.binds (ps := ["self"]) fun _ _ _ _ _ _ us hl => match us, hl with | [_], _ => rfl
  have F14 := fun_mk (st := s_Speculations___init__) l14 c14 k14
  have b14 := F14.binds (ps := ["self", "places", "room"]) fun _ _ _ _ _ _ us hl => match us, hl with | [_, _, _], _ => rfl
  have F15 := fun_mk (st := s_Speculations_begin) l15 c15 k15
  have b15 := F15.binds (ps := ["self"]) fun _ _ _ _ _ _ us hl => match us, hl with | [_], _ => rfl
  have F16 := fun_mk (st := s_Speculations_is_open) l16 c16 k16
  have b16 := F16.binds (ps := ["self", "number"]) fun _ _ _ _ _ _ us hl => match us, hl with | [_, _], _ => rfl
  have F17 := fun_mk (st := s_Speculations_add) l17 c17 k17
  have b17 := F17.binds (ps := ["self", "number", "record"]) fun _ _ _ _ _ _ us hl => match us, hl with | [_, _, _], _ => rfl
  have F18 := fun_mk (st := s_Speculations_held) l18 c18 k18
  have b18 := F18.binds (ps := ["self", "number"]) fun _ _ _ _ _ _ us hl => match us, hl with | [_, _], _ => rfl
  have F19 := fun_mk (st := s_Speculations_commit) l19 c19 k19
  have b19 := F19.binds (ps := ["self", "number", "buffer"]) fun _ _ _ _ _ _ us hl => match us, hl with | [_, _, _], _ => rfl
  have F20 := fun_mk (st := s_Speculations_discard) l20 c20 k20
  have b20 := F20.binds (ps := ["self", "number"]) fun _ _ _ _ _ _ us hl => match us, hl with | [_, _], _ => rfl
  have F21 := fun_mk (st := s_law_draws) l21 c21 k21
  have b21 := F21.binds (ps := ["script"]) fun _ _ _ _ _ _ us hl => match us, hl with | [_], _ => rfl
  have F22 := fun_mk (st := s_law_reader) l22 c22 k22
  have b22 := F22.binds (ps := ["script"]) fun _ _ _ _ _ _ us hl => match us, hl with | [_], _ => rfl
  have F23 := fun_mk (st := s_law_next) l23 c23 k23
  have b23 := F23.binds (ps := ["draws", "many"]) fun _ _ _ _ _ _ us hl => match us, hl with | [_, _], _ => rfl
  have F24 := fun_mk (st := s_law_record) l24 c24 k24
  have b24 := F24.binds (ps := ["draws"]) fun _ _ _ _ _ _ us hl => match us, hl with | [_], _ => rfl
  have F25 := fun_mk (st := s_law_size) l25 c25 k25
  have b25 := F25.binds (ps := ["record"]) fun _ _ _ _ _ _ us hl => match us, hl with | [_], _ => rfl
  have F26 := fun_mk (st := s_law_used) l26 c26 k26
  have b26 := F26.binds (ps := ["row"]) fun _ _ _ _ _ _ us hl => match us, hl with | [_], _ => rfl
  have F27 := fun_mk (st := s_law_joined) l27 c27 k27
  have b27 := F27.binds (ps := ["row"]) fun _ _ _ _ _ _ us hl => match us, hl with | [_], _ => rfl
  have F28 := fun_mk (st := s_law_made_room) l28 c28 k28
  have b28 := F28.binds (ps := ["m", "size"]) fun _ _ _ _ _ _ us hl => match us, hl with | [_, _], _ => rfl
  have F29 := fun_mk (st := s_law_add) l29 c29 k29
  have b29 := F29.binds (ps := ["m", "record"]) fun _ _ _ _ _ _ us hl => match us, hl with | [_, _], _ => rfl
  have F30 := fun_mk (st := s_law_add_block) l30 c30 k30
  have b30 := F30.binds (ps := ["m", "block"]) fun _ _ _ _ _ _ us hl => match us, hl with | [_, _], _ => rfl
  have F31 := fun_mk (st := s_law_begin) l31 c31 k31
  have b31 := F31.binds (ps := ["specs", "s"]) fun _ _ _ _ _ _ us hl => match us, hl with | [_, _], _ => rfl
  have F32 := fun_mk (st := s_law_deed) l32 c32 k32
  have b32 := F32.binds (ps := ["draws", "specs", "s", "buffer", "m"]) fun _ _ _ _ _ _ us hl => match us, hl with | [_, _, _, _, _], _ => rfl
  have F33 := fun_mk (st := s_law_alike) l33 c33 k33
  have b33 := F33.binds (ps := ["specs", "s", "buffer", "m"]) fun _ _ _ _ _ _ us hl => match us, hl with | [_, _, _, _], _ => rfl
  have F34 := fun_mk (st := s_law) l34 c34 k34
  have b34 := F34.binds (ps := ["script"]) fun _ _ _ _ _ _ us hl => match us, hl with | [_], _ => rfl
  exact ⟨PySem.W.fnOf "law" "law" (defArgs s_law) (defBody s_law) (defScope s_law) .none kV34 dc34 pm34 an34 cd34 ct34, fun s v => .of_eq rfl, fun base _ _ => ok_law (T := {p_is_lost := ⟨f1, _, F1, b1, PySem.W.mg_of X G a1⟩, p_size_of := ⟨f7, _, F7, b7, PySem.W.mg_of X G a7⟩, p_law_draws := ⟨f21, _, F21, b21, PySem.W.mg_of X G a21⟩, p_law_reader := ⟨f22, _, F22, b22, PySem.W.mg_of X G a22⟩, p_law_next := ⟨f23, _, F23, b23, PySem.W.mg_of X G a23⟩, p_law_record := ⟨f24, _, F24, b24, PySem.W.mg_of X G a24⟩, p_law_size := ⟨f25, _, F25, b25, PySem.W.mg_of X G a25⟩, p_law_used := ⟨f26, _, F26, b26, PySem.W.mg_of X G a26⟩, p_law_joined := ⟨f27, _, F27, b27, PySem.W.mg_of X G a27⟩, p_law_made_room := ⟨f28, _, F28, b28, PySem.W.mg_of X G a28⟩, p_law_add := ⟨f29, _, F29, b29, PySem.W.mg_of X G a29⟩, p_law_add_block := ⟨f30, _, F30, b30, PySem.W.mg_of X G a30⟩, p_law_begin := ⟨f31, _, F31, b31, PySem.W.mg_of X G a31⟩, p_law_deed := ⟨f32, _, F32, b32, PySem.W.mg_of X G a32⟩, p_law_alike := ⟨f33, _, F33, b33, PySem.W.mg_of X G a33⟩, p_law := ⟨fa, _, F34, b34, PySem.W.mg_of X G a34⟩, c_ItemRow := ⟨C1, PySem.W.mg_of X G ca1, ⟨pg1, hd1, po1, sa1⟩⟩, p_ItemRow___init__ := ⟨f2, _, F2, b2, ⟨mk1, fi2, is2, kc1⟩⟩, p_ItemRow_add := ⟨f3, _, F3, b3, ⟨fi3, is3, k3⟩⟩, p_ItemRow_add_lost := ⟨f4, _, F4, b4, ⟨fi4, is4, k4⟩⟩, p_ItemRow_lose_first := ⟨f5, _, F5, b5, ⟨fi5, is5, k5⟩⟩, p_ItemRow_image := ⟨f6, _, F6, b6, ⟨fi6, is6, k6⟩⟩, n_ItemRow := ⟨na_ItemRow_inner⟩, c_Buffer := ⟨C2, PySem.W.mg_of X G ca2, ⟨pg2, hd2, po2, sa2⟩⟩, p_Buffer___init__ := ⟨f8, _, F8, b8, ⟨mk2, fi8, is8, kc2⟩⟩, p_Buffer_add := ⟨f9, _, F9, b9, ⟨fi9, is9, k9⟩⟩, p_Buffer_add_block := ⟨f10, _, F10, b10, ⟨fi10, is10, k10⟩⟩, p_Buffer_make_room := ⟨f11, _, F11, b11, ⟨fi11, is11, k11⟩⟩, p_Buffer_lose := ⟨f12, _, F12, b12, ⟨fi12, is12, k12⟩⟩, p_Buffer_held := ⟨f13, _, F13, b13, ⟨fi13, is13, k13⟩⟩, n_Buffer := ⟨na_Buffer_room, na_Buffer_policy, na_Buffer_used, na_Buffer_lost, na_Buffer_half, na_Buffer_reading⟩, c_Speculations := ⟨C3, PySem.W.mg_of X G ca3, ⟨pg3, hd3, po3, sa3⟩⟩, p_Speculations___init__ := ⟨f14, _, F14, b14, ⟨mk3, fi14, is14, kc3⟩⟩, p_Speculations_begin := ⟨f15, _, F15, b15, ⟨fi15, is15, k15⟩⟩, p_Speculations_is_open := ⟨f16, _, F16, b16, ⟨fi16, is16, k16⟩⟩, p_Speculations_add := ⟨f17, _, F17, b17, ⟨fi17, is17, k17⟩⟩, p_Speculations_held := ⟨f18, _, F18, b18, ⟨fi18, is18, k18⟩⟩, p_Speculations_commit := ⟨f19, _, F19, b19, ⟨fi19, is19, k19⟩⟩, p_Speculations_discard := ⟨f20, _, F20, b20, ⟨fi20, is20, k20⟩⟩, n_Speculations := ⟨na_Speculations_places, na_Speculations_room, na_Speculations_lost, na_Speculations_given, na_Speculations_waiting⟩, m_abs := PySem.W.mg_none_of X G z1, m_bool := PySem.W.mg_none_of X G z2, m_int := PySem.W.mg_none_of X G z3, m_isinstance := PySem.W.mg_none_of X G z4, m_len := PySem.W.mg_none_of X G z5, m_list := PySem.W.mg_none_of X G z6, m_min := PySem.W.mg_none_of X G z7, m_range := PySem.W.mg_none_of X G z8, m_sorted := PySem.W.mg_none_of X G z9, m_str := PySem.W.mg_none_of X G z10, m_sum := PySem.W.mg_none_of X G z11, m_tuple := PySem.W.mg_none_of X G z12, v_BARE_SIZE := w1, c_BARE_SIZE := PySem.W.mg_of X G y1, r_BARE_SIZE := x1})⟩
end K24
open PySem PySem.W PyProof.Rows
set_option maxHeartbeats 0 in
theorem PySem.Challenge.cw_tapline_k24_speculations_by_model_holds : PySem.Challenge.rw_tapline_k24_speculations_by_model.Holds := by
  w_on; o_law; k_head; (case hw => w_witness2)
  k_fill
  refine L2.walk_of (l := PySem.Challenge.rw_tapline_k24_speculations_by_model) (n := 63) (k := 9) (x := "script") (CX := fun _ => L2.CX0) (sp := fun w => K24.sp_law _) rfl (by decide) rfl ⟨rfl, by decide, by decide⟩ (fun w h Y => PySem.W.kIn_of Y) ?F (fun _ _ a ns hl _ hS => ⟨a, ns, rfl, hS, hl, fun _ => rfl⟩) (fun _ _ _ _ _ h => h)
  case F =>
    intro w mg fa h KX G hmg
    refine' K24.all_mk KX G hmg ?ca1 ?ca2 ?ca3 ?a1 ?l1 ?c1 ?k1 ?fi2 ?l2 ?c2 ?k2 ?fi3 ?l3 ?c3 ?k3 ?fi4 ?l4 ?c4 ?k4 ?fi5 ?l5 ?c5 ?k5 ?fi6 ?l6 ?c6 ?k6 ?a7 ?l7 ?c7 ?k7 ?fi8 ?l8 ?c8 ?k8 ?fi9 ?l9 ?c9 ?k9 ?fi10 ?l10 ?c10 ?k10 ?fi11 ?l11 ?c11 ?k11 ?fi12 ?l12 ?c12 ?k12 ?fi13 ?l13 ?c13 ?k13 ?fi14 ?l14 ?c14 ?k14 ?fi15 ?l15 ?c15 ?k15 ?fi16 ?l16 ?c16 ?k16 ?fi17 ?l17 ?c17 ?k17 ?fi18 ?l18 ?c18 ?k18 ?fi19 ?l19 ?c19 ?k19 ?fi20 ?l20 ?c20 ?k20 ?a21 ?l21 ?c21 ?k21 ?a22 ?l22 ?c22 ?k22 ?a23 ?l23 ?c23 ?k23 ?a24 ?l24 ?c24 ?k24 ?a25 ?l25 ?c25 ?k25 ?a26 ?l26 ?c26 ?k26 ?a27 ?l27 ?c27 ?k27 ?a28 ?l28 ?c28 ?k28 ?a29 ?l29 ?c29 ?k29 ?a30 ?l30 ?c30 ?k30 ?a31 ?l31 ?c31 ?k31 ?a32 ?l32 ?c32 ?k32 ?a33 ?l33 ?c33 ?k33 ?a34 ?l34 ?c34 ?k34 ?pg1 ?hd1 ?po1 ?sa1 ?mk1 ?kc1 ?is2 ?is3 ?is4 ?is5 ?is6 ?na_ItemRow_inner ?pg2 ?hd2 ?po2 ?sa2 ?mk2 ?kc2 ?is8 ?is9 ?is10 ?is11 ?is12 ?is13 ?na_Buffer_room ?na_Buffer_policy ?na_Buffer_used ?na_Buffer_lost ?na_Buffer_half ?na_Buffer_reading ?pg3 ?hd3 ?po3 ?sa3 ?mk3 ?kc3 ?is14 ?is15 ?is16 ?is17 ?is18 ?is19 ?is20 ?na_Speculations_places ?na_Speculations_room ?na_Speculations_lost ?na_Speculations_given ?na_Speculations_waiting ?z1 ?z2 ?z3 ?z4 ?z5 ?z6 ?z7 ?z8 ?z9 ?z10 ?z11 ?z12 ?y1 ?x1
    (case ca1 => k_is)
    (case ca2 => k_is)
    (case ca3 => k_is)
    (case a1 => k_is)
    (case l1 => k_is)
    (case c1 => k_is)
    (case k1 => k_is)
    (case fi2 => k_is)
    (case l2 => k_is)
    (case c2 => k_is)
    (case k2 => k_is)
    (case fi3 => k_is)
    (case l3 => k_is)
    (case c3 => k_is)
    (case k3 => k_is)
    (case fi4 => k_is)
    (case l4 => k_is)
    (case c4 => k_is)
    (case k4 => k_is)
    (case fi5 => k_is)
    (case l5 => k_is)
    (case c5 => k_is)
    (case k5 => k_is)
    (case fi6 => k_is)
    (case l6 => k_is)
    (case c6 => k_is)
    (case k6 => k_is)
    (case a7 => k_is)
    (case l7 => k_is)
    (case c7 => k_is)
    (case k7 => k_is)
    (case fi8 => k_is)
    (case l8 => k_is)
    (case c8 => k_is)
    (case k8 => k_is)
    (case fi9 => k_is)
    (case l9 => k_is)
    (case c9 => k_is)
    (case k9 => k_is)
    (case fi10 => k_is)
    (case l10 => k_is)
    (case c10 => k_is)
    (case k10 => k_is)
    (case fi11 => k_is)
    (case l11 => k_is)
    (case c11 => k_is)
    (case k11 => k_is)
    (case fi12 => k_is)
    (case l12 => k_is)
    (case c12 => k_is)
    (case k12 => k_is)
    (case fi13 => k_is)
    (case l13 => k_is)
    (case c13 => k_is)
    (case k13 => k_is)
    (case fi14 => k_is)
    (case l14 => k_is)
    (case c14 => k_is)
    (case k14 => k_is)
    (case fi15 => k_is)
    (case l15 => k_is)
    (case c15 => k_is)
    (case k15 => k_is)
    (case fi16 => k_is)
    (case l16 => k_is)
    (case c16 => k_is)
    (case k16 => k_is)
    (case fi17 => k_is)
    (case l17 => k_is)
    (case c17 => k_is)
    (case k17 => k_is)
    (case fi18 => k_is)
    (case l18 => k_is)
    (case c18 => k_is)
    (case k18 => k_is)
    (case fi19 => k_is)
    (case l19 => k_is)
    (case c19 => k_is)
    (case k19 => k_is)
    (case fi20 => k_is)
    (case l20 => k_is)
    (case c20 => k_is)
    (case k20 => k_is)
    (case a21 => k_is)
    (case l21 => k_is)
    (case c21 => k_is)
    (case k21 => k_is)
    (case a22 => k_is)
    (case l22 => k_is)
    (case c22 => k_is)
    (case k22 => k_is)
    (case a23 => k_is)
    (case l23 => k_is)
    (case c23 => k_is)
    (case k23 => k_is)
    (case a24 => k_is)
    (case l24 => k_is)
    (case c24 => k_is)
    (case k24 => k_is)
    (case a25 => k_is)
    (case l25 => k_is)
    (case c25 => k_is)
    (case k25 => k_is)
    (case a26 => k_is)
    (case l26 => k_is)
    (case c26 => k_is)
    (case k26 => k_is)
    (case a27 => k_is)
    (case l27 => k_is)
    (case c27 => k_is)
    (case k27 => k_is)
    (case a28 => k_is)
    (case l28 => k_is)
    (case c28 => k_is)
    (case k28 => k_is)
    (case a29 => k_is)
    (case l29 => k_is)
    (case c29 => k_is)
    (case k29 => k_is)
    (case a30 => k_is)
    (case l30 => k_is)
    (case c30 => k_is)
    (case k30 => k_is)
    (case a31 => k_is)
    (case l31 => k_is)
    (case c31 => k_is)
    (case k31 => k_is)
    (case a32 => k_is)
    (case l32 => k_is)
    (case c32 => k_is)
    (case k32 => k_is)
    (case a33 => k_is)
    (case l33 => k_is)
    (case c33 => k_is)
    (case k33 => k_is)
    (case a34 => k_is)
    (case l34 => k_is)
    (case c34 => k_is)
    (case k34 => k_is)
    (case pg1 => k_is)
    (case hd1 => k_is)
    (case po1 => k_is)
    (case sa1 => k_is)
    (case mk1 => k_is)
    (case kc1 => k_is)
    (case is2 => k_is)
    (case is3 => k_is)
    (case is4 => k_is)
    (case is5 => k_is)
    (case is6 => k_is)
    (case na_ItemRow_inner => k_is)
    (case pg2 => k_is)
    (case hd2 => k_is)
    (case po2 => k_is)
    (case sa2 => k_is)
    (case mk2 => k_is)
    (case kc2 => k_is)
    (case is8 => k_is)
    (case is9 => k_is)
    (case is10 => k_is)
    (case is11 => k_is)
    (case is12 => k_is)
    (case is13 => k_is)
    (case na_Buffer_room => k_is)
    (case na_Buffer_policy => k_is)
    (case na_Buffer_used => k_is)
    (case na_Buffer_lost => k_is)
    (case na_Buffer_half => k_is)
    (case na_Buffer_reading => k_is)
    (case pg3 => k_is)
    (case hd3 => k_is)
    (case po3 => k_is)
    (case sa3 => k_is)
    (case mk3 => k_is)
    (case kc3 => k_is)
    (case is14 => k_is)
    (case is15 => k_is)
    (case is16 => k_is)
    (case is17 => k_is)
    (case is18 => k_is)
    (case is19 => k_is)
    (case is20 => k_is)
    (case na_Speculations_places => k_is)
    (case na_Speculations_room => k_is)
    (case na_Speculations_lost => k_is)
    (case na_Speculations_given => k_is)
    (case na_Speculations_waiting => k_is)
    (case z1 => k_is)
    (case z2 => k_is)
    (case z3 => k_is)
    (case z4 => k_is)
    (case z5 => k_is)
    (case z6 => k_is)
    (case z7 => k_is)
    (case z8 => k_is)
    (case z9 => k_is)
    (case z10 => k_is)
    (case z11 => k_is)
    (case z12 => k_is)
    (case y1 => k_is)
    (case x1 => first | exact ⟨_, rfl⟩ | rfl)
