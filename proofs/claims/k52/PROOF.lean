import PyProof.Rows.All
import Wide.All
import OpenK.AllK
import Wide.FinOn
import HandS.ForMost
import HandS.Wide
import HandS.IsInst
import HandS.Codes
import HandS.Conv
import HandS.Walk
import HandS.Deep
import HandS.SortRule
import HandS.More
import KE.KDictZip
import PyProof.StrOps2
import PyProof.Rows.SetFrom
import HandS.TupAny
import HandS.Zip
import HandS.Zip0
import HandS.Strs
import HandS.SetFor
import HandS.TupSets
import HandS.ListItems
import HandS.SortInts
import HandS.Keys
import HandS.Rev
import KE.KRevIter
import HandS.FStr
import HandS.ForExc
import HandS.Exc
import HandS.ExcOwn
import HandS.WordsExc
import HandS.ExcIs
import HandS.TryOnly
import HandS.NoneIn
import HandS.StrMore
import HandS.StrSplit
import HandS.RaiseMore
import HandS.Text
import HandS.Nested
import HandS.ExcInit
import KE.KExcSuper
import KE.KSuper
import HandS.ExcField
import HandS.TryMany
import PyProof.StrLawsTight
import HandS.WideBits
import HandS.AnyAll
import HandS.EndTab
import PySem.Challenge.RW_tapline_k52_texts_that_are_no_code
set_option Elab.async false
set_option linter.all false
set_option maxRecDepth 100000
set_option maxHeartbeats 4000000
section
/-! reading lemmas: one a construct, its conclusion headed by the construct's name -/
namespace R
open PySem PySem.Spec PyProof.Rows L2
section
variable {nx bk ct : L2.St → Hp → Prop} {rt : V → Hp → Prop}
variable {t u : TS} {D : Ends} {σ σ' : L2.St} {H H1 : Hp} {te ta tb tc : TE} {tr : TA} {i : Nat} {v w x y : V} {Q : VK} {c c' : TT} {K : PySem.W.Frag} {n n' : L2.St → Hp → Prop} {B : Bool → Hp → Prop}
theorem r_seq (h : t ⟨u ⟨nx, rt, bk, ct⟩, rt, bk, ct⟩ σ H) : tSeq t u ⟨nx, rt, bk, ct⟩ σ H := h
theorem r_asg (h : te σ H (fun x H1 => nx (σ.set i (some x)) H1)) : tAsg te (gName i) ⟨nx, rt, bk, ct⟩ σ H := h
theorem r_asgG {g : TG} (h : te σ H (fun x H1 => g x σ H1 nx)) : tAsg te g ⟨nx, rt, bk, ct⟩ σ H := h
theorem r_gname {Q : L2.St → Hp → Prop} (h : Q (σ.set i (some x)) H) : gName i x σ H Q := h
theorem r_ret (h : te σ H rt) : tRet te ⟨nx, rt, bk, ct⟩ σ H := h
theorem r_retN (h : rt .non H) : tRetN ⟨nx, rt, bk, ct⟩ σ H := h
theorem r_drop (h : te σ H (fun _ H1 => nx σ H1)) : tDrop te ⟨nx, rt, bk, ct⟩ σ H := h
theorem r_ifS (h : c σ H (fun b H1 => if b = true then t ⟨nx, rt, bk, ct⟩ σ H1 else u ⟨nx, rt, bk, ct⟩ σ H1)) : tIfS c t u ⟨nx, rt, bk, ct⟩ σ H := h
theorem r_next (h : nx σ H) : tNext ⟨nx, rt, bk, ct⟩ σ H := h
theorem r_brk (h : bk σ H) : tBreak ⟨nx, rt, bk, ct⟩ σ H := h
theorem r_cnt (h : ct σ H) : tCont ⟨nx, rt, bk, ct⟩ σ H := h
/-- for k in range(m): k in slot j; the loop's own end -/
theorem r_rng1 {tr : TA} {tb : TS} {g : TG} (h : tr σ H fun vs H1 => ∃ m : Int, vs = [.int m] ∧ -(2 ^ 62) ≤ m ∧ m < 2 ^ 62 ∧ ∃ W : Nat → Nat → L2.St → Hp → Prop, (∃ q, W 0 q σ H1) ∧ ∀ i q σ H, W i q σ H → ((Itr 0 m.toNat).stop i H ∧ nx σ H) ∨ ((Itr 0 m.toNat).go i H ∧ ∃ N : L2.St → Hp → Prop, (∀ σ' H', N σ' H' → ∃ q', q' < q ∧ W (i + 1) q' σ' H') ∧ ∀ x H', (Itr 0 m.toNat).yld i H x H' → g x σ H' fun σ2 H2 => tb ⟨N, rt, nx, N⟩ σ2 H2)) : tFor (iRng1 tr) g tb ⟨nx, rt, bk, ct⟩ σ H := h
theorem r_rngL {tb : TS} {j : Nat} {m : Int} (Pv : Nat → L2.St → Hp → Prop) (hm : -1000000000 ≤ m ∧ m ≤ 1000000000) (h0 : Pv 0 σ H)
    (hs : ∀ (k : Nat) σ' H', (k : Int) < m → Pv k σ' H' → tb ⟨Pv (k + 1), rt, nx, Pv (k + 1)⟩ (σ'.set j (some (.int (k : Int)))) H') (hd : ∀ σ' H', Pv m.toNat σ' H' → nx σ' H') :
    ∃ m' : Int, [V.int m] = [.int m'] ∧ -(2 ^ 62) ≤ m' ∧ m' < 2 ^ 62 ∧ ∃ W : Nat → Nat → L2.St → Hp → Prop, (∃ q, W 0 q σ H) ∧ ∀ i q σ H, W i q σ H → ((Itr 0 m'.toNat).stop i H ∧ nx σ H) ∨ ((Itr 0 m'.toNat).go i H ∧ ∃ N : L2.St → Hp → Prop, (∀ σ' H', N σ' H' → ∃ q', q' < q ∧ W (i + 1) q' σ' H') ∧ ∀ x H', (Itr 0 m'.toNat).yld i H x H' → gName j x σ H' fun σ2 H2 => tb ⟨N, rt, nx, N⟩ σ2 H2) :=
  ⟨m, rfl, by omega, by omega, for_range (D := ⟨nx, rt, fun _ _ => False, fun _ _ => False⟩) (g := gName j) (lo := 0) (n := m.toNat) Pv h0 (fun k σ' H' hk p => by
    have z := hs k σ' H' (by omega) p
    show tb ⟨Pv (k + 1), rt, nx, Pv (k + 1)⟩ (σ'.set j (some (.int ((0 : Int) + (k : Int))))) H'
    rw [show (0 : Int) + (k : Int) = (k : Int) from Int.zero_add _]
    exact z) hd⟩
/- expressions -/
theorem r_var (e : σ[i]? = some (some v)) (h : Q v H) : tVar i σ H Q := ⟨v, e, h⟩
theorem r_c (h : Q v H) : tC v σ H Q := h
theorem r_op {r : R2} (h : ta σ H fun x H1 => tb σ H1 fun y H2 => r x y H2 Q) : tOp r ta tb σ H Q := h
theorem r_un {r : V → Hp → VK → Prop} (h : ta σ H fun x H1 => r x H1 Q) : tUn r ta σ H Q := h
theorem r_I0 {g : Int → Int → V} {i j : Int} (h : Q (g i j) H) : rI0 g (.int i) (.int j) H Q := ⟨i, j, rfl, rfl, h⟩
theorem r_I {C : Int → Int → Prop} {g : Int → Int → V} {i j : Int} (hc : C i j) (h : Q (g i j) H) : rI C g (.int i) (.int j) H Q := ⟨i, j, rfl, rfl, hc, h⟩
theorem r_U {g : Int → V} {i : Int} (h : Q (g i) H) : rU g (.int i) H Q := ⟨i, rfl, h⟩
theorem r_cb {r : List V → Hp → VK → Prop} (h : tr σ H fun vs H1 => r vs H1 Q) : tCB r tr σ H Q := h
theorem r_cons {Q : List V → Hp → Prop} (h : ta σ H fun x H1 => tr σ H1 fun xs H2 => Q (x :: xs) H2) : tCons ta tr σ H Q := h
theorem r_nil {Q : List V → Hp → Prop} (h : Q [] H) : tNil σ H Q := h
theorem r_tup (h : tr σ H fun xs H1 => xs.length ≤ sizeLine ∧ ∀ p, H1 p = none → Q (.ref p) (upd H1 p (.tup xs))) : tTup tr σ H Q := h
theorem r_lst (h : tr σ H fun xs H1 => xs.length ≤ sizeLine ∧ ∀ p, H1 p = none → Q (.ref p) (upd H1 p (.lst xs))) : tLst tr σ H Q := h
theorem r_call {sp : Sp} {dvs : List V} {E : XK} (h : tr σ H fun vs H1 => sp (vs ++ dvs) H1 Q E) : tCall sp dvs E tr σ H Q := h
theorem r_test (h : ta σ H fun x H' => ∃ k, x = .bl k ∧ B k H') : tTest ta σ H B := h
theorem r_B (h : ta σ H fun x H' => ∃ k, x = .bl k ∧ B k H') : tB ta σ H B := h
theorem r_bl {b : Bool} (h : B b H) : ∃ k, V.bl b = .bl k ∧ B k H := ⟨b, rfl, h⟩
theorem r_and (h : c σ H fun b H1 => if b = true then c' σ H1 B else B false H1) : tAnd c c' σ H B := h
theorem r_or (h : c σ H fun b H1 => if b = true then B true H1 else c' σ H1 B) : tOr c c' σ H B := h
theorem r_not (h : c σ H fun b H1 => B (!b) H1) : tNot c σ H B := h
theorem r_andV (h : ta σ H fun x H1 => ∃ k, x = .bl k ∧ if k = true then tb σ H1 Q else Q (.bl false) H1) : tAndV ta tb σ H Q := h
theorem r_orV (h : ta σ H fun x H1 => ∃ k, x = .bl k ∧ if k = true then Q (.bl true) H1 else tb σ H1 Q) : tOrV ta tb σ H Q := h
theorem r_blV {b : Bool} {P : Bool → Prop} (h : P b) : ∃ k, V.bl b = .bl k ∧ P k := ⟨b, rfl, h⟩
theorem r_notV (h : ta σ H fun x H1 => ∃ k, x = .bl k ∧ Q (.bl (!k)) H1) : tNotV ta σ H Q := h
theorem r_ifE (h : c σ H fun b H1 => if b = true then ta σ H1 Q else tb σ H1 Q) : tIf c ta tb σ H Q := h
theorem r_eqI {i j : Int} (h : Q (.bl (decide (i = j))) H) : rEq (.int i) (.int j) H Q := ⟨rfl, by
  rw [show decide (V.int i = V.int j) = decide (i = j) from by simp]; exact h⟩
theorem r_neI {i j : Int} (h : Q (.bl (!decide (i = j))) H) : rNe (.int i) (.int j) H Q := ⟨rfl, by
  rw [show decide (V.int i = V.int j) = decide (i = j) from by simp]; exact h⟩
theorem r_eqS {i j : Str} (h : Q (.bl (decide (i = j))) H) : rEq (.str i) (.str j) H Q := ⟨rfl, by
  rw [show decide (V.str i = V.str j) = decide (i = j) from by simp]; exact h⟩
theorem r_neS {i j : Str} (h : Q (.bl (!decide (i = j))) H) : rNe (.str i) (.str j) H Q := ⟨rfl, by
  rw [show decide (V.str i = V.str j) = decide (i = j) from by simp]; exact h⟩
theorem r_isN (h : Q (.bl (decide (x = .non))) H) : V.non = .non ∧ Q (.bl (decide (x = .non))) H := ⟨rfl, h⟩
theorem r_t {A B : Prop} (h : A) : if true = true then A else B := iteT h
theorem r_f {A B : Prop} (h : B) : if false = true then A else B := iteF h
theorem r_nf {A B : Prop} (h : A) : if (!false) = true then A else B := iteT h
theorem r_nt {A B : Prop} (h : B) : if (!true) = true then A else B := iteF h
theorem r_ite {p A B : Prop} [Decidable p] (h1 : p → A) (h2 : ¬ p → B) : if decide p = true then A else B := ite2 (fun h => h1 (of_decide_eq_true h)) (fun h => h2 fun q => h (decide_eq_true q))
theorem r_iteN {p A B : Prop} [Decidable p] (h1 : ¬ p → A) (h2 : p → B) : if (!decide p) = true then A else B := by
  by_cases h : p
  · rw [decide_eq_true h]; exact iteF (h2 h)
  · rw [decide_eq_false h]; exact iteT (h1 h)
theorem r_iteY {p A B : Prop} [Decidable p] (h : p) (h1 : A) : if decide p = true then A else B := by rw [decide_eq_true h]; exact iteT h1
theorem r_iteF {p A B : Prop} [Decidable p] (h : ¬ p) (h1 : B) : if decide p = true then A else B := by rw [decide_eq_false h]; exact iteF h1
theorem r_ite_b {b b' : Bool} {A B : Prop} (e : b = b') (h : if b' = true then A else B) : if b = true then A else B := by rw [e]; exact h
theorem r_yes (h : B true H) : tYes σ H B := h
theorem r_bm {T : String} {r : V → List V → Hp → VK → Prop} (h : ta σ H fun x H1 => tyV K T x H1 ∧ tr σ H1 fun xs H2 => r x xs H2 Q) : tBM K T r ta tr σ H Q := h
theorem r_bm0 {T : String} {r : V → List V → Hp → VK → Prop} (h : ta σ H fun x H1 => tyV K T x H1 ∧ r x [] H1 Q) : tBM0 K T r ta σ H Q := h
theorem r_dget (h : ta σ H fun x H1 => tb σ H1 fun y H2 => ∃ a v, x = .ref a ∧ DGet H2 a y (some v) ∧ Q v H2) : tDGet ta tb σ H Q := h
theorem r_dgetS {a : Addr} {kvs : List (Key × V)} {k : Str} (e : H a = some (.dK kvs)) {P : V → Prop} (hv : valV kvs (Sum.inr k : Key) = some v) (h : P v) : ∃ a' v', V.ref a = .ref a' ∧ DGet H a' (.str k) (some v') ∧ P v' :=
  ⟨a, v, rfl, by have z := DGet.k (k := (Sum.inr k : Key)) e; rw [hv] at z; exact z, h⟩
theorem r_dput {bk ct : L2.St → Hp → Prop} (h : tc σ H fun v H1 => ta σ H1 fun x H2 => tb σ H2 fun y H3 => ∃ a H4, x = .ref a ∧ DPut H3 a y v H4 ∧ nx σ H4) : sDPut ta tb tc ⟨nx, rt, bk, ct⟩ σ H := h
theorem r_dputS {a : Addr} {kvs kvs' : List (Key × V)} {k : Str} (e : H a = some (.dK kvs)) (hl : kvs.length ≤ 1000) {P : Hp → Prop} (hv : putK kvs (Sum.inr k : Key) v = kvs') (h : P (upd H a (.dK kvs'))) : ∃ a' H', V.ref a = .ref a' ∧ DPut H a' (.str k) v H' ∧ P H' :=
  ⟨a, _, rfl, DPut.k (k := (Sum.inr k : Key)) e (small1000 hl), by rw [hv]; exact h⟩
theorem r_disp {trs : List (TE × TE)} (h : ∀ p, H p = none → tPairs trs σ (upd H p (.dK [])) fun ps H2 => H2 p = some (.dK []) ∧ ∃ kvs : List (Key × V), ps = kvs.map (fun kv => (kV kv.1, kv.2)) ∧ kvs.length ≤ 15 ∧ Q (.ref p) (upd H2 p (.dK (mergeK [] kvs)))) : tDisp trs σ H Q := h
theorem r_pnil {Q : List (V × V) → Hp → Prop} (h : Q [] H) : tPairs [] σ H Q := h
theorem r_pcons {Q : List (V × V) → Hp → Prop} {trs : List (TE × TE)} (h : ta σ H fun x H1 => tb σ H1 fun y H2 => tPairs trs σ H2 fun ps H3 => Q ((x, y) :: ps) H3) : tPairs ((ta, tb) :: trs) σ H Q := h
theorem r_fld {f : Str} (h : ta σ H fun x H1 => ∃ a C dx fs v, x = .ref a ∧ H1 a = some (.ins C dx fs) ∧ Cls K C ∧ NoAttr K C f ∧ fs.lookup f = some v ∧ Q v H1) : tFld K ta f σ H Q := h
theorem r_slice {r : V → Option Int → Option Int → Hp → VK → Prop} {tl th : TO} (h : te σ H fun x H1 => tl σ H1 fun l H2 => th σ H2 fun u H3 => r x l u H3 Q) : tSl r te tl th σ H Q := h
theorem r_nopart {Q : Option Int → Hp → Prop} (h : Q none H) : tNoPart σ H Q := h
theorem r_part {Q : Option Int → Hp → Prop} (h : te σ H fun x H1 => ∃ i, x = .int i ∧ Q (some i) H1) : tPart te σ H Q := h
theorem r_int {P : Int → Prop} {i : Int} (h : P i) : ∃ j, V.int i = .int j ∧ P j := ⟨i, rfl, h⟩
theorem r_ixL {p : Addr} {xs : List V} {i : Int} (hs : SqL K H p xs) (e : atI xs i = some v) (h : Q v H) : rIxL K (.ref p) (.int i) H Q := ⟨p, xs, i, v, rfl, rfl, hs, e, h⟩
theorem r_ixT {p : Addr} {xs : List V} {i : Int} (hs : SqT K H p xs) (e : atI xs i = some v) (h : Q v H) : rIxT K (.ref p) (.int i) H Q := ⟨p, xs, i, v, rfl, rfl, hs, e, h⟩
theorem r_ixS {z : Str} {i : Int} {k : Nat} (hl : z.length ≤ sizeLine) (e : atI z.cps.toList i = some k) (h : Q (.str ⟨#[k]⟩) H) : rIxS (.str z) (.int i) H Q := ⟨z, i, k, rfl, rfl, hl, e, h⟩
/- built-ins by named relations -/
def rAbs : List V → Hp → VK → Prop := fun xs H Q => ∃ i, xs = [.int i] ∧ Q (.int (if i < 0 then -i else i)) H
theorem r_abs {i : Int} (h : Q (.int (if i < 0 then -i else i)) H) : rAbs [.int i] H Q := ⟨i, rfl, h⟩
def rInt1 : List V → Hp → VK → Prop := fun xs H Q => (∃ i, xs = [.int i] ∧ Q (.int i) H) ∨ ∃ k, xs = [.bl k] ∧ Q (.int (if k then 1 else 0)) H
theorem r_int1 {i : Int} (h : Q (.int i) H) : rInt1 [.int i] H Q := .inl ⟨i, rfl, h⟩
theorem r_int1b {b : Bool} (h : Q (.int (if b then 1 else 0)) H) : rInt1 [.bl b] H Q := .inr ⟨b, rfl, h⟩
def rMin2 : List V → Hp → VK → Prop := fun xs H Q => ∃ i j, xs = [.int i, .int j] ∧ Q (.int (if j < i then j else i)) H
theorem r_min2 {i j : Int} (h : Q (.int (if j < i then j else i)) H) : rMin2 [.int i, .int j] H Q := ⟨i, j, rfl, h⟩
def rLenS (K : PySem.W.Frag) : List V → Hp → VK → Prop := fun xs H Q => ∃ p ys, xs = [.ref p] ∧ (SqL K H p ys ∨ SqT K H p ys) ∧ Q (.int ys.length) H
theorem r_lenL {p : Addr} {ys : List V} (hs : SqL K H p ys) (h : Q (.int ys.length) H) : rLenS K [.ref p] H Q := ⟨p, ys, rfl, .inl hs, h⟩
theorem r_lenT {p : Addr} {ys : List V} (hs : SqT K H p ys) (h : Q (.int ys.length) H) : rLenS K [.ref p] H Q := ⟨p, ys, rfl, .inr hs, h⟩
def CIsi (K : PySem.W.Frag) (H : Hp) (x c : V) (b : Bool) : Prop := ∃ (t u : Value), ClsV c u ∧ TyX K H x t ∧ PySem.W.kitOne K t u = some b
theorem r_isi {x c : V} {b : Bool} (hc : CIsi K H x c b) (h : Q (.bl b) H) : rIsi K [x, c] H Q := by
  obtain ⟨t, u, a, b', e⟩ := hc
  exact ⟨x, c, t, u, b, rfl, a, b', e, h⟩
theorem isi_int {i : Int} : CIsi K H (.int i) (.ty "int") true := ⟨_, _, .ty _, .base (.int i), kit_ty (by decide +kernel)⟩
theorem isi_intB {i : Int} : CIsi K H (.int i) (.ty "bool") false := ⟨_, _, .ty _, .base (.int i), kit_ty (by decide +kernel)⟩
theorem isi_lst {p : Addr} {xs : List V} (e : H p = some (.lst xs)) : CIsi K H (.ref p) (.ty "list") true := ⟨_, _, .ty _, .base (.lst e), kit_ty (by decide +kernel)⟩
theorem isi_tup {p : Addr} {xs : List V} (e : H p = some (.tup xs)) : CIsi K H (.ref p) (.ty "tuple") true := ⟨_, _, .ty _, .base (.tup e), kit_ty (by decide +kernel)⟩
theorem r_pow {i j z : Int} (e : i ^ j.toNat = z) (hc : CPow i j) (h : Q (.int z) H) : rI CPow (fun i j => .int (i ^ j.toNat)) (.int i) (.int j) H Q := ⟨i, j, rfl, rfl, hc, by show Q (.int (i ^ j.toNat)) H; rw [e]; exact h⟩
theorem r_p2_63 (h : Q (.int 9223372036854775808) H) : rI CPow (fun i j => .int (i ^ j.toNat)) (.int 2) (.int 63) H Q := r_pow (by decide) (by unfold CPow; decide) h
theorem r_p2_64 (h : Q (.int 18446744073709551616) H) : rI CPow (fun i j => .int (i ^ j.toNat)) (.int 2) (.int 64) H Q := r_pow (by decide) (by unfold CPow; decide) h
theorem r_p2_32 (h : Q (.int 4294967296) H) : rI CPow (fun i j => .int (i ^ j.toNat)) (.int 2) (.int 32) H Q := r_pow (by decide) (by unfold CPow; decide) h
theorem r_p2_31 (h : Q (.int 2147483648) H) : rI CPow (fun i j => .int (i ^ j.toNat)) (.int 2) (.int 31) H Q := r_pow (by decide) (by unfold CPow; decide) h
theorem r_p10_18 (h : Q (.int 1000000000000000000) H) : rI CPow (fun i j => .int (i ^ j.toNat)) (.int 10) (.int 18) H Q := r_pow (by decide) (by unfold CPow; decide) h
theorem r_p10_30 (h : Q (.int 1000000000000000000000000000000) H) : rI CPow (fun i j => .int (i ^ j.toNat)) (.int 10) (.int 30) H Q := r_pow (by decide) (by unfold CPow; decide) h
theorem r_mulR {i j : Int} (hc : -(2 ^ 64) < j ∧ j < 2 ^ 64) (h : Q (.int (i * j)) H) : rI CMul (fun i j => .int (i * j)) (.int i) (.int j) H Q := ⟨i, j, rfl, rfl, .inr hc, h⟩
theorem r_mulL {i j : Int} (hc : -(2 ^ 64) < i ∧ i < 2 ^ 64) (h : Q (.int (i * j)) H) : rI CMul (fun i j => .int (i * j)) (.int i) (.int j) H Q := ⟨i, j, rfl, rfl, .inl hc, h⟩
theorem r_div {i j : Int} (hc : 0 < j ∧ j < 1073741824) (h : Q (.int (i / j)) H) : rI CDiv (fun i j => .int (i / j)) (.int i) (.int j) H Q := ⟨i, j, rfl, rfl, hc, h⟩
theorem r_mod {i j : Int} (hc : 0 < j) (h : Q (.int (i % j)) H) : rI (fun _ j => 0 < j) (fun i j => .int (i % j)) (.int i) (.int j) H Q := ⟨i, j, rfl, rfl, hc, h⟩
theorem eqS {s a : Str} : eqV (.str a) (.str s) = decide (s = a) := by
  show (a == s) = decide (s = a)
  by_cases h : s = a
  · subst h
    rw [decide_eq_true rfl, beq_self_eq_true]
  · rw [decide_eq_false h]
    exact beq_eq_false_iff_ne.mpr fun z => h z.symm
theorem in2 {s a b : Str} : inV (.str s) [.str a, .str b] = (decide (s = a) || decide (s = b)) := by
  unfold inV
  rw [List.any_cons, List.any_cons, List.any_nil, Bool.or_false, eqS, eqS]
theorem in3 {s a b c : Str} : inV (.str s) [.str a, .str b, .str c] = (decide (s = a) || (decide (s = b) || decide (s = c))) := by
  unfold inV
  rw [List.any_cons, List.any_cons, List.any_cons, List.any_nil, Bool.or_false, eqS, eqS, eqS]
theorem r_inT {p : Addr} {xs : List V} {b : Bool} (e : H p = some (.tup xs)) (hx : flatV x = true) (ha : xs.all flatV = true) (hb : inV x xs = b) (h : Q (.bl b) H) : rIn K false x (.ref p) H Q :=
  ⟨p, xs, rfl, .inr (.inl (.inl e)), hx, ha, by rw [if_neg Bool.false_ne_true, hb]; exact h⟩
theorem r_niT {p : Addr} {xs : List V} {b : Bool} (e : H p = some (.tup xs)) (hx : flatV x = true) (ha : xs.all flatV = true) (hb : inV x xs = b) (h : Q (.bl (!b)) H) : rIn K true x (.ref p) H Q :=
  ⟨p, xs, rfl, .inr (.inl (.inl e)), hx, ha, by rw [if_pos rfl, hb]; exact h⟩
theorem r_m1 {r : V → List V → Hp → VK → Prop} (h : ta σ H fun x H1 => (∃ a, x = .str a) ∧ te σ H1 fun y H2 => r x [y] H2 Q) : tM1 r ta te σ H Q := h
/-- [e for x in range(m)] -/
def LcR (te : TE) (g : TG) (ts : TT) (vs : List Nat) (σ : L2.St) (Q : VK) : List V → Hp → Prop := fun ws H1 => ∃ m : Int, ws = [.int m] ∧ -(2 ^ 62) ≤ m ∧ m < 2 ^ 62 ∧ ∀ D, H1 D = none → ∃ W : Nat → Nat → Hp → Prop, (∃ q, W 0 q (upd H1 D (.lst []))) ∧ ∀ i q H, W i q H →
      ((Itr 0 m.toNat).stop i H ∧ Q (.ref D) H) ∨ ((Itr 0 m.toNat).go i H ∧ ∃ Nx : Hp → Prop, (∀ H', Nx H' → ∃ q', q' < q ∧ W (i + 1) q' H') ∧ ∀ x H', (Itr 0 m.toNat).yld i H x H' → g x (wipe σ vs) H' fun σ2 H2 => wipe σ2 vs = wipe σ vs ∧ ts σ2 H2 fun b H3 =>
        if b = true then te σ2 H3 fun y H4 => ∃ acc, H4 D = some (.lst acc) ∧ acc.length < sizeLine ∧ Nx (upd H4 D (.lst (acc ++ [y]))) else Nx H3)
theorem r_lcr {g : TG} {ts : TT} {vs : List Nat} (h : tr σ H (LcR te g ts vs σ Q)) : tLc (iRng1 tr) g ts te vs σ H Q := h
theorem r_lcR {j : Nat} {vs : List Nat} {m : Int} (Pv : Addr → Nat → Hp → Prop) (hm : -1000000000 ≤ m ∧ m ≤ 1000000000) (h0 : ∀ D, H D = none → Pv D 0 (upd H D (.lst [])))
    (hw : ∀ x, wipe ((wipe σ vs).set j (some x)) vs = wipe σ vs)
    (hs : ∀ D (k : Nat) H', H D = none → (k : Int) < m → Pv D k H' → te ((wipe σ vs).set j (some (.int (k : Int)))) H' fun y H4 => ∃ acc, H4 D = some (.lst acc) ∧ acc.length < sizeLine ∧ Pv D (k + 1) (upd H4 D (.lst (acc ++ [y]))))
    (hd : ∀ D H', H D = none → Pv D m.toNat H' → Q (.ref D) H') : LcR te (gName j) tYes vs σ Q [.int m] H := by
  refine ⟨m, rfl, by omega, by omega, fun D hD => lc_range (lo := 0) (n := m.toNat) (Pv D) (h0 D hD) (fun k H' hk p => ?_) (fun H' p => hd D H' hD p)⟩
  refine ⟨hw _, ?_⟩
  have z := hs D k H' hD (by omega) p
  rw [show (0 : Int) + (k : Int) = (k : Int) from Int.zero_add _]
  exact r_yes (iteT z)
/- own rules by value -/
end
theorem r_cut {t u : TS} {nx bk ct : L2.St → Hp → Prop} {rt : V → Hp → Prop} {σ : L2.St} {H : Hp} (Mid : L2.St → Hp → Prop) (h : t ⟨Mid, rt, bk, ct⟩ σ H) (h2 : ∀ σ' H', Mid σ' H' → u ⟨nx, rt, bk, ct⟩ σ' H') : C8.tCut t u ⟨nx, rt, bk, ct⟩ σ H := ⟨Mid, h, h2⟩
section
variable {X : Cx}
theorem cAbs : CallR X (.builtin "abs") rAbs := call_abs
theorem cInt1 : CallR X (.type "int") rInt1 := call_int1
theorem cMin2 (hc : X.calm = true) : CallR X (.builtin "min") rMin2 := call_min2 hc
theorem cLenS : CallR X (.builtin "len") (rLenS X.K) := call_len_seq
/-- // by any divisor below 2 ^ 9000 but 0 -/
def CDivZ (_ j : Int) : Prop := j ≠ 0 ∧ j.natAbs.log2 < 9000
theorem op_fdivZ : OpR X (binaryOp .FloorDiv) (rI CDivZ fun i j => .int (i.fdiv j)) := opI fun i j _ _ _ _ _ hc q => by
  exact floordiv_int hc.1 q (.inl (PyProof.noPylong_of_log2 hc.2))
theorem div_ok {i j : Int} (h : j ≠ 0) (hb : j.natAbs < 2 ^ 100) : CDivZ i j := ⟨h, Nat.lt_of_lt_of_le (PySem.Flt.log2_lt_of (by decide) hb) (by decide)⟩
end
/- heaps -/
/-- all but p stands as it stood -/
def Mv (p : Addr) (H H' : Hp) : Prop := ∀ b o, H b = some o → b ≠ p → H' b = some o
theorem Mv.refl {p : Addr} {H : Hp} : Mv p H H := fun _ _ e _ => e
theorem Mv.trans {p : Addr} {H H1 H2 : Hp} (a : Mv p H H1) (b : Mv p H1 H2) : Mv p H H2 := fun c o h hp => b c o (a c o h hp) hp
theorem Mv.upd {p : Addr} {H : Hp} {o : HO} : Mv p H (upd H p o) := fun b u e hp => by rw [upd_ne hp]; exact e
theorem Mv.of {p : Addr} {H H' : Hp} (a : Same H H') : Mv p H H' := fun b o e _ => a b o e
theorem same_new {H : Hp} {p : Addr} {o : HO} (h : H p = none) : Same H (upd H p o) := fun b x e => by
  rw [upd_ne (ne_of_none e h)]
  exact e
theorem same_new2 {H : Hp} {p : Addr} {o o' : HO} (h : H p = none) : Same H (upd (upd H p o) p o') := fun b x e => by
  rw [upd_ne (ne_of_none e h), upd_ne (ne_of_none e h)]
  exact e
theorem Same.sqt {K : PySem.W.Frag} {H H' : Hp} {a : Addr} {xs : List V} (e : Same H H') (h : SqT K H a xs) : SqT K H' a xs := by
  rcases h with (h | ⟨o, h⟩) | h
  · exact .inl (.inl (e _ _ h))
  · exact .inl (.inr ⟨o, e _ _ h⟩)
  · exact .inr h
theorem sqL {K : PySem.W.Frag} {H : Hp} {a : Addr} {xs : List V} (h : H a = some (.lst xs)) : SqL K H a xs := .inl (.inl h)
theorem sqT {K : PySem.W.Frag} {H : Hp} {a : Addr} {xs : List V} (h : H a = some (.tup xs)) : SqT K H a xs := .inl (.inl h)
theorem size_of {n : Nat} (h : n ≤ 100000) : n ≤ sizeLine := Nat.le_trans h (by decide)
theorem size_lt {n : Nat} (h : n < 100000) : n < sizeLine := Nat.lt_of_lt_of_le h (by decide)
theorem at_nat {α : Type} {xs : List α} {i : Int} {v : α} (h0 : 0 ≤ i) (h : xs[i.toNat]? = some v) : atI xs i = some v := by
  have z := atI_nat h
  rwa [Int.toNat_of_nonneg h0] at z
theorem map_int_get {ns : List Int} {i : Nat} {y : V} (h : (ns.map V.int)[i]? = some y) : ∃ z, ns[i]? = some z ∧ y = .int z := by
  rw [List.getElem?_map] at h
  cases e : ns[i]? with
  | none => rw [e] at h; cases h
  | some z => rw [e] at h; exact ⟨z, rfl, (Option.some.inj h).symm⟩
/-! what the top has written, in packs -/
structure FnP (K : PySem.W.Frag) (mg : Str → Option Value) (x qual : Str) (st : Stmt) (ps : List Str) where
  f : Addr
  fd : FuncData
  F : Fun K x qual st f fd
  b : Binds K fd ps []
  g : mg x = some (.ref f)
structure MtP (K : PySem.W.Frag) (x qual : Str) (st : Stmt) (ps : List Str) (C : Addr) where
  f : Addr
  fd : FuncData
  F : Fun K x qual st f fd
  b : Binds K fd ps []
  me : Meth K C x f
structure InP (K : PySem.W.Frag) (x qual : Str) (st : Stmt) (ps : List Str) (C : Addr) where
  f : Addr
  fd : FuncData
  F : Fun K x qual st f fd
  b : Binds K fd ps []
  M : Mk K C f
structure ClP (K : PySem.W.Frag) (mg : Str → Option Value) (x : Str) where
  a : Addr
  g : mg x = some (.ref a)
  cl : Cls K a
end R
end
section
/-! nested data: == is equality where no truth stands in it -/
namespace D
open PySem
mutual
def nb : PyData → Bool
  | .none => true
  | .int _ => true
  | .str _ => true
  | .bool _ => false
  | .dict _ => false
  | .list xs => nbAll xs
  | .tuple xs => nbAll xs
def nbAll : List PyData → Bool
  | [] => true
  | x :: xs => nb x && nbAll xs
end
mutual
theorem eqv_nb : ∀ d e : PyData, nb d = true → nb e = true → (PyData.eqv d e = true ↔ d = e)
  | .none, e, _, he => by cases e <;> simp [PyData.eqv, nb] at he ⊢
  | .int i, e, _, he => by cases e <;> simp [PyData.eqv, nb] at he ⊢
  | .str i, e, _, he => by cases e <;> simp [PyData.eqv, nb] at he ⊢
  | .bool _, _, hd, _ => by simp [nb] at hd
  | .dict _, _, hd, _ => by simp [nb] at hd
  | .list xs, e, hd, he => by
    cases e with
    | list ys =>
      have z := eqvAll_nb xs ys (by simpa [nb] using hd) (by simpa [nb] using he)
      rw [PyData.eqv, z]
      exact ⟨fun h => by rw [h], fun h => by injection h⟩
    | _ => simp [PyData.eqv, nb] at he ⊢
  | .tuple xs, e, hd, he => by
    cases e with
    | tuple ys =>
      have z := eqvAll_nb xs ys (by simpa [nb] using hd) (by simpa [nb] using he)
      rw [PyData.eqv, z]
      exact ⟨fun h => by rw [h], fun h => by injection h⟩
    | _ => simp [PyData.eqv, nb] at he ⊢
theorem eqvAll_nb : ∀ xs ys : List PyData, nbAll xs = true → nbAll ys = true → (PyData.eqvAll xs ys = true ↔ xs = ys)
  | [], ys, _, _ => by cases ys <;> simp [PyData.eqvAll]
  | x :: xs, [], _, _ => by simp [PyData.eqvAll]
  | x :: xs, y :: ys, hx, hy => by
    simp only [nbAll, Bool.and_eq_true] at hx hy
    rw [PyData.eqvAll, Bool.and_eq_true, eqv_nb x y hx.1 hy.1, eqvAll_nb xs ys hx.2 hy.2]
    exact ⟨fun h => by rw [h.1, h.2], fun h => by injection h with a b; exact ⟨a, b⟩⟩
end
theorem eqv_dec {d e : PyData} {p : Prop} [Decidable p] (hd : nb d = true) (he : nb e = true) (h : d = e ↔ p) : PyData.eqv d e = decide p := by
  rw [Bool.eq_iff_iff, eqv_nb d e hd he, h, decide_eq_true_iff]
theorem nbAll_of {xs : List PyData} (h : ∀ x ∈ xs, nb x = true) : nbAll xs = true := by
  induction xs with
  | nil => rfl
  | cons x xs ih =>
    rw [nbAll, Bool.and_eq_true]
    exact ⟨h x List.mem_cons_self, ih fun y hy => h y (List.mem_cons_of_mem _ hy)⟩
/-- it may be compared; its depth is at most k -/
structure Sh (k : Nat) (d : PyData) : Prop where
  n : nb d = true
  c : d.canLay0 = true
  d : d.depth ≤ k
theorem Sh.shaped {k : Nat} {d : PyData} (h : Sh k d) (hk : k ≤ 64) : SeqAt.shaped d = true := by
  unfold SeqAt.shaped
  rw [h.c, decide_eq_true (Nat.le_trans h.d hk)]
  rfl
theorem Sh.int {k : Nat} (i : Int) : Sh k (.int i) := ⟨rfl, rfl, Nat.zero_le _⟩
theorem Sh.str {k : Nat} {x : Str} (h : PyData.strOk x = true) : Sh k (.str x) := ⟨rfl, by rw [PyData.canLay0]; exact h, Nat.zero_le _⟩
theorem lay_of {xs : List PyData} (h : ∀ x ∈ xs, x.canLay0 = true) : PyData.canLayAll0 xs = true := by
  induction xs with
  | nil => rfl
  | cons x xs ih =>
    rw [PyData.canLayAll0, Bool.and_eq_true]
    exact ⟨h x List.mem_cons_self, ih fun y hy => h y (List.mem_cons_of_mem _ hy)⟩
theorem depth_of {xs : List PyData} {k : Nat} (h : ∀ x ∈ xs, x.depth ≤ k) : PyData.depthAll xs ≤ k := by
  induction xs with
  | nil => exact Nat.zero_le _
  | cons x xs ih =>
    rw [PyData.depthAll]
    exact Nat.max_le.mpr ⟨h x List.mem_cons_self, ih fun y hy => h y (List.mem_cons_of_mem _ hy)⟩
theorem Sh.tup {k : Nat} {xs : List PyData} (h : ∀ x ∈ xs, Sh k x) : Sh (k + 1) (.tuple xs) :=
  ⟨by rw [nb]; exact nbAll_of fun x hx => (h x hx).n, by rw [PyData.canLay0]; exact lay_of fun x hx => (h x hx).c, by rw [PyData.depth]; exact Nat.succ_le_succ (depth_of fun x hx => (h x hx).d)⟩
theorem Sh.lst {k : Nat} {xs : List PyData} (h : ∀ x ∈ xs, Sh k x) : Sh (k + 1) (.list xs) :=
  ⟨by rw [nb]; exact nbAll_of fun x hx => (h x hx).n, by rw [PyData.canLay0]; exact lay_of fun x hx => (h x hx).c, by rw [PyData.depth]; exact Nat.succ_le_succ (depth_of fun x hx => (h x hx).d)⟩
theorem Sh.mono {j k : Nat} {d : PyData} (h : Sh j d) (hk : j ≤ k) : Sh k d := ⟨h.n, h.c, Nat.le_trans h.d hk⟩
theorem Sh.cons {k : Nat} {x : PyData} {xs : List PyData} (h : Sh k x) (t : ∀ y ∈ xs, Sh k y) : ∀ y ∈ x :: xs, Sh k y := fun y hy => by
  rcases List.mem_cons.mp hy with e | e
  · rw [e]; exact h
  · exact t y e
theorem Sh.nil {k : Nat} : ∀ y ∈ ([] : List PyData), Sh k y := fun _ h => nomatch h
theorem Sh.ints {k : Nat} {l : List Int} : ∀ y ∈ l.map PyData.int, Sh k y := fun y hy => by
  obtain ⟨i, _, e⟩ := List.mem_map.mp hy
  rw [← e]
  exact .int i
open L2
/-- what stands at the values -/
theorem all_map {K : PySem.W.Frag} {H : Hp} {α : Type} {f : α → V} {g : α → PyData} {xs : List α} (h : ∀ x ∈ xs, Dp K H (f x) (g x)) : DpAll K H (xs.map f) (xs.map g) := by
  induction xs with
  | nil => exact .nil
  | cons x xs ih => exact .cons (h x List.mem_cons_self) (ih fun y hy => h y (List.mem_cons_of_mem _ hy))
theorem all_ints {K : PySem.W.Frag} {H : Hp} {l : List Int} : DpAll K H (l.map V.int) (l.map PyData.int) := all_map fun x _ => .int x
mutual
theorem dp_same {K : PySem.W.Frag} {H H' : Hp} (s : Same H H') : ∀ (v : V) (d : PyData), Dp K H v d → Dp K H' v d
  | _, _, .non => .non
  | _, _, .bl b => .bl b
  | _, _, .int b => .int b
  | _, _, .str b => .str b
  | _, _, .lst q h => .lst (s.seq q) (dpAll_same s _ _ h)
  | _, _, .tup q h => .tup (R.Same.sqt s q) (dpAll_same s _ _ h)
theorem dpAll_same {K : PySem.W.Frag} {H H' : Hp} (s : Same H H') : ∀ (v : List V) (d : List PyData), DpAll K H v d → DpAll K H' v d
  | _, _, .nil => .nil
  | _, _, .cons a b => .cons (dp_same s _ _ a) (dpAll_same s _ _ b)
end
/-- a == b, a != b of data without truths -/
theorem r_eqD {K : PySem.W.Frag} {H : Hp} {Q : VK} {x y : V} {d e : PyData} {k j : Nat} {p : Prop} [Decidable p] (hx : Dp K H x d) (hy : Dp K H y e) (sd : Sh k d) (se : Sh j e) (hk : k ≤ 64) (hj : j ≤ 64) (h : d = e ↔ p) (q : Q (.bl (decide p)) H) : rEqD K x y H Q :=
  ⟨d, e, hx, hy, sd.shaped hk, se.shaped hj, by rw [eqv_dec sd.n se.n h]; exact q⟩
theorem r_neD {K : PySem.W.Frag} {H : Hp} {Q : VK} {x y : V} {d e : PyData} {k j : Nat} {p : Prop} [Decidable p] (hx : Dp K H x d) (hy : Dp K H y e) (sd : Sh k d) (se : Sh j e) (hk : k ≤ 64) (hj : j ≤ 64) (h : d = e ↔ p) (q : Q (.bl (!decide p)) H) : rNeD K x y H Q :=
  ⟨d, e, hx, hy, sd.shaped hk, se.shaped hj, by rw [eqv_dec sd.n se.n h]; exact q⟩
end D
end
section
/-! the machine: its state as plain data, and what of it stands in the heap -/
namespace MM
open PySem PySem.Spec PyProof.Rows L2
/-! ### plain data -/
inductive Cond where
  | ready | running (c : Nat) | sleeping (c : Nat) (u : Int) | asking | waiting (t : Int) | ended (k : Int)
def condV : Cond → List V
  | .ready => [.str "ready"]
  | .running c => [.str "running", .int (c : Int)]
  | .sleeping c u => [.str "sleeping", .int (c : Int), .int u]
  | .asking => [.str "asking"]
  | .waiting t => [.str "waiting", .int t]
  | .ended k => [.str "ended", .int k]
structure Vw where
  kind : Str
  cpu : Int
  time : Int
  pid : Int
  tid : Int
  at' : Int
  args : List Int
  regs : List Int
  mem : List Int
structure Th where
  pid : Nat
  pc : Int
  regs : List Int
  cond : Cond
  call : Int
  callAt : Int
structure Mm where
  cells : List Int
  kept : List (Int × Int)
structure MS where
  mem : List Mm
  rates : List Int
  ths : List Th
  ready : List Nat
  times : List Int
  run : List Int
  dev : Int
  reqs : List (Nat × Int × Int)
  cpu : Nat
  views : List Vw
/-! ### places -/
inductive Tg where
  | brd | thsL | memL | rdyL | timL | runL | reqL | vwsL | thr (i : Nat) | rgs (i : Nat) | mem (i : Nat) | cls (i : Nat) | kpt (i : Nat)
  deriving DecidableEq
def dom (kd : Bool) (nt nm : Nat) : Tg → Prop
  | .thr i => i < nt
  | .rgs i => i < nt
  | .mem i => i < nm
  | .cls i => i < nm
  | .kpt i => kd = true ∧ i < nm
  | _ => True
theorem dom.mono {kd : Bool} {nt nt' nm : Nat} {t : Tg} (h : nt ≤ nt') (d : dom kd nt nm t) : dom kd nt' nm t := by
  cases t <;> first | exact d | exact Nat.lt_of_lt_of_le d h
/-- what the fields and lists hold beside the plain data -/
structure Gh where
  dB : Addr
  dT : Nat → Addr
  dM : Nat → Addr
  cv : Nat → Addr
  rq : List Addr
  vw : List Addr
  rt : Addr
structure Cl where
  kd : Bool
  CB : Addr
  CT : Addr
  CM : Addr
def fsB (ad : Tg → Addr) (rt : Addr) (dev : Int) (cpu : Nat) : List (Str × V) :=
  [("memories", .ref (ad .memL)), ("rates", .ref rt), ("threads", .ref (ad .thsL)), ("ready", .ref (ad .rdyL)), ("times", .ref (ad .timL)), ("running", .ref (ad .runL)), ("device_value", .int dev), ("requests", .ref (ad .reqL)), ("cpu", .int (cpu : Int)), ("views", .ref (ad .vwsL))]
def fsT (rg : Addr) (c : Addr) (t : Th) : List (Str × V) :=
  [("pid", .int (t.pid : Int)), ("pc", .int t.pc), ("regs", .ref rg), ("condition", .ref c), ("call", .int t.call), ("call_at", .int t.callAt)]
def fsM (kd : Bool) (cl kp : Addr) : List (Str × V) := if kd then [("cells", .ref cl), ("kept", .ref kp)] else [("cells", .ref cl)]
def keptV (k : List (Int × Int)) : List (Key × V) := k.map fun p => (.inl p.1, .int p.2)
def cont (c : Cl) (ad : Tg → Addr) (g : Gh) (S : MS) : Tg → Option HO
  | .brd => some (.ins c.CB g.dB (fsB ad g.rt S.dev S.cpu))
  | .thsL => some (.lst ((List.range S.ths.length).map fun i => .ref (ad (.thr i))))
  | .memL => some (.lst ((List.range S.mem.length).map fun i => .ref (ad (.mem i))))
  | .rdyL => some (.lst (S.ready.map fun i : Nat => V.int (i : Int)))
  | .timL => some (.lst (S.times.map V.int))
  | .runL => some (.lst (S.run.map V.int))
  | .reqL => some (.lst (g.rq.map V.ref))
  | .vwsL => some (.lst (g.vw.map V.ref))
  | .thr i => S.ths[i]?.map fun t => .ins c.CT (g.dT i) (fsT (ad (.rgs i)) (g.cv i) t)
  | .rgs i => S.ths[i]?.map fun t => .lst (t.regs.map V.int)
  | .mem i => S.mem[i]?.map fun _ => .ins c.CM (g.dM i) (fsM c.kd (ad (.cls i)) (ad (.kpt i)))
  | .cls i => S.mem[i]?.map fun m => .lst (m.cells.map V.int)
  | .kpt i => if c.kd then S.mem[i]?.map fun m => .dK (keptV m.kept) else none
/-- a view's tuples -/
def VwAt (H : Hp) (a : Addr) (w : Vw) : Prop := ∃ e r m g, H a = some (.tup [.ref e, .ref r, .ref m]) ∧ H e = some (.tup [.str w.kind, .int w.cpu, .int w.time, .int w.pid, .int w.tid, .int w.at', .ref g]) ∧
  H g = some (.tup (w.args.map V.int)) ∧ H r = some (.tup (w.regs.map V.int)) ∧ H m = some (.tup (w.mem.map V.int))
def RqAt (H : Hp) (a : Addr) (q : Nat × Int × Int) : Prop := H a = some (.tup [.int (q.1 : Int), .int q.2.1, .int q.2.2])
/-- pairwise -/
inductive All2 {α β : Type} (R : α → β → Prop) : List α → List β → Prop
  | nil : All2 R [] []
  | cons {a b as bs} : R a b → All2 R as bs → All2 R (a :: as) (b :: bs)
theorem All2.length {α β : Type} {R : α → β → Prop} : ∀ {as : List α} {bs : List β}, All2 R as bs → as.length = bs.length
  | _, _, .nil => rfl
  | _, _, .cons _ t => congrArg (· + 1) t.length
theorem All2.imp {α β : Type} {R R' : α → β → Prop} (h : ∀ a b, R a b → R' a b) : ∀ {as : List α} {bs : List β}, All2 R as bs → All2 R' as bs
  | _, _, .nil => .nil
  | _, _, .cons r t => .cons (h _ _ r) (t.imp h)
theorem All2.snoc {α β : Type} {R : α → β → Prop} {a : α} {b : β} (r : R a b) : ∀ {as : List α} {bs : List β}, All2 R as bs → All2 R (as ++ [a]) (bs ++ [b])
  | _, _, .nil => .cons r .nil
  | _, _, .cons r1 t => .cons r1 (t.snoc r)
theorem All2.get {α β : Type} {R : α → β → Prop} : ∀ {as : List α} {bs : List β} {i : Nat} {b : β}, All2 R as bs → bs[i]? = some b → ∃ a, as[i]? = some a ∧ R a b
  | _, _, 0, _, .cons r _, h => ⟨_, rfl, by rw [← Option.some.inj h]; exact r⟩
  | _, _, i + 1, b, .cons _ t, h => t.get (i := i) h
theorem All2.app {α β : Type} {R : α → β → Prop} : ∀ {as as' : List α} {bs bs' : List β}, All2 R as bs → All2 R as' bs' → All2 R (as ++ as') (bs ++ bs')
  | _, _, _, _, .nil, h => h
  | _, _, _, _, .cons r t, h => .cons r (t.app h)
/-- tuples stay -/
def KeepT (H H' : Hp) : Prop := ∀ b xs, H b = some (.tup xs) → H' b = some (.tup xs)
theorem KeepT.refl (H : Hp) : KeepT H H := fun _ _ h => h
theorem KeepT.trans {H H1 H2 : Hp} (a : KeepT H H1) (b : KeepT H1 H2) : KeepT H H2 := fun c xs h => b c xs (a c xs h)
theorem KeepT.of {H H' : Hp} (s : Same H H') : KeepT H H' := fun b _ h => s b _ h
theorem KeepT.upd {H : Hp} {a : Addr} {o o' : HO} (h : H a = some o) (ht : ∀ xs, o ≠ .tup xs) : KeepT H (upd H a o') := fun b xs e => by
  rw [upd_ne (fun z => by rw [z, h] at e; exact ht xs (Option.some.inj e))]
  exact e
theorem VwAt.keep {H H' : Hp} (k : KeepT H H') {a : Addr} {w : Vw} (h : VwAt H a w) : VwAt H' a w := by
  obtain ⟨e, r, m, g, h1, h2, h3, h4, h5⟩ := h
  exact ⟨e, r, m, g, k _ _ h1, k _ _ h2, k _ _ h3, k _ _ h4, k _ _ h5⟩
/-- the state S stands in H at the places ad -/
structure Bd (c : Cl) (ad : Tg → Addr) (S : MS) (H : Hp) : Prop where
  ex : ∃ g : Gh, (∀ t o, cont c ad g S t = some o → H (ad t) = some o) ∧ (∀ i t, S.ths[i]? = some t → H (g.cv i) = some (.tup (condV t.cond))) ∧
    All2 (RqAt H) g.rq S.reqs ∧ All2 (VwAt H) g.vw S.views ∧ H g.rt = some (.tup (S.rates.map V.int))
  inj : ∀ t u, dom c.kd S.ths.length S.mem.length t → dom c.kd S.ths.length S.mem.length u → ad t = ad u → t = u
  out : ∀ t, ¬ dom c.kd S.ths.length S.mem.length t → ad t = ad .brd
theorem dom_some {c : Cl} {ad : Tg → Addr} {g : Gh} {S : MS} {t : Tg} {o : HO} (h : cont c ad g S t = some o) : dom c.kd S.ths.length S.mem.length t := by
  cases t with
  | thr i =>
    cases e : S.ths[i]? with
    | none => simp [cont, e] at h
    | some x => exact (List.getElem?_eq_some_iff.mp e).1
  | rgs i =>
    cases e : S.ths[i]? with
    | none => simp [cont, e] at h
    | some x => exact (List.getElem?_eq_some_iff.mp e).1
  | mem i =>
    cases e : S.mem[i]? with
    | none => simp [cont, e] at h
    | some x => exact (List.getElem?_eq_some_iff.mp e).1
  | cls i =>
    cases e : S.mem[i]? with
    | none => simp [cont, e] at h
    | some x => exact (List.getElem?_eq_some_iff.mp e).1
  | kpt i =>
    cases hk : c.kd with
    | false => simp [cont, hk] at h
    | true =>
      cases e : S.mem[i]? with
      | none => simp [cont, e] at h
      | some x => exact ⟨rfl, (List.getElem?_eq_some_iff.mp e).1⟩
  | _ => trivial
theorem not_tup {c : Cl} {ad : Tg → Addr} {g : Gh} {S : MS} {t : Tg} {o : HO} (h : cont c ad g S t = some o) : ∀ xs, o ≠ .tup xs := by
  intro xs e
  subst e
  cases t <;> simp [cont] at h
/-- how a step moves the places and the heap -/
structure Mvd (kd : Bool) (nt nm : Nat) (ad ad' : Tg → Addr) (H H' : Hp) : Prop where
  fr : ∀ b o, H b = some o → (∀ t, ad t ≠ b) → H' b = some o
  nw : ∀ t, (∃ u, ad u = ad' t) ∨ H (ad' t) = none
  kt : KeepT H H'
  ag : ∀ t, t ≠ .vwsL → dom kd nt nm t → ad' t = ad t
theorem Mvd.refl {kd : Bool} {nt nm : Nat} {ad : Tg → Addr} {H : Hp} : Mvd kd nt nm ad ad H H := ⟨fun _ _ h _ => h, fun t => .inl ⟨t, rfl⟩, KeepT.refl H, fun _ _ _ => rfl⟩
theorem Mvd.of {kd : Bool} {nt nm : Nat} {ad : Tg → Addr} {H H' : Hp} (s : Same H H') : Mvd kd nt nm ad ad H H' := ⟨fun b o h _ => s b o h, fun t => .inl ⟨t, rfl⟩, KeepT.of s, fun _ _ _ => rfl⟩
theorem Mvd.out {kd : Bool} {nt nm : Nat} {ad ad' : Tg → Addr} {H H' : Hp} (m : Mvd kd nt nm ad ad' H H') {b : Addr} {o : HO} (h : H b = some o) (hb : ∀ t, ad t ≠ b) : ∀ t, ad' t ≠ b := fun t e => by
  rcases m.nw t with ⟨u, hu⟩ | hn
  · exact hb u (hu.trans e)
  · rw [e, h] at hn
    cases hn
theorem Mvd.trans {kd : Bool} {nt nt' nm : Nat} {a1 a2 a3 : Tg → Addr} {H H1 H2 : Hp} (hn : nt ≤ nt') (m : Mvd kd nt nm a1 a2 H H1) (m' : Mvd kd nt' nm a2 a3 H1 H2) : Mvd kd nt nm a1 a3 H H2 where
  fr b o h hb := m'.fr b o (m.fr b o h hb) (m.out h hb)
  nw t := by
    rcases m'.nw t with ⟨u, hu⟩ | hn
    · rcases m.nw u with ⟨u', hu'⟩ | hn
      · exact .inl ⟨u', hu'.trans hu⟩
      · exact .inr (hu ▸ hn)
    · by_cases z : ∃ u, a1 u = a3 t
      · exact .inl z
      · refine .inr ?_
        cases e : H (a3 t) with
        | none => rfl
        | some o =>
          rw [m.fr _ _ e (fun u hu => z ⟨u, hu⟩)] at hn
          cases hn
  kt := m.kt.trans m'.kt
  ag t ht d := (m'.ag t ht (d.mono hn)).trans (m.ag t ht d)
section
variable {c : Cl} {ad : Tg → Addr} {S : MS} {H H' : Hp} {K : PySem.W.Frag}
theorem Bd.same (B : Bd c ad S H) (s : Same H H') : Bd c ad S H' := by
  obtain ⟨⟨g, h1, h2, h3, h4, h5⟩, inj, od⟩ := B
  exact ⟨⟨g, fun t o e => s _ _ (h1 t o e), fun i t e => s _ _ (h2 i t e), h3.imp fun _ _ z => s _ _ z, h4.imp fun _ _ z => z.keep (KeepT.of s), s _ _ h5⟩, inj, od⟩
/-- one place gets another thing -/
theorem Bd.put {g g' : Gh} {S' : MS} {t : Tg} {o o' : HO} (h1 : ∀ t o, cont c ad g S t = some o → H (ad t) = some o) (inj : ∀ t u, dom c.kd S.ths.length S.mem.length t → dom c.kd S.ths.length S.mem.length u → ad t = ad u → t = u)
    (ht : cont c ad g S t = some o) (e1 : cont c ad g' S' t = some o') (e2 : ∀ u, u ≠ t → cont c ad g' S' u = cont c ad g S u) : ∀ u o, cont c ad g' S' u = some o → upd H (ad t) o' (ad u) = some o := by
  intro u ou hu
  by_cases z : u = t
  · subst z
    rw [upd_same, ← e1, hu]
  · rw [e2 u z] at hu
    rw [upd_ne fun q => z (inj _ _ (dom_some hu) (dom_some ht) q)]
    exact h1 u ou hu
theorem Mvd.put {nt : Nat} {nm : Nat} {t : Tg} {o o' : HO} (h : H (ad t) = some o) (hn : ∀ xs, o ≠ .tup xs) : Mvd c.kd nt nm ad ad H (upd H (ad t) o') :=
  ⟨fun b u hb q => by rw [upd_ne (q t).symm]; exact hb, fun t => .inl ⟨t, rfl⟩, KeepT.upd h hn, fun _ _ _ => rfl⟩
/-! ### one place changed -/
def MS.setTh (S : MS) (i : Nat) (t : Th) : MS := { S with ths := S.ths.set i t }
def MS.setMm (S : MS) (i : Nat) (m : Mm) : MS := { S with mem := S.mem.set i m }
theorem Bd.thr (B : Bd c ad S H) {i : Nat} {t : Th} (ht : S.ths[i]? = some t) : ∃ dx c0, H (ad (.thr i)) = some (.ins c.CT dx (fsT (ad (.rgs i)) c0 t)) ∧ H c0 = some (.tup (condV t.cond)) ∧
    ∀ (t' : Th) (c1 : Addr), t'.regs = t.regs → H c1 = some (.tup (condV t'.cond)) → Bd c ad (S.setTh i t') (upd H (ad (.thr i)) (.ins c.CT dx (fsT (ad (.rgs i)) c1 t'))) := by
  obtain ⟨⟨g, h1, h2, h3, h4, h5⟩, inj, od⟩ := B
  have e1 : cont c ad g S (.thr i) = some (.ins c.CT (g.dT i) (fsT (ad (.rgs i)) (g.cv i) t)) := by simp [cont, ht]
  refine ⟨g.dT i, g.cv i, h1 _ _ e1, h2 i t ht, fun t' c1 hr hc => ?_⟩
  have hi : i < S.ths.length := (List.getElem?_eq_some_iff.mp ht).1
  have kt : KeepT H (upd H (ad (.thr i)) (.ins c.CT (g.dT i) (fsT (ad (.rgs i)) c1 t'))) := KeepT.upd (h1 _ _ e1) (not_tup e1)
  refine ⟨⟨{ g with cv := fun j => if j = i then c1 else g.cv j }, ?_, ?_, h3.imp fun _ _ z => kt _ _ z, h4.imp fun _ _ z => z.keep kt, kt _ _ h5⟩, ?_, ?_⟩
  · refine Bd.put (g' := { g with cv := fun j => if j = i then c1 else g.cv j }) h1 inj e1 ?_ ?_
    · show (((S.ths.set i t')[i]?).map fun t => HO.ins c.CT (g.dT i) (fsT (ad (.rgs i)) (if i = i then c1 else g.cv i) t)) = _
      rw [List.getElem?_set_self hi, if_pos rfl]
      rfl
    · intro u hu
      cases u with
      | thr j =>
        have hj : i ≠ j := fun z => hu (by rw [z])
        show (((S.ths.set i t')[j]?).map fun t => HO.ins c.CT (g.dT j) (fsT (ad (.rgs j)) (if j = i then c1 else g.cv j) t)) = _
        rw [List.getElem?_set_ne hj, if_neg hj.symm]
        rfl
      | rgs j =>
        show (((S.ths.set i t')[j]?).map fun t => HO.lst (t.regs.map V.int)) = ((S.ths[j]?).map fun t => HO.lst (t.regs.map V.int))
        by_cases hj : i = j
        · subst hj
          rw [List.getElem?_set_self hi, ht]
          show some (HO.lst (t'.regs.map V.int)) = some (HO.lst (t.regs.map V.int))
          rw [hr]
        · rw [List.getElem?_set_ne hj]
      | thsL =>
        show some (HO.lst ((List.range (S.ths.set i t').length).map fun i => V.ref (ad (.thr i)))) = _
        rw [List.length_set]
        rfl
      | _ => rfl
  · intro j x hx
    by_cases hj : i = j
    · subst hj
      have hx : (S.ths.set i t')[i]? = some x := hx
      rw [List.getElem?_set_self hi] at hx
      rw [← Option.some.inj hx]
      show upd H _ _ (if i = i then c1 else g.cv i) = _
      rw [if_pos rfl]
      exact kt _ _ hc
    · have hx : (S.ths.set i t')[j]? = some x := hx
      rw [List.getElem?_set_ne hj] at hx
      show upd H _ _ (if j = i then c1 else g.cv j) = _
      rw [if_neg (fun z => hj z.symm)]
      exact kt _ _ (h2 j x hx)
  · show ∀ t u, dom c.kd (S.ths.set i t').length S.mem.length t → dom c.kd (S.ths.set i t').length S.mem.length u → _
    rw [List.length_set]
    exact inj
  · show ∀ t, ¬ dom c.kd (S.ths.set i t').length S.mem.length t → _
    rw [List.length_set]
    exact od
theorem Bd.rgs (B : Bd c ad S H) {i : Nat} {t : Th} (ht : S.ths[i]? = some t) : H (ad (.rgs i)) = some (.lst (t.regs.map V.int)) ∧
    ∀ rs : List Int, Bd c ad (S.setTh i { t with regs := rs }) (upd H (ad (.rgs i)) (.lst (rs.map V.int))) := by
  obtain ⟨⟨g, h1, h2, h3, h4, h5⟩, inj, od⟩ := B
  have e1 : cont c ad g S (.rgs i) = some (.lst (t.regs.map V.int)) := by simp [cont, ht]
  refine ⟨h1 _ _ e1, fun rs => ?_⟩
  have hi : i < S.ths.length := (List.getElem?_eq_some_iff.mp ht).1
  have kt : KeepT H (upd H (ad (.rgs i)) (.lst (rs.map V.int))) := KeepT.upd (h1 _ _ e1) (not_tup e1)
  refine ⟨⟨g, ?_, ?_, h3.imp fun _ _ z => kt _ _ z, h4.imp fun _ _ z => z.keep kt, kt _ _ h5⟩, ?_, ?_⟩
  · refine Bd.put (g' := g) h1 inj e1 ?_ ?_
    · show (((S.ths.set i { t with regs := rs })[i]?).map fun t => HO.lst (t.regs.map V.int)) = _
      rw [List.getElem?_set_self hi]
      rfl
    · intro u hu
      cases u with
      | rgs j =>
        have hj : i ≠ j := fun z => hu (by rw [z])
        show (((S.ths.set i { t with regs := rs })[j]?).map fun t => HO.lst (t.regs.map V.int)) = _
        rw [List.getElem?_set_ne hj]
        rfl
      | thr j =>
        show (((S.ths.set i { t with regs := rs })[j]?).map fun t => HO.ins c.CT (g.dT j) (fsT (ad (.rgs j)) (g.cv j) t)) = ((S.ths[j]?).map fun t => HO.ins c.CT (g.dT j) (fsT (ad (.rgs j)) (g.cv j) t))
        by_cases hj : i = j
        · subst hj
          rw [List.getElem?_set_self hi, ht]
          rfl
        · rw [List.getElem?_set_ne hj]
      | thsL =>
        show some (HO.lst ((List.range (S.ths.set i { t with regs := rs }).length).map fun i => V.ref (ad (.thr i)))) = _
        rw [List.length_set]
        rfl
      | _ => rfl
  · intro j x hx
    by_cases hj : i = j
    · subst hj
      have hx : (S.ths.set i { t with regs := rs })[i]? = some x := hx
      rw [List.getElem?_set_self hi] at hx
      rw [← Option.some.inj hx]
      exact kt _ _ (h2 i t ht)
    · have hx : (S.ths.set i { t with regs := rs })[j]? = some x := hx
      rw [List.getElem?_set_ne hj] at hx
      exact kt _ _ (h2 j x hx)
  · show ∀ a b, dom c.kd (S.ths.set i { t with regs := rs }).length S.mem.length a → dom c.kd (S.ths.set i { t with regs := rs }).length S.mem.length b → _
    rw [List.length_set]
    exact inj
  · show ∀ a, ¬ dom c.kd (S.ths.set i { t with regs := rs }).length S.mem.length a → _
    rw [List.length_set]
    exact od
theorem Bd.cls (B : Bd c ad S H) {i : Nat} {m : Mm} (hm : S.mem[i]? = some m) : H (ad (.cls i)) = some (.lst (m.cells.map V.int)) ∧
    ∀ rs : List Int, Bd c ad (S.setMm i { m with cells := rs }) (upd H (ad (.cls i)) (.lst (rs.map V.int))) := by
  obtain ⟨⟨g, h1, h2, h3, h4, h5⟩, inj, od⟩ := B
  have e1 : cont c ad g S (.cls i) = some (.lst (m.cells.map V.int)) := by simp [cont, hm]
  refine ⟨h1 _ _ e1, fun rs => ?_⟩
  have hi : i < S.mem.length := (List.getElem?_eq_some_iff.mp hm).1
  have kt : KeepT H (upd H (ad (.cls i)) (.lst (rs.map V.int))) := KeepT.upd (h1 _ _ e1) (not_tup e1)
  refine ⟨⟨g, ?_, fun j x hx => kt _ _ (h2 j x hx), h3.imp fun _ _ z => kt _ _ z, h4.imp fun _ _ z => z.keep kt, kt _ _ h5⟩, ?_, ?_⟩
  · refine Bd.put (g' := g) h1 inj e1 ?_ ?_
    · show (((S.mem.set i { m with cells := rs })[i]?).map fun m => HO.lst (m.cells.map V.int)) = _
      rw [List.getElem?_set_self hi]
      rfl
    · intro u hu
      cases u with
      | cls j =>
        have hj : i ≠ j := fun z => hu (by rw [z])
        show (((S.mem.set i { m with cells := rs })[j]?).map fun m => HO.lst (m.cells.map V.int)) = _
        rw [List.getElem?_set_ne hj]
        rfl
      | mem j =>
        show (((S.mem.set i { m with cells := rs })[j]?).map fun _ => HO.ins c.CM (g.dM j) (fsM c.kd (ad (.cls j)) (ad (.kpt j)))) = ((S.mem[j]?).map fun _ => HO.ins c.CM (g.dM j) (fsM c.kd (ad (.cls j)) (ad (.kpt j))))
        by_cases hj : i = j
        · subst hj
          rw [List.getElem?_set_self hi, hm]
          rfl
        · rw [List.getElem?_set_ne hj]
      | kpt j =>
        show (if c.kd then ((S.mem.set i { m with cells := rs })[j]?).map fun m => HO.dK (keptV m.kept) else none) = (if c.kd then (S.mem[j]?).map fun m => HO.dK (keptV m.kept) else none)
        by_cases hj : i = j
        · subst hj
          rw [List.getElem?_set_self hi, hm]
          rfl
        · rw [List.getElem?_set_ne hj]
      | memL =>
        show some (HO.lst ((List.range (S.mem.set i { m with cells := rs }).length).map fun i => V.ref (ad (.mem i)))) = _
        rw [List.length_set]
        rfl
      | _ => rfl
  · show ∀ t u, dom c.kd S.ths.length (S.mem.set i { m with cells := rs }).length t → dom c.kd S.ths.length (S.mem.set i { m with cells := rs }).length u → _
    rw [List.length_set]
    exact inj
  · show ∀ t, ¬ dom c.kd S.ths.length (S.mem.set i { m with cells := rs }).length t → _
    rw [List.length_set]
    exact od
/-- the board's own fields and lists -/
theorem Bd.brd (B : Bd c ad S H) : ∃ dx rt, H (ad .brd) = some (.ins c.CB dx (fsB ad rt S.dev S.cpu)) ∧ H rt = some (.tup (S.rates.map V.int)) ∧
    ∀ (d : Int) (k : Nat), Bd c ad { S with dev := d, cpu := k } (upd H (ad .brd) (.ins c.CB dx (fsB ad rt d k))) := by
  obtain ⟨⟨g, h1, h2, h3, h4, h5⟩, inj, od⟩ := B
  have e1 : cont c ad g S .brd = some (.ins c.CB g.dB (fsB ad g.rt S.dev S.cpu)) := rfl
  refine ⟨g.dB, g.rt, h1 _ _ e1, h5, fun d k => ?_⟩
  have kt : KeepT H (upd H (ad .brd) (.ins c.CB g.dB (fsB ad g.rt d k))) := KeepT.upd (h1 _ _ e1) (not_tup e1)
  refine ⟨⟨g, Bd.put (g' := g) (S' := { S with dev := d, cpu := k }) h1 inj e1 rfl ?_, fun j x hx => kt _ _ (h2 j x hx), h3.imp fun _ _ z => kt _ _ z, h4.imp fun _ _ z => z.keep kt, kt _ _ h5⟩, inj, od⟩
  intro u hu
  cases u <;> first | rfl | exact absurd rfl hu
theorem Bd.rdy (B : Bd c ad S H) : H (ad .rdyL) = some (.lst (S.ready.map fun i : Nat => V.int (i : Int))) ∧ ∀ l : List Nat, Bd c ad { S with ready := l } (upd H (ad .rdyL) (.lst (l.map fun i : Nat => V.int (i : Int)))) := by
  obtain ⟨⟨g, h1, h2, h3, h4, h5⟩, inj, od⟩ := B
  have e1 : cont c ad g S .rdyL = some (.lst (S.ready.map fun i : Nat => V.int (i : Int))) := rfl
  refine ⟨h1 _ _ e1, fun l => ?_⟩
  have kt : KeepT H (upd H (ad .rdyL) (.lst (l.map fun i : Nat => V.int (i : Int)))) := KeepT.upd (h1 _ _ e1) (not_tup e1)
  refine ⟨⟨g, Bd.put (g' := g) (S' := { S with ready := l }) h1 inj e1 rfl ?_, fun j x hx => kt _ _ (h2 j x hx), h3.imp fun _ _ z => kt _ _ z, h4.imp fun _ _ z => z.keep kt, kt _ _ h5⟩, inj, od⟩
  intro u hu
  cases u <;> first | rfl | exact absurd rfl hu
theorem Bd.tim (B : Bd c ad S H) : H (ad .timL) = some (.lst (S.times.map V.int)) ∧ ∀ l : List Int, Bd c ad { S with times := l } (upd H (ad .timL) (.lst (l.map V.int))) := by
  obtain ⟨⟨g, h1, h2, h3, h4, h5⟩, inj, od⟩ := B
  have e1 : cont c ad g S .timL = some (.lst (S.times.map V.int)) := rfl
  refine ⟨h1 _ _ e1, fun l => ?_⟩
  have kt : KeepT H (upd H (ad .timL) (.lst (l.map V.int))) := KeepT.upd (h1 _ _ e1) (not_tup e1)
  refine ⟨⟨g, Bd.put (g' := g) (S' := { S with times := l }) h1 inj e1 rfl ?_, fun j x hx => kt _ _ (h2 j x hx), h3.imp fun _ _ z => kt _ _ z, h4.imp fun _ _ z => z.keep kt, kt _ _ h5⟩, inj, od⟩
  intro u hu
  cases u <;> first | rfl | exact absurd rfl hu
theorem Bd.rn (B : Bd c ad S H) : H (ad .runL) = some (.lst (S.run.map V.int)) ∧ ∀ l : List Int, Bd c ad { S with run := l } (upd H (ad .runL) (.lst (l.map V.int))) := by
  obtain ⟨⟨g, h1, h2, h3, h4, h5⟩, inj, od⟩ := B
  have e1 : cont c ad g S .runL = some (.lst (S.run.map V.int)) := rfl
  refine ⟨h1 _ _ e1, fun l => ?_⟩
  have kt : KeepT H (upd H (ad .runL) (.lst (l.map V.int))) := KeepT.upd (h1 _ _ e1) (not_tup e1)
  refine ⟨⟨g, Bd.put (g' := g) (S' := { S with run := l }) h1 inj e1 rfl ?_, fun j x hx => kt _ _ (h2 j x hx), h3.imp fun _ _ z => kt _ _ z, h4.imp fun _ _ z => z.keep kt, kt _ _ h5⟩, inj, od⟩
  intro u hu
  cases u <;> first | rfl | exact absurd rfl hu
theorem Bd.req (B : Bd c ad S H) : ∃ rq, H (ad .reqL) = some (.lst (rq.map V.ref)) ∧ All2 (RqAt H) rq S.reqs ∧ ∀ (l : List Addr) (qs : List (Nat × Int × Int)), All2 (RqAt H) l qs → Bd c ad { S with reqs := qs } (upd H (ad .reqL) (.lst (l.map V.ref))) := by
  obtain ⟨⟨g, h1, h2, h3, h4, h5⟩, inj, od⟩ := B
  have e1 : cont c ad g S .reqL = some (.lst (g.rq.map V.ref)) := rfl
  refine ⟨g.rq, h1 _ _ e1, h3, fun l qs h3' => ?_⟩
  have kt : KeepT H (upd H (ad .reqL) (.lst (l.map V.ref))) := KeepT.upd (h1 _ _ e1) (not_tup e1)
  refine ⟨⟨{ g with rq := l }, Bd.put (g' := { g with rq := l }) (S' := { S with reqs := qs }) h1 inj e1 rfl ?_, fun j x hx => kt _ _ (h2 j x hx), h3'.imp fun _ _ z => kt _ _ z, h4.imp fun _ _ z => z.keep kt, kt _ _ h5⟩, inj, od⟩
  intro u hu
  cases u <;> first | rfl | exact absurd rfl hu
theorem Bd.vws (B : Bd c ad S H) : ∃ vw, H (ad .vwsL) = some (.lst (vw.map V.ref)) ∧ All2 (VwAt H) vw S.views ∧ ∀ (l : List Addr) (vs : List Vw), All2 (VwAt H) l vs → Bd c ad { S with views := vs } (upd H (ad .vwsL) (.lst (l.map V.ref))) := by
  obtain ⟨⟨g, h1, h2, h3, h4, h5⟩, inj, od⟩ := B
  have e1 : cont c ad g S .vwsL = some (.lst (g.vw.map V.ref)) := rfl
  refine ⟨g.vw, h1 _ _ e1, h4, fun l vs h4' => ?_⟩
  have kt : KeepT H (upd H (ad .vwsL) (.lst (l.map V.ref))) := KeepT.upd (h1 _ _ e1) (not_tup e1)
  refine ⟨⟨{ g with vw := l }, Bd.put (g' := { g with vw := l }) (S' := { S with views := vs }) h1 inj e1 rfl ?_, fun j x hx => kt _ _ (h2 j x hx), h3.imp fun _ _ z => kt _ _ z, h4'.imp fun _ _ z => z.keep kt, kt _ _ h5⟩, inj, od⟩
  intro u hu
  cases u <;> first | rfl | exact absurd rfl hu
theorem Bd.thsAt (B : Bd c ad S H) : H (ad .thsL) = some (.lst ((List.range S.ths.length).map fun i => V.ref (ad (.thr i)))) := by
  obtain ⟨g, h1, _⟩ := B.ex
  exact h1 .thsL _ rfl
theorem Bd.memAt (B : Bd c ad S H) : H (ad .memL) = some (.lst ((List.range S.mem.length).map fun i => V.ref (ad (.mem i)))) := by
  obtain ⟨⟨g, h1, _⟩, _, _⟩ := B
  exact h1 .memL _ rfl
theorem Bd.memI (B : Bd c ad S H) {i : Nat} {m : Mm} (hm : S.mem[i]? = some m) : ∃ dx, H (ad (.mem i)) = some (.ins c.CM dx (fsM c.kd (ad (.cls i)) (ad (.kpt i)))) := by
  obtain ⟨⟨g, h1, _⟩, _, _⟩ := B
  exact ⟨g.dM i, h1 (.mem i) _ (by simp [cont, hm])⟩
end
end MM
end
section
/-! the machine: what its defs do, over plain data; readings over its state -/
namespace MM
open PySem PySem.Spec PyProof.Rows L2
/-! ### rules by value -/
def rGetL (K : PySem.W.Frag) : V → V → Hp → VK → Prop := fun o i H Q => ∃ p xs k v, o = .ref p ∧ i = .int k ∧ SqL K H p xs ∧ 0 ≤ k ∧ xs[k.toNat]? = some v ∧ Q v H
theorem get_list {X : Cx} : PGet X (rGetL X.K) := by
  intro pins s σ H o i ov iv Q I ro ri h
  obtain ⟨p, xs, k, v, rfl, rfl, hq, h0, hv, q⟩ := h
  cases ro
  obtain ⟨t, rfl⟩ := ri
  obtain ⟨its, r, pl, hz⟩ := I.list hq
  obtain ⟨w, ew, rw'⟩ := r.get hv
  have hl := r.length
  have hk : k.toNat < xs.length := (List.getElem?_eq_some_iff.mp hv).1
  have hn : sizeLine < 2 ^ 63 := by decide
  exact wpAny_getItem_list pl.isList h0 (by omega) (by simpa using ew) ⟨v, H, I, rw', q⟩
def rListOf (K : PySem.W.Frag) : List V → Hp → VK → Prop := fun xs H Q => ∃ p ys, xs = [.ref p] ∧ (SqL K H p ys ∨ SqT K H p ys) ∧ ∀ l, H l = none → Q (.ref l) (upd H l (.lst ys))
theorem cListOf {X : Cx} : CallR X (.type "list") (rListOf X.K) := call_list_of
def rTupOf (K : PySem.W.Frag) : List V → Hp → VK → Prop := fun xs H Q => ∃ p ys, xs = [.ref p] ∧ ((SqL K H p ys ∧ ∀ l, H l = none → Q (.ref l) (upd H l (.tup ys))) ∨ (SqT K H p ys ∧ Q (.ref p) H))
theorem cTupOf {X : Cx} : CallR X (.type "tuple") (rTupOf X.K) := call_tuple_of
/-! ### the defs over plain data -/
def dTh : Th := ⟨0, 0, [], .ready, 0, 0⟩
def dMm : Mm := ⟨[], []⟩
def MS.th (S : MS) (i : Nat) : Th := S.ths.getD i dTh
def MS.mm (S : MS) (i : Nat) : Mm := S.mem.getD i dMm
def MS.up (S : MS) (i : Nat) (f : Th → Th) : MS := S.setTh i (f (S.th i))
def Mm.load (m : Mm) (a : Int) : Int := match m.kept.lookup (a % 256) with
  | some b => b
  | none => m.cells.getD (a % 256).toNat 0
def Mm.store (m : Mm) (a b : Int) : Mm := if (m.kept.lookup (a % 256)).isSome then { m with kept := m.kept.map fun p => if p.1 = a % 256 then (p.1, b) else p } else { m with cells := m.cells.set (a % 256).toNat b }
def Mm.img (m : Mm) : List Int := m.kept.foldl (fun cs p => cs.set p.1.toNat p.2) m.cells
def Mm.tells (kd : Bool) (m : Mm) (a : Int) : Bool := if kd then (m.kept.lookup a).isSome else true
def MS.now (S : MS) : Int := S.times.getD S.cpu 0
def tell (S : MS) (kind : Str) (tid : Nat) (at' : Int) (args : List Int) : MS :=
  { S with views := S.views ++ [⟨kind, S.cpu, S.now, (S.th tid).pid, tid, at', args, (S.th tid).regs, (S.mm (S.th tid).pid).img⟩] }
def tellTick (S : MS) : MS := { S with views := S.views ++ [⟨"tick", S.cpu, S.now, -1, -1, -1, [], [0, 0, 0, 0], []⟩] }
def setCond (S : MS) (tid : Nat) (cd : Cond) : MS := S.up tid fun t => { t with cond := cd }
def setReg (S : MS) (tid : Nat) (j : Nat) (v : Int) : MS := S.up tid fun t => { t with regs := t.regs.set j v }
def makeReady (S : MS) (tid : Nat) : MS := { setCond S tid .ready with ready := S.ready ++ [tid] }
def isRun : Cond → Bool
  | .running _ => true
  | _ => false
def isWait (tid : Int) : Cond → Bool
  | .waiting t => decide (t = tid)
  | _ => false
def returnCall (S : MS) (tid : Nat) (res : Int) : MS :=
  let S1 := setReg S tid 0 res
  let S2 := tell S1 "return" tid (S1.th tid).callAt [(S1.th tid).call, res]
  if isRun (S.th tid).cond then S2 else makeReady S2 tid
def endRun (S : MS) (tid : Nat) (cd : Cond) : MS := { setCond S tid cd with run := S.run.set S.cpu (-1) }
def wakeOne (tid : Nat) (code : Int) (S : MS) (o : Nat) : MS := if isWait tid (S.th o).cond then returnCall S o code else S
def endThread (S : MS) (tid : Nat) (at' code : Int) : MS :=
  (List.range S.ths.length).foldl (wakeOne tid code) (endRun (tell S "end" tid at' [code]) tid (.ended code))
def leave (S : MS) (tid : Nat) (cd : Cond) (reason : Int) : MS :=
  let S1 := endRun S tid cd
  tell S1 "off" tid (S1.th tid).pc [reason]
def goLast (S : MS) (tid : Nat) (reason : Int) : MS :=
  let S1 := leave S tid .ready reason
  { S1 with ready := S1.ready ++ [tid] }
def addThread (S : MS) (pid : Nat) (pc first : Int) : MS :=
  { S with ths := S.ths ++ [⟨pid, pc, [first, 0, 0, 0], .ready, 0, 0⟩], ready := S.ready ++ [S.ths.length] }
def condEnded : Cond → Option Int
  | .ended k => some k
  | _ => none
def waitFor (S : MS) (tid : Nat) (wanted : Int) : MS :=
  if wanted ≥ S.ths.length ∨ wanted = tid then returnCall S tid 65535 else
  match condEnded (S.th wanted.toNat).cond with
  | some k => returnCall S tid k
  | none => leave S tid (.waiting wanted) 5
def reg (S : MS) (tid j : Nat) : Int := (S.th tid).regs.getD j 0
def doCall (S0 : MS) (tid : Nat) (number at' : Int) : MS :=
  let S1 := S0.up tid fun t => { t with call := number, callAt := at' }
  let S := tell S1 "entry" tid at' [number, reg S1 tid 0, reg S1 tid 1]
  if number = 0 then endThread S tid at' (reg S tid 0) else
  if number = 1 then goLast (returnCall S tid 0) tid 2 else
  if number = 2 then leave S tid (.sleeping S.cpu (S.now + reg S tid 0)) 3 else
  if number = 3 ∨ number = 4 then leave { S with reqs := S.reqs ++ [(tid, number, reg S tid 0)] } tid .asking 4 else
  if number = 5 then (if 8 ≤ S.ths.length then returnCall S tid 65535 else returnCall (addThread S (S.th tid).pid (reg S tid 0 % 256) (reg S tid 1)) tid S.ths.length) else
  if number = 6 then waitFor S tid (reg S tid 0) else returnCall S tid 65535
def lens : List Int := [1, 3, 2, 2, 2, 2, 2, 2, 3, 3, 2, 2, 1]
def nextPc (rs : List Int) (code x y behind : Int) : Int :=
  if code = 7 ∨ code = 11 then x else
  if code = 12 then rs.getD 3 0 % 256 else
  if (code = 8 ∧ rs.getD (x % 4).toNat 0 = 0) ∨ (code = 9 ∧ rs.getD (x % 4).toNat 0 ≠ 0) then y else behind
def move (S : MS) (tid : Nat) (code x y : Int) : MS :=
  let a := (x / 4 % 4).toNat
  let b := (x % 4).toNat
  let p := (S.th tid).pid
  if code = 1 then setReg S tid b y else
  if code = 2 then setReg S tid a ((reg S tid a + reg S tid b) % 65536) else
  if code = 3 then setReg S tid a ((reg S tid a - reg S tid b) % 65536) else
  if code = 4 then setReg S tid a (reg S tid b) else
  if code = 5 then setReg S tid a ((S.mm p).load (reg S tid b)) else
  if code = 6 then S.setMm p ((S.mm p).store (reg S tid b) (reg S tid a % 256)) else S
def doInsn (kd : Bool) (S0 : MS) (tid : Nat) : MS :=
  let m := S0.mm (S0.th tid).pid
  let at' := (S0.th tid).pc
  let code := m.load at'
  let S := if m.tells kd at' then tell S0 "insn" tid at' [code] else S0
  if 13 ≤ code then endThread (tell S "fault" tid at' [code]) tid at' 65535 else
  let x := m.load (at' + 1)
  let y := m.load (at' + 2)
  let behind := (at' + lens.getD code.toNat 0) % 256
  let S1 := S.up tid fun t => { t with pc := nextPc (S.th tid).regs code x y behind }
  if code = 0 then endThread S1 tid at' 0 else
  if code = 10 then doCall S1 tid x at' else
  if code = 11 then setReg S1 tid 3 behind else move S1 tid code x y
def sleepsTo (cpu : Nat) (now : Int) : Cond → Bool
  | .sleeping c u => decide (c = cpu) && decide (u ≤ now)
  | _ => false
def wakeIf (S : MS) (i : Nat) : MS := if sleepsTo S.cpu S.now (S.th i).cond then returnCall S i 0 else S
def wake (S : MS) : MS := (List.range S.ths.length).foldl wakeIf S
def beginRun (S : MS) (tid : Nat) : MS :=
  let S1 := { setCond S tid (.running S.cpu) with run := S.run.set S.cpu tid }
  tell S1 "on" tid (S1.th tid).pc []
def runs (S : MS) : Int := S.run.getD S.cpu 0
def doStep (kd : Bool) (S : MS) : MS :=
  if 0 ≤ runs S then doInsn kd S (runs S).toNat else
  match S.ready with
  | [] => S
  | t :: r => beginRun { S with ready := r } t
def doTimer (S : MS) : MS :=
  let S1 := tellTick S
  if 0 ≤ runs S1 then goLast S1 (runs S1).toNat 1 else S1
def doRequest (S : MS) : MS :=
  match S.reqs with
  | [] => S
  | (tid, call, number) :: r =>
    let S1 := { S with reqs := r }
    let S2 := if call = 3 then { S1 with dev := number } else S1
    returnCall (tell S2 "done" tid (S2.th tid).callAt [call]) tid (if call = 3 then 0 else S1.dev)
def begin' (S : MS) (cpu : Nat) : MS := { S with cpu := cpu, times := S.times.set cpu (S.times.getD cpu 0 + S.rates.getD cpu 0) }
def doPick (kd : Bool) (S : MS) (cpu : Nat) (what : Str) : MS :=
  let S1 := wake (begin' S cpu)
  if what = "step" then doStep kd S1 else if what = "timer" then doTimer S1 else if what = "device" then doRequest S1 else S1
/-! ### what holds of the data -/
def condOk : Cond → Prop
  | .ended k => 0 ≤ k
  | _ => True
structure ThOk (nm : Nat) (t : Th) : Prop where
  pid : t.pid < nm
  len : t.regs.length = 4
  pos : ∀ r ∈ t.regs, 0 ≤ r
  cond : condOk t.cond
structure MmOk (m : Mm) : Prop where
  len : m.cells.length = 256
  pos : ∀ b ∈ m.cells, 0 ≤ b
  kpos : ∀ p ∈ m.kept, 0 ≤ p.1 ∧ p.1 < 256 ∧ 0 ≤ p.2
  knd : (m.kept.map (·.1)).Nodup
structure WF (S : MS) (k : Nat) : Prop where
  nt : S.ths.length ≤ 8
  nm : S.mem.length ≤ 8
  nr : S.rates.length ≤ 8
  tim : S.times.length = S.rates.length
  rn : S.run.length = S.rates.length
  cpu : S.cpu < S.rates.length
  th : ∀ t ∈ S.ths, ThOk S.mem.length t
  mm : ∀ m ∈ S.mem, MmOk m
  rd : ∀ i ∈ S.ready, i < S.ths.length
  rdl : S.ready.length ≤ k
  rnl : ∀ r ∈ S.run, r < (S.ths.length : Int)
  rq : ∀ q ∈ S.reqs, q.1 < S.ths.length ∧ 0 ≤ q.2.2
  rql : S.reqs.length ≤ k
  vw : S.views.length ≤ k
  dev : 0 ≤ S.dev
end MM
end
section
/-! the machine: its data stays well formed -/
namespace MM
open PySem PySem.Spec PyProof.Rows L2
theorem th_get {S : MS} {i : Nat} (h : i < S.ths.length) : S.ths[i]? = some (S.th i) := by
  unfold MS.th
  rw [List.getD_eq_getElem?_getD, List.getElem?_eq_getElem h]
  rfl
theorem mm_get {S : MS} {i : Nat} (h : i < S.mem.length) : S.mem[i]? = some (S.mm i) := by
  unfold MS.mm
  rw [List.getD_eq_getElem?_getD, List.getElem?_eq_getElem h]
  rfl
theorem th_mem {S : MS} {i : Nat} (h : i < S.ths.length) : S.th i ∈ S.ths := List.mem_of_getElem? (th_get h)
theorem mm_mem {S : MS} {i : Nat} (h : i < S.mem.length) : S.mm i ∈ S.mem := List.mem_of_getElem? (mm_get h)
theorem up_th {S : MS} {i : Nat} {f : Th → Th} (h : i < S.ths.length) : (S.up i f).th i = f (S.th i) := by
  show (S.ths.set i (f (S.th i))).getD i dTh = _
  rw [List.getD_eq_getElem?_getD, List.getElem?_set_self h]
  rfl
theorem up_ne {S : MS} {i j : Nat} {f : Th → Th} (h : i ≠ j) : (S.up i f).th j = S.th j := by
  show (S.ths.set i (f (S.th i))).getD j dTh = S.ths.getD j dTh
  rw [List.getD_eq_getElem?_getD, List.getElem?_set_ne h, ← List.getD_eq_getElem?_getD]
/-- what no def changes; threads only become more -/
structure Sm (S S' : MS) : Prop where
  nt : S.ths.length ≤ S'.ths.length
  km : (S'.mem.map fun m => m.kept.map (·.1)) = S.mem.map fun m => m.kept.map (·.1)
  rt : S'.rates = S.rates
  cp : S'.cpu = S.cpu
theorem Sm.nm {S S' : MS} (s : Sm S S') : S'.mem.length = S.mem.length := by
  have h := congrArg List.length s.km
  rw [List.length_map, List.length_map] at h
  exact h
theorem Sm.refl (S : MS) : Sm S S := ⟨Nat.le_refl _, rfl, rfl, rfl⟩
theorem Sm.trans {a b d : MS} (x : Sm a b) (y : Sm b d) : Sm a d := ⟨Nat.le_trans x.nt y.nt, y.km.trans x.km, y.rt.trans x.rt, y.cp.trans x.cp⟩
theorem up_len {S : MS} {i : Nat} {f : Th → Th} : (S.up i f).ths.length = S.ths.length := List.length_set
theorem Sm.up {S : MS} {i : Nat} {f : Th → Th} : Sm S (S.up i f) := ⟨Nat.le_of_eq up_len.symm, rfl, rfl, rfl⟩
theorem Sm.tell {S : MS} {kd : Str} {t : Nat} {a : Int} {r : List Int} : Sm S (tell S kd t a r) := ⟨Nat.le_refl _, rfl, rfl, rfl⟩
variable {S : MS} {k : Nat}
theorem WF.mono {k' : Nat} (w : WF S k) (h : k ≤ k') : WF S k' :=
  { w with rdl := Nat.le_trans w.rdl h, rql := Nat.le_trans w.rql h, vw := Nat.le_trans w.vw h }
theorem WF.up {i : Nat} {f : Th → Th} (w : WF S k) (hf : ThOk S.mem.length (f (S.th i))) : WF (S.up i f) k where
  nt := by rw [up_len]; exact w.nt
  nm := w.nm
  nr := w.nr
  tim := w.tim
  rn := w.rn
  cpu := w.cpu
  th t ht := by
    rcases List.mem_or_eq_of_mem_set (show t ∈ S.ths.set i (f (S.th i)) from ht) with h | h
    · exact w.th t h
    · rw [h]; exact hf
  mm := w.mm
  rd j hj := by rw [up_len]; exact w.rd j hj
  rdl := w.rdl
  rnl r hr := by rw [up_len]; exact w.rnl r hr
  rq q hq := by rw [up_len]; exact w.rq q hq
  rql := w.rql
  vw := w.vw
  dev := w.dev
theorem WF.tell {kd : Str} {t : Nat} {a : Int} {r : List Int} (w : WF S k) : WF (tell S kd t a r) (k + 1) :=
  { w.mono (Nat.le_succ k) with vw := by show (S.views ++ [_]).length ≤ k + 1; rw [List.length_append]; exact Nat.succ_le_succ w.vw }
theorem WF.tellTick (w : WF S k) : WF (tellTick S) (k + 1) :=
  { w.mono (Nat.le_succ k) with vw := by show (S.views ++ [_]).length ≤ k + 1; rw [List.length_append]; exact Nat.succ_le_succ w.vw }
theorem WF.tok {i : Nat} (w : WF S k) (h : i < S.ths.length) : ThOk S.mem.length (S.th i) := w.th _ (th_mem h)
theorem mem_set_pos {l : List Int} {j : Nat} {v : Int} (h : ∀ r ∈ l, 0 ≤ r) (hv : 0 ≤ v) : ∀ r ∈ l.set j v, 0 ≤ r := fun r hr => by
  rcases List.mem_or_eq_of_mem_set hr with z | z
  · exact h r z
  · rw [z]; exact hv
theorem WF.setReg {i j : Nat} {v : Int} (w : WF S k) (h : i < S.ths.length) (hv : 0 ≤ v) : WF (setReg S i j v) k :=
  w.up { w.tok h with len := by rw [List.length_set]; exact (w.tok h).len, pos := mem_set_pos (w.tok h).pos hv }
theorem WF.setCond {i : Nat} {cd : Cond} (w : WF S k) (h : i < S.ths.length) (hv : condOk cd) : WF (setCond S i cd) k := w.up { w.tok h with cond := hv }
theorem WF.ready {t : Nat} (w : WF S k) (h : t < S.ths.length) : WF { S with ready := S.ready ++ [t] } (k + 1) :=
  { w.mono (Nat.le_succ k) with
    rd := fun j hj => by
      rcases List.mem_append.mp hj with z | z
      · exact w.rd j z
      · rw [List.mem_singleton.mp z]; exact h
    rdl := by show (S.ready ++ [t]).length ≤ k + 1; rw [List.length_append]; exact Nat.succ_le_succ w.rdl }
theorem WF.run {l : List Int} (w : WF S k) (hl : l.length = S.run.length) (h : ∀ r ∈ l, r < (S.ths.length : Int)) : WF { S with run := l } k :=
  { w with rn := hl.trans w.rn, rnl := h }
theorem WF.runSet {j : Nat} {v : Int} (w : WF S k) (h : v < (S.ths.length : Int)) : WF { S with run := S.run.set j v } k :=
  w.run List.length_set fun r hr => by
    rcases List.mem_or_eq_of_mem_set hr with z | z
    · exact w.rnl r z
    · rw [z]; exact h
theorem len_makeReady {t : Nat} : (makeReady S t).ths.length = S.ths.length := by simp [makeReady, setCond, MS.up, MS.setTh]
theorem len_setReg {t j : Nat} {v : Int} : (setReg S t j v).ths.length = S.ths.length := by simp [setReg, MS.up, MS.setTh]
theorem len_tell {kd : Str} {t : Nat} {a : Int} {r : List Int} : (tell S kd t a r).ths.length = S.ths.length := rfl
theorem len_endRun {t : Nat} {cd : Cond} : (endRun S t cd).ths.length = S.ths.length := by simp [endRun, setCond, MS.up, MS.setTh]
theorem Sm.makeReady {t : Nat} : Sm S (makeReady S t) := ⟨Nat.le_of_eq len_makeReady.symm, rfl, rfl, rfl⟩
theorem WF.makeReady {t : Nat} (w : WF S k) (h : t < S.ths.length) : WF (makeReady S t) (k + 1) := by
  have z := (w.setCond (cd := .ready) h trivial).ready (t := t) (by show t < (S.up t _).ths.length; rw [up_len]; exact h)
  exact z
theorem Sm.returnCall {t : Nat} {r : Int} : Sm S (returnCall S t r) := by
  unfold MM.returnCall
  split
  · exact Sm.up.trans Sm.tell
  · exact (Sm.up.trans Sm.tell).trans Sm.makeReady
theorem len_returnCall {t : Nat} {r : Int} : (returnCall S t r).ths.length = S.ths.length := by
  unfold MM.returnCall
  split
  · exact (len_tell).trans len_setReg
  · exact len_makeReady.trans ((len_tell).trans len_setReg)
theorem WF.vrdy {t : Nat} (w : WF S k) (h : t < S.ths.length) {kd : Str} {u : Nat} {a : Int} {r : List Int} : WF (MM.makeReady (MM.tell S kd u a r) t) (k + 1) :=
  { (w.tell (kd := kd) (t := u) (a := a) (r := r)).makeReady (t := t) h |>.mono (Nat.le_refl _) with
    rdl := by show (S.ready ++ [t]).length ≤ k + 1; rw [List.length_append]; exact Nat.succ_le_succ w.rdl
    rql := Nat.le_trans w.rql (Nat.le_succ k)
    vw := by show (S.views ++ [_]).length ≤ k + 1; rw [List.length_append]; exact Nat.succ_le_succ w.vw }
theorem WF.returnCall {t : Nat} {r : Int} (w : WF S k) (h : t < S.ths.length) (hr : 0 ≤ r) : WF (returnCall S t r) (k + 1) := by
  have w1 := w.setReg (j := 0) h hr
  have h1 : t < (MM.setReg S t 0 r).ths.length := by show t < (S.up t _).ths.length; rw [up_len]; exact h
  unfold MM.returnCall
  split
  · exact w1.tell
  · exact w1.vrdy h1
theorem Sm.endRun {t : Nat} {cd : Cond} : Sm S (endRun S t cd) := ⟨Nat.le_of_eq len_endRun.symm, rfl, rfl, rfl⟩
theorem WF.endRun {t : Nat} {cd : Cond} (w : WF S k) (h : t < S.ths.length) (hc : condOk cd) : WF (endRun S t cd) k :=
  (w.setCond h hc).runSet (by omega)
theorem len_wakeOne {t : Nat} {cd : Int} {o : Nat} : (wakeOne t cd S o).ths.length = S.ths.length := by
  unfold MM.wakeOne
  split
  · exact len_returnCall
  · rfl
theorem Sm.wakeOne {t : Nat} {cd : Int} {o : Nat} : Sm S (wakeOne t cd S o) := by
  unfold MM.wakeOne
  split
  · exact Sm.returnCall
  · exact Sm.refl S
theorem WF.wakeOne {t : Nat} {cd : Int} {o : Nat} (w : WF S k) (h : o < S.ths.length) (hr : 0 ≤ cd) : WF (wakeOne t cd S o) (k + 1) := by
  unfold MM.wakeOne
  split
  · exact w.returnCall h hr
  · exact w.mono (Nat.le_succ k)
/-- the first i turns of a loop over the threads -/
def turns (f : MS → Nat → MS) (S : MS) (i : Nat) : MS := (List.range i).foldl f S
theorem turns_succ {f : MS → Nat → MS} {i : Nat} : turns f S (i + 1) = f (turns f S i) i := by
  unfold turns
  rw [List.range_succ, List.foldl_append]
  rfl
theorem turns_ok {f : MS → Nat → MS} (hl : ∀ S o, (f S o).ths.length = S.ths.length) (hs : ∀ S o, Sm S (f S o)) (hw : ∀ S k o, WF S k → o < S.ths.length → WF (f S o) (k + 1)) (w : WF S k) :
    ∀ i, i ≤ S.ths.length → (turns f S i).ths.length = S.ths.length ∧ Sm S (turns f S i) ∧ WF (turns f S i) (k + i)
  | 0, _ => ⟨rfl, Sm.refl S, w⟩
  | i + 1, h => by
    obtain ⟨a, b, d⟩ := turns_ok hl hs hw w i (by omega)
    rw [turns_succ]
    exact ⟨(hl _ _).trans a, b.trans (hs _ _), hw _ _ _ d (by omega)⟩
theorem end_turns {t : Nat} {a cd : Int} : endThread S t a cd = turns (wakeOne t cd) (endRun (tell S "end" t a [cd]) t (.ended cd)) S.ths.length := rfl
theorem end_ok {t : Nat} {a cd : Int} (w : WF S k) (h : t < S.ths.length) (hc : 0 ≤ cd) : (endThread S t a cd).ths.length = S.ths.length ∧ Sm S (endThread S t a cd) ∧ WF (endThread S t a cd) (k + 9) := by
  have w1 : WF (endRun (tell S "end" t a [cd]) t (.ended cd)) (k + 1) := w.tell.endRun h hc
  have l1 : (endRun (tell S "end" t a [cd]) t (.ended cd)).ths.length = S.ths.length := len_endRun.trans len_tell
  obtain ⟨x, y, z⟩ := turns_ok (f := wakeOne t cd) (fun _ _ => len_wakeOne) (fun _ _ => Sm.wakeOne) (fun _ _ _ w h => w.wakeOne h hc) w1 S.ths.length (by rw [l1]; exact Nat.le_refl _)
  rw [end_turns]
  have hn := w.nt
  exact ⟨x.trans l1, (Sm.tell.trans Sm.endRun).trans y, z.mono (by omega)⟩
theorem leave_ok {t : Nat} {cd : Cond} {r : Int} (w : WF S k) (h : t < S.ths.length) (hc : condOk cd) : (leave S t cd r).ths.length = S.ths.length ∧ Sm S (leave S t cd r) ∧ WF (leave S t cd r) (k + 1) :=
  ⟨len_tell.trans len_endRun, Sm.endRun.trans Sm.tell, (w.endRun h hc).tell⟩
theorem goLast_ok {t : Nat} {r : Int} (w : WF S k) (h : t < S.ths.length) : (goLast S t r).ths.length = S.ths.length ∧ Sm S (goLast S t r) ∧ WF (goLast S t r) (k + 1) := by
  have w1 := (w.endRun (cd := .ready) h trivial)
  have l1 : (MM.endRun S t .ready).ths.length = S.ths.length := len_endRun
  refine ⟨l1, ⟨Nat.le_of_eq l1.symm, rfl, rfl, rfl⟩, ?_⟩
  have w2 := w1.tell (kd := "off") (t := t) (a := ((MM.endRun S t .ready).th t).pc) (r := [r])
  exact { w2 with
    rd := fun j hj => by
      rcases List.mem_append.mp hj with z | z
      · exact w2.rd j z
      · rw [List.mem_singleton.mp z]
        show t < (MM.endRun S t .ready).ths.length
        rw [l1]; exact h
    rdl := by show (S.ready ++ [t]).length ≤ k + 1; rw [List.length_append]; exact Nat.succ_le_succ w.rdl }
theorem addThread_ok {p : Nat} {pc f : Int} (w : WF S k) (h : S.ths.length < 8) (hp : p < S.mem.length) (hf : 0 ≤ f) : (addThread S p pc f).ths.length = S.ths.length + 1 ∧ Sm S (addThread S p pc f) ∧ WF (addThread S p pc f) (k + 1) := by
  have l1 : (addThread S p pc f).ths.length = S.ths.length + 1 := by show (S.ths ++ [_]).length = _; rw [List.length_append]; rfl
  refine ⟨l1, ⟨by omega, rfl, rfl, rfl⟩, ?_⟩
  exact { w.mono (Nat.le_succ k) with
    nt := by rw [l1]; omega
    th := fun t ht => by
      rcases List.mem_append.mp (show t ∈ S.ths ++ [_] from ht) with z | z
      · exact w.th t z
      · rw [List.mem_singleton.mp z]
        exact ⟨hp, rfl, by simpa using hf, trivial⟩
    rd := fun j hj => by
      rw [l1]
      rcases List.mem_append.mp (show j ∈ S.ready ++ [_] from hj) with z | z
      · have := w.rd j z
        omega
      · rw [List.mem_singleton.mp z]
        omega
    rdl := by show (S.ready ++ [_]).length ≤ k + 1; rw [List.length_append]; exact Nat.succ_le_succ w.rdl
    rnl := fun r hr => by
      have := w.rnl r hr
      rw [l1]
      omega
    rq := fun q hq => by
      have := w.rq q hq
      rw [l1]
      exact ⟨by omega, this.2⟩ }
theorem reg_pos {t j : Nat} (w : WF S k) (h : t < S.ths.length) : 0 ≤ reg S t j := by
  unfold reg
  rw [List.getD_eq_getElem?_getD]
  cases e : (S.th t).regs[j]? with
  | none => exact Int.le_refl _
  | some r => exact (w.tok h).pos r (List.mem_of_getElem? e)
theorem waitFor_ok {t : Nat} {x : Int} (w : WF S k) (h : t < S.ths.length) (hx : 0 ≤ x) : (waitFor S t x).ths.length = S.ths.length ∧ Sm S (waitFor S t x) ∧ WF (waitFor S t x) (k + 1) := by
  unfold waitFor
  split
  · exact ⟨len_returnCall, Sm.returnCall, w.returnCall h (by decide)⟩
  · rename_i hn
    have hl : x.toNat < S.ths.length := by omega
    have hc := (w.tok hl).cond
    split
    · rename_i kk hk
      refine ⟨len_returnCall, Sm.returnCall, w.returnCall h ?_⟩
      cases hcc : (S.th x.toNat).cond with
      | ended q =>
        rw [hcc] at hk hc
        rw [← Option.some.inj hk]
        exact hc
      | _ =>
        rw [hcc] at hk
        cases hk
    · exact leave_ok w h trivial
theorem emod_pos {a b : Int} (h : 0 < b) : 0 ≤ a % b := Int.emod_nonneg _ (by omega)
theorem doCall_ok {t : Nat} {n a : Int} (w : WF S k) (h : t < S.ths.length) : Sm S (doCall S t n a) ∧ WF (doCall S t n a) (k + 10) := by
  have w1 : WF (S.up t fun t => { t with call := n, callAt := a }) k := w.up { w.tok h with }
  generalize hS1 : (S.up t fun t => { t with call := n, callAt := a }) = S1 at w1
  have l1 : S1.ths.length = S.ths.length := by rw [← hS1]; exact up_len
  have s1 : Sm S S1 := by rw [← hS1]; exact Sm.up
  have w2 := w1.tell (kd := "entry") (t := t) (a := a) (r := [n, reg S1 t 0, reg S1 t 1])
  have e : doCall S t n a = (let S := MM.tell S1 "entry" t a [n, reg S1 t 0, reg S1 t 1]
    if n = 0 then endThread S t a (reg S t 0) else
    if n = 1 then goLast (MM.returnCall S t 0) t 2 else
    if n = 2 then leave S t (.sleeping S.cpu (S.now + reg S t 0)) 3 else
    if n = 3 ∨ n = 4 then leave { S with reqs := S.reqs ++ [(t, n, reg S t 0)] } t .asking 4 else
    if n = 5 then (if 8 ≤ S.ths.length then MM.returnCall S t 65535 else MM.returnCall (addThread S (S.th t).pid (reg S t 0 % 256) (reg S t 1)) t S.ths.length) else
    if n = 6 then waitFor S t (reg S t 0) else MM.returnCall S t 65535) := by rw [← hS1]; rfl
  rw [e]
  have s2 : Sm S (MM.tell S1 "entry" t a [n, reg S1 t 0, reg S1 t 1]) := s1.trans Sm.tell
  have l2 : (MM.tell S1 "entry" t a [n, reg S1 t 0, reg S1 t 1]).ths.length = S.ths.length := l1
  generalize MM.tell S1 "entry" t a [n, reg S1 t 0, reg S1 t 1] = S2 at w2 s2 l2 ⊢
  have h2 : t < S2.ths.length := by rw [l2]; exact h
  show Sm S (if n = 0 then _ else _) ∧ WF (if n = 0 then _ else _) (k + 10)
  split
  · obtain ⟨_, x, y⟩ := end_ok (t := t) (a := a) w2 h2 (reg_pos w2 h2 (j := 0))
    exact ⟨s2.trans x, y.mono (by omega)⟩
  split
  · have w3 := w2.returnCall (r := 0) h2 (by decide)
    obtain ⟨_, x, y⟩ := goLast_ok (t := t) (r := 2) w3 (by rw [len_returnCall]; exact h2)
    exact ⟨(s2.trans Sm.returnCall).trans x, y.mono (by omega)⟩
  split
  · obtain ⟨_, x, y⟩ := leave_ok (t := t) (cd := .sleeping S2.cpu (S2.now + reg S2 t 0)) (r := 3) w2 h2 trivial
    exact ⟨s2.trans x, y.mono (by omega)⟩
  split
  · have w3 : WF { S2 with reqs := S2.reqs ++ [(t, n, reg S2 t 0)] } (k + 1 + 1) := { w2.mono (Nat.le_succ _) with
      rq := fun q hq => by
        rcases List.mem_append.mp hq with z | z
        · exact w2.rq q z
        · rw [List.mem_singleton.mp z]
          exact ⟨h2, reg_pos w2 h2⟩
      rql := by show (S2.reqs ++ [_]).length ≤ k + 1 + 1; rw [List.length_append]; exact Nat.succ_le_succ w2.rql }
    obtain ⟨_, x, y⟩ := leave_ok (t := t) (cd := .asking) (r := 4) w3 h2 trivial
    exact ⟨(s2.trans (⟨Nat.le_refl _, rfl, rfl, rfl⟩ : Sm S2 { S2 with reqs := S2.reqs ++ [(t, n, reg S2 t 0)] })).trans x, y.mono (by omega)⟩
  split
  · split
    · exact ⟨s2.trans Sm.returnCall, (w2.returnCall h2 (by decide)).mono (by omega)⟩
    · obtain ⟨a1, a2, a3⟩ := addThread_ok (p := (S2.th t).pid) (pc := reg S2 t 0 % 256) (f := reg S2 t 1) w2 (by omega) (w2.tok h2).pid (reg_pos w2 h2)
      exact ⟨s2.trans (a2.trans Sm.returnCall), (a3.returnCall (by omega) (by omega)).mono (by omega)⟩
  split
  · obtain ⟨_, x, y⟩ := waitFor_ok (t := t) (x := reg S2 t 0) w2 h2 (reg_pos w2 h2)
    exact ⟨s2.trans x, y.mono (by omega)⟩
  · exact ⟨s2.trans Sm.returnCall, (w2.returnCall h2 (by decide)).mono (by omega)⟩
theorem WF.setMm {i : Nat} {m : Mm} (w : WF S k) (hm : MmOk m) : WF (S.setMm i m) k :=
  { w with
    nm := by show (S.mem.set i m).length ≤ 8; rw [List.length_set]; exact w.nm
    th := fun t ht => by
      have := w.th t ht
      exact { this with pid := by show t.pid < (S.mem.set i m).length; rw [List.length_set]; exact this.pid }
    mm := fun x hx => by
      rcases List.mem_or_eq_of_mem_set (show x ∈ S.mem.set i m from hx) with z | z
      · exact w.mm x z
      · rw [z]; exact hm }
theorem lookup_some {l : List (Int × Int)} {a b : Int} (h : l.lookup a = some b) : (a, b) ∈ l := by
  induction l with
  | nil => cases h
  | cons p r ih =>
    rw [List.lookup_cons] at h
    split at h
    · rename_i e
      have e1 := eq_of_beq e
      rw [e1, ← Option.some.inj h]
      exact List.mem_cons_self
    · exact List.mem_cons_of_mem _ (ih h)
theorem load_pos {m : Mm} (h : MmOk m) (a : Int) : 0 ≤ m.load a := by
  unfold Mm.load
  split
  · rename_i b hb
    exact (h.kpos _ (lookup_some hb)).2.2
  · rw [List.getD_eq_getElem?_getD]
    cases e : m.cells[(a % 256).toNat]? with
    | none => exact Int.le_refl _
    | some r => exact h.pos r (List.mem_of_getElem? e)
theorem store_ok {m : Mm} (h : MmOk m) (a : Int) {b : Int} (hb : 0 ≤ b) : MmOk (m.store a b) := by
  unfold Mm.store
  split
  · refine ⟨h.len, h.pos, fun p hp => ?_, ?_⟩
    · obtain ⟨q, hq, e⟩ := List.mem_map.mp hp
      have z := h.kpos q hq
      split at e
      · rw [← e]; exact ⟨z.1, z.2.1, hb⟩
      · rw [← e]; exact z
    · have e : ((m.kept.map fun p => if p.1 = a % 256 then (p.1, b) else p).map (·.1)) = m.kept.map (·.1) := by
        rw [List.map_map]
        refine List.map_congr_left fun p _ => ?_
        show (if p.1 = a % 256 then (p.1, b) else p).1 = p.1
        split <;> rfl
      rw [e]
      exact h.knd
  · exact ⟨by rw [List.length_set]; exact h.len, mem_set_pos h.pos hb, h.kpos, h.knd⟩
theorem store_keys (S : MS) (p : Nat) (a b : Int) : ((S.setMm p ((S.mm p).store a b)).mem.map fun m => m.kept.map (·.1)) = S.mem.map fun m => m.kept.map (·.1) := by
  show ((S.mem.set p _).map _) = _
  rw [List.map_set]
  have e : ((S.mm p).store a b).kept.map (·.1) = (S.mm p).kept.map (·.1) := by
    unfold Mm.store
    split
    · show ((S.mm p).kept.map fun q => if q.1 = a % 256 then (q.1, b) else q).map (·.1) = _
      rw [List.map_map]
      refine List.map_congr_left fun q _ => ?_
      show (if q.1 = a % 256 then (q.1, b) else q).1 = q.1
      split <;> rfl
    · rfl
  rw [e]
  by_cases h : p < S.mem.length
  · refine List.ext_getElem? fun j => ?_
    rw [List.getElem?_set]
    split
    · rename_i hj
      rw [← hj, List.length_map, if_pos h, List.getElem?_map, mm_get h]
      rfl
    · rfl
  · rw [List.set_eq_of_length_le (by rw [List.length_map]; omega)]
theorem move_ok {t : Nat} {cd x y : Int} (w : WF S k) (h : t < S.ths.length) (hy : 0 ≤ y) : (move S t cd x y).ths.length = S.ths.length ∧ Sm S (move S t cd x y) ∧ WF (move S t cd x y) k := by
  have R : ∀ j v, 0 ≤ v → (setReg S t j v).ths.length = S.ths.length ∧ Sm S (setReg S t j v) ∧ WF (setReg S t j v) k := fun j v hv => ⟨len_setReg, Sm.up, w.setReg h hv⟩
  have hm := w.mm _ (mm_mem (w.tok h).pid)
  unfold move
  show (if cd = 1 then _ else _ : MS).ths.length = _ ∧ Sm S (if cd = 1 then _ else _) ∧ WF (if cd = 1 then _ else _) k
  split
  · exact R _ _ hy
  split
  · exact R _ _ (emod_pos (by decide))
  split
  · exact R _ _ (emod_pos (by decide))
  split
  · exact R _ _ (reg_pos w h)
  split
  · exact R _ _ (load_pos hm _)
  split
  · exact ⟨rfl, ⟨Nat.le_refl _, store_keys _ _ _ _, rfl, rfl⟩, w.setMm (store_ok hm _ (emod_pos (by decide)))⟩
  · exact ⟨rfl, Sm.refl S, w⟩
theorem doInsn_ok {kd : Bool} {t : Nat} (w : WF S k) (h : t < S.ths.length) : Sm S (doInsn kd S t) ∧ WF (doInsn kd S t) (k + 12) := by
  unfold doInsn
  have hm := w.mm _ (mm_mem (w.tok h).pid)
  generalize S.mm (S.th t).pid = m at hm ⊢
  generalize (S.th t).pc = a
  have h1 : ∀ S', S' = (if m.tells kd a then MM.tell S "insn" t a [m.load a] else S) → Sm S S' ∧ WF S' (k + 1) ∧ S'.ths.length = S.ths.length := by
    intro S' e
    rw [e]
    split
    · exact ⟨Sm.tell, w.tell, rfl⟩
    · exact ⟨Sm.refl S, w.mono (Nat.le_succ k), rfl⟩
  obtain ⟨s1, w1, l1⟩ := h1 _ rfl
  show Sm S (if 13 ≤ m.load a then _ else _) ∧ WF (if 13 ≤ m.load a then _ else _) (k + 12)
  generalize (if m.tells kd a then MM.tell S "insn" t a [m.load a] else S) = S1 at s1 w1 l1 ⊢
  have ht : t < S1.ths.length := by rw [l1]; exact h
  split
  · have w2 := w1.tell (kd := "fault") (t := t) (a := a) (r := [m.load a])
    obtain ⟨_, x, y⟩ := end_ok (t := t) (a := a) (cd := 65535) w2 ht (by decide)
    exact ⟨s1.trans (Sm.tell.trans x), y.mono (by omega)⟩
  · have w2 : WF (S1.up t fun q => { q with pc := nextPc (S1.th t).regs (m.load a) (m.load (a + 1)) (m.load (a + 2)) ((a + lens.getD (m.load a).toNat 0) % 256) }) (k + 1) := w1.up { w1.tok ht with }
    have l2 : (S1.up t fun q => { q with pc := nextPc (S1.th t).regs (m.load a) (m.load (a + 1)) (m.load (a + 2)) ((a + lens.getD (m.load a).toNat 0) % 256) }).ths.length = S1.ths.length := up_len
    have s2 : Sm S1 (S1.up t fun q => { q with pc := nextPc (S1.th t).regs (m.load a) (m.load (a + 1)) (m.load (a + 2)) ((a + lens.getD (m.load a).toNat 0) % 256) }) := Sm.up
    dsimp only
    generalize (S1.up t fun q => { q with pc := nextPc (S1.th t).regs (m.load a) (m.load (a + 1)) (m.load (a + 2)) ((a + lens.getD (m.load a).toNat 0) % 256) }) = S2 at w2 l2 s2 ⊢
    have ht2 : t < S2.ths.length := by rw [l2]; exact ht
    show Sm S (if m.load a = 0 then _ else _) ∧ WF (if m.load a = 0 then _ else _) (k + 12)
    split
    · obtain ⟨_, x, y⟩ := end_ok (t := t) (a := a) (cd := 0) w2 ht2 (by decide)
      exact ⟨(s1.trans s2).trans x, y.mono (by omega)⟩
    split
    · obtain ⟨x, y⟩ := doCall_ok (t := t) (n := m.load (a + 1)) (a := a) w2 ht2
      exact ⟨(s1.trans s2).trans x, y.mono (by omega)⟩
    split
    · exact ⟨(s1.trans s2).trans Sm.up, (w2.setReg ht2 (emod_pos (by decide))).mono (by omega)⟩
    · obtain ⟨_, x, y⟩ := move_ok (t := t) (cd := m.load a) (x := m.load (a + 1)) (y := m.load (a + 2)) w2 ht2 (load_pos hm _)
      exact ⟨(s1.trans s2).trans x, y.mono (by omega)⟩
theorem wakeIf_ok : (∀ S i, (wakeIf S i).ths.length = S.ths.length) ∧ (∀ S i, Sm S (wakeIf S i)) ∧ (∀ S k i, WF S k → i < S.ths.length → WF (wakeIf S i) (k + 1)) := by
  refine ⟨fun S i => ?_, fun S i => ?_, fun S k i w h => ?_⟩
  all_goals
    unfold wakeIf
    split
  · exact len_returnCall
  · rfl
  · exact Sm.returnCall
  · exact Sm.refl S
  · exact w.returnCall h (by decide)
  · exact w.mono (Nat.le_succ k)
theorem wake_turns : wake S = turns wakeIf S S.ths.length := rfl
theorem wake_ok (w : WF S k) : (wake S).ths.length = S.ths.length ∧ Sm S (wake S) ∧ WF (wake S) (k + 8) := by
  obtain ⟨a, b, d⟩ := turns_ok (f := wakeIf) wakeIf_ok.1 wakeIf_ok.2.1 wakeIf_ok.2.2 w S.ths.length (Nat.le_refl _)
  rw [wake_turns]
  have := w.nt
  exact ⟨a, b, d.mono (by omega)⟩
theorem runs_lt (w : WF S k) : runs S < (S.ths.length : Int) := by
  unfold runs
  have hc : S.cpu < S.run.length := by rw [w.rn]; exact w.cpu
  rw [List.getD_eq_getElem?_getD, List.getElem?_eq_getElem hc]
  exact w.rnl _ (List.getElem_mem hc)
theorem doStep_ok {kd : Bool} (w : WF S k) : Sm S (doStep kd S) ∧ WF (doStep kd S) (k + 12) := by
  have hr := runs_lt w
  unfold doStep
  split
  · exact doInsn_ok w (by omega)
  · split
    · exact ⟨Sm.refl S, w.mono (by omega)⟩
    · rename_i t r e
      have ht : t < S.ths.length := w.rd t (by rw [e]; exact List.mem_cons_self)
      have w1 : WF { S with ready := r } k := { w with
        rd := fun j hj => w.rd j (by rw [e]; exact List.mem_cons_of_mem _ hj)
        rdl := by have := w.rdl; rw [e, List.length_cons] at this; show r.length ≤ k; omega }
      have w2 : WF { setCond { S with ready := r } t (.running S.cpu) with run := S.run.set S.cpu t } k := (w1.setCond (cd := .running S.cpu) (i := t) ht trivial).runSet (by
        show (t : Int) < ((MS.up { S with ready := r } t _).ths.length : Int)
        rw [up_len]
        exact Int.ofNat_lt.mpr ht)
      exact ⟨⟨Nat.le_of_eq (by simp [beginRun, MM.tell, setCond, MS.up, MS.setTh]), rfl, rfl, rfl⟩, (w2.tell).mono (by omega)⟩
theorem doTimer_ok (w : WF S k) : Sm S (doTimer S) ∧ WF (doTimer S) (k + 2) := by
  have w1 := w.tellTick
  have hr := runs_lt w1
  unfold doTimer
  show Sm S (if 0 ≤ runs (MM.tellTick S) then _ else _) ∧ WF (if 0 ≤ runs (MM.tellTick S) then _ else _) (k + 2)
  have s1 : Sm S (MM.tellTick S) := ⟨Nat.le_refl _, rfl, rfl, rfl⟩
  split
  · obtain ⟨_, x, y⟩ := goLast_ok (t := (runs (MM.tellTick S)).toNat) (r := 1) w1 (by omega)
    exact ⟨s1.trans x, y⟩
  · exact ⟨s1, w1.mono (by omega)⟩
theorem doRequest_ok (w : WF S k) : Sm S (doRequest S) ∧ WF (doRequest S) (k + 2) := by
  unfold doRequest
  split
  · exact ⟨Sm.refl S, w.mono (by omega)⟩
  · rename_i tid call number r e
    have hq := w.rq (tid, call, number) (by rw [e]; exact List.mem_cons_self)
    have w1 : WF { S with reqs := r } k := { w with
      rq := fun q hq => w.rq q (by rw [e]; exact List.mem_cons_of_mem _ hq)
      rql := by have := w.rql; rw [e, List.length_cons] at this; show r.length ≤ k; omega }
    have h1 : ∀ S', S' = (if call = 3 then { S with reqs := r, dev := number } else { S with reqs := r } : MS) → Sm S S' ∧ WF S' k ∧ S'.ths.length = S.ths.length := by
      intro S' e
      rw [e]
      split
      · exact ⟨⟨Nat.le_refl _, rfl, rfl, rfl⟩, { w1 with dev := hq.2 }, rfl⟩
      · exact ⟨⟨Nat.le_refl _, rfl, rfl, rfl⟩, w1, rfl⟩
    obtain ⟨s1, w2, l1⟩ := h1 _ rfl
    show Sm S (MM.returnCall (MM.tell (if call = 3 then { S with reqs := r, dev := number } else { S with reqs := r } : MS) "done" tid _ [call]) tid _) ∧ WF (MM.returnCall (MM.tell (if call = 3 then { S with reqs := r, dev := number } else { S with reqs := r } : MS) "done" tid _ [call]) tid _) (k + 2)
    generalize (if call = 3 then { S with reqs := r, dev := number } else { S with reqs := r } : MS) = S2 at s1 w2 l1 ⊢
    have hv : 0 ≤ (if call = 3 then (0 : Int) else S.dev) := by
      split
      · decide
      · exact w.dev
    exact ⟨s1.trans (Sm.tell.trans Sm.returnCall), (w2.tell.returnCall (by show tid < S2.ths.length; rw [l1]; exact hq.1) hv)⟩
theorem begin_ok {cpu : Nat} (w : WF S k) (h : cpu < S.rates.length) : WF (begin' S cpu) k := { w with
  tim := by show (S.times.set _ _).length = _; rw [List.length_set]; exact w.tim
  cpu := h }
theorem doPick_ok {kd : Bool} {cpu : Nat} {what : Str} (w : WF S k) (h : cpu < S.rates.length) : S.ths.length ≤ (doPick kd S cpu what).ths.length ∧ ((doPick kd S cpu what).mem.map fun m => m.kept.map (·.1)) = (S.mem.map fun m => m.kept.map (·.1)) ∧ (doPick kd S cpu what).rates = S.rates ∧ WF (doPick kd S cpu what) (k + 20) := by
  obtain ⟨l1, s1, w1⟩ := wake_ok (begin_ok w h)
  have b1 : (begin' S cpu).ths.length = S.ths.length := rfl
  have fin : ∀ S', Sm (wake (begin' S cpu)) S' → WF S' (k + 8 + 12) → S.ths.length ≤ S'.ths.length ∧ (S'.mem.map fun m => m.kept.map (·.1)) = (S.mem.map fun m => m.kept.map (·.1)) ∧ S'.rates = S.rates ∧ WF S' (k + 20) := fun S' a b =>
    ⟨by have := a.nt; rw [l1, b1] at this; exact this, a.km.trans s1.km, a.rt.trans s1.rt, b⟩
  show S.ths.length ≤ (if what = "step" then _ else _ : MS).ths.length ∧ ((if what = "step" then _ else _ : MS).mem.map fun m => m.kept.map (·.1)) = _ ∧ (if what = "step" then _ else _ : MS).rates = _ ∧ WF (if what = "step" then _ else _) _
  split
  · obtain ⟨x, y⟩ := doStep_ok (kd := kd) w1
    exact fin _ x y
  split
  · obtain ⟨x, y⟩ := doTimer_ok w1
    exact fin _ x (y.mono (by omega))
  split
  · obtain ⟨x, y⟩ := doRequest_ok w1
    exact fin _ x (y.mono (by omega))
  · exact fin _ (Sm.refl _) (w1.mono (by omega))
end MM
end
section
/-! the machine: readings over its state -/
namespace MM
open PySem PySem.Spec PyProof.Rows L2
theorem alloc {H : Hp} {o : HO} {G : Addr → Hp → Prop} (h : ∀ p H', H p = none → Same H H' → H' p = some o → G p H') : ∀ p, H p = none → G p (upd H p o) := fun p hp => h p _ hp (R.same_new hp) upd_same
/-- what the top has written of the machine's classes -/
structure BdC (K : PySem.W.Frag) (c : Cl) : Prop where
  cB : Cls K c.CB
  cT : Cls K c.CT
  cM : Cls K c.CM
  nMemories : NoAttr K c.CB "memories"
  nRates : NoAttr K c.CB "rates"
  nThreads : NoAttr K c.CB "threads"
  nReady : NoAttr K c.CB "ready"
  nTimes : NoAttr K c.CB "times"
  nRunning : NoAttr K c.CB "running"
  nDev : NoAttr K c.CB "device_value"
  nReqs : NoAttr K c.CB "requests"
  nCpu : NoAttr K c.CB "cpu"
  nViews : NoAttr K c.CB "views"
  nPid : NoAttr K c.CT "pid"
  nPc : NoAttr K c.CT "pc"
  nRegs : NoAttr K c.CT "regs"
  nCond : NoAttr K c.CT "condition"
  nCall : NoAttr K c.CT "call"
  nCallAt : NoAttr K c.CT "call_at"
  nCells : NoAttr K c.CM "cells"
section
variable {c : Cl} {ad : Tg → Addr} {S : MS} {H : Hp} {K : PySem.W.Frag} {P : V → Prop} {i : Nat} {Q : VK} {k : Nat} {G : Hp → Prop}
/-! fields of the board -/
theorem q_memories (C : BdC K c) (B : Bd c ad S H) (h : P (.ref (ad .memL))) : ∃ a C' dx fs v, V.ref (ad .brd) = .ref a ∧ H a = some (.ins C' dx fs) ∧ Cls K C' ∧ NoAttr K C' "memories" ∧ fs.lookup ("memories" : Str) = some v ∧ P v := by
  obtain ⟨dx, rt, e, _⟩ := B.brd
  exact ⟨_, _, dx, _, _, rfl, e, C.cB, C.nMemories, rfl, h⟩
theorem q_threads (C : BdC K c) (B : Bd c ad S H) (h : P (.ref (ad .thsL))) : ∃ a C' dx fs v, V.ref (ad .brd) = .ref a ∧ H a = some (.ins C' dx fs) ∧ Cls K C' ∧ NoAttr K C' "threads" ∧ fs.lookup ("threads" : Str) = some v ∧ P v := by
  obtain ⟨dx, rt, e, _⟩ := B.brd
  exact ⟨_, _, dx, _, _, rfl, e, C.cB, C.nThreads, rfl, h⟩
theorem q_ready (C : BdC K c) (B : Bd c ad S H) (h : P (.ref (ad .rdyL))) : ∃ a C' dx fs v, V.ref (ad .brd) = .ref a ∧ H a = some (.ins C' dx fs) ∧ Cls K C' ∧ NoAttr K C' "ready" ∧ fs.lookup ("ready" : Str) = some v ∧ P v := by
  obtain ⟨dx, rt, e, _⟩ := B.brd
  exact ⟨_, _, dx, _, _, rfl, e, C.cB, C.nReady, rfl, h⟩
theorem q_times (C : BdC K c) (B : Bd c ad S H) (h : P (.ref (ad .timL))) : ∃ a C' dx fs v, V.ref (ad .brd) = .ref a ∧ H a = some (.ins C' dx fs) ∧ Cls K C' ∧ NoAttr K C' "times" ∧ fs.lookup ("times" : Str) = some v ∧ P v := by
  obtain ⟨dx, rt, e, _⟩ := B.brd
  exact ⟨_, _, dx, _, _, rfl, e, C.cB, C.nTimes, rfl, h⟩
theorem q_running (C : BdC K c) (B : Bd c ad S H) (h : P (.ref (ad .runL))) : ∃ a C' dx fs v, V.ref (ad .brd) = .ref a ∧ H a = some (.ins C' dx fs) ∧ Cls K C' ∧ NoAttr K C' "running" ∧ fs.lookup ("running" : Str) = some v ∧ P v := by
  obtain ⟨dx, rt, e, _⟩ := B.brd
  exact ⟨_, _, dx, _, _, rfl, e, C.cB, C.nRunning, rfl, h⟩
theorem q_dev (C : BdC K c) (B : Bd c ad S H) (h : P (.int S.dev)) : ∃ a C' dx fs v, V.ref (ad .brd) = .ref a ∧ H a = some (.ins C' dx fs) ∧ Cls K C' ∧ NoAttr K C' "device_value" ∧ fs.lookup ("device_value" : Str) = some v ∧ P v := by
  obtain ⟨dx, rt, e, _⟩ := B.brd
  exact ⟨_, _, dx, _, _, rfl, e, C.cB, C.nDev, rfl, h⟩
theorem q_requests (C : BdC K c) (B : Bd c ad S H) (h : P (.ref (ad .reqL))) : ∃ a C' dx fs v, V.ref (ad .brd) = .ref a ∧ H a = some (.ins C' dx fs) ∧ Cls K C' ∧ NoAttr K C' "requests" ∧ fs.lookup ("requests" : Str) = some v ∧ P v := by
  obtain ⟨dx, rt, e, _⟩ := B.brd
  exact ⟨_, _, dx, _, _, rfl, e, C.cB, C.nReqs, rfl, h⟩
theorem q_cpu (C : BdC K c) (B : Bd c ad S H) (h : P (.int (S.cpu : Int))) : ∃ a C' dx fs v, V.ref (ad .brd) = .ref a ∧ H a = some (.ins C' dx fs) ∧ Cls K C' ∧ NoAttr K C' "cpu" ∧ fs.lookup ("cpu" : Str) = some v ∧ P v := by
  obtain ⟨dx, rt, e, _⟩ := B.brd
  exact ⟨_, _, dx, _, _, rfl, e, C.cB, C.nCpu, rfl, h⟩
theorem q_views (C : BdC K c) (B : Bd c ad S H) (h : P (.ref (ad .vwsL))) : ∃ a C' dx fs v, V.ref (ad .brd) = .ref a ∧ H a = some (.ins C' dx fs) ∧ Cls K C' ∧ NoAttr K C' "views" ∧ fs.lookup ("views" : Str) = some v ∧ P v := by
  obtain ⟨dx, rt, e, _⟩ := B.brd
  exact ⟨_, _, dx, _, _, rfl, e, C.cB, C.nViews, rfl, h⟩
theorem q_rates (C : BdC K c) (B : Bd c ad S H) (h : ∀ rt, H rt = some (.tup (S.rates.map V.int)) → P (.ref rt)) : ∃ a C' dx fs v, V.ref (ad .brd) = .ref a ∧ H a = some (.ins C' dx fs) ∧ Cls K C' ∧ NoAttr K C' "rates" ∧ fs.lookup ("rates" : Str) = some v ∧ P v := by
  obtain ⟨dx, rt, e, er, _⟩ := B.brd
  exact ⟨_, _, dx, _, _, rfl, e, C.cB, C.nRates, rfl, h rt er⟩
/-! fields of a thread -/
theorem q_pid (C : BdC K c) (B : Bd c ad S H) (hi : i < S.ths.length) (h : P (.int ((S.th i).pid : Int))) : ∃ a C' dx fs v, V.ref (ad (.thr i)) = .ref a ∧ H a = some (.ins C' dx fs) ∧ Cls K C' ∧ NoAttr K C' "pid" ∧ fs.lookup ("pid" : Str) = some v ∧ P v := by
  obtain ⟨dx, c0, e, _⟩ := B.thr (th_get hi)
  exact ⟨_, _, dx, _, _, rfl, e, C.cT, C.nPid, rfl, h⟩
theorem q_pc (C : BdC K c) (B : Bd c ad S H) (hi : i < S.ths.length) (h : P (.int (S.th i).pc)) : ∃ a C' dx fs v, V.ref (ad (.thr i)) = .ref a ∧ H a = some (.ins C' dx fs) ∧ Cls K C' ∧ NoAttr K C' "pc" ∧ fs.lookup ("pc" : Str) = some v ∧ P v := by
  obtain ⟨dx, c0, e, _⟩ := B.thr (th_get hi)
  exact ⟨_, _, dx, _, _, rfl, e, C.cT, C.nPc, rfl, h⟩
theorem q_regs (C : BdC K c) (B : Bd c ad S H) (hi : i < S.ths.length) (h : P (.ref (ad (.rgs i)))) : ∃ a C' dx fs v, V.ref (ad (.thr i)) = .ref a ∧ H a = some (.ins C' dx fs) ∧ Cls K C' ∧ NoAttr K C' "regs" ∧ fs.lookup ("regs" : Str) = some v ∧ P v := by
  obtain ⟨dx, c0, e, _⟩ := B.thr (th_get hi)
  exact ⟨_, _, dx, _, _, rfl, e, C.cT, C.nRegs, rfl, h⟩
theorem q_cond (C : BdC K c) (B : Bd c ad S H) (hi : i < S.ths.length) (h : ∀ c0, H c0 = some (.tup (condV (S.th i).cond)) → P (.ref c0)) : ∃ a C' dx fs v, V.ref (ad (.thr i)) = .ref a ∧ H a = some (.ins C' dx fs) ∧ Cls K C' ∧ NoAttr K C' "condition" ∧ fs.lookup ("condition" : Str) = some v ∧ P v := by
  obtain ⟨dx, c0, e, e2, _⟩ := B.thr (th_get hi)
  exact ⟨_, _, dx, _, _, rfl, e, C.cT, C.nCond, rfl, h c0 e2⟩
theorem q_call (C : BdC K c) (B : Bd c ad S H) (hi : i < S.ths.length) (h : P (.int (S.th i).call)) : ∃ a C' dx fs v, V.ref (ad (.thr i)) = .ref a ∧ H a = some (.ins C' dx fs) ∧ Cls K C' ∧ NoAttr K C' "call" ∧ fs.lookup ("call" : Str) = some v ∧ P v := by
  obtain ⟨dx, c0, e, _⟩ := B.thr (th_get hi)
  exact ⟨_, _, dx, _, _, rfl, e, C.cT, C.nCall, rfl, h⟩
theorem q_callAt (C : BdC K c) (B : Bd c ad S H) (hi : i < S.ths.length) (h : P (.int (S.th i).callAt)) : ∃ a C' dx fs v, V.ref (ad (.thr i)) = .ref a ∧ H a = some (.ins C' dx fs) ∧ Cls K C' ∧ NoAttr K C' "call_at" ∧ fs.lookup ("call_at" : Str) = some v ∧ P v := by
  obtain ⟨dx, c0, e, _⟩ := B.thr (th_get hi)
  exact ⟨_, _, dx, _, _, rfl, e, C.cT, C.nCallAt, rfl, h⟩
/-! items -/
theorem q_ixThs (B : Bd c ad S H) (hi : i < S.ths.length) (h : Q (.ref (ad (.thr i))) H) : rIxL K (.ref (ad .thsL)) (.int (i : Int)) H Q :=
  R.r_ixL (R.sqL B.thsAt) (atI_nat (by rw [List.getElem?_map, List.getElem?_range hi]; rfl)) h
theorem q_ixThsI {x : Int} (B : Bd c ad S H) (h0 : 0 ≤ x) (hi : x.toNat < S.ths.length) (h : Q (.ref (ad (.thr x.toNat))) H) : rIxL K (.ref (ad .thsL)) (.int x) H Q :=
  R.r_ixL (R.sqL B.thsAt) (R.at_nat h0 (by rw [List.getElem?_map, List.getElem?_range hi]; rfl)) h
theorem q_ixMem (B : Bd c ad S H) (hi : i < S.mem.length) (h : Q (.ref (ad (.mem i))) H) : rIxL K (.ref (ad .memL)) (.int (i : Int)) H Q :=
  R.r_ixL (R.sqL B.memAt) (atI_nat (by rw [List.getElem?_map, List.getElem?_range hi]; rfl)) h
theorem getD_get {l : List Int} {j : Nat} (h : j < l.length) : (l.map V.int)[j]? = some (.int (l.getD j 0)) := by
  rw [List.getElem?_map, List.getD_eq_getElem?_getD, List.getElem?_eq_getElem h]
  rfl
theorem q_ixTim (B : Bd c ad S H) (hi : i < S.times.length) (h : Q (.int (S.times.getD i 0)) H) : rIxL K (.ref (ad .timL)) (.int (i : Int)) H Q := R.r_ixL (R.sqL B.tim.1) (atI_nat (getD_get hi)) h
theorem q_ixRun (B : Bd c ad S H) (hi : i < S.run.length) (h : Q (.int (S.run.getD i 0)) H) : rIxL K (.ref (ad .runL)) (.int (i : Int)) H Q := R.r_ixL (R.sqL B.rn.1) (atI_nat (getD_get hi)) h
theorem q_ixRgs {j : Int} (B : Bd c ad S H) (W : WF S k) (hi : i < S.ths.length) (h0 : 0 ≤ j) (h4 : j < 4) (h : Q (.int (reg S i j.toNat)) H) : rIxL K (.ref (ad (.rgs i))) (.int j) H Q :=
  R.r_ixL (R.sqL (B.rgs (th_get hi)).1) (R.at_nat h0 (getD_get (by rw [(W.tok hi).len]; omega))) h
theorem q_ixCls {j : Int} {m : Mm} (B : Bd c ad S H) (hm : S.mem[i]? = some m) (h0 : 0 ≤ j) (h4 : j.toNat < m.cells.length) (h : Q (.int (m.cells.getD j.toNat 0)) H) : rIxL K (.ref (ad (.cls i))) (.int j) H Q :=
  R.r_ixL (R.sqL (B.cls hm).1) (R.at_nat h0 (getD_get h4)) h
/-! lists are lists -/
theorem ty_rdy (B : Bd c ad S H) : tyV K "list" (.ref (ad .rdyL)) H := .inl ⟨rfl, _, R.sqL B.rdy.1⟩
theorem ty_ths (B : Bd c ad S H) : tyV K "list" (.ref (ad .thsL)) H := .inl ⟨rfl, _, R.sqL B.thsAt⟩
theorem ty_req (B : Bd c ad S H) : tyV K "list" (.ref (ad .reqL)) H := by
  obtain ⟨rq, e, _⟩ := B.req
  exact .inl ⟨rfl, _, R.sqL e⟩
theorem ty_vws (B : Bd c ad S H) : tyV K "list" (.ref (ad .vwsL)) H := by
  obtain ⟨rq, e, _⟩ := B.vws
  exact .inl ⟨rfl, _, R.sqL e⟩
/-! stores -/
abbrev Mv1 (c : Cl) (S : MS) (ad : Tg → Addr) (H H' : Hp) : Prop := Mvd c.kd S.ths.length S.mem.length ad ad H H'
theorem mv_put {t : Tg} {o o' : HO} (h : H (ad t) = some o) (hn : ∀ xs, o ≠ .tup xs) : Mv1 c S ad H (upd H (ad t) o') := Mvd.put h hn
theorem q_stCond {c1 : Addr} {cd : Cond} (C : BdC K c) (B : Bd c ad S H) (hi : i < S.ths.length) (hc : H c1 = some (.tup (condV cd))) (h : ∀ H', Bd c ad (setCond S i cd) H' → Mv1 c S ad H H' → G H') :
    ∃ a C' dx fs, V.ref (ad (.thr i)) = .ref a ∧ H a = some (.ins C' dx fs) ∧ Cls K C' ∧ NoAttr K C' "condition" ∧ fs.length < 1000 ∧ G (upd H a (.ins C' dx (putF "condition" (.ref c1) fs))) := by
  obtain ⟨dx, c0, e, _, z⟩ := B.thr (th_get hi)
  exact ⟨_, _, dx, _, rfl, e, C.cT, C.nCond, Nat.lt_of_sub_eq_succ rfl, h _ (z { S.th i with cond := cd } c1 rfl hc) (mv_put e (fun _ => nofun))⟩
theorem q_stPc {v : Int} (C : BdC K c) (B : Bd c ad S H) (hi : i < S.ths.length) (h : ∀ H', Bd c ad (S.up i fun t => { t with pc := v }) H' → Mv1 c S ad H H' → G H') :
    ∃ a C' dx fs, V.ref (ad (.thr i)) = .ref a ∧ H a = some (.ins C' dx fs) ∧ Cls K C' ∧ NoAttr K C' "pc" ∧ fs.length < 1000 ∧ G (upd H a (.ins C' dx (putF "pc" (.int v) fs))) := by
  obtain ⟨dx, c0, e, e2, z⟩ := B.thr (th_get hi)
  exact ⟨_, _, dx, _, rfl, e, C.cT, C.nPc, Nat.lt_of_sub_eq_succ rfl, h _ (z { S.th i with pc := v } c0 rfl e2) (mv_put e (fun _ => nofun))⟩
theorem q_stCall {v : Int} (C : BdC K c) (B : Bd c ad S H) (hi : i < S.ths.length) (h : ∀ H', Bd c ad (S.up i fun t => { t with call := v }) H' → Mv1 c S ad H H' → G H') :
    ∃ a C' dx fs, V.ref (ad (.thr i)) = .ref a ∧ H a = some (.ins C' dx fs) ∧ Cls K C' ∧ NoAttr K C' "call" ∧ fs.length < 1000 ∧ G (upd H a (.ins C' dx (putF "call" (.int v) fs))) := by
  obtain ⟨dx, c0, e, e2, z⟩ := B.thr (th_get hi)
  exact ⟨_, _, dx, _, rfl, e, C.cT, C.nCall, Nat.lt_of_sub_eq_succ rfl, h _ (z { S.th i with call := v } c0 rfl e2) (mv_put e (fun _ => nofun))⟩
theorem q_stCallAt {v : Int} (C : BdC K c) (B : Bd c ad S H) (hi : i < S.ths.length) (h : ∀ H', Bd c ad (S.up i fun t => { t with callAt := v }) H' → Mv1 c S ad H H' → G H') :
    ∃ a C' dx fs, V.ref (ad (.thr i)) = .ref a ∧ H a = some (.ins C' dx fs) ∧ Cls K C' ∧ NoAttr K C' "call_at" ∧ fs.length < 1000 ∧ G (upd H a (.ins C' dx (putF "call_at" (.int v) fs))) := by
  obtain ⟨dx, c0, e, e2, z⟩ := B.thr (th_get hi)
  exact ⟨_, _, dx, _, rfl, e, C.cT, C.nCallAt, Nat.lt_of_sub_eq_succ rfl, h _ (z { S.th i with callAt := v } c0 rfl e2) (mv_put e (fun _ => nofun))⟩
theorem q_stCpu {n : Nat} (C : BdC K c) (B : Bd c ad S H) (h : ∀ H', Bd c ad { S with cpu := n } H' → Mv1 c S ad H H' → G H') :
    ∃ a C' dx fs, V.ref (ad .brd) = .ref a ∧ H a = some (.ins C' dx fs) ∧ Cls K C' ∧ NoAttr K C' "cpu" ∧ fs.length < 1000 ∧ G (upd H a (.ins C' dx (putF "cpu" (.int (n : Int)) fs))) := by
  obtain ⟨dx, rt, e, e2, z⟩ := B.brd
  exact ⟨_, _, dx, _, rfl, e, C.cB, C.nCpu, Nat.lt_of_sub_eq_succ rfl, h _ (z S.dev n) (mv_put e (fun _ => nofun))⟩
theorem q_stDev {v : Int} (C : BdC K c) (B : Bd c ad S H) (h : ∀ H', Bd c ad { S with dev := v } H' → Mv1 c S ad H H' → G H') :
    ∃ a C' dx fs, V.ref (ad .brd) = .ref a ∧ H a = some (.ins C' dx fs) ∧ Cls K C' ∧ NoAttr K C' "device_value" ∧ fs.length < 1000 ∧ G (upd H a (.ins C' dx (putF "device_value" (.int v) fs))) := by
  obtain ⟨dx, rt, e, e2, z⟩ := B.brd
  exact ⟨_, _, dx, _, rfl, e, C.cB, C.nDev, Nat.lt_of_sub_eq_succ rfl, h _ (z v S.cpu) (mv_put e (fun _ => nofun))⟩
theorem map_set_int {l : List Int} {j : Nat} {v : Int} : (l.map V.int).set j (.int v) = (l.set j v).map V.int := by rw [List.map_set]
theorem q_setRgs {j v : Int} (B : Bd c ad S H) (W : WF S k) (hi : i < S.ths.length) (h0 : 0 ≤ j) (h4 : j < 4) (h : ∀ H', Bd c ad (setReg S i j.toNat v) H' → Mv1 c S ad H H' → G H') : rSetL (.ref (ad (.rgs i))) (.int j) (.int v) H G := by
  obtain ⟨e, z⟩ := B.rgs (th_get hi)
  refine ⟨_, _, j, j.toNat, rfl, rfl, e, ?_, ?_⟩
  · unfold ixN
    rw [if_pos h0, if_pos (by rw [List.length_map, (W.tok hi).len]; omega)]
  · have z1 := h _ (z ((S.th i).regs.set j.toNat v)) (mv_put e (fun _ => nofun))
    rw [map_set_int]
    exact z1
theorem q_setRun {v : Int} (B : Bd c ad S H) (hi : i < S.run.length) (h : ∀ H', Bd c ad { S with run := S.run.set i v } H' → Mv1 c S ad H H' → G H') : rSetL (.ref (ad .runL)) (.int (i : Int)) (.int v) H G := by
  obtain ⟨e, z⟩ := B.rn
  refine ⟨_, _, (i : Int), i, rfl, rfl, e, ?_, ?_⟩
  · unfold ixN
    rw [if_pos (by omega), if_pos (by rw [List.length_map]; omega)]
    rfl
  · have z1 := h _ (z (S.run.set i v)) (mv_put e (fun _ => nofun))
    rw [map_set_int]
    exact z1
theorem q_setTim {v : Int} (B : Bd c ad S H) (hi : i < S.times.length) (h : ∀ H', Bd c ad { S with times := S.times.set i v } H' → Mv1 c S ad H H' → G H') : rSetL (.ref (ad .timL)) (.int (i : Int)) (.int v) H G := by
  obtain ⟨e, z⟩ := B.tim
  refine ⟨_, _, (i : Int), i, rfl, rfl, e, ?_, ?_⟩
  · unfold ixN
    rw [if_pos (by omega), if_pos (by rw [List.length_map]; omega)]
    rfl
  · have z1 := h _ (z (S.times.set i v)) (mv_put e (fun _ => nofun))
    rw [map_set_int]
    exact z1
theorem q_setCls {j v : Int} {m : Mm} (B : Bd c ad S H) (hm : S.mem[i]? = some m) (h0 : 0 ≤ j) (h4 : j.toNat < m.cells.length) (h : ∀ H', Bd c ad (S.setMm i { m with cells := m.cells.set j.toNat v }) H' → Mv1 c S ad H H' → G H') : rSetL (.ref (ad (.cls i))) (.int j) (.int v) H G := by
  obtain ⟨e, z⟩ := B.cls hm
  refine ⟨_, _, j, j.toNat, rfl, rfl, e, ?_, ?_⟩
  · unfold ixN
    rw [if_pos h0, if_pos (by rw [List.length_map]; omega)]
  · have z1 := h _ (z (m.cells.set j.toNat v)) (mv_put e (fun _ => nofun))
    rw [map_set_int]
    exact z1
theorem q_getTim (B : Bd c ad S H) (hi : i < S.times.length) (h : Q (.int (S.times.getD i 0)) H) : rGetL K (.ref (ad .timL)) (.int (i : Int)) H Q :=
  ⟨_, _, _, _, rfl, rfl, R.sqL B.tim.1, by omega, getD_get (by show i < _; exact hi), h⟩
/-! what is added -/
theorem q_appRdy {t : Nat} (B : Bd c ad S H) (hl : S.ready.length < 100000) (h : ∀ H', Bd c ad { S with ready := S.ready ++ [t] } H' → Mv1 c S ad H H' → Q .non H') : rAppend (.ref (ad .rdyL)) [.int (t : Int)] H Q := by
  obtain ⟨e, z⟩ := B.rdy
  refine ⟨_, _, _, rfl, rfl, e, R.size_lt (by rw [List.length_map]; exact hl), ?_⟩
  have z1 := h _ (z (S.ready ++ [t])) (mv_put e (fun _ => nofun))
  rw [List.map_append] at z1
  exact z1
theorem q_appVws {a : Addr} {w : Vw} (B : Bd c ad S H) (hl : S.views.length < 100000) (hv : VwAt H a w) (h : ∀ H', Bd c ad { S with views := S.views ++ [w] } H' → Mv1 c S ad H H' → Q .non H') : rAppend (.ref (ad .vwsL)) [.ref a] H Q := by
  obtain ⟨vw, e, al, z⟩ := B.vws
  refine ⟨_, _, _, rfl, rfl, e, R.size_lt (by rw [List.length_map, al.length]; exact hl), ?_⟩
  have z1 := h _ (z (vw ++ [a]) (S.views ++ [w]) (al.snoc hv)) (mv_put e (fun _ => nofun))
  rw [List.map_append] at z1
  exact z1
theorem q_appReq {a : Addr} {q : Nat × Int × Int} (B : Bd c ad S H) (hl : S.reqs.length < 100000) (hv : RqAt H a q) (h : ∀ H', Bd c ad { S with reqs := S.reqs ++ [q] } H' → Mv1 c S ad H H' → Q .non H') : rAppend (.ref (ad .reqL)) [.ref a] H Q := by
  obtain ⟨vw, e, al, z⟩ := B.req
  refine ⟨_, _, _, rfl, rfl, e, R.size_lt (by rw [List.length_map, al.length]; exact hl), ?_⟩
  have z1 := h _ (z (vw ++ [a]) (S.reqs ++ [q]) (al.snoc hv)) (mv_put e (fun _ => nofun))
  rw [List.map_append] at z1
  exact z1
/-! lengths -/
theorem q_lenThs (B : Bd c ad S H) (h : Q (.int (S.ths.length : Int)) H) : R.rLenS K [.ref (ad .thsL)] H Q := by
  refine R.r_lenL (R.sqL B.thsAt) ?_
  rw [List.length_map, List.length_range]
  exact h
end
end MM
end
section
/-! the machine: the defs' promises -/
namespace MM
open PySem PySem.Spec PyProof.Rows L2
def Pl (c : Cl) (S : MS) : Prop := c.kd = false → ∀ ks ∈ S.mem.map (fun m => m.kept.map (·.1)), ks = []
theorem Pl.sm {c : Cl} {S S' : MS} (p : Pl c S) (s : Sm S S') : Pl c S' := fun h => by rw [s.km]; exact p h
theorem Pl.nil {c : Cl} {S : MS} (p : Pl c S) (h : c.kd = false) {m : Mm} (hm : m ∈ S.mem) : m.kept = [] := List.map_eq_nil_iff.mp (p h _ (List.mem_map.mpr ⟨m, hm, rfl⟩))
structure Ok (c : Cl) (ad : Tg → Addr) (S : MS) (H : Hp) (k : Nat) : Prop where
  B : Bd c ad S H
  W : WF S k
  hk : k ≤ 60000
  pl : Pl c S
theorem Ok.same {c : Cl} {ad : Tg → Addr} {S : MS} {H H' : Hp} {k : Nat} (o : Ok c ad S H k) (s : Same H H') : Ok c ad S H' k := ⟨o.B.same s, o.W, o.hk, o.pl⟩
theorem Ok.to {c : Cl} {ad ad' : Tg → Addr} {S S' : MS} {H H' : Hp} {k k' : Nat} (o : Ok c ad S H k) (b : Bd c ad' S' H') (w : WF S' k') (hk : k' ≤ 60000) (s : Sm S S') : Ok c ad' S' H' k' := ⟨b, w, hk, o.pl.sm s⟩
def spLoad (c : Cl) : Sp := fun vs H Q _ => ∃ ad S k i a, vs = [.ref (ad (.mem i)), .int a] ∧ Ok c ad S H k ∧ i < S.mem.length ∧ Q (.int ((S.mm i).load a)) H
def spStore (c : Cl) : Sp := fun vs H Q _ => ∃ ad S k i a b, vs = [.ref (ad (.mem i)), .int a, .int b] ∧ Ok c ad S H k ∧ i < S.mem.length ∧ ∀ H', Bd c ad (S.setMm i ((S.mm i).store a b)) H' → Mv1 c S ad H H' → Q .non H'
def spImage (c : Cl) : Sp := fun vs H Q _ => ∃ ad S k i, vs = [.ref (ad (.mem i))] ∧ Ok c ad S H k ∧ i < S.mem.length ∧ ∀ p H', H p = none → Same H H' → H' p = some (.tup ((S.mm i).img.map V.int)) → Q (.ref p) H'
def spTells (c : Cl) : Sp := fun vs H Q _ => ∃ ad S k i a, vs = [.ref (ad (.mem i)), .int a] ∧ Ok c ad S H k ∧ i < S.mem.length ∧ Q (.bl ((S.mm i).tells c.kd a)) H
def spNow (c : Cl) : Sp := fun vs H Q _ => ∃ ad S k, vs = [.ref (ad .brd)] ∧ Ok c ad S H k ∧ Q (.int S.now) H
def spTell (c : Cl) : Sp := fun vs H Q _ => ∃ ad S k kind tid at' args g, vs = [.ref (ad .brd), .str kind, .int ((tid : Nat) : Int), .int at', .ref g] ∧ H g = some (.tup (args.map V.int)) ∧ Ok c ad S H k ∧ tid < S.ths.length ∧
  ∀ H', Bd c ad (tell S kind tid at' args) H' → Mv1 c S ad H H' → Q .non H'
def spTellTick (c : Cl) : Sp := fun vs H Q _ => ∃ ad S k, vs = [.ref (ad .brd)] ∧ Ok c ad S H k ∧ ∀ H', Bd c ad (tellTick S) H' → Mv1 c S ad H H' → Q .non H'
def spEndRun (c : Cl) : Sp := fun vs H Q _ => ∃ ad S k tid cd c1, vs = [.ref (ad .brd), .int ((tid : Nat) : Int), .ref c1] ∧ H c1 = some (.tup (condV cd)) ∧ Ok c ad S H k ∧ tid < S.ths.length ∧ ∀ H', Bd c ad (endRun S tid cd) H' → Mv1 c S ad H H' → Q .non H'
def spMakeReady (c : Cl) : Sp := fun vs H Q _ => ∃ ad S k tid, vs = [.ref (ad .brd), .int ((tid : Nat) : Int)] ∧ Ok c ad S H k ∧ tid < S.ths.length ∧ ∀ H', Bd c ad (makeReady S tid) H' → Mv1 c S ad H H' → Q .non H'
def spBeginRun (c : Cl) : Sp := fun vs H Q _ => ∃ ad S k tid, vs = [.ref (ad .brd), .int ((tid : Nat) : Int)] ∧ Ok c ad S H k ∧ tid < S.ths.length ∧ ∀ H', Bd c ad (beginRun S tid) H' → Mv1 c S ad H H' → Q .non H'
def spBeginPick (c : Cl) : Sp := fun vs H Q _ => ∃ ad S k cpu, vs = [.ref (ad .brd), .int ((cpu : Nat) : Int)] ∧ Ok c ad S H k ∧ cpu < S.rates.length ∧ ∀ H', Bd c ad (begin' S cpu) H' → Mv1 c S ad H H' → Q .non H'
def spReturnCall (c : Cl) : Sp := fun vs H Q _ => ∃ ad S k tid res, vs = [.ref (ad .brd), .int ((tid : Nat) : Int), .int res] ∧ 0 ≤ res ∧ Ok c ad S H k ∧ k ≤ 58000 ∧ tid < S.ths.length ∧ ∀ H', Bd c ad (returnCall S tid res) H' → Mv1 c S ad H H' → Q .non H'
def spEndThread (c : Cl) : Sp := fun vs H Q _ => ∃ ad S k tid at' code, vs = [.ref (ad .brd), .int ((tid : Nat) : Int), .int at', .int code] ∧ 0 ≤ code ∧ Ok c ad S H k ∧ k ≤ 57000 ∧ tid < S.ths.length ∧ ∀ H', Bd c ad (endThread S tid at' code) H' → Mv1 c S ad H H' → Q .non H'
def spLeave (c : Cl) : Sp := fun vs H Q _ => ∃ ad S k tid cd c1 r, vs = [.ref (ad .brd), .int ((tid : Nat) : Int), .ref c1, .int r] ∧ H c1 = some (.tup (condV cd)) ∧ condOk cd ∧ Ok c ad S H k ∧ tid < S.ths.length ∧ ∀ H', Bd c ad (leave S tid cd r) H' → Mv1 c S ad H H' → Q .non H'
def spGoLast (c : Cl) : Sp := fun vs H Q _ => ∃ ad S k tid r, vs = [.ref (ad .brd), .int ((tid : Nat) : Int), .int r] ∧ Ok c ad S H k ∧ k ≤ 58000 ∧ tid < S.ths.length ∧ ∀ H', Bd c ad (goLast S tid r) H' → Mv1 c S ad H H' → Q .non H'
abbrev Mv2 (c : Cl) (S : MS) (ad ad' : Tg → Addr) (H H' : Hp) : Prop := Mvd c.kd S.ths.length S.mem.length ad ad' H H'
def spAddThread (c : Cl) : Sp := fun vs H Q _ => ∃ ad S k pid pc first, vs = [.ref (ad .brd), .int ((pid : Nat) : Int), .int pc, .int first] ∧ Ok c ad S H k ∧ ∀ ad' H', Bd c ad' (addThread S pid pc first) H' → Mv2 c S ad ad' H H' → Q (.int (S.ths.length : Int)) H'
def spBeginThread (c : Cl) : Sp := fun vs H Q _ => ∃ ad S k t, vs = [.ref (ad .brd), .ref (ad (.thr t))] ∧ Ok c ad S H k ∧ t < S.ths.length ∧
  (8 ≤ S.ths.length → Q (.int 65535) H) ∧ (¬ 8 ≤ S.ths.length → ∀ ad' H', Bd c ad' (addThread S (S.th t).pid (reg S t 0 % 256) (reg S t 1)) H' → Mv2 c S ad ad' H H' → Q (.int (S.ths.length : Int)) H')
def spWaitFor (c : Cl) : Sp := fun vs H Q _ => ∃ ad S k tid x, vs = [.ref (ad .brd), .int ((tid : Nat) : Int), .int x] ∧ 0 ≤ x ∧ Ok c ad S H k ∧ k ≤ 57000 ∧ tid < S.ths.length ∧ ∀ H', Bd c ad (waitFor S tid x) H' → Mv1 c S ad H H' → Q .non H'
def spDoCall (c : Cl) : Sp := fun vs H Q _ => ∃ ad S k tid n a, vs = [.ref (ad .brd), .int ((tid : Nat) : Int), .int n, .int a] ∧ Ok c ad S H k ∧ k ≤ 49900 ∧ tid < S.ths.length ∧ ∀ ad' H', Bd c ad' (doCall S tid n a) H' → Mv2 c S ad ad' H H' → Q .non H'
def spMove (c : Cl) : Sp := fun vs H Q _ => ∃ ad S k tid code x y, vs = [.ref (ad (.rgs tid)), .ref (ad (.mem (S.th tid).pid)), .int code, .int x, .int y] ∧ Ok c ad S H k ∧ tid < S.ths.length ∧ ∀ H', Bd c ad (move S tid code x y) H' → Mv1 c S ad H H' → Q .non H'
def spNextPc (c : Cl) : Sp := fun vs H Q _ => ∃ ad S k tid code x y z, vs = [.ref (ad (.rgs tid)), .int code, .int x, .int y, .int z] ∧ Ok c ad S H k ∧ tid < S.ths.length ∧ ∀ H', Same H H' → Q (.int (nextPc (S.th tid).regs code x y z)) H'
def spDoInsn (c : Cl) : Sp := fun vs H Q _ => ∃ ad S k tid, vs = [.ref (ad .brd), .int ((tid : Nat) : Int)] ∧ Ok c ad S H k ∧ k ≤ 49800 ∧ tid < S.ths.length ∧ ∀ ad' H', Bd c ad' (doInsn c.kd S tid) H' → Mv2 c S ad ad' H H' → Q .non H'
def spWake (c : Cl) : Sp := fun vs H Q _ => ∃ ad S k, vs = [.ref (ad .brd)] ∧ Ok c ad S H k ∧ k ≤ 49900 ∧ ∀ H', Bd c ad (wake S) H' → Mv1 c S ad H H' → Q .non H'
def spDoStep (c : Cl) : Sp := fun vs H Q _ => ∃ ad S k, vs = [.ref (ad .brd)] ∧ Ok c ad S H k ∧ k ≤ 49700 ∧ ∀ ad' H', Bd c ad' (doStep c.kd S) H' → Mv2 c S ad ad' H H' → Q .non H'
def spDoTimer (c : Cl) : Sp := fun vs H Q _ => ∃ ad S k, vs = [.ref (ad .brd)] ∧ Ok c ad S H k ∧ k ≤ 49700 ∧ ∀ H', Bd c ad (doTimer S) H' → Mv1 c S ad H H' → Q .non H'
def spDoRequest (c : Cl) : Sp := fun vs H Q _ => ∃ ad S k, vs = [.ref (ad .brd)] ∧ Ok c ad S H k ∧ k ≤ 49700 ∧ ∀ H', Bd c ad (doRequest S) H' → Mv1 c S ad H H' → Q .non H'
/-- a pick: the views at a new list of the caller's -/
def spDoPick (c : Cl) : Sp := fun vs H Q _ => ∃ ad S k p cpu what, vs = [.ref (ad .brd), .ref p] ∧ H p = some (.tup [.int ((cpu : Nat) : Int), .str what]) ∧ Ok c ad S H k ∧ k ≤ 49000 ∧ cpu < S.rates.length ∧ S.views = [] ∧
  ∀ ad' H' v vw, Bd c ad' { doPick c.kd S cpu what with views := [] } H' → Mv2 c S ad ad' H H' → H' v = some (.lst (vw.map V.ref)) → All2 (VwAt H') vw (doPick c.kd S cpu what).views → (∀ t, ad' t ≠ v) → (∀ o, H v = some o → ∃ t, ad t = v) → Q (.ref v) H'
/-- the memories' own methods, plain or with stops -/
structure MemI (P : Program) (w : World) (K : PySem.W.Frag) (mg : Str → Option Value) (base : Heap) (c : Cl) where
  cc : Cls K c.CM
  nCells : NoAttr K c.CM "cells"
  f_load : Addr
  d_load : FuncData
  m_load : Meth K c.CM "load" f_load
  ok_load : FnOk P w K mg base CX0 1 f_load d_load ["self", "at"] (spLoad c)
  b_load : Binds K d_load ["self", "at"] []
  f_store : Addr
  d_store : FuncData
  m_store : Meth K c.CM "store" f_store
  ok_store : FnOk P w K mg base CX0 1 f_store d_store ["self", "at", "byte"] (spStore c)
  b_store : Binds K d_store ["self", "at", "byte"] []
  f_image : Addr
  d_image : FuncData
  m_image : Meth K c.CM "image" f_image
  ok_image : FnOk P w K mg base CX0 1 f_image d_image ["self"] (spImage c)
  b_image : Binds K d_image ["self"] []
  ps_tells : List Str
  f_tells : Addr
  d_tells : FuncData
  m_tells : Meth K c.CM "tells" f_tells
  ok_tells : FnOk P w K mg base CX0 1 f_tells d_tells ps_tells (spTells c)
  b_tells : Binds K d_tells ps_tells []
section
variable {c : Cl} {ad : Tg → Addr} {S : MS} {H : Hp} {K : PySem.W.Frag} {G : Prop} {i : Nat} {m : Str} {Q : VK} {σ : L2.St} {ta tv : TE} {tr : TA} {sp : Sp} {E : XK} {C : Addr} {dvs : List V} {nx bk ct : L2.St → Hp → Prop} {rt : V → Hp → Prop} {f : Str} {to ti te : TE}
theorem r_meth (h : ta σ H fun x H1 => ∃ a dx fs, x = .ref a ∧ H1 a = some (.ins C dx fs) ∧ fs.lookup m = none ∧ tr σ H1 fun vs H2 => sp (x :: (vs ++ dvs)) H2 Q E) : tMeth C m sp dvs E ta tr σ H Q := h
theorem r_sfld (h : tv σ H fun y H1 => ta σ H1 fun x H2 => ∃ a C dx fs, x = .ref a ∧ H2 a = some (.ins C dx fs) ∧ Cls K C ∧ NoAttr K C f ∧ fs.length < 1000 ∧ nx σ (upd H2 a (.ins C dx (putF f y fs)))) : sFld K ta tv f ⟨nx, rt, bk, ct⟩ σ H := h
theorem r_gsub {x : V} {t : TSet} {N : L2.St → Hp → Prop} (h : to σ H fun o H1 => ti σ H1 fun i H2 => t o i x H2 fun H3 => N σ H3) : gSub to ti t x σ H N := h
theorem r_augS {tget : V → V → Hp → VK → Prop} {tip : TIp} {tset : TSet} (h : to σ H fun o H1 => ti σ H1 fun i H2 => tget o i H2 fun x H3 => te σ H3 fun y H4 => tip x y H4 fun z H5 => tset o i z H5 fun H6 => nx σ H6) : tAugS to ti te tget tip tset ⟨nx, rt, bk, ct⟩ σ H := h
theorem r_ip {g : Int → Int → Int} {i j : Int} (h : Q (.int (g i j)) H) : ipI g (.int i) (.int j) H Q := ⟨i, j, rfl, rfl, h⟩
theorem q_mBrd (B : Bd c ad S H) (hl : ∀ ad rt dev cpu, (fsB ad rt dev cpu).lookup m = none) (h : G) : ∃ a dx fs, V.ref (ad .brd) = .ref a ∧ H a = some (.ins c.CB dx fs) ∧ fs.lookup m = none ∧ G := by
  obtain ⟨dx, rt, e, _⟩ := B.brd
  exact ⟨_, dx, _, rfl, e, hl _ _ _ _, h⟩
theorem q_mMem (B : Bd c ad S H) (hi : i < S.mem.length) (hl : ∀ a b kd, (fsM kd a b).lookup m = none) (h : G) : ∃ a dx fs, V.ref (ad (.mem i)) = .ref a ∧ H a = some (.ins c.CM dx fs) ∧ fs.lookup m = none ∧ G := by
  obtain ⟨dx, e⟩ := B.memI (mm_get hi)
  exact ⟨_, dx, _, rfl, e, hl _ _ _, h⟩
end
section
variable {K : PySem.W.Frag} {C dx : Addr} {kd : Bool} {a b : Addr} {H : Hp} {P : V → Prop}
theorem q_fldM {m : Addr} (hC : Cls K C) (hn : NoAttr K C "cells") (e : H m = some (.ins C dx (fsM kd a b))) (h : P (.ref a)) : ∃ a' C' dx' fs v, V.ref m = .ref a' ∧ H a' = some (.ins C' dx' fs) ∧ Cls K C' ∧ NoAttr K C' "cells" ∧ fs.lookup ("cells" : Str) = some v ∧ P v := by
  refine ⟨_, _, _, _, _, rfl, e, hC, hn, ?_, h⟩
  unfold fsM
  cases kd <;> rfl
end
end MM
end
section
/-! the machine: more readings; a new thread; what is taken away -/
namespace MM
open PySem PySem.Spec PyProof.Rows L2
theorem new2 {H H' : Hp} {p : Addr} {o : HO} (h : upd H p o = H') (hp : H p = none) : Same H H' ∧ H' p = some o := by
  subst h
  exact ⟨R.same_new hp, upd_same⟩
section
variable {c : Cl} {ad : Tg → Addr} {S : MS} {H : Hp} {K : PySem.W.Frag} {P : V → Prop} {i : Nat} {Q : VK} {k : Nat} {G : Hp → Prop}
def adTh (ad : Tg → Addr) (n : Nat) (x rg : Addr) : Tg → Addr := fun u => if u = .thr n then x else if u = .rgs n then rg else ad u
theorem adTh_ne {n : Nat} {x rg : Addr} {u : Tg} (h1 : u ≠ .thr n) (h2 : u ≠ .rgs n) : adTh ad n x rg u = ad u := by
  unfold adTh
  rw [if_neg h1, if_neg h2]
theorem Bd.there (B : Bd c ad S H) {t : Tg} (d : dom c.kd S.ths.length S.mem.length t) : ∃ o, H (ad t) = some o := by
  obtain ⟨⟨g, h1, _⟩, _, _⟩ := B
  have : ∃ o, cont c ad g S t = some o := by
    cases t with
    | thr i => exact ⟨_, by show (S.ths[i]?.map _) = _; rw [List.getElem?_eq_getElem d]; rfl⟩
    | rgs i => exact ⟨_, by show (S.ths[i]?.map _) = _; rw [List.getElem?_eq_getElem d]; rfl⟩
    | mem i => exact ⟨_, by show (S.mem[i]?.map _) = _; rw [List.getElem?_eq_getElem d]; rfl⟩
    | cls i => exact ⟨_, by show (S.mem[i]?.map _) = _; rw [List.getElem?_eq_getElem d]; rfl⟩
    | kpt i => exact ⟨_, by show (if c.kd then (S.mem[i]?.map _) else none) = _; rw [if_pos d.1, List.getElem?_eq_getElem d.2]; rfl⟩
    | _ => exact ⟨_, rfl⟩
  obtain ⟨o, e⟩ := this
  exact ⟨o, h1 t o e⟩
theorem Bd.newTh {x dx rg cv : Addr} {t : Th} {H' : Hp} (B : Bd c ad S H) (sm : Same H H') (hx : H x = none) (hr : H rg = none) (hxr : x ≠ rg)
    (ex : H' x = some (.ins c.CT dx (fsT rg cv t))) (er : H' rg = some (.lst (t.regs.map V.int))) (ec : H' cv = some (.tup (condV t.cond))) :
    Bd c (adTh ad S.ths.length x rg) { S with ths := S.ths ++ [t] } (upd H' (ad .thsL) (.lst (((List.range S.ths.length).map fun i => V.ref (ad (.thr i))) ++ [.ref x]))) ∧
    Mvd c.kd S.ths.length S.mem.length ad (adTh ad S.ths.length x rg) H (upd H' (ad .thsL) (.lst (((List.range S.ths.length).map fun i => V.ref (ad (.thr i))) ++ [.ref x]))) := by
  have old : ∀ u, dom c.kd S.ths.length S.mem.length u → adTh ad S.ths.length x rg u = ad u := fun u d => by
    refine adTh_ne (fun e => ?_) (fun e => ?_)
    · rw [e] at d; exact Nat.lt_irrefl _ d
    · rw [e] at d; exact Nat.lt_irrefl _ d
  have eT := sm _ _ B.thsAt
  have out : ∀ u, dom c.kd S.ths.length S.mem.length u → ad u ≠ x ∧ ad u ≠ rg := fun u d => by
    obtain ⟨o, e⟩ := B.there d
    exact ⟨ne_of_none e hx, ne_of_none e hr⟩
  have n1 : x ≠ ad .thsL := fun e => (out .thsL trivial).1 e.symm
  have n2 : rg ≠ ad .thsL := fun e => (out .thsL trivial).2 e.symm
  have kt : KeepT H' (upd H' (ad .thsL) (.lst (((List.range S.ths.length).map fun i => V.ref (ad (.thr i))) ++ [.ref x]))) := KeepT.upd eT (fun _ => nofun)
  have kt0 : KeepT H (upd H' (ad .thsL) (.lst (((List.range S.ths.length).map fun i => V.ref (ad (.thr i))) ++ [.ref x]))) := (KeepT.of sm).trans kt
  have inj0 := B.inj
  obtain ⟨⟨g, h1, h2, h3, h4, h5⟩, inj, od⟩ := B
  have dn : ∀ u, dom c.kd (S.ths ++ [t]).length S.mem.length u → dom c.kd S.ths.length S.mem.length u ∨ u = .thr S.ths.length ∨ u = .rgs S.ths.length := fun u d => by
    rw [List.length_append] at d
    cases u with
    | thr i => 
      have d : i < S.ths.length + 1 := d
      by_cases e : i = S.ths.length
      · exact .inr (.inl (by rw [e]))
      · exact .inl (show i < S.ths.length by omega)
    | rgs i =>
      have d : i < S.ths.length + 1 := d
      by_cases e : i = S.ths.length
      · exact .inr (.inr (by rw [e]))
      · exact .inl (show i < S.ths.length by omega)
    | _ => exact .inl d
  have aT : adTh ad S.ths.length x rg (.thr S.ths.length) = x := if_pos rfl
  have aR : adTh ad S.ths.length x rg (.rgs S.ths.length) = rg := by
    unfold adTh
    rw [if_neg (by intro e; cases e), if_pos rfl]
  refine ⟨⟨⟨{ g with dT := fun j => if j = S.ths.length then dx else g.dT j, cv := fun j => if j = S.ths.length then cv else g.cv j }, ?_, ?_, h3.imp fun _ _ z => kt0 _ _ z, h4.imp fun _ _ z => z.keep kt0, kt0 _ _ h5⟩, ?_, ?_⟩, ?_⟩
  · intro u o hu
    have du := dom_some hu
    rcases dn u du with d | e | e
    · rw [old u d]
      by_cases z : u = .thsL
      · subst z
        rw [upd_same, ← hu]
        show some (HO.lst _) = some (HO.lst ((List.range (S.ths ++ [t]).length).map fun i => V.ref (adTh ad S.ths.length x rg (.thr i))))
        rw [List.length_append]
        show _ = some (HO.lst ((List.range (S.ths.length + 1)).map _))
        rw [List.range_succ, List.map_append, List.map_singleton, aT]
        refine congrArg (fun z => some (HO.lst (z ++ [V.ref x]))) (List.map_congr_left fun i hi => ?_)
        rw [old (.thr i) (List.mem_range.mp hi)]
      · have q : ad u ≠ ad .thsL := fun e => z (inj u .thsL d trivial e)
        rw [upd_ne q]
        refine sm _ _ (h1 u o ?_)
        rw [← hu]
        cases u with
        | thr j =>
          have hj : j < S.ths.length := d
          show (S.ths[j]?.map fun t => HO.ins c.CT (g.dT j) (fsT (ad (.rgs j)) (g.cv j) t)) = (((S.ths ++ [t])[j]?).map fun t => HO.ins c.CT (if j = S.ths.length then dx else g.dT j) (fsT (adTh ad S.ths.length x rg (.rgs j)) (if j = S.ths.length then cv else g.cv j) t))
          rw [List.getElem?_append_left hj, if_neg (by omega), if_neg (by omega), old (.rgs j) hj]
        | rgs j =>
          have hj : j < S.ths.length := d
          show (S.ths[j]?.map fun t => HO.lst (t.regs.map V.int)) = (((S.ths ++ [t])[j]?).map fun t => HO.lst (t.regs.map V.int))
          rw [List.getElem?_append_left hj]
        | brd =>
          show some (HO.ins c.CB g.dB (fsB ad g.rt S.dev S.cpu)) = some (HO.ins c.CB g.dB (fsB (adTh ad S.ths.length x rg) g.rt S.dev S.cpu))
          rfl
        | memL => rfl
        | mem j => rfl
        | kpt j => rfl
        | thsL => exact absurd rfl z
        | _ => rfl
    · subst e
      rw [aT, upd_ne n1, ex, ← hu]
      show some _ = (((S.ths ++ [t])[S.ths.length]?).map fun t => HO.ins c.CT (if S.ths.length = S.ths.length then dx else g.dT S.ths.length) (fsT (adTh ad S.ths.length x rg (.rgs S.ths.length)) (if S.ths.length = S.ths.length then cv else g.cv S.ths.length) t))
      rw [List.getElem?_append_right (Nat.le_refl _), Nat.sub_self, if_pos rfl, if_pos rfl, aR]
      rfl
    · subst e
      rw [aR, upd_ne n2, er, ← hu]
      show some _ = (((S.ths ++ [t])[S.ths.length]?).map fun t => HO.lst (t.regs.map V.int))
      rw [List.getElem?_append_right (Nat.le_refl _), Nat.sub_self]
      rfl
  · intro j y hy
    show upd H' _ _ (if j = S.ths.length then cv else g.cv j) = _
    have hl : j < (S.ths ++ [t]).length := (List.getElem?_eq_some_iff.mp hy).1
    rw [List.length_append] at hl
    have hl : j < S.ths.length + 1 := hl
    have hy : (S.ths ++ [t])[j]? = some y := hy
    by_cases e : j = S.ths.length
    · rw [if_pos e]
      rw [e, List.getElem?_append_right (Nat.le_refl _), Nat.sub_self] at hy
      have hy : some t = some y := hy
      rw [← Option.some.inj hy]
      exact kt _ _ ec
    · rw [if_neg e]
      rw [List.getElem?_append_left (by omega)] at hy
      exact kt0 _ _ (h2 j y hy)
  · intro u v du dv e
    rcases dn u du with d | d | d
    · rcases dn v dv with d' | d' | d'
      · rw [old u d, old v d'] at e
        exact inj u v d d' e
      · rw [old u d, d', aT] at e
        exact absurd e (out u d).1
      · rw [old u d, d', aR] at e
        exact absurd e (out u d).2
    · rcases dn v dv with d' | d' | d'
      · rw [d, aT, old v d'] at e
        exact absurd e.symm (out v d').1
      · rw [d, d']
      · rw [d, d', aT, aR] at e
        exact absurd e hxr
    · rcases dn v dv with d' | d' | d'
      · rw [d, aR, old v d'] at e
        exact absurd e.symm (out v d').2
      · rw [d, d', aT, aR] at e
        exact absurd e.symm hxr
      · rw [d, d']
  · intro u nd
    have nd : ¬ dom c.kd (S.ths ++ [t]).length S.mem.length u := nd
    rw [List.length_append] at nd
    have b0 : adTh ad S.ths.length x rg .brd = ad .brd := adTh_ne (by intro e; cases e) (by intro e; cases e)
    rw [b0, ← od u (fun d => nd (d.mono (Nat.le_add_right _ _)))]
    refine adTh_ne (fun e => nd ?_) (fun e => nd ?_)
    · rw [e]; exact Nat.lt_succ_self _
    · rw [e]; exact Nat.lt_succ_self _
  · refine ⟨fun b o hb q => ?_, fun u => ?_, kt0, fun u hu d => old u d⟩
    · rw [upd_ne (q .thsL).symm]
      exact sm _ _ hb
    · unfold adTh
      split
      · exact .inr hx
      split
      · exact .inr hr
      · exact .inl ⟨u, rfl⟩
/-- the first one of the ready row is taken -/
theorem q_popRdy {t : Nat} {r : List Nat} (B : Bd c ad S H) (e : S.ready = t :: r) (h : ∀ H', Bd c ad { S with ready := r } H' → Mv1 c S ad H H' → Q (.int (t : Int)) H') : rPopAt (.ref (ad .rdyL)) [.int 0] H Q := by
  obtain ⟨e1, z⟩ := B.rdy
  refine ⟨_, _, 0, 0, .int (t : Int), rfl, rfl, e1, by decide, by decide, ?_, ?_, ?_⟩
  · rw [e]
    exact PyProof.Rows.seqIndex?_zero (by rw [List.length_map]; exact Nat.succ_pos _)
  · rw [e]; rfl
  · have z1 := h _ (z r) (mv_put e1 (fun _ => nofun))
    rw [e]
    exact z1
theorem q_popReq {q : Nat × Int × Int} {r : List (Nat × Int × Int)} (B : Bd c ad S H) (e : S.reqs = q :: r) (h : ∀ a H', RqAt H' a q → Bd c ad { S with reqs := r } H' → Mv1 c S ad H H' → Q (.ref a) H') : rPopAt (.ref (ad .reqL)) [.int 0] H Q := by
  obtain ⟨rq, e1, al, z⟩ := B.req
  rw [e] at al
  cases al with
  | cons r1 al =>
    rename_i a as
    refine ⟨_, _, 0, 0, .ref a, rfl, rfl, e1, by decide, by decide, PyProof.Rows.seqIndex?_zero (by rw [List.length_map]; exact Nat.succ_pos _), rfl, ?_⟩
    exact h _ _ ((KeepT.upd e1 (fun _ => nofun)) _ _ r1) (z as r al) (mv_put e1 (fun _ => nofun))
/-- the views are given away, a new list stands in their place -/
def adV (ad : Tg → Addr) (p : Addr) : Tg → Addr := fun u => if u = .vwsL then p else ad u
theorem adV_ne {p : Addr} {u : Tg} (h : u ≠ .vwsL) : adV ad p u = ad u := if_neg h
theorem Bd.newVws {p : Addr} (B : Bd c ad S H) (hp : H p = none) : ∃ dx rt, H (ad .brd) = some (.ins c.CB dx (fsB ad rt S.dev S.cpu)) ∧
    Bd c (adV ad p) { S with views := [] } (upd (upd H p (.lst [])) (ad .brd) (.ins c.CB dx (fsB (adV ad p) rt S.dev S.cpu))) ∧
    Mvd c.kd S.ths.length S.mem.length ad (adV ad p) H (upd (upd H p (.lst [])) (ad .brd) (.ins c.CB dx (fsB (adV ad p) rt S.dev S.cpu))) := by
  have out : ∀ u, dom c.kd S.ths.length S.mem.length u → ad u ≠ p := fun u d => by
    obtain ⟨o, e⟩ := B.there d
    exact ne_of_none e hp
  obtain ⟨⟨g, h1, h2, h3, h4, h5⟩, inj, od⟩ := B
  have e1 := h1 .brd _ rfl
  refine ⟨g.dB, g.rt, e1, ?_⟩
  have nb : p ≠ ad .brd := fun e => out .brd trivial e.symm
  have kt : KeepT H (upd (upd H p (.lst [])) (ad .brd) (.ins c.CB g.dB (fsB (adV ad p) g.rt S.dev S.cpu))) :=
    (KeepT.of (R.same_new hp)).trans (KeepT.upd (R.same_new hp _ _ e1) (fun _ => nofun))
  have av : adV ad p .vwsL = p := if_pos rfl
  refine ⟨⟨⟨{ g with vw := [] }, ?_, fun i t e => kt _ _ (h2 i t e), h3.imp fun _ _ z => kt _ _ z, .nil, kt _ _ h5⟩, ?_, ?_⟩, ?_⟩
  · intro u o hu
    by_cases z : u = .vwsL
    · subst z
      rw [av, upd_ne nb, upd_same, ← hu]
      rfl
    · rw [adV_ne z]
      by_cases y : u = .brd
      · subst y
        rw [upd_same, ← hu]
        rfl
      · have du := dom_some hu
        have q : ad u ≠ ad .brd := fun e => y (inj u .brd du trivial e)
        rw [upd_ne q, upd_ne (out u du)]
        refine h1 u o ?_
        rw [← hu]
        cases u <;> first | rfl | exact absurd rfl z | exact absurd rfl y
  · intro u v du dv e
    by_cases z : u = .vwsL
    · by_cases y : v = .vwsL
      · rw [z, y]
      · rw [z, av, adV_ne y] at e
        exact absurd e.symm (out v dv)
    · by_cases y : v = .vwsL
      · rw [y, av, adV_ne z] at e
        exact absurd e (out u du)
      · rw [adV_ne z, adV_ne y] at e
        exact inj u v du dv e
  · intro u nd
    have b0 : adV ad p .brd = ad .brd := adV_ne (by intro e; cases e)
    rw [b0, ← od u nd]
    exact adV_ne (fun e => nd (by rw [e]; trivial))
  · refine ⟨fun b o hb q => ?_, fun u => ?_, kt, fun u hu d => adV_ne hu⟩
    · rw [upd_ne (q .brd).symm, upd_ne (ne_of_none hb hp)]
      exact hb
    · by_cases z : u = .vwsL
      · rw [z, av]; exact .inr hp
      · rw [adV_ne z]; exact .inl ⟨u, rfl⟩
/-- the kept bytes -/
theorem Bd.kpt (B : Bd c ad S H) (hk : c.kd = true) {i : Nat} {m : Mm} (hm : S.mem[i]? = some m) : H (ad (.kpt i)) = some (.dK (keptV m.kept)) ∧
    ∀ ks : List (Int × Int), Bd c ad (S.setMm i { m with kept := ks }) (upd H (ad (.kpt i)) (.dK (keptV ks))) := by
  obtain ⟨⟨g, h1, h2, h3, h4, h5⟩, inj, od⟩ := B
  have e1 : cont c ad g S (.kpt i) = some (.dK (keptV m.kept)) := by simp [cont, hk, hm]
  refine ⟨h1 _ _ e1, fun ks => ?_⟩
  have hi : i < S.mem.length := (List.getElem?_eq_some_iff.mp hm).1
  have kt : KeepT H (upd H (ad (.kpt i)) (.dK (keptV ks))) := KeepT.upd (h1 _ _ e1) (not_tup e1)
  refine ⟨⟨g, ?_, fun j x hx => kt _ _ (h2 j x hx), h3.imp fun _ _ z => kt _ _ z, h4.imp fun _ _ z => z.keep kt, kt _ _ h5⟩, ?_, ?_⟩
  · refine Bd.put (g' := g) h1 inj e1 ?_ ?_
    · show (if c.kd then ((S.mem.set i { m with kept := ks })[i]?).map fun m => HO.dK (keptV m.kept) else none) = _
      rw [if_pos hk, List.getElem?_set_self hi]
      rfl
    · intro u hu
      cases u with
      | kpt j =>
        have hj : i ≠ j := fun z => hu (by rw [z])
        show (if c.kd then ((S.mem.set i { m with kept := ks })[j]?).map fun m => HO.dK (keptV m.kept) else none) = _
        rw [List.getElem?_set_ne hj]
        rfl
      | mem j =>
        show (((S.mem.set i { m with kept := ks })[j]?).map fun _ => HO.ins c.CM (g.dM j) (fsM c.kd (ad (.cls j)) (ad (.kpt j)))) = ((S.mem[j]?).map fun _ => HO.ins c.CM (g.dM j) (fsM c.kd (ad (.cls j)) (ad (.kpt j))))
        by_cases hj : i = j
        · subst hj
          rw [List.getElem?_set_self hi, hm]
          rfl
        · rw [List.getElem?_set_ne hj]
      | cls j =>
        show (((S.mem.set i { m with kept := ks })[j]?).map fun m => HO.lst (m.cells.map V.int)) = ((S.mem[j]?).map fun m => HO.lst (m.cells.map V.int))
        by_cases hj : i = j
        · subst hj
          rw [List.getElem?_set_self hi, hm]
          rfl
        · rw [List.getElem?_set_ne hj]
      | memL =>
        show some (HO.lst ((List.range (S.mem.set i { m with kept := ks }).length).map fun i => V.ref (ad (.mem i)))) = _
        rw [List.length_set]
        rfl
      | _ => rfl
  · show ∀ t u, dom c.kd S.ths.length (S.mem.set i { m with kept := ks }).length t → dom c.kd S.ths.length (S.mem.set i { m with kept := ks }).length u → _
    rw [List.length_set]
    exact inj
  · show ∀ t, ¬ dom c.kd S.ths.length (S.mem.set i { m with kept := ks }).length t → _
    rw [List.length_set]
    exact od
end
end MM
namespace MM
open PySem PySem.Spec PyProof.Rows L2
theorem st2 {H H' : Hp} {p : PySem.Addr} {o : HO} (h : upd H p o = H') : R.Mv p H H' ∧ H' p = some o := by
  subst h
  exact ⟨R.Mv.upd, upd_same⟩
end MM
namespace MM
open PySem PySem.Spec PyProof.Rows L2
theorem r_make {C : PySem.Addr} {sp : Sp} {dvs : List V} {E : XK} {tr : TA} {σ : L2.St} {H : Hp} {Q : VK} (h : tr σ H fun vs H1 => ∀ x dx, H1 x = none → H1 dx = none → dx ≠ x → sp (.ref x :: (vs ++ dvs)) (upd (upd H1 dx (.own x)) x (.ins C dx [])) (fun v H2 => v = .non ∧ Q (.ref x) H2) E) : tMake C sp dvs E tr σ H Q := h
end MM
end
section
/-! the machine: loops over its threads; conditions -/
namespace MM
open PySem PySem.Spec PyProof.Rows L2
def condName : Cond → Str
  | .ready => "ready"
  | .running _ => "running"
  | .sleeping _ _ => "sleeping"
  | .asking => "asking"
  | .waiting _ => "waiting"
  | .ended _ => "ended"
theorem cond_0 (cd : Cond) : atI (condV cd) 0 = some (.str (condName cd)) := by cases cd <;> rfl
theorem name_run (cd : Cond) : condName cd = "running" ↔ isRun cd = true := by
  cases cd with
  | ready => exact ⟨fun h => absurd h (show ("ready" : Str) ≠ "running" by decide +kernel), nofun⟩
  | running c => exact ⟨fun _ => rfl, fun _ => rfl⟩
  | sleeping c u => exact ⟨fun h => absurd h (show ("sleeping" : Str) ≠ "running" by decide +kernel), nofun⟩
  | asking => exact ⟨fun h => absurd h (show ("asking" : Str) ≠ "running" by decide +kernel), nofun⟩
  | waiting t => exact ⟨fun h => absurd h (show ("waiting" : Str) ≠ "running" by decide +kernel), nofun⟩
  | ended k => exact ⟨fun h => absurd h (show ("ended" : Str) ≠ "running" by decide +kernel), nofun⟩
def condD : Cond → PyData
  | .ready => .tuple [.str "ready"]
  | .running c => .tuple [.str "running", .int (c : Int)]
  | .sleeping c u => .tuple [.str "sleeping", .int (c : Int), .int u]
  | .asking => .tuple [.str "asking"]
  | .waiting t => .tuple [.str "waiting", .int t]
  | .ended k => .tuple [.str "ended", .int k]
theorem dp_cond {K : PySem.W.Frag} {H : Hp} {a : PySem.Addr} {cd : Cond} (h : H a = some (.tup (condV cd))) : Dp K H (.ref a) (condD cd) := by
  cases cd <;> first
    | exact .tup (R.sqT h) (.cons (.str _) .nil)
    | exact .tup (R.sqT h) (.cons (.str _) (.cons (.int _) .nil))
    | exact .tup (R.sqT h) (.cons (.str _) (.cons (.int _) (.cons (.int _) .nil)))
theorem sh_cond (cd : Cond) : D.Sh 1 (condD cd) := by
  cases cd <;> first
    | exact .tup (.cons (.str (by decide +kernel)) .nil)
    | exact .tup (.cons (.str (by decide +kernel)) (.cons (.int _) .nil))
    | exact .tup (.cons (.str (by decide +kernel)) (.cons (.int _) (.cons (.int _) .nil)))
theorem cond_wait {cd : Cond} {t : Int} : condD cd = .tuple [.str "waiting", .int t] ↔ isWait t cd = true := by
  cases cd with
  | waiting u => simp [condD, isWait]
  | ready => simp [condD, isWait]
  | asking => simp [condD, isWait]
  | running c => simp [condD, isWait]; exact fun h => absurd h (by decide +kernel)
  | sleeping c u => simp [condD, isWait]
  | ended c => simp [condD, isWait]; exact fun h => absurd h (by decide +kernel)
section
variable {c : Cl} {ad : Tg → Addr} {S : MS} {H : Hp} {K : PySem.W.Frag} {P : V → Prop} {i : Nat} {Q : VK} {k : Nat} {G : Hp → Prop}
theorem r_enum {tr : TA} {g : TG} {tb : TS} {D : Ends} {σ : L2.St} (h : tr σ H fun vs H1 => ∃ a xs, vs = [.ref a] ∧ SqL K H1 a xs ∧ ∃ W : Nat → Nat → L2.St → Hp → Prop, (∃ m, W 0 m σ H1) ∧ ∀ i m σ H, W i m σ H →
  ((Ite K a).stop i H ∧ D.nx σ H) ∨ ((Ite K a).go i H ∧ ∃ N : L2.St → Hp → Prop, (∀ σ' H', N σ' H' → ∃ m', m' < m ∧ W (i + 1) m' σ' H') ∧ ∀ x H', (Ite K a).yld i H x H' → g x σ H' fun σ2 H2 => tb { D with nx := N, ct := N, bk := D.nx } σ2 H2)) : tFor (iEnum K tr) g tb D σ H := h
/-- for j1, j2 in enumerate(the threads): the list stands all the while -/
theorem for_ths {tb : TS} {nx bk ct : L2.St → Hp → Prop} {rt : V → Hp → Prop} {σ : L2.St} {j1 j2 : Nat} (n : Nat) (a : PySem.Addr) (Pv : Nat → L2.St → Hp → Prop) (h0 : Pv 0 σ H)
    (hG : ∀ i σ H, i ≤ n → Pv i σ H → H a = some (.lst ((List.range n).map fun i => V.ref (ad (.thr i))))) (hP : ∀ i σ H H', Pv i σ H → Same H H' → Pv i σ H')
    (hs : ∀ i σ H, i < n → Pv i σ H → tb ⟨Pv (i + 1), rt, nx, Pv (i + 1)⟩ ((σ.set j1 (some (.int (i : Nat)))).set j2 (some (.ref (ad (.thr i))))) H) (hd : ∀ σ H, Pv n σ H → nx σ H) :
    ∃ W : Nat → Nat → L2.St → Hp → Prop, (∃ m, W 0 m σ H) ∧ ∀ i m σ H, W i m σ H →
      ((Ite K a).stop i H ∧ nx σ H) ∨ ((Ite K a).go i H ∧ ∃ N : L2.St → Hp → Prop, (∀ σ' H', N σ' H' → ∃ m', m' < m ∧ W (i + 1) m' σ' H') ∧ ∀ x H', (Ite K a).yld i H x H' → gTup K 2 (gCons (gName j1) (gCons (gName j2) gNil)) x σ H' fun σ2 H2 => tb ⟨N, rt, nx, N⟩ σ2 H2) := by
  generalize hxs : ((List.range n).map fun i => V.ref (ad (.thr i))) = xs at hG
  have hl : xs.length = n := by rw [← hxs, List.length_map, List.length_range]
  have wk : Walk (Ite K a) n (fun H => SqL K H a xs) (YPair (fun i => some (.int (i : Nat))) (fun i => xs[i]?)) := hl ▸ walk_enum
  refine for_it (D := ⟨nx, rt, bk, ct⟩) wk Pv h0 (fun i σ H hi p => R.sqL (hG i σ H hi p)) (fun i x σ H H' hi p y => ?_) hd
  obtain ⟨T, x1, x2, rfl, hT, rfl, e1, e2⟩ := y
  have e1 : x1 = .int (i : Nat) := (Option.some.inj e1).symm
  have e2 : xs[i]? = some x2 := e2
  rw [← hxs, List.getElem?_map, List.getElem?_range hi] at e2
  have e2 : x2 = .ref (ad (.thr i)) := (Option.some.inj e2).symm
  subst e1 e2
  refine ⟨T, _, rfl, R.sqT upd_same, rfl, _, _, rfl, _, _, rfl, rfl, ?_⟩
  exact hs i σ _ hi (hP _ _ _ _ p (R.same_new hT))
/-- steps one behind the other -/
theorem Mvd.after {S S' : MS} {a1 a2 a3 : Tg → Addr} {H H1 H2 : Hp} (s : Sm S S') (m : Mv2 c S a1 a2 H H1) (m' : Mv2 c S' a2 a3 H1 H2) : Mv2 c S a1 a3 H H2 := by
  have m' : Mvd c.kd S'.ths.length S'.mem.length a2 a3 H1 H2 := m'
  rw [s.nm] at m'
  exact m.trans s.nt m'
theorem sm_of {S' : MS} (h1 : S'.ths.length = S.ths.length) (h2 : S'.mem = S.mem) (h3 : S'.rates = S.rates) (h4 : S'.cpu = S.cpu) : Sm S S' := ⟨Nat.le_of_eq h1.symm, by rw [h2], h3, h4⟩
end
end MM
namespace MM
open PySem PySem.Spec PyProof.Rows L2
theorem tell_th {S : MS} {kd : Str} {t i : Nat} {a : Int} {r : List Int} : (tell S kd t a r).th i = S.th i := rfl
theorem Ok.tell {c : Cl} {ad ad' : Tg → PySem.Addr} {S : MS} {H H' : Hp} {k : Nat} {kd : Str} {t : Nat} {a : Int} {r : List Int} (o : Ok c ad S H k) (b : Bd c ad' (tell S kd t a r) H') (hk : k + 1 ≤ 60000) : Ok c ad' (tell S kd t a r) H' (k + 1) := o.to b o.W.tell hk Sm.tell
theorem mv_pre {c : Cl} {S : MS} {a1 a2 : Tg → PySem.Addr} {H H1 H2 : Hp} (s : Same H H1) (m : Mv2 c S a1 a2 H1 H2) : Mv2 c S a1 a2 H H2 := Mvd.after (Sm.refl S) (Mvd.of s) m
theorem mv_end {c : Cl} {S : MS} {a1 a2 : Tg → PySem.Addr} {H H1 H2 : Hp} (m : Mv2 c S a1 a2 H H1) (s : Same H1 H2) : Mv2 c S a1 a2 H H2 := Mvd.after (Sm.refl S) m (Mvd.of s)
end MM
namespace MM
open PySem PySem.Spec PyProof.Rows L2
theorem eqI {s a : Int} : eqV (.int a) (.int s) = decide (s = a) := by
  show (a == s) = decide (s = a)
  by_cases h : s = a
  · subst h
    rw [decide_eq_true rfl, beq_self_eq_true]
  · rw [decide_eq_false h]
    exact beq_eq_false_iff_ne.mpr fun z => h z.symm
theorem in2I {s a b : Int} : inV (.int s) [.int a, .int b] = decide (s = a ∨ s = b) := by
  unfold inV
  rw [List.any_cons, List.any_cons, List.any_nil, Bool.or_false, eqI, eqI]
  by_cases h1 : s = a <;> by_cases h2 : s = b <;> simp [h1, h2]
theorem cond_ended {cd : Cond} : condName cd = "ended" ↔ ∃ k, cd = .ended k := by
  cases cd with
  | ready => exact ⟨fun h => absurd h (show ("ready" : Str) ≠ "ended" by decide +kernel), nofun⟩
  | running c => exact ⟨fun h => absurd h (show ("running" : Str) ≠ "ended" by decide +kernel), nofun⟩
  | sleeping c u => exact ⟨fun h => absurd h (show ("sleeping" : Str) ≠ "ended" by decide +kernel), nofun⟩
  | asking => exact ⟨fun h => absurd h (show ("asking" : Str) ≠ "ended" by decide +kernel), nofun⟩
  | waiting t => exact ⟨fun h => absurd h (show ("waiting" : Str) ≠ "ended" by decide +kernel), nofun⟩
  | ended k => exact ⟨fun _ => ⟨k, rfl⟩, fun _ => rfl⟩
theorem cond_sleeps {cd : Cond} : condName cd = "sleeping" ↔ ∃ c u, cd = .sleeping c u := by
  cases cd with
  | ready => exact ⟨fun h => absurd h (show ("ready" : Str) ≠ "sleeping" by decide +kernel), nofun⟩
  | running c => exact ⟨fun h => absurd h (show ("running" : Str) ≠ "sleeping" by decide +kernel), nofun⟩
  | sleeping c u => exact ⟨fun _ => ⟨c, u, rfl⟩, fun _ => rfl⟩
  | asking => exact ⟨fun h => absurd h (show ("asking" : Str) ≠ "sleeping" by decide +kernel), nofun⟩
  | waiting t => exact ⟨fun h => absurd h (show ("waiting" : Str) ≠ "sleeping" by decide +kernel), nofun⟩
  | ended k => exact ⟨fun h => absurd h (show ("ended" : Str) ≠ "sleeping" by decide +kernel), nofun⟩
end MM
end
section
/-! the memories: dicts of kept bytes -/
namespace MM
open PySem PySem.Spec PyProof.Rows L2
theorem nodup_lt : ∀ (n : Nat) (l : List Nat), l.Nodup → (∀ x ∈ l, x < n) → l.length ≤ n
  | 0, l, _, h => by
    cases l with
    | nil => exact Nat.le_refl _
    | cons a _ => exact absurd (h a List.mem_cons_self) (Nat.not_lt_zero _)
  | n + 1, l, hn, h => by
    by_cases hm : n ∈ l
    · have z := nodup_lt n (l.erase n) (hn.erase n) (fun x hx => by
        have h1 := h x (List.mem_of_mem_erase hx)
        have h2 : x ≠ n := fun e => by
          rw [e] at hx
          exact (List.Nodup.mem_erase_iff hn).mp hx |>.1 rfl
        omega)
      rw [List.length_erase_of_mem hm] at z
      omega
    · have z := nodup_lt n l hn (fun x hx => by
        have h1 := h x hx
        have h2 : x ≠ n := fun e => hm (e ▸ hx)
        omega)
      omega
theorem kept_len {m : Mm} (h : MmOk m) : m.kept.length ≤ 256 := by
  have z := nodup_lt 256 (m.kept.map fun p => p.1.toNat) ?_ ?_
  · rwa [List.length_map] at z
  · have e : (m.kept.map fun p => p.1.toNat) = (m.kept.map (·.1)).map Int.toNat := by rw [List.map_map]; rfl
    rw [e]
    unfold List.Nodup
    rw [List.pairwise_map]
    refine List.Pairwise.imp_of_mem ?_ h.knd
    intro a b ha hb hab e
    obtain ⟨p, hp, rfl⟩ := List.mem_map.mp ha
    obtain ⟨q, hq, rfl⟩ := List.mem_map.mp hb
    have h1 := h.kpos p hp
    have h2 := h.kpos q hq
    omega
  · intro x hx
    obtain ⟨p, hp, rfl⟩ := List.mem_map.mp hx
    have h1 := h.kpos p hp
    omega
theorem val_kept (ks : List (Int × Int)) (a : Int) : valV (keptV ks) (Sum.inl a : Key) = (ks.lookup a).map V.int := by
  induction ks with
  | nil => rfl
  | cons p r ih =>
    show valV ((Sum.inl p.1, V.int p.2) :: keptV r) (Sum.inl a : Key) = _
    rw [List.lookup_cons]
    by_cases e : p.1 = a
    · rw [valV_pos (by rw [e]), e, beq_self_eq_true]
      rfl
    · rw [valV_neg (fun z => e (Sum.inl.inj z)), ih, show (a == p.1) = false from beq_eq_false_iff_ne.mpr fun z => e z.symm]
theorem put_there {ks : List (Int × Int)} {a b : Int} (h : (ks.lookup a).isSome = true) : putK (keptV ks) (Sum.inl a : Key) (.int b) = keptV (ks.map fun p => if p.1 = a then (p.1, b) else p) := by
  unfold putK
  rw [if_pos (by rw [valV_any, val_kept, Option.isSome_map]; exact h)]
  unfold keptV
  rw [List.map_map, List.map_map]
  refine List.map_congr_left fun p _ => ?_
  show (if (Sum.inl p.1 : Key) = Sum.inl a then ((Sum.inl p.1 : Key), V.int b) else (Sum.inl p.1, V.int p.2)) = ((Sum.inl (if p.1 = a then (p.1, b) else p).1 : Key), V.int (if p.1 = a then (p.1, b) else p).2)
  by_cases e : p.1 = a
  · rw [if_pos e, if_pos (by rw [e])]
  · rw [if_neg e, if_neg (fun z => e (Sum.inl.inj z))]
theorem put_new {ks : List (Int × Int)} {a b : Int} (h : ks.lookup a = none) : putK (keptV ks) (Sum.inl a : Key) (.int b) = keptV (ks ++ [(a, b)]) := by
  unfold putK
  rw [if_neg (by rw [valV_any, val_kept, h]; exact Bool.false_ne_true)]
  unfold keptV
  rw [List.map_append]
  rfl
theorem drop_kept {ks : List (Int × Int)} {a : Int} : dropK (keptV ks) (Sum.inl a : Key) = keptV (ks.filter fun p => decide (p.1 ≠ a)) := by
  unfold dropK keptV
  rw [List.filter_map]
  refine congrArg _ (List.filter_congr fun p _ => ?_)
  exact decide_eq_decide.mpr ⟨fun h e => h (congrArg Sum.inl e), fun h e => h (Sum.inl.inj e)⟩
section
variable {K : PySem.W.Frag} {C dx : PySem.Addr} {kd : Bool} {a b : PySem.Addr} {H : Hp} {P : V → Prop} {m : PySem.Addr}
theorem q_fldK (hC : Cls K C) (hn : NoAttr K C "kept") (e : H m = some (.ins C dx (fsM true a b))) (h : P (.ref b)) : ∃ a' C' dx' fs v, V.ref m = .ref a' ∧ H a' = some (.ins C' dx' fs) ∧ Cls K C' ∧ NoAttr K C' "kept" ∧ fs.lookup ("kept" : Str) = some v ∧ P v :=
  ⟨_, _, _, _, _, rfl, e, hC, hn, rfl, h⟩
end
end MM
namespace MM
theorem lookup_nodup {ks : List (Int × Int)} (h : (ks.map (·.1)).Nodup) {p : Int × Int} (hp : p ∈ ks) : ks.lookup p.1 = some p.2 := by
  induction ks with
  | nil => cases hp
  | cons q r ih =>
    rw [List.map_cons, List.nodup_cons] at h
    rw [List.lookup_cons]
    rcases List.mem_cons.mp hp with e | e
    · rw [e, beq_self_eq_true]
    · have : (p.1 == q.1) = false := beq_eq_false_iff_ne.mpr fun z => h.1 (by rw [← z]; exact List.mem_map.mpr ⟨p, e, rfl⟩)
      rw [this]
      exact ih h.2 e
end MM
namespace MM
open PySem PySem.Spec PyProof.Rows L2
section
variable {σ : L2.St} {H : Hp} {ta tb tc : TE} {Q : VK}
theorem r_din (h : ta σ H fun y H1 => tb σ H1 fun x H2 => ∃ a o, x = .ref a ∧ DGet H2 a y o ∧ Q (.bl o.isSome) H2) : tDIn ta tb σ H Q := h
theorem r_dnotin (h : ta σ H fun y H1 => tb σ H1 fun x H2 => ∃ a o, x = .ref a ∧ DGet H2 a y o ∧ Q (.bl (!o.isSome)) H2) : tDNotIn ta tb σ H Q := h
theorem r_dget2 (h : ta σ H fun x H1 => ∃ a, x = .ref a ∧ IsD H1 a ∧ tb σ H1 fun y H2 => tc σ H2 fun z H3 => ∃ o, DGet H3 a y o ∧ Q (o.getD z) H3) : tDGet2 ta tb tc σ H Q := h
theorem r_dpop1 (h : ta σ H fun x H1 => ∃ a, x = .ref a ∧ IsD H1 a ∧ tb σ H1 fun y H2 => ∃ kvs k v, H2 a = some (.dK kvs) ∧ y = kV k ∧ valV kvs k = some v ∧ Q v (upd H2 a (.dK (dropK kvs k)))) : tDPop1 ta tb σ H Q := h
end
end MM
namespace MM
open PySem PySem.Spec PyProof.Rows L2
section
variable {td : TE} {tb : TS} {σ : L2.St} {H : Hp} {nx bk ct : L2.St → Hp → Prop} {rt : V → Hp → Prop} {j : Nat}
/-- the loop's own part of a for's reading -/
def FW (J : It) (g : TG) (tb : TS) (nx : L2.St → Hp → Prop) (rt : V → Hp → Prop) (σ : L2.St) (H1 : Hp) : Prop := ∃ W : Nat → Nat → L2.St → Hp → Prop, (∃ m, W 0 m σ H1) ∧ ∀ i m σ H, W i m σ H →
      (J.stop i H ∧ nx σ H) ∨ (J.go i H ∧ ∃ N : L2.St → Hp → Prop, (∀ σ' H', N σ' H' → ∃ m', m' < m ∧ W (i + 1) m' σ' H') ∧ ∀ x H', J.yld i H x H' → g x σ H' fun σ2 H2 => tb ⟨N, rt, nx, N⟩ σ2 H2)
theorem r_keys {g : TG} (h : td σ H fun x H1 => ∃ d o, x = .ref d ∧ ((∃ kvs, H1 d = some (.frz o (.dK kvs)) ∧ FW (Itk d o kvs) g tb nx rt σ H1) ∨ ∃ kvs, H1 d = some (.frz o (.dT kvs)) ∧ FW (Itkt d o kvs) g tb nx rt σ H1)) : tFor (iKeys td) g tb ⟨nx, rt, bk, ct⟩ σ H := h
theorem for_keys {d : PySem.Addr} {o : Obj} {kvs : List (Key × V)} (Pv : Nat → L2.St → Hp → Prop) (h0 : Pv 0 σ H) (hG : ∀ i σ H, Pv i σ H → H d = some (.frz o (.dK kvs)))
    (hs : ∀ i k v σ H, kvs[i]? = some (k, v) → Pv i σ H → tb ⟨Pv (i + 1), rt, nx, Pv (i + 1)⟩ (σ.set j (some (kV k))) H) (hd : ∀ σ H, Pv kvs.length σ H → nx σ H) :
    FW (Itk d o kvs) (gName j) tb nx rt σ H := by
  refine for_it (D := ⟨nx, rt, fun _ _ => False, fun _ _ => False⟩) walk_keys Pv h0 (fun i σ H _ p => hG i σ H p) (fun i x σ H H' hi p y => ?_) hd
  obtain ⟨rfl, k, v, e, rfl⟩ := y
  exact hs i k v σ _ e p
end
end MM
end
section
/-! comprehensions by a walk; the machine's data for comparisons -/
namespace MM
open PySem PySem.Spec PyProof.Rows L2
/-- the loop's own part of a comprehension's reading -/
def LW (J : It) (g : TG) (tt : TT) (te : TE) (vs : List Nat) (σ : L2.St) (Q : VK) (H1 : Hp) : Prop := ∀ D, H1 D = none → ∃ W : Nat → Nat → Hp → Prop, (∃ m, W 0 m (upd H1 D (.lst []))) ∧ ∀ i m H, W i m H →
  (J.stop i H ∧ Q (.ref D) H) ∨ (J.go i H ∧ ∃ Nx : Hp → Prop, (∀ H', Nx H' → ∃ m', m' < m ∧ W (i + 1) m' H') ∧ ∀ x H', J.yld i H x H' → g x (wipe σ vs) H' fun σ2 H2 => wipe σ2 vs = wipe σ vs ∧ tt σ2 H2 fun b H3 =>
    if b = true then te σ2 H3 fun y H4 => ∃ acc, H4 D = some (.lst acc) ∧ acc.length < sizeLine ∧ Nx (upd H4 D (.lst (acc ++ [y]))) else Nx H3)
section
variable {g : TG} {tt : TT} {te tl : TE} {vs : List Nat} {σ : L2.St} {Q : VK} {H H1 : Hp} {K : PySem.W.Frag} {tr : TA}
theorem lc_go {J : It} {n : Nat} {G : Hp → Prop} {Y : Nat → Hp → V → Hp → Prop} (wk : Walk J n G Y) (Pv : PySem.Addr → Nat → Hp → Prop) (h0 : ∀ D, H1 D = none → Pv D 0 (upd H1 D (.lst [])))
    (hG : ∀ D i H, H1 D = none → Pv D i H → G H)
    (hs : ∀ D i x H H', H1 D = none → i < n → Pv D i H → Y i H x H' → g x (wipe σ vs) H' fun σ2 H2 => wipe σ2 vs = wipe σ vs ∧ tt σ2 H2 fun b H3 =>
      if b = true then te σ2 H3 fun y H4 => ∃ acc, H4 D = some (.lst acc) ∧ acc.length < sizeLine ∧ Pv D (i + 1) (upd H4 D (.lst (acc ++ [y]))) else Pv D (i + 1) H3)
    (hd : ∀ D H, H1 D = none → Pv D n H → Q (.ref D) H) : LW J g tt te vs σ Q H1 := fun D hD =>
  lc_it wk (Pv D) (h0 D hD) (fun i H _ p => hG D i H hD p) (fun i x H H' hi p y => hs D i x H H' hD hi p y) (fun H p => hd D H hD p)
theorem r_lcL (h : tl σ H fun x H1 => ∃ a, x = .ref a ∧ (∃ xs, SqL K H1 a xs) ∧ LW (Itl K a) g tt te vs σ Q H1) : tLc (iList K tl) g tt te vs σ H Q := h
theorem r_lcT (h : tl σ H fun x H1 => ∃ a, x = .ref a ∧ (∃ xs, SqT K H1 a xs) ∧ LW (Itt K a) g tt te vs σ Q H1) : tLc (iTup K tl) g tt te vs σ H Q := h
theorem r_lcZ (h : tr σ H fun vs' H1 => ∃ a b xs ys, vs' = [.ref a, .ref b] ∧ SqL K H1 a xs ∧ SqL K H1 b ys ∧ LW (Itz K a b) g tt te vs σ Q H1) : tLc (iZip K tr) g tt te vs σ H Q := h
theorem r_lcR1 (h : tr σ H fun vs' H1 => ∃ n : Int, vs' = [.int n] ∧ -(2 ^ 62) ≤ n ∧ n < 2 ^ 62 ∧ LW (Itr 0 n.toNat) g tt te vs σ Q H1) : tLc (iRng1 tr) g tt te vs σ H Q := h
end
/-- what a state looks like -/
def imgD (m : Mm) : PyData := .tuple (m.img.map PyData.int)
def thD (t : Th) : PyData := .tuple [.int (t.pid : Int), .int t.pc, .tuple (t.regs.map PyData.int), condD t.cond]
def rqD (q : Nat × Int × Int) : PyData := .tuple [.int (q.1 : Int), .int q.2.1, .int q.2.2]
def stD (S : MS) : PyData := .tuple [.tuple (S.mem.map imgD), .tuple (S.ths.map thD), .tuple (S.ready.map fun i : Nat => PyData.int (i : Int)), .tuple ((S.times.zip S.run).map fun p => .tuple [.int p.1, .int p.2]), .tuple [.int S.dev, .tuple (S.reqs.map rqD)]]
def vwD (w : Vw) : PyData := .tuple [.tuple [.str w.kind, .int w.cpu, .int w.time, .int w.pid, .int w.tid, .int w.at', .tuple (w.args.map PyData.int)], .tuple (w.regs.map PyData.int), .tuple (w.mem.map PyData.int)]
theorem sh_img (m : Mm) : D.Sh 1 (imgD m) := .tup D.Sh.ints
theorem sh_th (t : Th) : D.Sh 2 (thD t) := .tup (.cons (.int _) (.cons (.int _) (.cons (.tup D.Sh.ints) (.cons (sh_cond _) .nil))))
theorem sh_st (S : MS) : D.Sh 4 (stD S) := by
  refine .tup (.cons (.tup fun y hy => ?_) (.cons (.tup fun y hy => ?_) (.cons (.tup fun y hy => ?_) (.cons (.tup fun y hy => ?_) (.cons (.tup (.cons (.int _) (.cons (.tup fun y hy => ?_) .nil))) .nil)))))
  · obtain ⟨m, _, e⟩ := List.mem_map.mp hy
    rw [← e]; exact (sh_img m).mono (by decide)
  · obtain ⟨m, _, e⟩ := List.mem_map.mp hy
    rw [← e]; exact sh_th m
  · obtain ⟨m, _, e⟩ := List.mem_map.mp hy
    rw [← e]; exact .int _
  · obtain ⟨m, _, e⟩ := List.mem_map.mp hy
    rw [← e]; exact (D.Sh.tup (.cons (.int _) (.cons (.int _) .nil)) : D.Sh (1 + 1) _)
  · obtain ⟨m, _, e⟩ := List.mem_map.mp hy
    rw [← e]; exact (D.Sh.tup (.cons (.int _) (.cons (.int _) (.cons (.int _) .nil))) : D.Sh (0 + 1) _)
theorem sh_vw {w : Vw} (h : PyData.strOk w.kind = true) : D.Sh 3 (vwD w) :=
  .tup (.cons (.tup (.cons (.str h) (.cons (.int _) (.cons (.int _) (.cons (.int _) (.cons (.int _) (.cons (.int _) (.cons (.tup D.Sh.ints) .nil)))))))) (.cons ((D.Sh.tup D.Sh.ints : D.Sh (1 + 1) _)) (.cons ((D.Sh.tup D.Sh.ints : D.Sh (1 + 1) _)) .nil)))
theorem dp_vw {K : PySem.W.Frag} {H : Hp} {a : PySem.Addr} {w : Vw} (h : VwAt H a w) : Dp K H (.ref a) (vwD w) := by
  obtain ⟨e, r, m, g, h1, h2, h3, h4, h5⟩ := h
  exact .tup (R.sqT h1) (.cons (.tup (R.sqT h2) (.cons (.str _) (.cons (.int _) (.cons (.int _) (.cons (.int _) (.cons (.int _) (.cons (.int _) (.cons (.tup (R.sqT h3) D.all_ints) .nil)))))))) (.cons (.tup (R.sqT h4) D.all_ints) (.cons (.tup (R.sqT h5) D.all_ints) .nil)))
theorem dp_all2 {K : PySem.W.Frag} {H : Hp} {α : Type} {R : PySem.Addr → α → Prop} {f : α → PyData} (h : ∀ a x, R a x → Dp K H (.ref a) (f x)) {as : List PySem.Addr} {xs : List α} (r : All2 R as xs) : DpAll K H (as.map V.ref) (xs.map f) := by
  induction r with
  | nil => exact .nil
  | cons r _ ih => exact .cons (h _ _ r) ih
theorem inj_int {l l' : List Int} : l.map PyData.int = l'.map PyData.int ↔ l = l' := ⟨fun h => List.map_inj_right (fun _ _ e => PyData.int.inj e) |>.mp h, fun h => by rw [h]⟩
theorem inj_vw {a b : Vw} : vwD a = vwD b ↔ a = b := by
  constructor
  · intro h
    obtain ⟨a1, a2, a3, a4, a5, a6, a7, a8, a9⟩ := a
    obtain ⟨b1, b2, b3, b4, b5, b6, b7, b8, b9⟩ := b
    simp only [vwD, PyData.tuple.injEq, List.cons.injEq, PyData.str.injEq, PyData.int.injEq, inj_int, and_true] at h
    obtain ⟨⟨rfl, rfl, rfl, rfl, rfl, rfl, rfl⟩, rfl, rfl⟩ := h
    rfl
  · intro h; rw [h]
theorem inj_vws {l l' : List Vw} : PyData.list (l.map vwD) = .list (l'.map vwD) ↔ l = l' :=
  ⟨fun h => List.map_inj_right (fun _ _ e => inj_vw.mp e) |>.mp (PyData.list.inj h), fun h => by rw [h]⟩
/-- a stop -/
def Mm.setStop (m : Mm) (a : Int) : Mm := if (m.kept.lookup a).isSome then m else { cells := m.cells.set a.toNat 255, kept := m.kept ++ [(a, m.cells.getD a.toNat 0)] }
def Mm.clearStop (m : Mm) (a : Int) : Mm := match m.kept.lookup a with
  | some b => { cells := m.cells.set a.toNat b, kept := m.kept.filter fun p => decide (p.1 ≠ a) }
  | none => m
theorem setMm_2 {S : MS} {i : Nat} {m m' : Mm} : (S.setMm i m).setMm i m' = S.setMm i m' := by
  unfold MS.setMm
  show ({ S with mem := (S.mem.set i m).set i m' } : MS) = _
  rw [List.set_set]
theorem setMm_get {S : MS} {i : Nat} {m : Mm} (h : i < S.mem.length) : (S.setMm i m).mem[i]? = some m := List.getElem?_set_self h
theorem setMm_len {S : MS} {i : Nat} {m : Mm} : (S.setMm i m).mem.length = S.mem.length := List.length_set
theorem setMm_me {S : MS} {i : Nat} (h : i < S.mem.length) : S.setMm i (S.mm i) = S := by
  have e : S.mem.set i (S.mm i) = S.mem := by
    refine List.ext_getElem? fun j => ?_
    by_cases z : i = j
    · subst z
      rw [List.getElem?_set_self h, mm_get h]
    · rw [List.getElem?_set_ne z]
  unfold MS.setMm
  rw [e]
end MM
namespace MM
open PySem PySem.Spec PyProof.Rows L2
def ImAt (H : Hp) (a : PySem.Addr) (m : Mm) : Prop := H a = some (.tup (m.img.map V.int))
def ThAt (H : Hp) (a : PySem.Addr) (t : Th) : Prop := ∃ r c, H a = some (.tup [.int (t.pid : Int), .int t.pc, .ref r, .ref c]) ∧ H r = some (.tup (t.regs.map V.int)) ∧ H c = some (.tup (condV t.cond))
def PrAt (H : Hp) (a : PySem.Addr) (p : Int × Int) : Prop := H a = some (.tup [.int p.1, .int p.2])
theorem ThAt.same {H H' : Hp} (s : Same H H') {a : PySem.Addr} {t : Th} (h : ThAt H a t) : ThAt H' a t := by
  obtain ⟨r, c, h1, h2, h3⟩ := h
  exact ⟨r, c, s _ _ h1, s _ _ h2, s _ _ h3⟩
theorem dp_im {K : PySem.W.Frag} {H : Hp} {a : PySem.Addr} {m : Mm} (h : ImAt H a m) : Dp K H (.ref a) (imgD m) := .tup (R.sqT h) D.all_ints
theorem dp_th {K : PySem.W.Frag} {H : Hp} {a : PySem.Addr} {t : Th} (h : ThAt H a t) : Dp K H (.ref a) (thD t) := by
  obtain ⟨r, c, h1, h2, h3⟩ := h
  exact .tup (R.sqT h1) (.cons (.int _) (.cons (.int _) (.cons (.tup (R.sqT h2) D.all_ints) (.cons (dp_cond h3) .nil))))
theorem dp_pr {K : PySem.W.Frag} {H : Hp} {a : PySem.Addr} {t : Int × Int} (h : PrAt H a t) : Dp K H (.ref a) (.tuple [.int t.1, .int t.2]) := .tup (R.sqT h) (.cons (.int _) (.cons (.int _) .nil))
theorem dp_rq {K : PySem.W.Frag} {H : Hp} {a : PySem.Addr} {q : Nat × Int × Int} (h : RqAt H a q) : Dp K H (.ref a) (rqD q) := .tup (R.sqT h) (.cons (.int _) (.cons (.int _) (.cons (.int _) .nil)))
theorem take_snoc {α : Type} {l : List α} {i : Nat} {x : α} (h : l[i]? = some x) : l.take (i + 1) = l.take i ++ [x] := by rw [List.take_succ, h]; rfl
theorem ThAt.keep {H H' : Hp} {a : PySem.Addr} {t : Th} (h : ThAt H a t) (s : KeepT H H') : ThAt H' a t := by
  obtain ⟨r, c, h1, h2, h3⟩ := h
  exact ⟨r, c, s _ _ h1, s _ _ h2, s _ _ h3⟩
theorem getD_some {l : List Int} {j : Nat} (h : j < l.length) : l[j]? = some (l.getD j 0) := by
  rw [List.getD_eq_getElem?_getD, List.getElem?_eq_getElem h]
  rfl
def spThImage (c : Cl) : Sp := fun vs H Q _ => ∃ ad S k i, vs = [.ref (ad (.thr i))] ∧ Ok c ad S H k ∧ i < S.ths.length ∧ ∀ p H', Same H H' → ThAt H' p (S.th i) → Q (.ref p) H'
def spState (K : PySem.W.Frag) (c : Cl) : Sp := fun vs H Q _ => ∃ ad S k, vs = [.ref (ad .brd)] ∧ Ok c ad S H k ∧
  ∀ p pm ims rest H', Same H H' → H' p = some (.tup (.ref pm :: rest)) → H' pm = some (.tup (ims.map V.ref)) → All2 (ImAt H') ims S.mem → Dp K H' (.ref p) (stD S) → Q (.ref p) H'
end MM
end
section
/-! the machine at its beginning -/
namespace MM
open PySem PySem.Spec PyProof.Rows L2
def fill (p : List Int) : List Int := p ++ List.replicate (256 - p.length) 0
/-- all these stand, all at different places -/
structure Occ (H : Hp) (L : List PySem.Addr) : Prop where
  nd : L.Nodup
  oc : ∀ a ∈ L, ∃ o, H a = some o
theorem Occ.add {H H' : Hp} {L : List PySem.Addr} {p : PySem.Addr} (h : Occ H L) (hp : H p = none) (k : ∀ b o, H b = some o → ∃ o', H' b = some o') (hq : ∃ o, H' p = some o) : Occ H' (p :: L) :=
  ⟨List.nodup_cons.mpr ⟨fun hm => (by obtain ⟨o, e⟩ := h.oc p hm; rw [hp] at e; cases e), h.nd⟩, fun a ha => by
    rcases List.mem_cons.mp ha with e | e
    · rw [e]; exact hq
    · obtain ⟨o, z⟩ := h.oc a e
      exact k a o z⟩
theorem Occ.mono {H H' : Hp} {L : List PySem.Addr} (h : Occ H L) (k : ∀ b o, H b = some o → ∃ o', H' b = some o') : Occ H' L := ⟨h.nd, fun a ha => by obtain ⟨o, z⟩ := h.oc a ha; exact k a o z⟩
theorem Occ.perm {H : Hp} {L L' : List PySem.Addr} (h : Occ H L) (p : L.Perm L') : Occ H L' := ⟨p.nodup_iff.mp h.nd, fun a ha => h.oc a (p.mem_iff.mpr ha)⟩
theorem there_same {H H' : Hp} (s : Same H H') : ∀ b o, H b = some o → ∃ o', H' b = some o' := fun b o e => ⟨o, s b o e⟩
theorem there_upd {H : Hp} {p : PySem.Addr} {o : HO} : ∀ b u, H b = some u → ∃ o', upd H p o b = some o' := fun b u e => by
  by_cases z : b = p
  · exact ⟨o, by rw [z, upd_same]⟩
  · exact ⟨u, by rw [upd_ne z]; exact e⟩
theorem there_mv {H H' : Hp} {x : PySem.Addr} (m : R.Mv x H H') (hx : ∃ o, H' x = some o) : ∀ b o, H b = some o → ∃ o', H' b = some o' := fun b o e => by
  by_cases z : b = x
  · rw [z]; exact hx
  · exact ⟨o, m b o e z⟩
def adOf (b mL tL rL tiL ruL rqL vL : PySem.Addr) (ts rs ms cs ks : List PySem.Addr) : Tg → PySem.Addr
  | .brd => b
  | .memL => mL
  | .thsL => tL
  | .rdyL => rL
  | .timL => tiL
  | .runL => ruL
  | .reqL => rqL
  | .vwsL => vL
  | .thr i => ts.getD i b
  | .rgs i => rs.getD i b
  | .mem i => ms.getD i b
  | .cls i => cs.getD i b
  | .kpt i => ks.getD i b
def idx (nt nm : Nat) : Tg → Nat
  | .brd => 0
  | .memL => 1
  | .thsL => 2
  | .rdyL => 3
  | .timL => 4
  | .runL => 5
  | .reqL => 6
  | .vwsL => 7
  | .thr i => 8 + i
  | .rgs i => 8 + nt + i
  | .mem i => 8 + nt + nt + i
  | .cls i => 8 + nt + nt + nm + i
  | .kpt i => 8 + nt + nt + nm + nm + i
theorem idx_inj {kd : Bool} {nt nm : Nat} {t u : Tg} (d : dom kd nt nm t) (d' : dom kd nt nm u) (h : idx nt nm t = idx nt nm u) : t = u := by
  cases t <;> cases u <;> simp only [idx, dom] at h d d' <;> first | rfl | (exfalso; omega) | (congr 1; omega)
theorem get_r {α : Type} {a b : List α} {i n : Nat} {x : α} (hn : a.length = n) (h : b[i]? = some x) : (a ++ b)[n + i]? = some x := by
  rw [List.getElem?_append_right (by omega), show n + i - a.length = i by omega]; exact h
theorem get_l {α : Type} {a b : List α} {i : Nat} {x : α} (h : a[i]? = some x) : (a ++ b)[i]? = some x := by
  rw [List.getElem?_append_left (List.getElem?_eq_some_iff.mp h).1]; exact h
theorem getD_at {l : List PySem.Addr} {i : Nat} {b : PySem.Addr} (h : i < l.length) : l[i]? = some (l.getD i b) := by
  rw [List.getD_eq_getElem?_getD, List.getElem?_eq_getElem h]; rfl
theorem idx_at {b mL tL rL tiL ruL rqL vL : PySem.Addr} {ts rs ms cs ks : List PySem.Addr} {kd : Bool} (h1 : rs.length = ts.length) (h2 : cs.length = ms.length) (h3 : kd = true → ks.length = ms.length) {t : Tg} (d : dom kd ts.length ms.length t) :
    ([b, mL, tL, rL, tiL, ruL, rqL, vL] ++ ts ++ rs ++ ms ++ cs ++ ks)[idx ts.length ms.length t]? = some (adOf b mL tL rL tiL ruL rqL vL ts rs ms cs ks t) := by
  have l1 : ([b, mL, tL, rL, tiL, ruL, rqL, vL] ++ ts).length = 8 + ts.length := by rw [List.length_append]; rfl
  have l2 : ([b, mL, tL, rL, tiL, ruL, rqL, vL] ++ ts ++ rs).length = 8 + ts.length + ts.length := by rw [List.length_append, l1, h1]
  have l3 : ([b, mL, tL, rL, tiL, ruL, rqL, vL] ++ ts ++ rs ++ ms).length = 8 + ts.length + ts.length + ms.length := by rw [List.length_append, l2]
  have l4 : ([b, mL, tL, rL, tiL, ruL, rqL, vL] ++ ts ++ rs ++ ms ++ cs).length = 8 + ts.length + ts.length + ms.length + ms.length := by rw [List.length_append, l3, h2]
  cases t with
  | thr i => exact get_l (get_l (get_l (get_l (get_r rfl (getD_at d)))))
  | rgs i => exact get_l (get_l (get_l (get_r l1 (getD_at (by rw [h1]; exact d)))))
  | mem i => exact get_l (get_l (get_r l2 (getD_at d)))
  | cls i => exact get_l (get_r l3 (getD_at (by rw [h2]; exact d)))
  | kpt i => exact get_r l4 (getD_at (by rw [h3 d.1]; exact d.2))
  | _ => exact get_l (get_l (get_l (get_l (get_l rfl))))
theorem ad_inj {H : Hp} {b mL tL rL tiL ruL rqL vL : PySem.Addr} {ts rs ms cs ks : List PySem.Addr} {kd : Bool} (h1 : rs.length = ts.length) (h2 : cs.length = ms.length) (h3 : kd = true → ks.length = ms.length)
    (o : Occ H ([b, mL, tL, rL, tiL, ruL, rqL, vL] ++ ts ++ rs ++ ms ++ cs ++ ks)) : ∀ t u, dom kd ts.length ms.length t → dom kd ts.length ms.length u →
    adOf b mL tL rL tiL ruL rqL vL ts rs ms cs ks t = adOf b mL tL rL tiL ruL rqL vL ts rs ms cs ks u → t = u := fun t u d d' e => by
  have e1 := idx_at (b := b) (mL := mL) (tL := tL) (rL := rL) (tiL := tiL) (ruL := ruL) (rqL := rqL) (vL := vL) h1 h2 h3 d
  have e2 := idx_at (b := b) (mL := mL) (tL := tL) (rL := rL) (tiL := tiL) (ruL := ruL) (rqL := rqL) (vL := vL) h1 h2 h3 d'
  rw [← e] at e2
  have q := (List.getElem?_inj (List.getElem?_eq_some_iff.mp e1).1 o.nd).mp (e1.trans e2.symm)
  exact idx_inj d d' q
theorem ad_out {b mL tL rL tiL ruL rqL vL : PySem.Addr} {ts rs ms cs ks : List PySem.Addr} {kd : Bool} (h1 : rs.length = ts.length) (h2 : cs.length = ms.length) (h3 : kd = true → ks.length = ms.length) (h4 : kd = false → ks = []) (t : Tg) (d : ¬ dom kd ts.length ms.length t) :
    adOf b mL tL rL tiL ruL rqL vL ts rs ms cs ks t = b := by
  have o : ∀ (l : List PySem.Addr) (i : Nat), ¬ i < l.length → l.getD i b = b := fun l i h => by
    rw [List.getD_eq_getElem?_getD, List.getElem?_eq_none (by omega)]; rfl
  cases t with
  | thr i => exact o _ _ d
  | rgs i => exact o _ _ (by rw [h1]; exact d)
  | mem i => exact o _ _ d
  | cls i => exact o _ _ (by rw [h2]; exact d)
  | kpt i =>
    cases kd with
    | false => show ks.getD i b = b; rw [h4 rfl]; rfl
    | true => exact o _ _ (by rw [h3 rfl]; exact fun z => d ⟨rfl, z⟩)
  | _ => exact absurd trivial d
theorem ad_in {b mL tL rL tiL ruL rqL vL : PySem.Addr} {ts rs ms cs ks : List PySem.Addr} (t : Tg) : adOf b mL tL rL tiL ruL rqL vL ts rs ms cs ks t ∈ ([b, mL, tL, rL, tiL, ruL, rqL, vL] ++ ts ++ rs ++ ms ++ cs ++ ks) := by
  have o : ∀ (l : List PySem.Addr) (i : Nat), l.getD i b ∈ l ∨ l.getD i b = b := fun l i => by
    rw [List.getD_eq_getElem?_getD]
    cases e : l[i]? with
    | none => exact .inr rfl
    | some x => exact .inl (List.mem_of_getElem? e)
  cases t with
  | thr i =>
    have h := o ts i
    show ts.getD i b ∈ _
    generalize ts.getD i b = z at h ⊢
    rcases h with h | h <;> simp [h]
  | rgs i =>
    have h := o rs i
    show rs.getD i b ∈ _
    generalize rs.getD i b = z at h ⊢
    rcases h with h | h <;> simp [h]
  | mem i =>
    have h := o ms i
    show ms.getD i b ∈ _
    generalize ms.getD i b = z at h ⊢
    rcases h with h | h <;> simp [h]
  | cls i =>
    have h := o cs i
    show cs.getD i b ∈ _
    generalize cs.getD i b = z at h ⊢
    rcases h with h | h <;> simp [h]
  | kpt i =>
    have h := o ks i
    show ks.getD i b ∈ _
    generalize ks.getD i b = z at h ⊢
    rcases h with h | h <;> simp [h]
  | _ => simp [adOf]
theorem refs_getD (b : PySem.Addr) (l : List PySem.Addr) : l.map V.ref = (List.range l.length).map fun i => V.ref (l.getD i b) := by
  refine List.ext_getElem? fun i => ?_
  rw [List.getElem?_map, List.getElem?_map]
  by_cases hi : i < l.length
  · rw [List.getElem?_range hi, getD_at (b := b) hi]; rfl
  · rw [List.getElem?_eq_none (by omega), List.getElem?_eq_none (by rw [List.length_range]; omega)]; rfl
/-- a thread, a memory as they stand when they are new -/
structure TR where
  x : PySem.Addr
  dx : PySem.Addr
  rg : PySem.Addr
  cv : PySem.Addr
structure MR where
  x : PySem.Addr
  dx : PySem.Addr
  cl : PySem.Addr
  kp : PySem.Addr
def th0 (i : Nat) : Th := ⟨i, 0, [0, 0, 0, 0], .ready, 0, 0⟩
def TrOk (CT : PySem.Addr) (H : Hp) (i : Nat) (r : TR) : Prop := H r.x = some (.ins CT r.dx (fsT r.rg r.cv (th0 i))) ∧ H r.rg = some (.lst (([0, 0, 0, 0] : List Int).map V.int)) ∧ H r.cv = some (.tup (condV .ready))
def MrOk (kd : Bool) (CM : PySem.Addr) (H : Hp) (p : List Int) (r : MR) : Prop := H r.x = some (.ins CM r.dx (fsM kd r.cl r.kp)) ∧ H r.cl = some (.lst ((fill p).map V.int)) ∧ (kd = true → H r.kp = some (.dK []))
theorem TrOk.same {CT : PySem.Addr} {H H' : Hp} {i : Nat} {r : TR} (s : Same H H') (h : TrOk CT H i r) : TrOk CT H' i r := ⟨s _ _ h.1, s _ _ h.2.1, s _ _ h.2.2⟩
theorem MrOk.same {kd : Bool} {CM : PySem.Addr} {H H' : Hp} {p : List Int} {r : MR} (s : Same H H') (h : MrOk kd CM H p r) : MrOk kd CM H' p r := ⟨s _ _ h.1, s _ _ h.2.1, fun k => s _ _ (h.2.2 k)⟩
def S0 (progs : List (List Int)) (rates : List Int) : MS where
  mem := progs.map fun p => ⟨fill p, []⟩
  rates := rates
  ths := (List.range progs.length).map th0
  ready := List.range progs.length
  times := List.replicate rates.length 0
  run := List.replicate rates.length (-1)
  dev := 0
  reqs := []
  cpu := 0
  views := []
theorem bd_start {c : Cl} {H : Hp} {dB rt b mL tL rL tiL ruL rqL vL : PySem.Addr} {trs : List TR} {mrs : List MR} {progs : List (List Int)} {rates : List Int}
    (ht : trs.length = progs.length) (hT : ∀ i r, trs[i]? = some r → TrOk c.CT H i r) (hM : All2 (MrOk c.kd c.CM H) progs mrs)
    (eb : H b = some (.ins c.CB dB (fsB (adOf b mL tL rL tiL ruL rqL vL (trs.map (·.x)) (trs.map (·.rg)) (mrs.map (·.x)) (mrs.map (·.cl)) (if c.kd then mrs.map (·.kp) else [])) rt 0 0)))
    (ert : H rt = some (.tup (rates.map V.int))) (emL : H mL = some (.lst ((mrs.map (·.x)).map V.ref))) (etL : H tL = some (.lst ((trs.map (·.x)).map V.ref))) (erL : H rL = some (.lst ((List.range progs.length).map fun i : Nat => V.int (i : Int))))
    (eti : H tiL = some (.lst ((List.replicate rates.length (0 : Int)).map V.int))) (eru : H ruL = some (.lst ((List.replicate rates.length (-1 : Int)).map V.int))) (erq : H rqL = some (.lst [])) (evL : H vL = some (.lst []))
    (oc : Occ H ([b, mL, tL, rL, tiL, ruL, rqL, vL] ++ trs.map (·.x) ++ trs.map (·.rg) ++ mrs.map (·.x) ++ mrs.map (·.cl) ++ (if c.kd then mrs.map (·.kp) else []))) :
    Bd c (adOf b mL tL rL tiL ruL rqL vL (trs.map (·.x)) (trs.map (·.rg)) (mrs.map (·.x)) (mrs.map (·.cl)) (if c.kd then mrs.map (·.kp) else [])) (S0 progs rates) H := by
  have hm := hM.length
  have l1 : (trs.map (·.rg)).length = (trs.map (·.x)).length := by rw [List.length_map, List.length_map]
  have l2 : (mrs.map (·.cl)).length = (mrs.map (·.x)).length := by rw [List.length_map, List.length_map]
  have l3 : c.kd = true → (if c.kd then mrs.map (·.kp) else []).length = (mrs.map (·.x)).length := fun h => by rw [if_pos h, List.length_map, List.length_map]
  have l4 : c.kd = false → (if c.kd then mrs.map (·.kp) else []) = [] := fun h => by rw [h]; rfl
  have n1 : (trs.map (·.x)).length = (S0 progs rates).ths.length := by show _ = ((List.range progs.length).map th0).length; rw [List.length_map, List.length_map, List.length_range, ht]
  have n2 : (mrs.map (·.x)).length = (S0 progs rates).mem.length := by show _ = (progs.map _).length; rw [List.length_map, List.length_map, hm]
  have inj := ad_inj l1 l2 l3 oc
  have od := ad_out (b := b) (mL := mL) (tL := tL) (rL := rL) (tiL := tiL) (ruL := ruL) (rqL := rqL) (vL := vL) l1 l2 l3 l4
  rw [n1, n2] at inj od
  refine ⟨⟨⟨dB, fun i => (trs.map (·.dx)).getD i 0, fun i => (mrs.map (·.dx)).getD i 0, fun i => (trs.map (·.cv)).getD i 0, [], [], rt⟩, ?_, ?_, .nil, .nil, ert⟩, inj, od⟩
  · have getm : ∀ {α : Type} {l : List α} {f : α → PySem.Addr} {i : Nat} {r : α} {d : PySem.Addr}, l[i]? = some r → (l.map f).getD i d = f r := fun {α l f i r d} h => by
      rw [List.getD_eq_getElem?_getD, List.getElem?_map, h]; rfl
    have gt : ∀ (i : Nat) (t : Th), (S0 progs rates).ths[i]? = some t → ∃ r, trs[i]? = some r ∧ t = th0 i := fun i t h => by
      have h : ((List.range progs.length).map th0)[i]? = some t := h
      have hi : i < progs.length := by have := (List.getElem?_eq_some_iff.mp h).1; rwa [List.length_map, List.length_range] at this
      rw [List.getElem?_map, List.getElem?_range hi] at h
      exact ⟨trs[i], List.getElem?_eq_getElem (by omega), (Option.some.inj h).symm⟩
    have gm : ∀ (i : Nat) (m : Mm), (S0 progs rates).mem[i]? = some m → ∃ r p, mrs[i]? = some r ∧ m = (⟨fill p, []⟩ : Mm) ∧ MrOk c.kd c.CM H p r := fun i m h => by
      have h : (progs.map fun p => (⟨fill p, []⟩ : Mm))[i]? = some m := h
      rw [List.getElem?_map] at h
      cases e : progs[i]? with
      | none => rw [e] at h; cases h
      | some p =>
        rw [e] at h
        have hi := (List.getElem?_eq_some_iff.mp e).1
        have er : mrs[i]? = some (mrs[i]'(by omega)) := List.getElem?_eq_getElem (by omega)
        obtain ⟨p', ep, ok⟩ := hM.get er
        rw [e] at ep
        obtain rfl := Option.some.inj ep
        exact ⟨_, p, er, (Option.some.inj h).symm, ok⟩
    intro t o h
    cases t with
    | brd => rw [← h]; exact eb
    | memL =>
      rw [← h]
      show H mL = some (HO.lst ((List.range (S0 progs rates).mem.length).map fun i => V.ref ((mrs.map (·.x)).getD i b)))
      rw [emL, ← n2, refs_getD b]
    | thsL =>
      rw [← h]
      show H tL = some (HO.lst ((List.range (S0 progs rates).ths.length).map fun i => V.ref ((trs.map (·.x)).getD i b)))
      rw [etL, ← n1, refs_getD b]
    | rdyL => rw [← h]; exact erL
    | timL => rw [← h]; exact eti
    | runL => rw [← h]; exact eru
    | reqL => rw [← h]; exact erq
    | vwsL => rw [← h]; exact evL
    | thr i =>
      have h : ((S0 progs rates).ths[i]?.map fun t => HO.ins c.CT ((trs.map (·.dx)).getD i 0) (fsT ((trs.map (·.rg)).getD i b) ((trs.map (·.cv)).getD i 0) t)) = some o := h
      cases e : (S0 progs rates).ths[i]? with
      | none => rw [e] at h; cases h
      | some t =>
        rw [e] at h
        obtain ⟨r, er, rfl⟩ := gt i t e
        rw [← h]
        show H ((trs.map (·.x)).getD i b) = some (HO.ins c.CT _ (fsT ((trs.map (·.rg)).getD i b) _ (th0 i)))
        rw [getm er, getm er, getm er, getm er]
        exact (hT i r er).1
    | rgs i =>
      have h : ((S0 progs rates).ths[i]?.map fun t => HO.lst (t.regs.map V.int)) = some o := h
      cases e : (S0 progs rates).ths[i]? with
      | none => rw [e] at h; cases h
      | some t =>
        rw [e] at h
        obtain ⟨r, er, rfl⟩ := gt i t e
        rw [← h]
        show H ((trs.map (·.rg)).getD i b) = _
        rw [getm er]
        exact (hT i r er).2.1
    | mem i =>
      have h : ((S0 progs rates).mem[i]?.map fun _ => HO.ins c.CM ((mrs.map (·.dx)).getD i 0) (fsM c.kd ((mrs.map (·.cl)).getD i b) ((if c.kd then mrs.map (·.kp) else []).getD i b))) = some o := h
      cases e : (S0 progs rates).mem[i]? with
      | none => rw [e] at h; cases h
      | some m =>
        rw [e] at h
        obtain ⟨r, p, er, rfl, ok⟩ := gm i m e
        rw [← h]
        show H ((mrs.map (·.x)).getD i b) = some (HO.ins c.CM _ (fsM c.kd ((mrs.map (·.cl)).getD i b) ((if c.kd then mrs.map (·.kp) else []).getD i b)))
        rw [getm er, getm er, getm er, ok.1]
        cases hk : c.kd with
        | false => rfl
        | true => rw [if_pos rfl, getm er]
    | cls i =>
      have h : ((S0 progs rates).mem[i]?.map fun m => HO.lst (m.cells.map V.int)) = some o := h
      cases e : (S0 progs rates).mem[i]? with
      | none => rw [e] at h; cases h
      | some m =>
        rw [e] at h
        obtain ⟨r, p, er, rfl, ok⟩ := gm i m e
        rw [← h]
        show H ((mrs.map (·.cl)).getD i b) = _
        rw [getm er]
        exact ok.2.1
    | kpt i =>
      have h : (if c.kd then (S0 progs rates).mem[i]?.map fun m => HO.dK (keptV m.kept) else none) = some o := h
      cases hk : c.kd with
      | false => rw [hk] at h; cases h
      | true =>
        rw [hk, if_pos rfl] at h
        cases e : (S0 progs rates).mem[i]? with
        | none => rw [e] at h; cases h
        | some m =>
          rw [e] at h
          obtain ⟨r, p, er, rfl, ok⟩ := gm i m e
          rw [← h]
          show H ((if true = true then mrs.map (·.kp) else []).getD i b) = _
          rw [if_pos rfl, getm er]
          exact ok.2.2 hk
  · intro i t h
    have h : ((List.range progs.length).map th0)[i]? = some t := h
    have hi : i < progs.length := by have := (List.getElem?_eq_some_iff.mp h).1; rwa [List.length_map, List.length_range] at this
    rw [List.getElem?_map, List.getElem?_range hi] at h
    obtain rfl := Option.some.inj h
    have er : trs[i]? = some (trs[i]'(by omega)) := List.getElem?_eq_getElem (by omega)
    show H ((trs.map (·.cv)).getD i 0) = _
    rw [List.getD_eq_getElem?_getD, List.getElem?_map, er]
    exact (hT i _ er).2.2
theorem wf_start {progs : List (List Int)} {rates : List Int} (h1 : progs.length ≤ 4) (h2 : rates.length ≤ 4) (h3 : 0 < rates.length) (hp : ∀ p ∈ progs, p.length ≤ 256 ∧ ∀ b ∈ p, 0 ≤ b) : WF (S0 progs rates) 8 where
  nt := by show ((List.range progs.length).map th0).length ≤ 8; rw [List.length_map, List.length_range]; omega
  nm := by show (progs.map _).length ≤ 8; rw [List.length_map]; omega
  nr := by show rates.length ≤ 8; omega
  tim := List.length_replicate
  rn := List.length_replicate
  cpu := h3
  th t ht := by
    obtain ⟨i, hi, e⟩ := List.mem_map.mp (show t ∈ (List.range progs.length).map th0 from ht)
    have hi := List.mem_range.mp hi
    rw [← e]
    refine ⟨?_, rfl, ?_, trivial⟩
    · show i < (progs.map _).length; rw [List.length_map]; exact hi
    · intro r hr
      have hr : r ∈ ([0, 0, 0, 0] : List Int) := hr
      simp at hr
      omega
  mm m hm := by
    obtain ⟨p, h, e⟩ := List.mem_map.mp (show m ∈ progs.map (fun p => (⟨fill p, []⟩ : Mm)) from hm)
    obtain ⟨hl, hb⟩ := hp p h
    rw [← e]
    refine ⟨?_, ?_, (fun p hp => nomatch hp), List.nodup_nil⟩
    · show (fill p).length = 256
      unfold fill
      rw [List.length_append, List.length_replicate]
      omega
    · intro b hbm
      have hbm : b ∈ fill p := hbm
      unfold fill at hbm
      rcases List.mem_append.mp hbm with z | z
      · exact hb b z
      · rw [List.eq_of_mem_replicate z]
        exact Int.le_refl _
  rd i hi := by
    have hi : i ∈ List.range progs.length := hi
    show i < ((List.range progs.length).map th0).length
    rw [List.length_map, List.length_range]
    exact List.mem_range.mp hi
  rdl := by show (List.range progs.length).length ≤ 8; rw [List.length_range]; omega
  rnl r hr := by
    have hr : r ∈ List.replicate rates.length (-1 : Int) := hr
    rw [List.eq_of_mem_replicate hr]
    omega
  rq q hq := nomatch hq
  rql := Nat.zero_le _
  vw := Nat.zero_le _
  dev := Int.le_refl _
end MM
end
section
/-! the machine's making: what loops keep -/
namespace MM
open PySem PySem.Spec PyProof.Rows L2
theorem cut256 {xs : List V} (h : xs.length ≤ 256) : cutV xs none (some 256) = xs := by
  unfold cutV
  rw [HT.sIx_none, List.drop_zero, show HT.sIx xs.length xs.length (some 256) = min 256 xs.length from HT.sIx_nat _ _ 256, Nat.min_eq_right h, Nat.sub_zero, List.take_length]
theorem flat_rep {k : Nat} {v : V} : (List.replicate k [v]).flatten = List.replicate k v := by
  induction k with
  | zero => rfl
  | succ k ih => rw [List.replicate_succ, List.flatten_cons, ih]; rfl
def mL (kd : Bool) (mrs : List MR) : List PySem.Addr := mrs.map (·.x) ++ mrs.map (·.cl) ++ (if kd then mrs.map (·.kp) else [])
/-- the memories made so far -/
def ML (kd : Bool) (CM : PySem.Addr) (H : Hp) (D : PySem.Addr) (ps : List (List Int)) (H' : Hp) : Prop := ∃ mrs : List MR, H' D = some (.lst ((mrs.map (·.x)).map V.ref)) ∧ Same H H' ∧ All2 (MrOk kd CM H') ps mrs ∧ Occ H' (D :: mL kd mrs) ∧ ∀ a ∈ D :: mL kd mrs, H a = none
theorem ML.start {kd : Bool} {CM D : PySem.Addr} {H : Hp} (hD : H D = none) : ML kd CM H D [] (upd H D (.lst [])) := by
  refine ⟨[], upd_same, R.same_new hD, .nil, ?_, ?_⟩
  · have : mL kd [] = [] := by cases kd <;> rfl
    rw [this]
    exact ⟨List.nodup_cons.mpr ⟨(fun h => nomatch h), List.nodup_nil⟩, fun a ha => by rw [List.mem_singleton.mp ha]; exact ⟨_, upd_same⟩⟩
  · have : mL kd [] = [] := by cases kd <;> rfl
    rw [this]
    intro a ha
    rw [List.mem_singleton.mp ha]
    exact hD
theorem ML.step {kd : Bool} {CM D x dx : PySem.Addr} {H H1 H2 : Hp} {ps : List (List Int)} {p : List Int} {r : MR} (hD : H D = none) (m : ML kd CM H D ps H1) (hx : H1 x = none) (hdx : H1 dx = none) (hne : dx ≠ x) (e1 : r.x = x)
    (mv : R.Mv x (upd (upd H1 dx (.own x)) x (.ins CM dx [])) H2) (hcl : upd (upd H1 dx (.own x)) x (.ins CM dx []) r.cl = none) (hkp : kd = true → upd (upd H1 dx (.own x)) x (.ins CM dx []) r.kp = none ∧ r.kp ≠ r.cl) (ok : MrOk kd CM H2 p r) :
    ∃ acc, H2 D = some (.lst acc) ∧ acc.length = ps.length ∧ ML kd CM H D (ps ++ [p]) (upd H2 D (.lst (acc ++ [.ref x]))) := by
  obtain ⟨mrs, eD, sm, al, oc, fr⟩ := m
  have s2 : Same H1 H2 := fun b o hb => mv b o (by rw [upd_ne (ne_of_none hb hx), upd_ne (ne_of_none hb hdx)]; exact hb) (ne_of_none hb hx)
  have eD2 := s2 _ _ eD
  have clx : r.cl ≠ x := fun z => by rw [z, upd_same] at hcl; cases hcl
  have cld : r.cl ≠ dx := fun z => by rw [z, upd_ne hne, upd_same] at hcl; cases hcl
  have hcl1 : H1 r.cl = none := by rw [upd_ne clx, upd_ne cld] at hcl; exact hcl
  have hkp1 : kd = true → H1 r.kp = none ∧ r.kp ≠ r.cl ∧ r.kp ≠ x := fun k => by
    obtain ⟨h, n⟩ := hkp k
    have kx : r.kp ≠ x := fun z => by rw [z, upd_same] at h; cases h
    have kdx : r.kp ≠ dx := fun z => by rw [z, upd_ne hne, upd_same] at h; cases h
    rw [upd_ne kx, upd_ne kdx] at h
    exact ⟨h, n, kx⟩
  have nD : ∀ {a : PySem.Addr}, H1 a = none → a ≠ D := fun {a} h => fun z => by rw [z, eD] at h; cases h
  have kt : ∀ b o, b ≠ D → H2 b = some o → upd H2 D (.lst (((mrs.map (·.x)).map V.ref) ++ [.ref x])) b = some o := fun b o h e => by rw [upd_ne h]; exact e
  have h0 : ∀ {a : PySem.Addr}, H1 a = none → H a = none := fun {a} h => sm.free h
  refine ⟨_, eD2, by rw [List.length_map, List.length_map]; exact al.length.symm, mrs ++ [r], ?_, ?_, ?_, ?_, ?_⟩
  · rw [upd_same, List.map_append, List.map_append]
    show some (HO.lst _) = some (HO.lst (_ ++ [V.ref r.x]))
    rw [e1]
  · intro b o hb
    rw [upd_ne (ne_of_none hb hD)]
    exact s2 _ _ (sm _ _ hb)
  · have al2 : All2 (MrOk kd CM (upd H2 D (.lst (((mrs.map (·.x)).map V.ref) ++ [.ref x])))) ps mrs := by
      have key : ∀ {ps : List (List Int)} {ms : List MR}, All2 (MrOk kd CM H1) ps ms → (∀ m ∈ ms, m.x ≠ D ∧ m.cl ≠ D ∧ (kd = true → m.kp ≠ D)) → All2 (MrOk kd CM (upd H2 D (.lst (((mrs.map (·.x)).map V.ref) ++ [.ref x])))) ps ms := fun a => by
        induction a with
        | nil => intro _; exact .nil
        | cons r1 _ ih =>
          intro h
          obtain ⟨n1, n2, n3⟩ := h _ List.mem_cons_self
          exact .cons ⟨kt _ _ n1 (s2 _ _ r1.1), kt _ _ n2 (s2 _ _ r1.2.1), fun k => kt _ _ (n3 k) (s2 _ _ (r1.2.2 k))⟩ (ih fun m hm => h m (List.mem_cons_of_mem _ hm))
      refine key al fun m hm => ?_
      have hd := (List.nodup_cons.mp oc.nd).1
      refine ⟨fun z => hd ?_, fun z => hd ?_, fun k z => hd ?_⟩
      · rw [← z]; exact List.mem_append_left _ (List.mem_append_left _ (List.mem_map_of_mem hm))
      · rw [← z]; exact List.mem_append_left _ (List.mem_append_right _ (List.mem_map_of_mem hm))
      · rw [← z]; exact List.mem_append_right _ (by rw [if_pos k]; exact List.mem_map_of_mem hm)
    refine All2.snoc ⟨?_, ?_, fun k => ?_⟩ al2
    · exact kt _ _ (by rw [e1]; exact nD hx) ok.1
    · exact kt _ _ (nD hcl1) ok.2.1
    · exact kt _ _ (nD (hkp1 k).1) (ok.2.2 k)
  · have th : ∀ b o, H2 b = some o → ∃ o', upd H2 D (.lst (((mrs.map (·.x)).map V.ref) ++ [.ref x])) b = some o' := there_upd
    have o2 : Occ H2 (D :: mL kd mrs) := oc.mono (there_same s2)
    have oX : Occ H2 (r.cl :: x :: D :: mL kd mrs) := by
      have a1 := oc.add (H' := upd H1 x (.ins CM dx [])) hx there_upd ⟨_, upd_same⟩
      refine (a1.add (H' := H2) (p := r.cl) (by rw [upd_ne clx]; exact hcl1) (fun b o hb => ?_) ⟨_, ok.2.1⟩)
      by_cases z : b = x
      · rw [z, ← e1]; exact ⟨_, ok.1⟩
      · rw [upd_ne z] at hb; exact ⟨o, s2 _ _ hb⟩
    cases kd with
    | false =>
      refine (oX.mono th).perm ?_
      rw [List.perm_iff_count]
      intro a
      simp only [mL, List.map_append, List.map_cons, List.map_nil, e1, List.count_cons, List.count_append, List.count_nil, Bool.false_eq_true, if_false]
      omega
    | true =>
      obtain ⟨k1, k2, k3⟩ := hkp1 rfl
      have oK : Occ H2 (r.kp :: r.cl :: x :: D :: mL true mrs) := by
        refine ⟨List.nodup_cons.mpr ⟨fun h => ?_, oX.nd⟩, fun a ha => ?_⟩
        · rcases List.mem_cons.mp h with z | z
          · exact k2 z
          rcases List.mem_cons.mp z with z | z
          · exact k3 z
          · obtain ⟨o, ho⟩ := oc.oc _ z
            rw [k1] at ho; cases ho
        · rcases List.mem_cons.mp ha with z | z
          · rw [z]; exact ⟨_, ok.2.2 rfl⟩
          · exact oX.oc a z
      refine (oK.mono th).perm ?_
      rw [List.perm_iff_count]
      intro a
      simp only [mL, List.map_append, List.map_cons, List.map_nil, e1, List.count_cons, List.count_append, List.count_nil, if_true]
      omega
  · intro a ha
    have : a = x ∨ a = r.cl ∨ (kd = true ∧ a = r.kp) ∨ a ∈ D :: mL kd mrs := by
      rcases List.mem_cons.mp ha with z | z
      · exact .inr (.inr (.inr (by rw [z]; exact List.mem_cons_self)))
      · unfold mL at z
        rcases List.mem_append.mp z with z | z
        · rcases List.mem_append.mp z with z | z
          · rw [List.map_append] at z
            rcases List.mem_append.mp z with z | z
            · exact .inr (.inr (.inr (List.mem_cons_of_mem _ (List.mem_append_left _ (List.mem_append_left _ z)))))
            · exact .inl ((List.mem_singleton.mp z).trans e1)
          · rw [List.map_append] at z
            rcases List.mem_append.mp z with z | z
            · exact .inr (.inr (.inr (List.mem_cons_of_mem _ (List.mem_append_left _ (List.mem_append_right _ z)))))
            · exact .inr (.inl (List.mem_singleton.mp z))
        · cases kd with
          | false => cases z
          | true =>
            have z : a ∈ (mrs ++ [r]).map (·.kp) := z
            rw [List.map_append] at z
            rcases List.mem_append.mp z with z | z
            · exact .inr (.inr (.inr (List.mem_cons_of_mem _ (List.mem_append_right _ z))))
            · exact .inr (.inr (.inl ⟨rfl, List.mem_singleton.mp z⟩))
    rcases this with z | z | ⟨k, z⟩ | z
    · rw [z]; exact h0 hx
    · rw [z]; exact h0 hcl1
    · rw [z]; exact h0 (hkp1 k).1
    · exact fr a z
def tL (trs : List TR) : List PySem.Addr := trs.map (·.x) ++ trs.map (·.rg)
/-- the threads made so far, beside L -/
def TL (CT : PySem.Addr) (L : List PySem.Addr) (H : Hp) (D : PySem.Addr) (n : Nat) (H' : Hp) : Prop := ∃ trs : List TR, trs.length = n ∧ H' D = some (.lst ((trs.map (·.x)).map V.ref)) ∧ Same H H' ∧ (∀ i r, trs[i]? = some r → TrOk CT H' i r) ∧ Occ H' (D :: (tL trs ++ L)) ∧ ∀ a ∈ D :: tL trs, H a = none
theorem TL.start {CT D : PySem.Addr} {H : Hp} {L : List PySem.Addr} (hD : H D = none) (oc : Occ H L) : TL CT L H D 0 (upd H D (.lst [])) := by
  refine ⟨[], rfl, upd_same, R.same_new hD, (fun i r h => nomatch h), oc.add hD there_upd ⟨_, upd_same⟩, ?_⟩
  intro a ha
  rw [List.mem_singleton.mp ha]
  exact hD
theorem TL.step {CT D x dx : PySem.Addr} {H H1 H2 : Hp} {L : List PySem.Addr} {n : Nat} {rg cv : PySem.Addr} (hD : H D = none) (m : TL CT L H D n H1) (hx : H1 x = none) (hdx : H1 dx = none) (hne : dx ≠ x)
    (mv : R.Mv x (upd (upd H1 dx (.own x)) x (.ins CT dx [])) H2) (hrg : upd (upd H1 dx (.own x)) x (.ins CT dx []) rg = none)
    (e1 : H2 x = some (.ins CT dx (fsT rg cv (th0 n)))) (e2 : H2 rg = some (.lst (([0, 0, 0, 0] : List Int).map V.int))) (e3 : H2 cv = some (.tup (condV .ready))) :
    ∃ acc, H2 D = some (.lst acc) ∧ acc.length = n ∧ TL CT L H D (n + 1) (upd H2 D (.lst (acc ++ [.ref x]))) := by
  obtain ⟨trs, hl, eD, sm, al, oc, fr⟩ := m
  have s2 : Same H1 H2 := fun b o hb => mv b o (by rw [upd_ne (ne_of_none hb hx), upd_ne (ne_of_none hb hdx)]; exact hb) (ne_of_none hb hx)
  have eD2 := s2 _ _ eD
  have rx : rg ≠ x := fun z => by rw [z, upd_same] at hrg; cases hrg
  have rd : rg ≠ dx := fun z => by rw [z, upd_ne hne, upd_same] at hrg; cases hrg
  have hrg1 : H1 rg = none := by rw [upd_ne rx, upd_ne rd] at hrg; exact hrg
  have nD : ∀ {a : PySem.Addr}, H1 a = none → a ≠ D := fun {a} h => fun z => by rw [z, eD] at h; cases h
  have kt : ∀ b o, b ≠ D → H2 b = some o → upd H2 D (.lst (((trs.map (·.x)).map V.ref) ++ [.ref x])) b = some o := fun b o h e => by rw [upd_ne h]; exact e
  have h0 : ∀ {a : PySem.Addr}, H1 a = none → H a = none := fun {a} h => sm.free h
  have cD : cv ≠ D := fun z => by rw [z, eD2] at e3; cases e3
  refine ⟨_, eD2, by rw [List.length_map, List.length_map]; exact hl, trs ++ [⟨x, dx, rg, cv⟩], by rw [List.length_append, hl]; rfl, ?_, ?_, ?_, ?_, ?_⟩
  · rw [upd_same, List.map_append, List.map_append]
    rfl
  · intro b o hb
    rw [upd_ne (ne_of_none hb hD)]
    exact s2 _ _ (sm _ _ hb)
  · intro i r h
    by_cases hi : i < trs.length
    · rw [List.getElem?_append_left hi] at h
      obtain ⟨a1, a2, a3⟩ := al i r h
      have hm := List.mem_of_getElem? h
      have hd := (List.nodup_cons.mp oc.nd).1
      refine ⟨kt _ _ (fun z => hd ?_) (s2 _ _ a1), kt _ _ (fun z => hd ?_) (s2 _ _ a2), kt _ _ (fun z => ?_) (s2 _ _ a3)⟩
      · rw [← z]; exact List.mem_append_left _ (List.mem_append_left _ (List.mem_map_of_mem hm))
      · rw [← z]; exact List.mem_append_left _ (List.mem_append_right _ (List.mem_map_of_mem hm))
      · rw [z, eD] at a3; cases a3
    · have hi' : i < (trs ++ [(⟨x, dx, rg, cv⟩ : TR)]).length := (List.getElem?_eq_some_iff.mp h).1
      rw [List.length_append] at hi'
      have hi' : i < trs.length + 1 := hi'
      have ei : i = trs.length := by omega
      rw [ei, List.getElem?_append_right (Nat.le_refl _), Nat.sub_self] at h
      obtain rfl := Option.some.inj h
      rw [ei, hl]
      exact ⟨kt _ _ (nD hx) e1, kt _ _ (nD hrg1) e2, kt _ _ cD e3⟩
  · have oX : Occ H2 (rg :: x :: D :: (tL trs ++ L)) := by
      have a1 := oc.add (H' := upd H1 x (.ins CT dx [])) hx there_upd ⟨_, upd_same⟩
      refine (a1.add (H' := H2) (p := rg) (by rw [upd_ne rx]; exact hrg1) (fun b o hb => ?_) ⟨_, e2⟩)
      by_cases z : b = x
      · rw [z]; exact ⟨_, e1⟩
      · rw [upd_ne z] at hb; exact ⟨o, s2 _ _ hb⟩
    refine (oX.mono there_upd).perm ?_
    rw [List.perm_iff_count]
    intro a
    simp only [tL, List.map_append, List.map_cons, List.map_nil, List.count_cons, List.count_append, List.count_nil]
    omega
  · intro a ha
    rcases List.mem_cons.mp ha with z | z
    · rw [z]; exact hD
    · unfold tL at z
      rw [List.map_append, List.map_append] at z
      rcases List.mem_append.mp z with z | z
      · rcases List.mem_append.mp z with z | z
        · exact fr a (List.mem_cons_of_mem _ (List.mem_append_left _ z))
        · rw [List.mem_singleton.mp z]; exact h0 hx
      · rcases List.mem_append.mp z with z | z
        · exact fr a (List.mem_cons_of_mem _ (List.mem_append_right _ z))
        · rw [List.mem_singleton.mp z]; exact h0 hrg1
end MM
namespace MM
open PySem PySem.Spec PyProof.Rows L2
theorem r_LcR {te : TE} {g : TG} {ts : TT} {vs : List Nat} {σ : L2.St} {Q : VK} {H1 : Hp} {n : Nat} (hn : n ≤ 100000) (h : LW (Itr 0 n) g ts te vs σ Q H1) : R.LcR te g ts vs σ Q [.int (n : Int)] H1 :=
  ⟨(n : Int), rfl, by omega, by omega, by rw [Int.toNat_natCast]; exact h⟩
end MM
namespace MM
open PySem PySem.Spec PyProof.Rows L2
theorem r_lstRg {ta : TE} {σ : L2.St} {Q : VK} {H : Hp} (h : ta σ H fun x H1 => ∃ n, x = .int n ∧ RgOk 0 n ∧ ∀ q, H1 q = none → Q (.ref q) (upd H1 q (.lst (rgV 0 n)))) : tLstRg (tRg1 ta) σ H Q := h
end MM
namespace MM
theorem mv_back {H H' : L2.Hp} {x a : PySem.Addr} (m : R.Mv x H H') (h : H' a = none) (n : a ≠ x) : H a = none := by
  cases z : H a with
  | none => rfl
  | some o => rw [m a o z n] at h; cases h
end MM
end
section
/-! machines beside other things; the stops' list -/
namespace MM
open PySem PySem.Spec PyProof.Rows L2
/-- the state stands where its places do -/
theorem Bd.move {c : Cl} {ad : Tg → PySem.Addr} {S : MS} {H H' : Hp} (B : Bd c ad S H) (fr : ∀ t o, H (ad t) = some o → H' (ad t) = some o) (kt : KeepT H H') : Bd c ad S H' := by
  obtain ⟨⟨g, h1, h2, h3, h4, h5⟩, inj, od⟩ := B
  exact ⟨⟨g, fun t o e => fr t o (h1 t o e), fun i t e => kt _ _ (h2 i t e), h3.imp fun _ _ z => kt _ _ z, h4.imp fun _ _ z => z.keep kt, kt _ _ h5⟩, inj, od⟩
theorem Bd.mv {c : Cl} {ad : Tg → PySem.Addr} {S : MS} {H H' : Hp} {x : PySem.Addr} (B : Bd c ad S H) (m : R.Mv x H H') (hx : ∀ t, ad t ≠ x) (ht : ∀ xs, H x ≠ some (.tup xs)) : Bd c ad S H' :=
  B.move (fun t o e => m _ _ e (hx t)) (fun b xs e => m _ _ e (fun z => ht xs (by rw [← z]; exact e)))
/-- another machine's step -/
theorem Bd.beside {c c2 : Cl} {ad ad2 ad2' : Tg → PySem.Addr} {S : MS} {H H' : Hp} {nt nm : Nat} (B : Bd c ad S H) (m : Mvd c2.kd nt nm ad2 ad2' H H') (dj : ∀ t u, ad2 t ≠ ad u) : Bd c ad S H' ∧ ∀ t u, ad2' t ≠ ad u := by
  refine ⟨B.move (fun t o e => m.fr _ _ e fun u => dj u t) m.kt, fun t u => ?_⟩
  by_cases d : dom c.kd S.ths.length S.mem.length u
  · obtain ⟨o, e⟩ := B.there d
    exact m.out e (fun t => dj t u) t
  · obtain ⟨o, e⟩ := B.there (t := .brd) trivial
    rw [B.out u d]
    exact m.out e (fun t => dj t .brd) t
theorem mrs_mv {kd : Bool} {CM : PySem.Addr} {H H' : Hp} {x : PySem.Addr} {ps : List (List Int)} {ms : List MR} (m : R.Mv x H H') (al : All2 (MrOk kd CM H) ps ms) (h : ∀ a ∈ mL kd ms, a ≠ x) : All2 (MrOk kd CM H') ps ms := by
  have key : ∀ {ps : List (List Int)} {ms : List MR}, All2 (MrOk kd CM H) ps ms → (∀ m ∈ ms, m.x ≠ x ∧ m.cl ≠ x ∧ (kd = true → m.kp ≠ x)) → All2 (MrOk kd CM H') ps ms := fun a => by
    induction a with
    | nil => intro _; exact .nil
    | cons r1 _ ih =>
      intro h
      obtain ⟨n1, n2, n3⟩ := h _ List.mem_cons_self
      exact .cons ⟨m _ _ r1.1 n1, m _ _ r1.2.1 n2, fun k => m _ _ (r1.2.2 k) (n3 k)⟩ (ih fun m hm => h m (List.mem_cons_of_mem _ hm))
  exact key al fun m hm => ⟨h _ (List.mem_append_left _ (List.mem_append_left _ (List.mem_map_of_mem hm))), h _ (List.mem_append_left _ (List.mem_append_right _ (List.mem_map_of_mem hm))), fun k => h _ (List.mem_append_right _ (by rw [if_pos k]; exact List.mem_map_of_mem hm))⟩
/-- the programs' tuples -/
def PgAt (H : Hp) (pg : PySem.Addr) (progs : List (List Int)) : Prop := ∃ ps : List PySem.Addr, H pg = some (.tup (ps.map V.ref)) ∧ All2 (fun a (p : List Int) => H a = some (.tup (p.map V.int))) ps progs
theorem PgAt.keep {H H' : Hp} {pg : PySem.Addr} {progs : List (List Int)} (h : PgAt H pg progs) (k : KeepT H H') : PgAt H' pg progs := by
  obtain ⟨ps, e, al⟩ := h
  exact ⟨ps, k _ _ e, al.imp fun _ _ z => k _ _ z⟩
/-- the stops, ascending -/
def ltPr (p q : Int × Int) : Prop := p.1 < q.1 ∨ (p.1 = q.1 ∧ p.2 < q.2)
def keys (m : Mm) : List Int := m.kept.map (·.1)
def StopL (S : MS) (i : Nat) (L : List (Int × Int)) : Prop := L.Pairwise ltPr ∧ ∀ p a, (p, a) ∈ L ↔ ∃ j, j < i ∧ p = (j : Int) ∧ a ∈ keys (S.mm j)
theorem StopL.step {S : MS} {i : Nat} {L : List (Int × Int)} {ns : List Int} (h : StopL S i L) (hp : ns.Perm (keys (S.mm i))) (hs : ns.Pairwise (· ≤ ·)) (hn : (keys (S.mm i)).Nodup) : StopL S (i + 1) (L ++ ns.map fun a => ((i : Int), a)) := by
  have hnd : ns.Nodup := hp.nodup_iff.mpr hn
  have hst : ns.Pairwise (· < ·) := by
    have := hs.and hnd
    exact this.imp fun {a b} h => by
      have h1 := h.1
      have h2 : a ≠ b := h.2
      omega
  refine ⟨?_, fun p a => ?_⟩
  · rw [List.pairwise_append]
    refine ⟨h.1, ?_, ?_⟩
    · rw [List.pairwise_map]
      exact hst.imp fun {a b} h => .inr ⟨rfl, h⟩
    · intro x hx y hy
      obtain ⟨b, hb, rfl⟩ := List.mem_map.mp hy
      obtain ⟨j, hj, e, _⟩ := (h.2 x.1 x.2).mp hx
      exact .inl (by rw [e]; exact Int.ofNat_lt.mpr hj)
  · rw [List.mem_append, h.2]
    constructor
    · rintro (⟨j, hj, e, m⟩ | hm)
      · exact ⟨j, by omega, e, m⟩
      · obtain ⟨b, hb, e⟩ := List.mem_map.mp hm
        obtain ⟨rfl, rfl⟩ := Prod.mk.inj e
        exact ⟨i, by omega, rfl, hp.mem_iff.mp hb⟩
    · rintro ⟨j, hj, e, m⟩
      by_cases z : j = i
      · rw [z] at e m
        exact .inr (List.mem_map.mpr ⟨a, hp.mem_iff.mpr m, by rw [e]⟩)
      · exact .inl ⟨j, by omega, e, m⟩
section
variable {g g1 : TG} {tt tt1 : TT} {te tl : TE} {vs vs1 : List Nat} {σ : L2.St} {Q : VK} {H H1 : Hp} {K : PySem.W.Frag} {tr : TA} {wi1 : TI}
/-- two loops in a comprehension -/
def LW2 (J : It) (g : TG) (tt : TT) (wi1 : TI) (g1 : TG) (tt1 : TT) (te : TE) (vs vs1 : List Nat) (σ : L2.St) (Q : VK) (H1 : Hp) : Prop := ∀ D, H1 D = none → ∃ W : Nat → Nat → Hp → Prop, (∃ m, W 0 m (upd H1 D (.lst []))) ∧ ∀ i m H, W i m H →
  (J.stop i H ∧ Q (.ref D) H) ∨ (J.go i H ∧ ∃ Nx : Hp → Prop, (∀ H', Nx H' → ∃ m', m' < m ∧ W (i + 1) m' H') ∧ ∀ x H', J.yld i H x H' → g x (wipe σ vs) H' fun σ2 H2 => wipe σ2 vs = wipe σ vs ∧ tt σ2 H2 fun b H3 =>
    if b = true then wi1 σ2 H3 fun J1 H4 => ∃ W1 : Nat → Nat → Hp → Prop, (∃ m, W1 0 m H4) ∧ ∀ j k H, W1 j k H →
      (J1.stop j H ∧ Nx H) ∨ (J1.go j H ∧ ∃ Nx1 : Hp → Prop, (∀ H', Nx1 H' → ∃ k', k' < k ∧ W1 (j + 1) k' H') ∧ ∀ x H', J1.yld j H x H' → g1 x (wipe σ2 vs1) H' fun σ3 H5 => wipe σ3 vs1 = wipe σ2 vs1 ∧ tt1 σ3 H5 fun b H6 =>
        if b = true then te σ3 H6 fun y H7 => ∃ acc, H7 D = some (.lst acc) ∧ acc.length < sizeLine ∧ Nx1 (upd H7 D (.lst (acc ++ [y]))) else Nx1 H6)
    else Nx H3)
/-- the inner loop's part -/
def IW (J1 : It) (g1 : TG) (tt1 : TT) (te : TE) (vs1 : List Nat) (D : PySem.Addr) (σ2 : L2.St) (Nx : Hp → Prop) (H4 : Hp) : Prop := ∃ W1 : Nat → Nat → Hp → Prop, (∃ m, W1 0 m H4) ∧ ∀ j k H, W1 j k H →
      (J1.stop j H ∧ Nx H) ∨ (J1.go j H ∧ ∃ Nx1 : Hp → Prop, (∀ H', Nx1 H' → ∃ k', k' < k ∧ W1 (j + 1) k' H') ∧ ∀ x H', J1.yld j H x H' → g1 x (wipe σ2 vs1) H' fun σ3 H5 => wipe σ3 vs1 = wipe σ2 vs1 ∧ tt1 σ3 H5 fun b H6 =>
        if b = true then te σ3 H6 fun y H7 => ∃ acc, H7 D = some (.lst acc) ∧ acc.length < sizeLine ∧ Nx1 (upd H7 D (.lst (acc ++ [y]))) else Nx1 H6)
theorem lc2_go {J : It} {n : Nat} {G : Hp → Prop} {Y : Nat → Hp → V → Hp → Prop} (wk : Walk J n G Y) (Pv : PySem.Addr → Nat → Hp → Prop) (h0 : ∀ D, H1 D = none → Pv D 0 (upd H1 D (.lst [])))
    (hG : ∀ D i H, H1 D = none → Pv D i H → G H)
    (hs : ∀ D i x H H', H1 D = none → i < n → Pv D i H → Y i H x H' → g x (wipe σ vs) H' fun σ2 H2 => wipe σ2 vs = wipe σ vs ∧ tt σ2 H2 fun b H3 =>
      if b = true then wi1 σ2 H3 fun J1 H4 => IW J1 g1 tt1 te vs1 D σ2 (Pv D (i + 1)) H4 else Pv D (i + 1) H3)
    (hd : ∀ D H, H1 D = none → Pv D n H → Q (.ref D) H) : LW2 J g tt wi1 g1 tt1 te vs vs1 σ Q H1 := fun D hD => by
  refine ⟨fun i m H => m = n - i ∧ i ≤ n ∧ Pv D i H, ⟨n, by simp, Nat.zero_le _, h0 D hD⟩, ?_⟩
  rintro i m H ⟨rfl, hi, p⟩
  have q := hG D i H hD p
  by_cases hlt : i < n
  · exact .inr ⟨wk.goes i H hlt q, Pv D (i + 1), fun H' p' => ⟨n - (i + 1), by omega, rfl, hlt, p'⟩, fun x H' y => hs D i x H H' hD hlt p (wk.yields i H x H' hlt q y)⟩
  · have e : i = n := by omega
    subst e
    exact .inl ⟨wk.stops H q, hd D H hD p⟩
theorem iw_go {J1 : It} {n : Nat} {G : Hp → Prop} {Y : Nat → Hp → V → Hp → Prop} {D : PySem.Addr} {σ2 : L2.St} {Nx : Hp → Prop} {H4 : Hp} (wk : Walk J1 n G Y) (Pv : Nat → Hp → Prop) (h0 : Pv 0 H4) (hG : ∀ j H, Pv j H → G H)
    (hs : ∀ j x H H', j < n → Pv j H → Y j H x H' → g1 x (wipe σ2 vs1) H' fun σ3 H5 => wipe σ3 vs1 = wipe σ2 vs1 ∧ tt1 σ3 H5 fun b H6 =>
        if b = true then te σ3 H6 fun y H7 => ∃ acc, H7 D = some (.lst acc) ∧ acc.length < sizeLine ∧ Pv (j + 1) (upd H7 D (.lst (acc ++ [y]))) else Pv (j + 1) H6)
    (hd : ∀ H, Pv n H → Nx H) : IW J1 g1 tt1 te vs1 D σ2 Nx H4 := by
  refine ⟨fun i m H => m = n - i ∧ i ≤ n ∧ Pv i H, ⟨n, by simp, Nat.zero_le _, h0⟩, ?_⟩
  rintro i m H ⟨rfl, hi, p⟩
  have q := hG i H p
  by_cases hlt : i < n
  · exact .inr ⟨wk.goes i H hlt q, Pv (i + 1), fun H' p' => ⟨n - (i + 1), by omega, rfl, hlt, p'⟩, fun x H' y => hs i x H H' hlt p (wk.yields i H x H' hlt q y)⟩
  · have e : i = n := by omega
    subst e
    exact .inl ⟨wk.stops H q, hd H p⟩
theorem r_lc2E (h : tr σ H fun vs' H1 => ∃ a xs, vs' = [.ref a] ∧ SqL K H1 a xs ∧ LW2 (Ite K a) g tt wi1 g1 tt1 te vs vs1 σ Q H1) : tLc2 (iEnum K tr) g tt wi1 g1 tt1 te vs vs1 σ H Q := h
theorem r_iw {D : PySem.Addr} {σ2 : L2.St} {Nx : Hp → Prop} (h : tl σ2 H fun x H1 => ∃ a, x = .ref a ∧ (∃ xs, SqL K H1 a xs) ∧ IW (Itl K a) g1 tt1 te vs1 D σ2 Nx H1) : iList K tl σ2 H fun J1 H4 => IW J1 g1 tt1 te vs1 D σ2 Nx H4 := h
variable {r r' : R2} {ta tb tc : TE}
theorem r_chain (h : ta σ H fun x H1 => tb σ H1 fun y H2 => r x y H2 fun z H3 => ∃ k, z = .bl k ∧ (if k = true then tc σ H3 fun w' H4 => r' y w' H4 Q else Q (.bl false) H3)) : tChain r r' ta tb tc σ H Q := h
end
end MM
end
section
/-! a machine with stops and one without: the same but for what stands under the stops -/
namespace MM
open PySem PySem.Spec PyProof.Rows L2
def ask (pl : List (Int × Int)) (v : Vw) : Bool := decide (v.kind ≠ "insn") || decide ((v.pid, v.at') ∈ pl)
/-- what is kept stands in the other memory, 255 in its place -/
structure MmRel (m p : Mm) : Prop where
  kp : p.kept = []
  ml : m.cells.length = 256
  pl : p.cells.length = 256
  nd : (keys m).Nodup
  ks : ∀ q ∈ m.kept, 0 ≤ q.1 ∧ q.1 < 256
  at' : ∀ j : Nat, j < 256 → match m.kept.lookup (j : Int) with
    | some b => p.cells.getD j 0 = b ∧ m.cells.getD j 0 = 255
    | none => m.cells.getD j 0 = p.cells.getD j 0
theorem lookup_mem {l : List (Int × Int)} {a : Int} : (l.lookup a).isSome = true ↔ a ∈ l.map (·.1) := by
  induction l with
  | nil => simp
  | cons p r ih =>
    rw [List.lookup_cons, List.map_cons, List.mem_cons]
    by_cases e : a = p.1
    · rw [e, beq_self_eq_true]
      exact ⟨fun _ => .inl rfl, fun _ => rfl⟩
    · rw [beq_eq_false_iff_ne.mpr e, ih]
      exact ⟨fun h => .inr h, fun h => h.resolve_left e⟩
theorem MmRel.load {m p : Mm} (h : MmRel m p) (a : Int) : m.load a = p.load a := by
  have hj : ((a % 256).toNat : Int) = a % 256 := Int.toNat_of_nonneg (Int.emod_nonneg _ (by decide))
  have z := h.at' (a % 256).toNat (by omega)
  rw [hj] at z
  unfold Mm.load
  rw [h.kp]
  cases e : m.kept.lookup (a % 256) with
  | none => rw [e] at z; exact z
  | some b => rw [e] at z; exact z.1.symm
theorem fold_get : ∀ (ks : List (Int × Int)) (cs : List Int) (j : Nat), (ks.map (·.1)).Nodup → (∀ q ∈ ks, 0 ≤ q.1 ∧ q.1 < (cs.length : Int)) → (ks.foldl (fun cs p => cs.set p.1.toNat p.2) cs).length = cs.length ∧
    (ks.foldl (fun cs p => cs.set p.1.toNat p.2) cs).getD j 0 = (match ks.lookup (j : Int) with | some b => b | none => cs.getD j 0)
  | [], cs, j, _, _ => ⟨rfl, rfl⟩
  | q :: r, cs, j, hn, hk => by
    rw [List.map_cons, List.nodup_cons] at hn
    have hq := hk q List.mem_cons_self
    have hl : (cs.set q.1.toNat q.2).length = cs.length := List.length_set
    obtain ⟨i1, i2⟩ := fold_get r (cs.set q.1.toNat q.2) j hn.2 (fun x hx => by rw [hl]; exact hk x (List.mem_cons_of_mem _ hx))
    refine ⟨by rw [List.foldl_cons, i1, hl], ?_⟩
    rw [List.foldl_cons, i2, List.lookup_cons]
    by_cases e : (j : Int) = q.1
    · have hnone : r.lookup (j : Int) = none := by
        cases z : r.lookup (j : Int) with
        | none => rfl
        | some b =>
          have := lookup_mem.mp (show (r.lookup (j : Int)).isSome = true by rw [z]; rfl)
          rw [e] at this
          exact absurd this hn.1
      rw [hnone, e, beq_self_eq_true]
      have hjn : q.1.toNat = j := by omega
      show (cs.set q.1.toNat q.2).getD j 0 = q.2
      rw [hjn, List.getD_eq_getElem?_getD, List.getElem?_set_self (by omega)]
      rfl
    · rw [beq_eq_false_iff_ne.mpr e]
      cases z : r.lookup (j : Int) with
      | some b => rfl
      | none =>
        show (cs.set q.1.toNat q.2).getD j 0 = cs.getD j 0
        rw [List.getD_eq_getElem?_getD, List.getElem?_set_ne (by omega), ← List.getD_eq_getElem?_getD]
theorem ext_getD {a b : List Int} {n : Nat} (ha : a.length = n) (hb : b.length = n) (h : ∀ j, j < n → a.getD j 0 = b.getD j 0) : a = b := by
  refine List.ext_getElem (ha.trans hb.symm) fun j h1 h2 => ?_
  have := h j (by omega)
  rw [List.getD_eq_getElem?_getD, List.getD_eq_getElem?_getD, List.getElem?_eq_getElem h1, List.getElem?_eq_getElem h2] at this
  exact this
theorem MmRel.img {m p : Mm} (h : MmRel m p) : m.img = p.cells := by
  have z := fun j => fold_get m.kept m.cells j h.nd (fun q hq => by rw [h.ml]; exact h.ks q hq)
  refine ext_getD (n := 256) ((z 0).1.trans h.ml) h.pl fun j hj => ?_
  show (m.kept.foldl (fun cs p => cs.set p.1.toNat p.2) m.cells).getD j 0 = _
  rw [(z j).2]
  have q := h.at' j hj
  cases e : m.kept.lookup (j : Int) with
  | none => rw [e] at q; exact q
  | some b => rw [e] at q; exact q.1.symm
theorem MmRel.pimg {m p : Mm} (h : MmRel m p) : p.img = p.cells := by unfold Mm.img; rw [h.kp]; rfl
theorem store_keys1 {m : Mm} {a b : Int} : keys (m.store a b) = keys m := by
  unfold keys Mm.store
  split
  · show (m.kept.map fun p => if p.1 = a % 256 then (p.1, b) else p).map (·.1) = _
    rw [List.map_map]
    refine List.map_congr_left fun p _ => ?_
    show (if p.1 = a % 256 then (p.1, b) else p).1 = p.1
    split <;> rfl
  · rfl
theorem lookup_upd {ks : List (Int × Int)} {a b j : Int} : (ks.map fun p => if p.1 = a then (p.1, b) else p).lookup j = if j = a then (if (ks.lookup a).isSome then some b else none) else ks.lookup j := by
  induction ks with
  | nil => simp
  | cons q r ih =>
    rw [List.map_cons, List.lookup_cons]
    have e1 : (if q.1 = a then (q.1, b) else q).1 = q.1 := by split <;> rfl
    rw [e1, List.lookup_cons, List.lookup_cons]
    by_cases h : j = q.1
    · rw [h, beq_self_eq_true]
      by_cases z : q.1 = a
      · rw [if_pos z, if_pos z, z, beq_self_eq_true]; rfl
      · rw [if_neg z, if_neg z]
    · rw [beq_eq_false_iff_ne.mpr h]
      rw [ih]
      by_cases z : j = a
      · rw [if_pos z, if_pos z, beq_eq_false_iff_ne.mpr (fun y => h (z.trans y))]
      · rw [if_neg z, if_neg z]
theorem getD_set {l : List Int} {i j : Nat} {v : Int} (hi : i < l.length) : (l.set i v).getD j 0 = if i = j then v else l.getD j 0 := by
  rw [List.getD_eq_getElem?_getD, List.getD_eq_getElem?_getD]
  by_cases h : i = j
  · rw [if_pos h, ← h, List.getElem?_set_self hi]; rfl
  · rw [if_neg h, List.getElem?_set_ne h]
theorem MmRel.store {m p : Mm} (h : MmRel m p) (a b : Int) : MmRel (m.store a b) (p.store a b) := by
  have hj0 := Int.emod_nonneg a (show (256 : Int) ≠ 0 by decide)
  have hj1 := Int.emod_lt_of_pos a (show (0 : Int) < 256 by decide)
  have hj : ((a % 256).toNat : Int) = a % 256 := Int.toNat_of_nonneg hj0
  have ep : p.store a b = { p with cells := p.cells.set (a % 256).toNat b } := by
    unfold Mm.store
    rw [if_neg (by rw [h.kp]; exact Bool.false_ne_true)]
  rw [ep]
  have hn : (keys (m.store a b)).Nodup := by rw [store_keys1]; exact h.nd
  unfold Mm.store at hn ⊢
  by_cases e : (m.kept.lookup (a % 256)).isSome = true
  · rw [if_pos e] at hn ⊢
    refine ⟨h.kp, h.ml, by rw [List.length_set]; exact h.pl, hn, fun q hq => ?_, fun j hj' => ?_⟩
    · obtain ⟨x, hx, ex⟩ := List.mem_map.mp hq
      have := h.ks x hx
      rw [← ex]
      split <;> exact this
    · have z := h.at' j hj'
      show match (m.kept.map fun p => if p.1 = a % 256 then (p.1, b) else p).lookup (j : Int) with
        | some b' => (p.cells.set (a % 256).toNat b).getD j 0 = b' ∧ m.cells.getD j 0 = 255
        | none => m.cells.getD j 0 = (p.cells.set (a % 256).toNat b).getD j 0
      rw [lookup_upd, getD_set (by rw [h.pl]; omega)]
      by_cases c : (j : Int) = a % 256
      · rw [if_pos c, if_pos e, if_pos (by omega)]
        refine ⟨rfl, ?_⟩
        rw [c] at z
        cases y : m.kept.lookup (a % 256) with
        | none => rw [y] at e; exact absurd e Bool.false_ne_true
        | some b0 => rw [y] at z; exact z.2
      · rw [if_neg c, if_neg (by omega)]
        exact z
  · rw [if_neg e] at hn ⊢
    refine ⟨h.kp, by rw [List.length_set]; exact h.ml, by rw [List.length_set]; exact h.pl, h.nd, h.ks, fun j hj' => ?_⟩
    have z := h.at' j hj'
    show match m.kept.lookup (j : Int) with
      | some b' => (p.cells.set (a % 256).toNat b).getD j 0 = b' ∧ (m.cells.set (a % 256).toNat b).getD j 0 = 255
      | none => (m.cells.set (a % 256).toNat b).getD j 0 = (p.cells.set (a % 256).toNat b).getD j 0
    rw [getD_set (by rw [h.pl]; omega), getD_set (by rw [h.ml]; omega)]
    by_cases c : (j : Int) = a % 256
    · have hnone : m.kept.lookup (j : Int) = none := by
        rw [c]
        cases y : m.kept.lookup (a % 256) with
        | none => rfl
        | some b0 => rw [y] at e; exact absurd rfl e
      rw [hnone, if_pos (by omega), if_pos (by omega)]
    · rw [if_neg (by omega), if_neg (by omega)]
      exact z
theorem lookup_snoc {ks : List (Int × Int)} {a b j : Int} (h : ks.lookup a = none) : (ks ++ [(a, b)]).lookup j = if j = a then some b else ks.lookup j := by
  induction ks with
  | nil =>
    show List.lookup j [(a, b)] = _
    rw [List.lookup_cons]
    by_cases e : j = a
    · rw [e, beq_self_eq_true, if_pos rfl]
    · rw [beq_eq_false_iff_ne.mpr e, if_neg e]
  | cons q r ih =>
    rw [List.lookup_cons] at h
    have hne : (a == q.1) = false := by
      cases z : (a == q.1) with
      | false => rfl
      | true => rw [z] at h; cases h
    rw [hne] at h
    rw [List.cons_append, List.lookup_cons, List.lookup_cons]
    by_cases e : j = q.1
    · rw [e, beq_self_eq_true]
      rw [if_neg (fun z => by rw [z, beq_self_eq_true] at hne; cases hne)]
    · rw [beq_eq_false_iff_ne.mpr e, ih h]
theorem lookup_filter {ks : List (Int × Int)} {a j : Int} : (ks.filter fun p => decide (p.1 ≠ a)).lookup j = if j = a then none else ks.lookup j := by
  induction ks with
  | nil => simp
  | cons q r ih =>
    rw [List.filter_cons]
    by_cases e : q.1 = a
    · rw [if_neg (by rw [decide_eq_true_eq]; exact fun z => z e), ih]
      by_cases c : j = a
      · rw [if_pos c, if_pos c]
      · rw [if_neg c, if_neg c, List.lookup_cons, beq_eq_false_iff_ne.mpr (fun z => c (z.trans e))]
    · rw [if_pos (by rw [decide_eq_true_eq]; exact e), List.lookup_cons, ih, List.lookup_cons]
      by_cases c : j = q.1
      · rw [c, if_neg e]
        simp [e]
      · rw [beq_eq_false_iff_ne.mpr c]
theorem MmRel.setStop {m p : Mm} (h : MmRel m p) {a : Int} (h0 : 0 ≤ a) (h1 : a < 256) : MmRel (m.setStop a) p ∧ ∀ x, x ∈ keys (m.setStop a) ↔ x ∈ keys m ∨ x = a := by
  unfold Mm.setStop
  by_cases e : (m.kept.lookup a).isSome = true
  · rw [if_pos e]
    refine ⟨h, fun x => ⟨.inl, fun z => z.elim id fun z => ?_⟩⟩
    rw [z]
    exact lookup_mem.mp e
  · rw [if_neg e]
    have en : m.kept.lookup a = none := by
      cases y : m.kept.lookup a with
      | none => rfl
      | some b0 => rw [y] at e; exact absurd rfl e
    have hk : ∀ x, x ∈ (m.kept ++ [(a, m.cells.getD a.toNat 0)]).map (·.1) ↔ x ∈ keys m ∨ x = a := fun x => by
      rw [List.map_append, List.mem_append]
      exact ⟨fun z => z.elim .inl fun z => .inr (List.mem_singleton.mp z), fun z => z.elim .inl fun z => .inr (List.mem_singleton.mpr z)⟩
    refine ⟨⟨h.kp, by rw [List.length_set]; exact h.ml, h.pl, ?_, fun q hq => ?_, fun j hj => ?_⟩, hk⟩
    · show ((m.kept ++ [(a, m.cells.getD a.toNat 0)]).map (·.1)).Nodup
      rw [List.map_append, List.nodup_append]
      refine ⟨h.nd, List.nodup_cons.mpr ⟨(fun z => nomatch z), List.nodup_nil⟩, fun x hx y hy => ?_⟩
      have hy : y = a := List.mem_singleton.mp hy
      rintro rfl
      rw [hy] at hx
      exact e (lookup_mem.mpr hx)
    · rcases List.mem_append.mp hq with z | z
      · exact h.ks q z
      · rw [List.mem_singleton.mp z]
        exact ⟨h0, h1⟩
    · have z := h.at' j hj
      show match (m.kept ++ [(a, m.cells.getD a.toNat 0)]).lookup (j : Int) with
        | some b => p.cells.getD j 0 = b ∧ (m.cells.set a.toNat 255).getD j 0 = 255
        | none => (m.cells.set a.toNat 255).getD j 0 = p.cells.getD j 0
      rw [lookup_snoc en, getD_set (by rw [h.ml]; omega)]
      by_cases c : (j : Int) = a
      · rw [if_pos c, if_pos (by omega)]
        rw [c, en] at z
        have ej : a.toNat = j := by omega
        rw [ej]
        exact ⟨z.symm, rfl⟩
      · rw [if_neg c, if_neg (by omega)]
        exact z
theorem MmRel.clearStop {m p : Mm} (h : MmRel m p) {a : Int} (h0 : 0 ≤ a) (h1 : a < 256) : MmRel (m.clearStop a) p ∧ ∀ x, x ∈ keys (m.clearStop a) ↔ x ∈ keys m ∧ x ≠ a := by
  unfold Mm.clearStop
  cases y : m.kept.lookup a with
  | none =>
    refine ⟨h, fun x => ⟨fun z => ⟨z, fun e => ?_⟩, fun z => z.1⟩⟩
    rw [e] at z
    have := lookup_mem.mpr z
    rw [y] at this
    cases this
  | some b =>
    have hk : ∀ x, x ∈ (m.kept.filter fun p => decide (p.1 ≠ a)).map (·.1) ↔ x ∈ keys m ∧ x ≠ a := fun x => by
      constructor
      · intro z
        obtain ⟨q, hq, e⟩ := List.mem_map.mp z
        obtain ⟨h1, h2⟩ := List.mem_filter.mp hq
        exact ⟨List.mem_map.mpr ⟨q, h1, e⟩, by rw [← e]; exact of_decide_eq_true h2⟩
      · rintro ⟨z, n⟩
        obtain ⟨q, hq, e⟩ := List.mem_map.mp z
        exact List.mem_map.mpr ⟨q, List.mem_filter.mpr ⟨hq, decide_eq_true (by rw [e]; exact n)⟩, e⟩
    refine ⟨⟨h.kp, by rw [List.length_set]; exact h.ml, h.pl, ?_, fun q hq => h.ks q (List.mem_filter.mp hq).1, fun j hj => ?_⟩, hk⟩
    · exact List.Nodup.sublist (List.Sublist.map _ List.filter_sublist) h.nd
    · have z := h.at' j hj
      show match (m.kept.filter fun p => decide (p.1 ≠ a)).lookup (j : Int) with
        | some b' => p.cells.getD j 0 = b' ∧ (m.cells.set a.toNat b).getD j 0 = 255
        | none => (m.cells.set a.toNat b).getD j 0 = p.cells.getD j 0
      rw [lookup_filter, getD_set (by rw [h.ml]; omega)]
      by_cases c : (j : Int) = a
      · rw [if_pos c, if_pos (by omega)]
        rw [c, y] at z
        exact z.1.symm
      · rw [if_neg c, if_neg (by omega)]
        exact z
theorem MmRel.raw {m p : Mm} (h : MmRel m p) {j : Nat} (hj : j < 256) : m.cells.getD j 0 = if (j : Int) ∈ keys m then 255 else p.cells.getD j 0 := by
  have z := h.at' j hj
  cases y : m.kept.lookup (j : Int) with
  | none =>
    rw [y] at z
    rw [if_neg (show ¬ (j : Int) ∈ keys m from fun q => by have := lookup_mem.mpr q; rw [y] at this; cases this)]
    exact z
  | some b =>
    rw [y] at z
    rw [if_pos (show (j : Int) ∈ keys m from lookup_mem.mp (by rw [y]; rfl))]
    exact z.2
end MM
end
section
/-! the machine with stops does what the other does -/
namespace MM
open PySem PySem.Spec PyProof.Rows L2
def MemRel (pl : List (Int × Int)) (M N : List Mm) : Prop := M.length = N.length ∧ (∀ i, i < M.length → MmRel (M.getD i dMm) (N.getD i dMm)) ∧ ∀ (i : Nat) a, a ∈ keys (M.getD i dMm) ↔ ((i : Int), a) ∈ pl
def Sim (pl : List (Int × Int)) (S P : MS) : Prop := ∃ M V, S = { P with mem := M, views := V } ∧ MemRel pl M P.mem ∧ V = P.views.filter (ask pl)
section
variable {pl : List (Int × Int)} {M N : List Mm} {S P : MS}
theorem out_d {l : List Mm} {i : Nat} (h : ¬ i < l.length) : l.getD i dMm = dMm := by rw [List.getD_eq_getElem?_getD, List.getElem?_eq_none (by omega)]; rfl
theorem MemRel.img (h : MemRel pl M N) (i : Nat) : (M.getD i dMm).img = (N.getD i dMm).img := by
  by_cases hi : i < M.length
  · have z := h.2.1 i hi
    rw [z.img, z.pimg]
  · rw [out_d hi, out_d (by rw [← h.1]; exact hi)]
theorem MemRel.load (h : MemRel pl M N) (i : Nat) (a : Int) : (M.getD i dMm).load a = (N.getD i dMm).load a := by
  by_cases hi : i < M.length
  · exact (h.2.1 i hi).load a
  · rw [out_d hi, out_d (by rw [← h.1]; exact hi)]
theorem getD_setM {l : List Mm} {i j : Nat} {v : Mm} : (l.set i v).getD j dMm = if i = j ∧ i < l.length then v else l.getD j dMm := by
  rw [List.getD_eq_getElem?_getD, List.getD_eq_getElem?_getD]
  by_cases h : i = j
  · by_cases hi : i < l.length
    · rw [if_pos ⟨h, hi⟩, ← h, List.getElem?_set_self hi]; rfl
    · rw [if_neg (fun z => hi z.2), List.set_eq_of_length_le (by omega)]
  · rw [if_neg (fun z => h z.1), List.getElem?_set_ne h]
theorem MemRel.put (h : MemRel pl M N) {pl' : List (Int × Int)} {p : Nat} {m n : Mm} (hr : p < M.length → MmRel m n) (hk : ∀ (i : Nat) a, a ∈ keys ((M.set p m).getD i dMm) ↔ ((i : Int), a) ∈ pl') : MemRel pl' (M.set p m) (N.set p n) := by
  refine ⟨by rw [List.length_set, List.length_set]; exact h.1, fun i hi => ?_, hk⟩
  rw [List.length_set] at hi
  rw [getD_setM, getD_setM]
  by_cases e : p = i
  · rw [if_pos ⟨e, by omega⟩, if_pos ⟨e, by have := h.1; omega⟩]
    exact hr (by omega)
  · rw [if_neg (fun z => e z.1), if_neg (fun z => e z.1)]
    exact h.2.1 i hi
theorem MemRel.store (h : MemRel pl M N) (p : Nat) (a b : Int) : MemRel pl (M.set p ((M.getD p dMm).store a b)) (N.set p ((N.getD p dMm).store a b)) := by
  refine h.put (fun hp => (h.2.1 p hp).store a b) fun i x => ?_
  rw [getD_setM]
  by_cases e : p = i ∧ p < M.length
  · rw [if_pos e, store_keys1, e.1]
    exact h.2.2 i x
  · rw [if_neg e]
    exact h.2.2 i x
theorem Sim.up {t : Nat} {f : Th → Th} (h : Sim pl S P) : Sim pl (S.up t f) (P.up t f) := by
  obtain ⟨M, V, rfl, m, v⟩ := h
  exact ⟨M, V, rfl, m, v⟩
theorem Sim.tell {kd : Str} {t : Nat} {a : Int} {r : List Int} (h : Sim pl S P) (hk : kd ≠ "insn") : Sim pl (tell S kd t a r) (tell P kd t a r) := by
  obtain ⟨M, V, rfl, m, v⟩ := h
  refine ⟨M, V ++ [⟨kd, P.cpu, P.now, (P.th t).pid, t, a, r, (P.th t).regs, (P.mm (P.th t).pid).img⟩], ?_, m, ?_⟩
  · show MM.tell { P with mem := M, views := V } kd t a r = _
    unfold MM.tell
    show ({ P with mem := M, views := V ++ [⟨kd, P.cpu, P.now, (P.th t).pid, t, a, r, (P.th t).regs, (M.getD (P.th t).pid dMm).img⟩] } : MS) = _
    rw [m.img]
    rfl
  · show _ = (P.views ++ [_]).filter (ask pl)
    rw [List.filter_append, ← v]
    have : ask pl ⟨kd, P.cpu, P.now, (P.th t).pid, t, a, r, (P.th t).regs, (P.mm (P.th t).pid).img⟩ = true := by
      unfold ask
      rw [decide_eq_true (show kd ≠ "insn" from hk)]
      rfl
    rw [List.filter_cons, if_pos this]
    rfl
theorem Sim.tellTick (h : Sim pl S P) : Sim pl (tellTick S) (tellTick P) := by
  obtain ⟨M, V, rfl, m, v⟩ := h
  refine ⟨M, V ++ [⟨"tick", P.cpu, P.now, -1, -1, -1, [], [0, 0, 0, 0], []⟩], rfl, m, ?_⟩
  show _ = (P.views ++ [_]).filter (ask pl)
  rw [List.filter_append, ← v]
  have : ask pl ⟨"tick", P.cpu, P.now, -1, -1, -1, [], [0, 0, 0, 0], []⟩ = true := by
    unfold ask
    rw [decide_eq_true (show ("tick" : Str) ≠ "insn" by decide +kernel)]
    rfl
  rw [List.filter_cons, if_pos this]
  rfl
theorem Sim.th (h : Sim pl S P) (t : Nat) : S.th t = P.th t := by obtain ⟨M, V, rfl, _⟩ := h; rfl
theorem Sim.ths (h : Sim pl S P) : S.ths = P.ths := by obtain ⟨M, V, rfl, _⟩ := h; rfl
theorem Sim.reg (h : Sim pl S P) (t j : Nat) : reg S t j = reg P t j := by obtain ⟨M, V, rfl, _⟩ := h; rfl
theorem Sim.cpu (h : Sim pl S P) : S.cpu = P.cpu := by obtain ⟨M, V, rfl, _⟩ := h; rfl
theorem Sim.now (h : Sim pl S P) : S.now = P.now := by obtain ⟨M, V, rfl, _⟩ := h; rfl
theorem Sim.setReg {t j : Nat} {v : Int} (h : Sim pl S P) : Sim pl (setReg S t j v) (setReg P t j v) := h.up
theorem Sim.setCond {t : Nat} {c : Cond} (h : Sim pl S P) : Sim pl (setCond S t c) (setCond P t c) := h.up
theorem Sim.makeReady {t : Nat} (h : Sim pl S P) : Sim pl (makeReady S t) (makeReady P t) := by
  obtain ⟨M, V, rfl, m, v⟩ := h
  exact ⟨M, V, rfl, m, v⟩
theorem Sim.ready {l : MS → List Nat} (h : Sim pl S P) (e : l S = l P) : Sim pl { S with ready := l S } { P with ready := l P } := by
  rw [e]
  obtain ⟨M, V, rfl, m, v⟩ := h
  exact ⟨M, V, rfl, m, v⟩
theorem Sim.endRun {t : Nat} {c : Cond} (h : Sim pl S P) : Sim pl (endRun S t c) (endRun P t c) := by
  obtain ⟨M, V, rfl, m, v⟩ := h
  exact ⟨M, V, rfl, m, v⟩
theorem Sim.returnCall {t : Nat} {r : Int} (h : Sim pl S P) : Sim pl (returnCall S t r) (returnCall P t r) := by
  have h1 := (h.setReg (t := t) (j := 0) (v := r))
  have h2 : Sim pl (MM.tell (MM.setReg S t 0 r) "return" t ((MM.setReg S t 0 r).th t).callAt [((MM.setReg S t 0 r).th t).call, r]) (MM.tell (MM.setReg P t 0 r) "return" t ((MM.setReg P t 0 r).th t).callAt [((MM.setReg P t 0 r).th t).call, r]) := by
    rw [h1.th t]
    exact h1.tell (by decide +kernel)
  unfold MM.returnCall
  rw [h.th t]
  dsimp only
  split
  · exact h2
  · exact h2.makeReady
theorem Sim.fold {f : MS → Nat → MS} (hf : ∀ S P i, Sim pl S P → Sim pl (f S i) (f P i)) : ∀ (l : List Nat) (S P : MS), Sim pl S P → Sim pl (l.foldl f S) (l.foldl f P)
  | [], _, _, h => h
  | i :: l, _, _, h => Sim.fold hf l _ _ (hf _ _ i h)
theorem Sim.wakeOne {t o : Nat} {c : Int} (h : Sim pl S P) : Sim pl (wakeOne t c S o) (wakeOne t c P o) := by
  unfold MM.wakeOne
  rw [h.th o]
  split
  · exact h.returnCall
  · exact h
theorem Sim.endThread {t : Nat} {a c : Int} (h : Sim pl S P) : Sim pl (endThread S t a c) (endThread P t a c) := by
  unfold MM.endThread
  rw [h.ths]
  exact Sim.fold (f := MM.wakeOne t c) (fun _ _ _ z => z.wakeOne) _ _ _ ((h.tell (kd := "end") (by decide +kernel)).endRun)
theorem Sim.leave {t : Nat} {c : Cond} {r : Int} (h : Sim pl S P) : Sim pl (leave S t c r) (leave P t c r) := by
  have h1 := h.endRun (t := t) (c := c)
  unfold MM.leave
  dsimp only
  rw [h1.th t]
  exact h1.tell (by decide +kernel)
theorem Sim.goLast {t : Nat} {r : Int} (h : Sim pl S P) : Sim pl (goLast S t r) (goLast P t r) := by
  have h1 := h.leave (t := t) (c := .ready) (r := r)
  unfold MM.goLast
  dsimp only
  generalize MM.leave S t .ready r = S1 at h1 ⊢
  generalize MM.leave P t .ready r = P1 at h1 ⊢
  obtain ⟨M, V, rfl, m, v⟩ := h1
  exact ⟨M, V, rfl, m, v⟩
theorem Sim.addThread {p : Nat} {pc f : Int} (h : Sim pl S P) : Sim pl (addThread S p pc f) (addThread P p pc f) := by
  obtain ⟨M, V, rfl, m, v⟩ := h
  exact ⟨M, V, rfl, m, v⟩
theorem Sim.waitFor {t : Nat} {x : Int} (h : Sim pl S P) : Sim pl (waitFor S t x) (waitFor P t x) := by
  unfold MM.waitFor
  rw [h.ths, h.th x.toNat]
  split
  · exact h.returnCall
  · split
    · exact h.returnCall
    · exact h.leave
theorem Sim.doCall {t : Nat} {n a : Int} (h : Sim pl S P) : Sim pl (doCall S t n a) (doCall P t n a) := by
  unfold MM.doCall
  have h1 := h.up (t := t) (f := fun t => { t with call := n, callAt := a })
  generalize (S.up t fun t => { t with call := n, callAt := a }) = S1 at h1 ⊢
  generalize (P.up t fun t => { t with call := n, callAt := a }) = P1 at h1 ⊢
  have h2 : Sim pl (MM.tell S1 "entry" t a [n, MM.reg S1 t 0, MM.reg S1 t 1]) (MM.tell P1 "entry" t a [n, MM.reg P1 t 0, MM.reg P1 t 1]) := by
    rw [h1.reg, h1.reg]
    exact h1.tell (by decide +kernel)
  dsimp only
  generalize MM.tell S1 "entry" t a [n, MM.reg S1 t 0, MM.reg S1 t 1] = S2 at h2 ⊢
  generalize MM.tell P1 "entry" t a [n, MM.reg P1 t 0, MM.reg P1 t 1] = P2 at h2 ⊢
  rw [h2.reg, h2.reg, h2.cpu, h2.now, h2.ths, h2.th t]
  split
  · exact h2.endThread
  split
  · exact h2.returnCall.goLast
  split
  · exact h2.leave
  split
  · refine Sim.leave ?_
    obtain ⟨M, V, rfl, m, v⟩ := h2
    exact ⟨M, V, rfl, m, v⟩
  split
  · split
    · exact h2.returnCall
    · exact h2.addThread.returnCall
  split
  · exact h2.waitFor
  · exact h2.returnCall
theorem Sim.move {t : Nat} {c x y : Int} (h : Sim pl S P) : Sim pl (move S t c x y) (move P t c x y) := by
  unfold MM.move
  dsimp only
  rw [h.reg, h.reg, h.th t]
  split
  · exact h.setReg
  split
  · exact h.setReg
  split
  · exact h.setReg
  split
  · exact h.setReg
  split
  · have e : ∀ i a, (S.mm i).load a = (P.mm i).load a := fun i a => by
      obtain ⟨M, V, rfl, m, v⟩ := h
      exact m.load i a
    rw [e]
    exact h.setReg
  split
  · obtain ⟨M, V, rfl, m, v⟩ := h
    exact ⟨_, V, rfl, m.store _ _ _, v⟩
  · exact h
theorem Sim.doInsn {t : Nat} (h : Sim pl S P) : Sim pl (doInsn true S t) (doInsn false P t) := by
  unfold MM.doInsn
  have el : ∀ i a, (S.mm i).load a = (P.mm i).load a := fun i a => by
    obtain ⟨M, V, rfl, m, v⟩ := h
    exact m.load i a
  have h1 : Sim pl (if (S.mm (S.th t).pid).tells true (S.th t).pc then MM.tell S "insn" t (S.th t).pc [(S.mm (S.th t).pid).load (S.th t).pc] else S) (if (P.mm (P.th t).pid).tells false (P.th t).pc then MM.tell P "insn" t (P.th t).pc [(P.mm (P.th t).pid).load (P.th t).pc] else P) := by
    rw [el]
    obtain ⟨M, V, rfl, m, v⟩ := h
    show Sim pl (if (M.getD (P.th t).pid dMm).tells true (P.th t).pc then MM.tell { P with mem := M, views := V } "insn" t (P.th t).pc [(P.mm (P.th t).pid).load (P.th t).pc] else { P with mem := M, views := V }) (MM.tell P "insn" t (P.th t).pc [(P.mm (P.th t).pid).load (P.th t).pc])
    have hk : (M.getD (P.th t).pid dMm).tells true (P.th t).pc = true ↔ (((P.th t).pid : Int), (P.th t).pc) ∈ pl := by
      rw [← m.2.2]
      exact lookup_mem
    generalize (P.mm (P.th t).pid).load (P.th t).pc = co
    by_cases e : (M.getD (P.th t).pid dMm).tells true (P.th t).pc = true
    · rw [if_pos e]
      refine ⟨M, V ++ [⟨"insn", P.cpu, P.now, (P.th t).pid, t, (P.th t).pc, [co], (P.th t).regs, (P.mm (P.th t).pid).img⟩], ?_, m, ?_⟩
      · unfold MM.tell
        show ({ P with mem := M, views := V ++ [⟨"insn", P.cpu, P.now, (P.th t).pid, t, (P.th t).pc, [co], (P.th t).regs, (M.getD (P.th t).pid dMm).img⟩] } : MS) = _
        rw [m.img]
        rfl
      · show _ = (P.views ++ [_]).filter (ask pl)
        rw [List.filter_append, ← v]
        have : ask pl ⟨"insn", P.cpu, P.now, (P.th t).pid, t, (P.th t).pc, [co], (P.th t).regs, (P.mm (P.th t).pid).img⟩ = true := by
          unfold ask
          rw [decide_eq_true (hk.mp e), Bool.or_true]
        rw [List.filter_cons, if_pos this]
        rfl
    · rw [if_neg e]
      refine ⟨M, V, rfl, m, ?_⟩
      show _ = (P.views ++ [_]).filter (ask pl)
      rw [List.filter_append, ← v]
      have : ask pl ⟨"insn", P.cpu, P.now, (P.th t).pid, t, (P.th t).pc, [co], (P.th t).regs, (P.mm (P.th t).pid).img⟩ = false := by
        unfold ask
        rw [decide_eq_false (fun z => e (hk.mpr z)), Bool.or_false]
        exact decide_eq_false (fun z => z rfl)
      rw [List.filter_cons, if_neg (by rw [this]; exact Bool.false_ne_true), List.filter_nil, List.append_nil]
  dsimp only
  simp only [el, h.th t] at h1 ⊢
  generalize (if (S.mm (P.th t).pid).tells true (P.th t).pc then MM.tell S "insn" t (P.th t).pc [(P.mm (P.th t).pid).load (P.th t).pc] else S) = S1 at h1 ⊢
  generalize (if (P.mm (P.th t).pid).tells false (P.th t).pc then MM.tell P "insn" t (P.th t).pc [(P.mm (P.th t).pid).load (P.th t).pc] else P) = P1 at h1 ⊢
  rw [h1.th t]
  split
  · exact (h1.tell (by decide +kernel)).endThread
  split
  · exact h1.up.endThread
  split
  · exact h1.up.doCall
  split
  · exact h1.up.setReg
  · exact h1.up.move
theorem Sim.wake (h : Sim pl S P) : Sim pl (wake S) (wake P) := by
  unfold MM.wake
  rw [h.ths]
  refine Sim.fold (fun S P i z => ?_) _ _ _ h
  unfold wakeIf
  rw [z.th i, z.cpu, z.now]
  split
  · exact z.returnCall
  · exact z
theorem Sim.runs (h : Sim pl S P) : runs S = runs P := by obtain ⟨M, V, rfl, _⟩ := h; rfl
theorem Sim.beginRun {t : Nat} (h : Sim pl S P) : Sim pl (beginRun S t) (beginRun P t) := by
  unfold MM.beginRun
  have h1 : Sim pl { MM.setCond S t (.running S.cpu) with run := S.run.set S.cpu t } { MM.setCond P t (.running P.cpu) with run := P.run.set P.cpu t } := by
    obtain ⟨M, V, rfl, m, v⟩ := h
    exact ⟨M, V, rfl, m, v⟩
  generalize ({ MM.setCond S t (.running S.cpu) with run := S.run.set S.cpu t } : MS) = S1 at h1 ⊢
  generalize ({ MM.setCond P t (.running P.cpu) with run := P.run.set P.cpu t } : MS) = P1 at h1 ⊢
  dsimp only
  rw [h1.th t]
  exact h1.tell (by decide +kernel)
theorem Sim.doStep (h : Sim pl S P) : Sim pl (doStep true S) (doStep false P) := by
  unfold MM.doStep
  rw [h.runs]
  split
  · exact h.doInsn
  · have e : S.ready = P.ready := by obtain ⟨M, V, rfl, _⟩ := h; rfl
    rw [e]
    split
    · exact h
    · refine Sim.beginRun ?_
      obtain ⟨M, V, rfl, m, v⟩ := h
      exact ⟨M, V, rfl, m, v⟩
theorem Sim.doTimer (h : Sim pl S P) : Sim pl (doTimer S) (doTimer P) := by
  unfold MM.doTimer
  have h1 := h.tellTick
  dsimp only
  rw [h1.runs]
  split
  · exact h1.goLast
  · exact h1
theorem Sim.doRequest (h : Sim pl S P) : Sim pl (doRequest S) (doRequest P) := by
  unfold MM.doRequest
  have e : S.reqs = P.reqs := by obtain ⟨M, V, rfl, _⟩ := h; rfl
  have ed : S.dev = P.dev := by obtain ⟨M, V, rfl, _⟩ := h; rfl
  rw [e]
  split
  · exact h
  · rename_i tid call number r _
    dsimp only
    have h2 : Sim pl (if call = 3 then { S with reqs := r, dev := number } else { S with reqs := r } : MS) (if call = 3 then { P with reqs := r, dev := number } else { P with reqs := r } : MS) := by
      obtain ⟨M, V, rfl, m, v⟩ := h
      split
      · exact ⟨M, V, rfl, m, v⟩
      · exact ⟨M, V, rfl, m, v⟩
    generalize (if call = 3 then { S with reqs := r, dev := number } else { S with reqs := r } : MS) = S1 at h2 ⊢
    generalize (if call = 3 then { P with reqs := r, dev := number } else { P with reqs := r } : MS) = P1 at h2 ⊢
    rw [h2.th tid, ed]
    exact (h2.tell (by decide +kernel)).returnCall
theorem Sim.doPick {cpu : Nat} {what : Str} (h : Sim pl S P) : Sim pl (doPick true S cpu what) (doPick false P cpu what) := by
  unfold MM.doPick
  dsimp only
  have h0 : Sim pl (begin' S cpu) (begin' P cpu) := by
    obtain ⟨M, V, rfl, m, v⟩ := h
    exact ⟨M, V, rfl, m, v⟩
  have h1 := h0.wake
  split
  · exact h1.doStep
  split
  · exact h1.doTimer
  split
  · exact h1.doRequest
  · exact h1
/-- behind a pick the views are taken away -/
theorem Sim.clear (h : Sim pl S P) : Sim pl { S with views := [] } { P with views := [] } := by
  obtain ⟨M, V, rfl, m, v⟩ := h
  exact ⟨M, [], rfl, m, rfl⟩
theorem Sim.views (h : Sim pl S P) : S.views = P.views.filter (ask pl) := by obtain ⟨M, V, rfl, m, v⟩ := h; exact v
theorem Sim.stD (h : Sim pl S P) : stD S = stD P := by
  obtain ⟨M, V, rfl, m, v⟩ := h
  have e : M.map imgD = P.mem.map imgD := by
    refine List.ext_getElem? fun i => ?_
    rw [List.getElem?_map, List.getElem?_map]
    by_cases hi : i < M.length
    · have hi2 : i < P.mem.length := by rw [← m.1]; exact hi
      have z := m.img i
      rw [List.getD_eq_getElem?_getD, List.getD_eq_getElem?_getD, List.getElem?_eq_getElem hi, List.getElem?_eq_getElem hi2] at z
      rw [List.getElem?_eq_getElem hi, List.getElem?_eq_getElem hi2]
      show some (imgD M[i]) = some (imgD P.mem[i])
      unfold imgD
      rw [show M[i].img = P.mem[i].img from z]
    · rw [List.getElem?_eq_none (by omega), List.getElem?_eq_none (by rw [← m.1]; omega)]
  unfold MM.stD
  dsimp only
  rw [e]
end
end MM
end
section
/-! the laws' draws -/
namespace MM
open PySem PySem.Spec PyProof.Rows L2
section
variable {td ty tv : TE} {rd : V → V → Hp → VK → Prop} {nx bk ct : L2.St → Hp → Prop} {rt : V → Hp → Prop} {σ : L2.St} {H : Hp} {Q : VK}
theorem r_daug (h : td σ H fun x H1 => ty σ H1 fun y H2 => ∃ a v, x = .ref a ∧ DGet H2 a y (some v) ∧ tv σ H2 fun y2 H3 => rd v y2 H3 fun z H4 => ∃ H5, DPut H4 a y z H5 ∧ nx σ H5) : sDAug td ty tv rd ⟨nx, rt, bk, ct⟩ σ H := h
theorem r_add {i j : Int} (h : Q (.int (i + j)) H) : rAdd (.int i) (.int j) H Q := ⟨i, j, rfl, rfl, h⟩
end
/-- the drawing's dict and its row -/
def wdD (dl : PySem.Addr) (at' : Int) : List (Key × V) := [(.inr "draws", .ref dl), (.inr "at", .int at')]
def Wd (H : Hp) (pw dl : PySem.Addr) : Prop := ∃ (at' : Int) (ds : List Int), H pw = some (.dK (wdD dl at')) ∧ H dl = some (.lst (ds.map V.int)) ∧ 0 ≤ at' ∧ ds.length ≤ 1000
theorem Wd.same {H H' : Hp} {pw dl : PySem.Addr} (s : Same H H') (d : Wd H pw dl) : Wd H' pw dl := by
  obtain ⟨a, ds, e1, e2, h⟩ := d
  exact ⟨a, ds, s _ _ e1, s _ _ e2, h⟩
theorem Wd.mv {H H' : Hp} {pw dl x : PySem.Addr} (m : R.Mv x H H') (d : Wd H pw dl) (h1 : pw ≠ x) (h2 : dl ≠ x) : Wd H' pw dl := by
  obtain ⟨a, ds, e1, e2, h⟩ := d
  exact ⟨a, ds, m _ _ e1 h1, m _ _ e2 h2, h⟩
/-- pw's drawing goes on, all else stands -/
def Gw (pw dl : PySem.Addr) (H H' : Hp) : Prop := R.Mv pw H H' ∧ Wd H' pw dl
theorem Gw.trans {pw dl : PySem.Addr} {H H1 H2 : Hp} (a : Gw pw dl H H1) (b : Gw pw dl H1 H2) : Gw pw dl H H2 := ⟨a.1.trans b.1, b.2⟩
theorem Gw.sm {pw dl : PySem.Addr} {H H1 H2 : Hp} (a : Gw pw dl H H1) (s : Same H1 H2) : Gw pw dl H H2 := ⟨a.1.trans (R.Mv.of s), a.2.same s⟩
theorem Gw.refl {pw dl : PySem.Addr} {H : Hp} (d : Wd H pw dl) : Gw pw dl H H := ⟨R.Mv.refl, d⟩
theorem Wd.ne {H : Hp} {pw dl b : PySem.Addr} (d : Wd H pw dl) (h : H b = none) : b ≠ pw ∧ b ≠ dl := by
  obtain ⟨a, ds, e1, e2, _⟩ := d
  exact ⟨(ne_of_none e1 h).symm, (ne_of_none e2 h).symm⟩
def spDraws (K : PySem.W.Frag) : Sp := fun vs H Q _ => ∃ (a : PySem.Addr) (ns : List Int) (many : Int), vs = [.ref a, .int many] ∧ SqL K H a (ns.map V.int) ∧ ns.length ≤ 63 ∧ 0 ≤ many ∧ many ≤ 1000 ∧
  ∀ p (ds : List Int) H', Same H H' → H p = none → H' p = some (.lst (ds.map V.int)) → ds.length ≤ 1000 → Q (.ref p) H'
def spNext : Sp := fun vs H Q _ => ∃ (pw dl : PySem.Addr) (many : Int), vs = [.ref pw, .int many] ∧ 0 < many ∧ Wd H pw dl ∧ ∀ H' v, 0 ≤ v → v < many → Gw pw dl H H' → Q (.int v) H'
def spProg : Sp := fun vs H Q _ => ∃ (pw dl : PySem.Addr), vs = [.ref pw] ∧ Wd H pw dl ∧ ∀ H' p (ns : List Int), Gw pw dl H H' → H' p = some (.tup (ns.map V.int)) → ns.length ≤ 256 → (∀ b ∈ ns, 0 ≤ b) → Q (.ref p) H'
def Pks : List Str := ["step", "step", "step", "step", "step", "step", "timer", "device"]
def spPick : Sp := fun vs H Q _ => ∃ (pw dl : PySem.Addr) (cpus : Int), vs = [.ref pw, .int cpus] ∧ 0 < cpus ∧ Wd H pw dl ∧ ∀ H' p (c : Int) what, Gw pw dl H H' → H' p = some (.tup [.int c, .str what]) → 0 ≤ c → c < cpus → Q (.ref p) H'
theorem cut_pre {ds : List Int} {many : Int} (h0 : 0 ≤ many) (h1 : many ≤ 1000) : ∃ ds' : List Int, cutV (ds.map V.int) none (some many) = ds'.map V.int ∧ ds'.length ≤ 1000 := by
  obtain ⟨m, rfl⟩ := Int.eq_ofNat_of_zero_le h0
  refine ⟨ds.take (min m ds.length), ?_, ?_⟩
  · unfold cutV
    rw [HT.sIx_none, List.drop_zero, HT.sIx_nat, List.length_map, Nat.sub_zero, List.map_take]
  · rw [List.length_take]
    omega
end MM
namespace MM
open PySem PySem.Spec PyProof.Rows L2
theorem pickV {α : Type} {f : α → V} {xs : List α} {i : Int} (h0 : 0 ≤ i) (h1 : i < xs.length) : ∃ v ∈ xs, atI (xs.map f) i = some (f v) := by
  have h : i.toNat < xs.length := by omega
  exact ⟨xs[i.toNat], List.getElem_mem h, R.at_nat h0 (by rw [List.getElem?_map, List.getElem?_eq_getElem h]; rfl)⟩
/-- a row of numbers at a list of its own -/
structure Rw (pw dl : PySem.Addr) (H : Hp) (rl : PySem.Addr) (n : Nat) (H' : Hp) : Prop where
  g : Gw pw dl H H'
  r : ∃ ns : List Int, H' rl = some (.lst (ns.map V.int)) ∧ ns.length ≤ n ∧ ∀ b ∈ ns, 0 ≤ b
theorem Rw.ne {pw dl : PySem.Addr} {H : Hp} {rl : PySem.Addr} {n : Nat} {H' : Hp} (w : Rw pw dl H rl n H') : rl ≠ pw := fun z => by
  obtain ⟨ns, e, _⟩ := w.r
  obtain ⟨a, ds, e1, _⟩ := w.g.2
  rw [z, e1] at e
  cases e
theorem Rw.go {pw dl : PySem.Addr} {H H1 H2 : Hp} {rl : PySem.Addr} {n : Nat} (w : Rw pw dl H rl n H1) (g : Gw pw dl H1 H2) : Rw pw dl H rl n H2 := by
  have ne := w.ne
  obtain ⟨ns, e, l, b⟩ := w.r
  exact ⟨w.g.trans g, ns, g.1 _ _ e ne, l, b⟩
theorem Rw.sm {pw dl : PySem.Addr} {H H1 H2 : Hp} {rl : PySem.Addr} {n : Nat} (w : Rw pw dl H rl n H1) (s : Same H1 H2) : Rw pw dl H rl n H2 := by
  obtain ⟨ns, e, l, b⟩ := w.r
  exact ⟨w.g.sm s, ns, s _ _ e, l, b⟩
theorem Rw.mono {pw dl : PySem.Addr} {H H1 : Hp} {rl : PySem.Addr} {n m : Nat} (w : Rw pw dl H rl n H1) (h : n ≤ m) : Rw pw dl H rl m H1 := by
  obtain ⟨ns, e, l, b⟩ := w.r
  exact ⟨w.g, ns, e, Nat.le_trans l h, b⟩
/-- row + [..], a new row -/
theorem Rw.cat {pw dl : PySem.Addr} {H H1 : Hp} {rl : PySem.Addr} {n m : Nat} {Q : VK} (w : Rw pw dl H rl n H1) {b : PySem.Addr} {zs : List Int} (e : H1 b = some (.lst (zs.map V.int))) (hz : ∀ x ∈ zs, 0 ≤ x) (hm : n + zs.length ≤ m) (h1000 : m ≤ 1000)
    (h : ∀ p H2, Rw pw dl H p m H2 → Q (.ref p) H2) : rCat (.ref rl) (.ref b) H1 Q := by
  obtain ⟨ns, er, l, bb⟩ := w.r
  refine ⟨_, _, _, _, rfl, rfl, er, e, R.size_of (by rw [List.length_map, List.length_map]; omega), fun p hp => h p _ ⟨w.g.sm (R.same_new hp), ns ++ zs, ?_, ?_, ?_⟩⟩
  · rw [upd_same, List.map_append]
  · rw [List.length_append]; omega
  · intro x hx
    rcases List.mem_append.mp hx with z | z
    · exact bb x z
    · exact hz x z
end MM
end
section
/-! the law: kinds of views, places in a list -/
namespace MM
open PySem PySem.Spec PyProof.Rows L2
def KOk (S : MS) : Prop := ∀ w ∈ S.views, PyData.strOk w.kind = true
section
variable {S S' : MS}
theorem KOk.vw (h : KOk S) (e : S'.views = S.views) : KOk S' := fun w hw => h w (by rw [← e]; exact hw)
theorem KOk.tell {kd : Str} {t : Nat} {a : Int} {r : List Int} (h : KOk S) (hk : PyData.strOk kd = true) : KOk (tell S kd t a r) := fun w hw => by
  rcases List.mem_append.mp hw with z | z
  · exact h w z
  · rw [List.mem_singleton.mp z]; exact hk
theorem KOk.tellTick (h : KOk S) : KOk (tellTick S) := fun w hw => by
  rcases List.mem_append.mp hw with z | z
  · exact h w z
  · rw [List.mem_singleton.mp z]
    show PyData.strOk "tick" = true
    decide +kernel
theorem KOk.fold {f : MS → Nat → MS} (hf : ∀ S i, KOk S → KOk (f S i)) : ∀ (l : List Nat) (S : MS), KOk S → KOk (l.foldl f S)
  | [], _, h => h
  | i :: l, _, h => KOk.fold hf l _ (hf _ _ h)
theorem KOk.returnCall {t : Nat} {r : Int} (h : KOk S) : KOk (returnCall S t r) := by
  unfold MM.returnCall
  dsimp only
  have h1 : KOk (MM.tell (MM.setReg S t 0 r) "return" t ((MM.setReg S t 0 r).th t).callAt [((MM.setReg S t 0 r).th t).call, r]) := KOk.tell (h.vw rfl) (by decide +kernel)
  split
  · exact h1
  · exact h1.vw rfl
theorem KOk.wakeOne {t o : Nat} {c : Int} (h : KOk S) : KOk (wakeOne t c S o) := by
  unfold MM.wakeOne
  split
  · exact h.returnCall
  · exact h
theorem KOk.endThread {t : Nat} {a c : Int} (h : KOk S) : KOk (endThread S t a c) := by
  unfold MM.endThread
  have h1 : KOk (MM.tell S "end" t a [c]) := h.tell (by decide +kernel)
  exact KOk.fold (f := MM.wakeOne t c) (fun _ _ z => z.wakeOne) _ _ (h1.vw rfl)
theorem KOk.leave {t : Nat} {c : Cond} {r : Int} (h : KOk S) : KOk (leave S t c r) := by
  unfold MM.leave
  exact KOk.tell (h.vw rfl) (by decide +kernel)
theorem KOk.goLast {t : Nat} {r : Int} (h : KOk S) : KOk (goLast S t r) := by
  unfold MM.goLast
  exact (h.leave (t := t) (c := .ready) (r := r)).vw rfl
theorem KOk.waitFor {t : Nat} {x : Int} (h : KOk S) : KOk (waitFor S t x) := by
  unfold MM.waitFor
  split
  · exact h.returnCall
  · split
    · exact h.returnCall
    · exact h.leave
theorem KOk.doCall {t : Nat} {n a : Int} (h : KOk S) : KOk (doCall S t n a) := by
  unfold MM.doCall
  have h1 : KOk (S.up t fun t => { t with call := n, callAt := a }) := h.vw rfl
  generalize (S.up t fun t => { t with call := n, callAt := a }) = S1 at h1 ⊢
  have h2 : KOk (MM.tell S1 "entry" t a [n, MM.reg S1 t 0, MM.reg S1 t 1]) := h1.tell (by decide +kernel)
  dsimp only
  generalize MM.tell S1 "entry" t a [n, MM.reg S1 t 0, MM.reg S1 t 1] = S2 at h2 ⊢
  split
  · exact h2.endThread
  split
  · exact h2.returnCall.goLast
  split
  · exact h2.leave
  split
  · exact KOk.leave (h2.vw rfl)
  split
  · split
    · exact h2.returnCall
    · exact KOk.returnCall (h2.vw rfl)
  split
  · exact h2.waitFor
  · exact h2.returnCall
theorem KOk.move {t : Nat} {c x y : Int} (h : KOk S) : KOk (move S t c x y) := by
  unfold MM.move
  dsimp only
  repeat' split
  all_goals exact h.vw rfl
theorem KOk.doInsn {kd : Bool} {t : Nat} (h : KOk S) : KOk (doInsn kd S t) := by
  unfold MM.doInsn
  dsimp only
  have h1 : KOk (if (S.mm (S.th t).pid).tells kd (S.th t).pc then MM.tell S "insn" t (S.th t).pc [(S.mm (S.th t).pid).load (S.th t).pc] else S) := by
    split
    · exact h.tell (by decide +kernel)
    · exact h
  generalize (if (S.mm (S.th t).pid).tells kd (S.th t).pc then MM.tell S "insn" t (S.th t).pc [(S.mm (S.th t).pid).load (S.th t).pc] else S) = S1 at h1 ⊢
  split
  · exact (h1.tell (by decide +kernel)).endThread
  split
  · exact KOk.endThread (h1.vw rfl)
  split
  · exact KOk.doCall (h1.vw rfl)
  split
  · exact h1.vw rfl
  · exact KOk.move (h1.vw rfl)
theorem KOk.wake (h : KOk S) : KOk (wake S) := by
  unfold MM.wake
  refine KOk.fold (fun S i z => ?_) _ _ h
  unfold wakeIf
  split
  · exact z.returnCall
  · exact z
theorem KOk.beginRun {t : Nat} (h : KOk S) : KOk (beginRun S t) := by
  unfold MM.beginRun
  exact KOk.tell (h.vw rfl) (by decide +kernel)
theorem KOk.doStep {kd : Bool} (h : KOk S) : KOk (doStep kd S) := by
  unfold MM.doStep
  split
  · exact h.doInsn
  · split
    · exact h
    · exact KOk.beginRun (h.vw rfl)
theorem KOk.doTimer (h : KOk S) : KOk (doTimer S) := by
  unfold MM.doTimer
  have h1 := h.tellTick
  dsimp only
  split
  · exact h1.goLast
  · exact h1
theorem KOk.doRequest (h : KOk S) : KOk (doRequest S) := by
  unfold MM.doRequest
  split
  · exact h
  · rename_i tid call number r _
    dsimp only
    have h2 : KOk (if call = 3 then { S with reqs := r, dev := number } else { S with reqs := r } : MS) := by
      split
      · exact h.vw rfl
      · exact h.vw rfl
    exact (h2.tell (by decide +kernel)).returnCall
theorem KOk.doPick {kd : Bool} {cpu : Nat} {what : Str} (h : KOk S) : KOk (doPick kd S cpu what) := by
  unfold MM.doPick
  dsimp only
  have h1 : KOk (MM.wake (begin' S cpu)) := KOk.wake (h.vw rfl)
  split
  · exact h1.doStep
  split
  · exact h1.doTimer
  split
  · exact h1.doRequest
  · exact h1
theorem KOk.nil (h : S.views = []) : KOk S := fun w hw => by rw [h] at hw; cases hw
end
/-- places -/
def prD (p : Int × Int) : PyData := .tuple [.int p.1, .int p.2]
theorem sh_pr (p : Int × Int) : D.Sh 1 (prD p) := .tup (.cons (.int _) (.cons (.int _) .nil))
theorem sh_prs (l : List (Int × Int)) : D.Sh 2 (.list (l.map prD)) := .lst fun y hy => by
  obtain ⟨m, _, e⟩ := List.mem_map.mp hy
  rw [← e]; exact sh_pr m
theorem inj_pr {p q : Int × Int} : prD p = prD q ↔ p = q := by
  obtain ⟨a, b⟩ := p
  obtain ⟨c, d⟩ := q
  simp only [prD, PyData.tuple.injEq, List.cons.injEq, PyData.int.injEq, and_true, Prod.mk.injEq]
theorem any_pr {pl : List (Int × Int)} {p : Int × Int} : ((pl.map prD).any fun z => PyData.eqv z (prD p)) = decide (p ∈ pl) := by
  rw [Bool.eq_iff_iff, List.any_eq_true, decide_eq_true_iff]
  constructor
  · rintro ⟨z, hz, e⟩
    obtain ⟨q, hq, rfl⟩ := List.mem_map.mp hz
    rw [D.eqv_nb _ _ (sh_pr q).n (sh_pr p).n, inj_pr] at e
    rw [← e]; exact hq
  · intro h
    exact ⟨prD p, List.mem_map_of_mem h, (D.eqv_nb _ _ (sh_pr p).n (sh_pr p).n).mpr rfl⟩
/-- a list of places -/
def PlAt (H : Hp) (l : PySem.Addr) (pl : List (Int × Int)) : Prop := ∃ ps : List PySem.Addr, H l = some (.lst (ps.map V.ref)) ∧ All2 (PrAt H) ps pl
theorem PlAt.same {H H' : Hp} (s : Same H H') {l : PySem.Addr} {pl : List (Int × Int)} (h : PlAt H l pl) : PlAt H' l pl := by
  obtain ⟨ps, e, al⟩ := h
  exact ⟨ps, s _ _ e, al.imp fun _ _ z => s _ _ z⟩
theorem PlAt.dp {K : PySem.W.Frag} {H : Hp} {l : PySem.Addr} {pl : List (Int × Int)} (h : PlAt H l pl) : Dp K H (.ref l) (.list (pl.map prD)) := by
  obtain ⟨ps, e, al⟩ := h
  exact .lst (R.sqL e) (dp_all2 (fun _ _ z => dp_pr z) al)
theorem r_inPr {K : PySem.W.Frag} {H : Hp} {Q : VK} {l x : PySem.Addr} {pl : List (Int × Int)} {p : Int × Int} (h : PlAt H l pl) (hx : H x = some (.tup [.int p.1, .int p.2])) (q : Q (.bl (decide (p ∈ pl))) H) : rInD K (.ref x) (.ref l) H Q :=
  ⟨prD p, pl.map prD, dp_pr hx, h.dp, (sh_pr p).shaped (by decide), (sh_prs pl).shaped (by decide), by rw [any_pr]; exact q⟩
theorem r_ninPr {K : PySem.W.Frag} {H : Hp} {Q : VK} {l x : PySem.Addr} {pl : List (Int × Int)} {p : Int × Int} (h : PlAt H l pl) (hx : H x = some (.tup [.int p.1, .int p.2])) (q : Q (.bl (!decide (p ∈ pl))) H) : rNotInD K (.ref x) (.ref l) H Q :=
  ⟨prD p, pl.map prD, dp_pr hx, h.dp, (sh_pr p).shaped (by decide), (sh_prs pl).shaped (by decide), by rw [any_pr]; exact q⟩
/-- the views asked for -/
def spAsked : Sp := fun vs H Q _ => ∃ (v l : PySem.Addr) (vw : List PySem.Addr) (ws : List Vw) (pl : List (Int × Int)), vs = [.ref v, .ref l] ∧ H v = some (.lst (vw.map V.ref)) ∧ All2 (VwAt H) vw ws ∧ ws.length ≤ 70000 ∧ PlAt H l pl ∧
  ∀ D vw' H', Same H H' → H D = none → H' D = some (.lst (vw'.map V.ref)) → All2 (VwAt H') vw' (ws.filter (ask pl)) → Q (.ref D) H'
theorem take_filter {α : Type} {l : List α} {i : Nat} {x : α} {f : α → Bool} (h : l[i]? = some x) : (l.take (i + 1)).filter f = (l.take i).filter f ++ (if f x = true then [x] else []) := by
  rw [take_snoc h, List.filter_append, List.filter_cons, List.filter_nil]
theorem vw_same {H H' : Hp} (s : Same H H') {a : PySem.Addr} {w : Vw} (h : VwAt H a w) : VwAt H' a w := h.keep fun b xs e => s _ _ e
section
variable {tl : TE} {tb : TS} {g : TG} {σ : L2.St} {H : Hp} {nx bk ct : L2.St → Hp → Prop} {rt : V → Hp → Prop} {j : Nat} {K : PySem.W.Frag}
theorem r_forL (h : tl σ H fun x H1 => ∃ a, x = .ref a ∧ (∃ xs, SqL K H1 a xs) ∧ FW (Itl K a) g tb nx rt σ H1) : tFor (iList K tl) g tb ⟨nx, rt, bk, ct⟩ σ H := h
theorem for_list {a : PySem.Addr} {xs : List V} (Pv : Nat → L2.St → Hp → Prop) (h0 : Pv 0 σ H) (hG : ∀ i σ H, Pv i σ H → SqL K H a xs)
    (hs : ∀ i v σ H, xs[i]? = some v → Pv i σ H → tb ⟨Pv (i + 1), rt, nx, Pv (i + 1)⟩ (σ.set j (some v)) H) (hd : ∀ σ H, Pv xs.length σ H → nx σ H) :
    FW (Itl K a) (gName j) tb nx rt σ H := by
  refine for_it (D := ⟨nx, rt, fun _ _ => False, fun _ _ => False⟩) (walk_list (xs := xs)) Pv h0 (fun i σ H _ p => hG i σ H p) (fun i x σ H H' hi p y => ?_) hd
  obtain ⟨rfl, e⟩ := y
  exact hs i x σ _ e p
end
end MM
end
section
namespace MM
open PySem PySem.Spec PyProof.Rows L2
theorem Sim.raw {pl : List (Int × Int)} {S P : MS} (h : Sim pl S P) {i : Nat} (hi : i < P.mem.length) : i < S.mem.length ∧ (S.mm i).cells.length = 256 ∧ (P.mm i).img.length = 256 ∧
    ∀ j : Nat, j < 256 → (S.mm i).cells.getD j 0 = if ((i : Int), (j : Int)) ∈ pl then 255 else (P.mm i).img.getD j 0 := by
  obtain ⟨M, V, rfl, m, v⟩ := h
  have hi' : i < M.length := by rw [m.1]; exact hi
  have r := m.2.1 i hi'
  have ep : (P.mm i).img = (P.mm i).cells := r.pimg
  refine ⟨hi', r.ml, by rw [ep]; exact r.pl, fun j hj => ?_⟩
  rw [ep]
  have z := r.raw hj
  have k := m.2.2 i (j : Int)
  show (M.getD i dMm).cells.getD j 0 = _
  rw [z]
  by_cases e : ((i : Int), (j : Int)) ∈ pl
  · rw [if_pos e, if_pos (k.mpr e)]
  · rw [if_neg e, if_neg (fun q => e (k.mp q))]
    rfl
theorem ints_at {l : List Int} {n j : Nat} (hl : l.length = n) (hj : j < n) : atI (l.map V.int) (j : Int) = some (.int (l.getD j 0)) := by
  refine atI_nat ?_
  rw [List.getElem?_map, getD_some (by omega)]
  rfl
end MM
theorem op_eqDK {X : L2.Cx} {K0 : PySem.W.Frag} (hK : X.K = K0) (hu : X.A.units + 64 < PySem.cLine) : L2.OpR X (PySem.compareOp .Eq) (L2.rEqD K0) := hK ▸ L2.op_eqD hu
theorem op_neDK {X : L2.Cx} {K0 : PySem.W.Frag} (hK : X.K = K0) (hu : X.A.units + 64 < PySem.cLine) : L2.OpR X (PySem.compareOp .NotEq) (L2.rNeD K0) := hK ▸ L2.op_neD hu
end
section
/-! list(zip(a, b)) of two tuples -/
namespace Zl
open PySem PySem.Spec PyProof.Rows L2
section
variable {P : Program} {w : World} {A : Around} {E : Value → Shared → Prop} {s : Shared} {z TI TO T u1 u2 a b : Addr} {f : Bool} {oT : Obj} {k : Nat} {xs ys : Array Value} {x y : Value}
/-- the zip's next while what it gave out last is still there -/
theorem held_item {Q : Value → Shared → Prop} (D : ZipApart z TI TO u1 u2 a b) (hz : IsZipHeld s.heap z TI TO T f) (hT : s.heap.get? T = some oT) (hI : IsPair s.heap TI (.ref u1) (.ref u2))
    (h1 : s.heap.IsTupleIter u1 a k) (h2 : s.heap.IsTupleIter u2 b k) (ha : s.heap.IsTuple a xs) (hb : s.heap.IsTuple b ys) (hx : xs[k]? = some x) (hy : ys[k]? = some y)
    (go : ∀ h', IsZipHeld h' z TI TO T true → h'.IsTupleIter u1 a (k + 1) → h'.IsTupleIter u2 b (k + 1) → IsPair h' s.heap.objs.size x y → h'.objs.size = s.heap.objs.size + 1 →
      (∀ c o, c ≠ z → c ≠ u1 → c ≠ u2 → s.heap.get? c = some o → h'.get? c = some o) → Q (.ref s.heap.objs.size) { s with heap := h' }) :
    wpAny (model P w) A (Builtin.«zip.__next__» ⟨[.ref z], []⟩) (fun fin s' => ∃ v, fin = .done (.ret v) ∧ Q v s') E s := by
  show wpAny _ _ (field (.ref z) 2 >>= _) _ _ s
  refine wpAny_bind (wpAny_field hz rfl (x := Value.bool false) rfl ?_)
  show wpAny _ _ (field (.ref z) 3 >>= _) _ _ s
  refine wpAny_bind (wpAny_field hz rfl (x := Value.ref TI) rfl (wpAny_bind (wpAny_seqItems hI rfl ?_)))
  show wpAny _ _ (Builtin.SmallTypes.ownedTupleIsFree (.ref z) >>= _) _ _ s
  refine wpAny_bind (wpAny_tupleHeld_zip hz hT fun g1 z1 b1 => ?_)
  simp only [Bool.false_eq_true, if_false]
  refine wpAny_bind ?_
  rw [← Array.forIn_toList]
  simp only [List.forIn_cons, List.forIn_nil]
  refine wpAny_bind (wpAny_bind (wpAny_holding ?_))
  show wpAny _ _ (Builtin.SmallTypes.nextOf (.ref u1) >>= _) _ _ _
  refine wpAny_bind (RZ.nextOf_tuple_item (s := { s with heap := g1 }) (h1.extBut b1.extBut D.i1z) (ha.extBut b1.extBut D.l1z) hx fun g2 p2 b2 => wpAny_pure (wpAny_pure ?_))
  refine wpAny_bind (wpAny_bind (wpAny_holding ?_))
  show wpAny _ _ (Builtin.SmallTypes.nextOf (.ref u2) >>= _) _ _ _
  refine wpAny_bind (RZ.nextOf_tuple_item (s := { s with heap := g2 }) ((h2.extBut b1.extBut D.i2z).extBut b2.extBut D.i12.symm) ((hb.extBut b1.extBut D.l2z).extBut b2.extBut D.l2i1) hy fun g3 p3 b3 => wpAny_pure (wpAny_pure (wpAny_pure ?_)))
  show wpAny _ _ (newTuple [x, y] >>= _) _ _ _
  refine wpAny_bind (wpAny_newTuple ?_)
  have sz : g3.objs.size = s.heap.objs.size := by rw [b3.1, b2.1, b1.1]
  have z3 : IsZipHeld g3 z TI TO T true := b3.extBut _ _ D.i2z.symm (b2.extBut _ _ D.i1z.symm z1)
  have kp : ∀ c o, c ≠ z → c ≠ u1 → c ≠ u2 → s.heap.get? c = some o → g3.get? c = some o := fun c o n1 n2 n3 e => b3.extBut _ _ n3 (b2.extBut _ _ n2 (b1.extBut _ _ n1 e))
  have q3 : g3.IsTupleIter u1 a (k + 1) := p2.extBut b3.extBut D.i12
  refine wpAny_pure ⟨_, rfl, ?_⟩
  show Q (.ref g3.objs.size) _
  have pr : IsPair (g3.push { cls := .type "tuple", data := .seq #[x, y] }) g3.objs.size x y := Heap.get?_push_size _ rfl
  have s4 : (g3.push { cls := .type "tuple", data := .seq #[x, y] }).objs.size = g3.objs.size + 1 := Heap.size_push ..
  rw [sz] at pr s4 ⊢
  exact go _ (Heap.get?_push_of_some _ z3) (q3.at fun o e => Heap.get?_push_of_some _ e) (p3.at fun o e => Heap.get?_push_of_some _ e) pr s4 fun c o n1 n2 n3 e => Heap.get?_push_of_some _ (kp c o n1 n2 n3 e)
theorem held_end {Q : Fin → Shared → Prop} (hh : A.handled = none) (D : ZipApart z TI TO u1 u2 a b) (hz : IsZipHeld s.heap z TI TO T f) (hT : s.heap.get? T = some oT) (hI : IsPair s.heap TI (.ref u1) (.ref u2))
    (h1 : s.heap.IsTupleIter u1 a k) (h2 : s.heap.IsTupleIter u2 b k) (ha : s.heap.IsTuple a xs) (hb : s.heap.IsTuple b ys) (hend : xs[k]? = none ∨ ys[k]? = none)
    (go : ∀ h' e, (∀ c o, c ≠ z → c ≠ u1 → c ≠ u2 → s.heap.get? c = some o → h'.get? c = some o) → (∃ o, h'.get? e = some o ∧ o.cls = .type "StopIteration") → E (.ref e) { s with heap := h' }) :
    wpAny (model P w) A (Builtin.«zip.__next__» ⟨[.ref z], []⟩) Q E s := by
  show wpAny _ _ (field (.ref z) 2 >>= _) _ _ s
  refine wpAny_bind (wpAny_field hz rfl (x := Value.bool false) rfl ?_)
  show wpAny _ _ (field (.ref z) 3 >>= _) _ _ s
  refine wpAny_bind (wpAny_field hz rfl (x := Value.ref TI) rfl (wpAny_bind (wpAny_seqItems hI rfl ?_)))
  show wpAny _ _ (Builtin.SmallTypes.ownedTupleIsFree (.ref z) >>= _) _ _ s
  refine wpAny_bind (wpAny_tupleHeld_zip hz hT fun g1 z1 b1 => ?_)
  simp only [Bool.false_eq_true, if_false]
  refine wpAny_bind ?_
  rw [← Array.forIn_toList]
  simp only [List.forIn_cons, List.forIn_nil]
  refine wpAny_bind (wpAny_bind (wpAny_holding ?_))
  show wpAny _ _ (Builtin.SmallTypes.nextOf (.ref u1) >>= _) _ _ _
  cases hx : xs[k]? with
  | none =>
    exact wpAny_bind (RZ.nextOf_tuple_end (s := { s with heap := g1 }) hh (h1.extBut b1.extBut D.i1z) (ha.extBut b1.extBut D.l1z) hx fun g2 e b2 he => go g2 e (fun c o n1 n2 _ q => b2 _ _ n2 (b1.extBut _ _ n1 q)) he)
  | some x =>
    have hy : ys[k]? = none := hend.elim (fun h => by rw [hx] at h; cases h) id
    refine wpAny_bind (RZ.nextOf_tuple_item (s := { s with heap := g1 }) (h1.extBut b1.extBut D.i1z) (ha.extBut b1.extBut D.l1z) hx fun g2 p2 b2 => wpAny_pure (wpAny_pure ?_))
    refine wpAny_bind (wpAny_bind (wpAny_holding ?_))
    show wpAny _ _ (Builtin.SmallTypes.nextOf (.ref u2) >>= _) _ _ _
    exact wpAny_bind (RZ.nextOf_tuple_end (s := { s with heap := g2 }) hh ((h2.extBut b1.extBut D.i2z).extBut b2.extBut D.i12.symm) ((hb.extBut b1.extBut D.l2z).extBut b2.extBut D.l2i1) hy fun g3 e b3 he => go g3 e (fun c o n1 n2 n3 q => b3 _ _ n3 (b2.extBut _ _ n2 (b1.extBut _ _ n1 q))) he)
/-- how a zip stands at turn i -/
def ZSt (h : Heap) (z TI TO u1 u2 a b S : Addr) (i : Nat) : Prop := IsPair h TI (.ref u1) (.ref u2) ∧ h.IsTupleIter u1 a i ∧ h.IsTupleIter u2 b i ∧
  ((IsZip h z TI TO .none ∧ ∃ p q, IsPair h TO p q) ∨ ∃ T f oT, IsZipHeld h z TI TO T f ∧ h.get? T = some oT ∧ S < T)
theorem ZSt.type {h : Heap} {S : Addr} {i : Nat} (t : ZSt h z TI TO u1 u2 a b S i) : ∃ o, h.get? z = some o ∧ o.cls = .type "zip" := by
  rcases t.2.2.2 with ⟨e, _⟩ | ⟨T, f, oT, e, _⟩
  · exact ⟨_, e, rfl⟩
  · exact ⟨_, e, rfl⟩
theorem st_item {i : Nat} {S : Addr} {Q : Option Value → Shared → Prop} (D : ZipApart z TI TO u1 u2 a b) (zS : z < S) (Sl : S < s.heap.objs.size) (t : ZSt s.heap z TI TO u1 u2 a b S i) (ha : s.heap.IsTuple a xs) (hb : s.heap.IsTuple b ys) (hx : xs[i]? = some x) (hy : ys[i]? = some y)
    (go : ∀ h', ZSt h' z TI TO u1 u2 a b S (i + 1) → IsPair h' s.heap.objs.size x y → h'.objs.size = s.heap.objs.size + 1 → (∀ c o, c ≠ z → c ≠ TO → c ≠ u1 → c ≠ u2 → s.heap.get? c = some o → h'.get? c = some o) → Q (some (.ref s.heap.objs.size)) { s with heap := h' }) :
    wpAny (model P w) A (pyNext (.ref z)) Q E s := by
  obtain ⟨hI, h1, h2, ⟨hz, p, q, hO⟩ | ⟨T, f, oT, hz, hT, lt⟩⟩ := t
  · refine RZ.pyNext_zipT_item D hz hI hO h1 h2 ha hb hx hy fun h' a1 a2 a3 a4 a5 a6 a7 => go h' ⟨a7 _ _ D.TIz D.TITO D.TIi1 D.TIi2 hI, a3, a4, .inr ⟨_, false, _, a1, a5, Sl⟩⟩ a5 a6 a7
  · have ty : s.TypeIs (.ref z) "zip" := ⟨_, hz, rfl⟩
    unfold pyNext
    refine wpAny_bind (wpAny_attempt (wpAny_callSpecial?_slot (name := Str.ofString "__next__") ty PySem.F.slot_zip_next (wpAny_call_entry PySem.F.slot_zip_next ty PySem.F.entry_zip_next
      (held_item D hz hT hI h1 h2 ha hb hx hy fun h' a1 a3 a4 a5 a6 a7 => wpAny_pure (go h' ⟨a7 _ _ D.TIz D.TIi1 D.TIi2 hI, a3, a4, ?_⟩ a5 a6 fun c o n1 _ n3 n4 e => a7 c o n1 n3 n4 e)) (PySem.F.args_zip_next_1 _))))
    by_cases c1 : T = u1
    · obtain ⟨o, eo, _⟩ := a3
      exact .inr ⟨T, true, o, a1, by rw [c1]; exact eo, lt⟩
    by_cases c2 : T = u2
    · obtain ⟨o, eo, _⟩ := a4
      exact .inr ⟨T, true, o, a1, by rw [c2]; exact eo, lt⟩
    · exact .inr ⟨T, true, oT, a1, a7 _ _ (Nat.ne_of_gt (Nat.lt_trans zS lt)) c1 c2 hT, lt⟩
theorem st_end {i : Nat} {S : Addr} {Q : Option Value → Shared → Prop} (hh : A.handled = none) (D : ZipApart z TI TO u1 u2 a b) (t : ZSt s.heap z TI TO u1 u2 a b S i) (ha : s.heap.IsTuple a xs) (hb : s.heap.IsTuple b ys) (hend : xs[i]? = none ∨ ys[i]? = none)
    (go : ∀ h', (∀ c o, c ≠ z → c ≠ TO → c ≠ u1 → c ≠ u2 → s.heap.get? c = some o → h'.get? c = some o) → Q none { s with heap := h' }) : wpAny (model P w) A (pyNext (.ref z)) Q E s := by
  obtain ⟨hI, h1, h2, ⟨hz, p, q, hO⟩ | ⟨T, f, oT, hz, hT, lt⟩⟩ := t
  · exact RZ.pyNext_zipT_end hh D hz hI hO h1 h2 ha hb hend go
  · have ty : s.TypeIs (.ref z) "zip" := ⟨_, hz, rfl⟩
    unfold pyNext
    refine wpAny_bind (wpAny_attempt (wpAny_callSpecial?_slot (name := Str.ofString "__next__") ty PySem.F.slot_zip_next (wpAny_call_entry PySem.F.slot_zip_next ty PySem.F.entry_zip_next
      (held_end hh D hz hT hI h1 h2 ha hb hend fun h' e kp he => ?_) (PySem.F.args_zip_next_1 _))))
    obtain ⟨o, ho, hc⟩ := he
    exact wpAny_bind (wpAny_isInstance (T := "StopIteration") (b := true) ⟨o, ho, hc⟩ isSubtype_stop (wpAny_pure (go _ fun c o n1 _ n3 n4 e => kp c o n1 n3 n4 e)))
end
/-- the pairs made so far -/
structure Prs (xs ys : Array Value) (lo : Addr) (h : Heap) (ts : List Addr) : Prop where
  rise : ts.Pairwise (· < ·)
  above : ∀ t ∈ ts, lo < t
  at' : ∀ (j : Nat) (t : Addr), ts[j]? = some t → ∃ x y, xs[j]? = some x ∧ ys[j]? = some y ∧ IsPair h t x y
theorem Prs.keep {xs ys : Array Value} {lo : Addr} {h h' : Heap} {ts : List Addr} (p : Prs xs ys lo h ts) (kp : ∀ c o, lo < c → h.get? c = some o → h'.get? c = some o) : Prs xs ys lo h' ts :=
  ⟨p.rise, p.above, fun j t e => by
    obtain ⟨x, y, e1, e2, e3⟩ := p.at' j t e
    exact ⟨x, y, e1, e2, kp _ _ (p.above _ (List.mem_of_getElem? e)) e3⟩⟩
theorem Prs.low {xs ys : Array Value} {lo lo' : Addr} {h : Heap} {ts : List Addr} (p : Prs xs ys lo h ts) (hl : lo' ≤ lo) : Prs xs ys lo' h ts := ⟨p.rise, fun t ht => Nat.lt_of_le_of_lt hl (p.above t ht), p.at'⟩
theorem Prs.add {xs ys : Array Value} {lo : Addr} {h : Heap} {ts : List Addr} {n : Addr} {x y : Value} (p : Prs xs ys lo h ts) (hn : ∀ t ∈ ts, t < n) (hl : lo < n) (ex : xs[ts.length]? = some x) (ey : ys[ts.length]? = some y) (e : IsPair h n x y) : Prs xs ys lo h (ts ++ [n]) := by
  refine ⟨List.pairwise_append.mpr ⟨p.rise, List.pairwise_singleton _ _, fun t ht u hu => by rw [List.mem_singleton.mp hu]; exact hn t ht⟩, fun t ht => ?_, fun j t e' => ?_⟩
  · rcases List.mem_append.mp ht with q | q
    · exact p.above t q
    · rw [List.mem_singleton.mp q]; exact hl
  · by_cases c : j < ts.length
    · rw [List.getElem?_append_left c] at e'
      exact p.at' j t e'
    · rw [List.getElem?_append_right (by omega)] at e'
      by_cases c2 : j = ts.length
      · rw [c2, Nat.sub_self] at e'
        have e' : n = t := by simpa using e'
        rw [← e', c2]
        exact ⟨x, y, ex, ey, e⟩
      · rw [List.getElem?_eq_none (by rw [List.length_singleton]; omega)] at e'
        cases e'
theorem Prs.lt {xs ys : Array Value} {lo : Addr} {h : Heap} {ts : List Addr} (p : Prs xs ys lo h ts) {t : Addr} (ht : t ∈ ts) : t < h.objs.size := by
  obtain ⟨j, e⟩ := List.mem_iff_getElem?.mp ht
  obtain ⟨_, _, _, _, q⟩ := p.at' j t e
  exact Heap.lt_size q
end Zl
end
section
/-! list(zip(a, b)): the loop, the call, the rule -/
namespace Zl
open PySem PySem.Spec PyProof.Rows L2
theorem zip_no_len : typeLookup (.type "zip") "__len__" = pure none := by rw [typeLookup_type, builtinLookup_eq_fast]; kernel_rfl
theorem zip_no_hint : typeLookup (.type "zip") "__length_hint__" = pure none := by rw [typeLookup_type, builtinLookup_eq_fast]; kernel_rfl
section
variable {P : Program} {w : World} {A : Around} {E : Value → Shared → Prop} {s : Shared} {R : Result → Shared → Prop} {z TI TO u1 u2 a b S : Addr} {xs ys : Array Value}
theorem ZSt.keep {h h' : Heap} {i : Nat} (t : ZSt h z TI TO u1 u2 a b S i) (hS : u1 < S ∧ u2 < S ∧ TI < S ∧ TO < S ∧ z < S) (kp : ∀ c o, c ≠ S → h.get? c = some o → h'.get? c = some o) : ZSt h' z TI TO u1 u2 a b S i := by
  obtain ⟨hI, h1, h2, h3⟩ := t
  obtain ⟨g1, g2, g3, g4, g5⟩ := hS
  refine ⟨kp _ _ (Nat.ne_of_lt g3) hI, h1.at fun o e => kp _ o (Nat.ne_of_lt g1) e, h2.at fun o e => kp _ o (Nat.ne_of_lt g2) e, ?_⟩
  rcases h3 with ⟨e, p, q, e2⟩ | ⟨T, f, oT, e, e2, lt⟩
  · exact .inl ⟨kp _ _ (Nat.ne_of_lt g5) e, p, q, kp _ _ (Nat.ne_of_lt g4) e2⟩
  · exact .inr ⟨T, f, oT, kp _ _ (Nat.ne_of_lt g5) e, kp _ _ (Nat.ne_of_gt lt) e2, lt⟩
theorem loop {n : Nat} (hh : A.handled = none) (D : ZipApart z TI TO u1 u2 a b) (hS : u1 < S ∧ u2 < S ∧ TI < S ∧ TO < S ∧ z < S) (haS : a ≠ S) (hbS : b ≠ S) (hn : n = min xs.size ys.size) (hn2 : n ≤ sizeLine) (res : Value) {h₁ : Heap}
    (go : ∀ h' tk acc c ts, (∀ b o, b ≠ S → b ≠ z → b ≠ TO → b ≠ u1 → b ≠ u2 → h₁.get? b = some o → h'.get? b = some o) → h'.get? S = some { cls := .type "list", dict := none, data := .seq acc c, slots := #[] } → ts.length = n → Prs xs ys S h' ts →
      acc.toList = ts.map Value.ref → R (.ok (.ret res)) { s with heap := h', toks := tk }) :
    ∀ (k i : Nat) (h : Heap) (tk c : Nat) (acc : Array Value) (ts : List Addr), n - i = k → i ≤ n → ZSt h z TI TO u1 u2 a b S i → h.IsTuple a xs → h.IsTuple b ys → (∀ b o, b ≠ S → b ≠ z → b ≠ TO → b ≠ u1 → b ≠ u2 → h₁.get? b = some o → h.get? b = some o) →
      h.get? S = some { cls := .type "list", dict := none, data := .seq acc c, slots := #[] } → acc.toList = ts.map Value.ref → ts.length = i → Prs xs ys S h ts →
      codeAny (model P w) A (.builtin "list.extend.loop" ⟨[.ref S, .ref z, res], []⟩) R { s with heap := h, toks := tk } := by
  have big : ∀ c : Addr, S < c → c ≠ S ∧ c ≠ z ∧ c ≠ TO ∧ c ≠ u1 ∧ c ≠ u2 := fun c hc => ⟨Nat.ne_of_gt hc, Nat.ne_of_gt (Nat.lt_trans hS.2.2.2.2 hc), Nat.ne_of_gt (Nat.lt_trans hS.2.2.2.1 hc), Nat.ne_of_gt (Nat.lt_trans hS.1 hc), Nat.ne_of_gt (Nat.lt_trans hS.2.1 hc)⟩
  have Sz : S ≠ z ∧ S ≠ TO ∧ S ≠ u1 ∧ S ≠ u2 := ⟨Nat.ne_of_gt hS.2.2.2.2, Nat.ne_of_gt hS.2.2.2.1, Nat.ne_of_gt hS.1, Nat.ne_of_gt hS.2.1⟩
  intro k
  induction k with
  | zero =>
    intro i h tk c acc ts hk hi st ha hb keep eS hacc hl pr
    have e0 : i = n := by omega
    refine codeAny_builtin PySem.F.entry_extend_loop ?_
    rw [Around.under_plainId PySem.F.plain_extend_loop _]
    show wpAny _ A.in1 (pyNext (.ref z) >>= _) _ _ _
    refine wpAny_bind (st_end (s := { s with heap := h, toks := tk }) (A := A.in1) hh D st ha hb ?_ fun h' kp => ?_)
    · rcases Nat.le_total xs.size ys.size with q | q
      · exact .inl (Array.getElem?_eq_none (by omega))
      · exact .inr (Array.getElem?_eq_none (by omega))
    · exact wpAny_pure (go h' tk acc c ts (fun c o n1 n2 n3 n4 n5 e => kp c o n2 n3 n4 n5 (keep c o n1 n2 n3 n4 n5 e)) (kp _ _ Sz.1 Sz.2.1 Sz.2.2.1 Sz.2.2.2 eS) (by omega) (pr.keep fun c o hc e => kp c o (big c hc).2.1 (big c hc).2.2.1 (big c hc).2.2.2.1 (big c hc).2.2.2.2 e) hacc)
  | succ k ih =>
    intro i h tk c acc ts hk hi st ha hb keep eS hacc hl pr
    have lt : i < n := by omega
    have ex : xs[i]? = some xs[i] := Array.getElem?_eq_getElem (by omega)
    have ey : ys[i]? = some ys[i] := Array.getElem?_eq_getElem (by omega)
    have sz : acc.size = i := by rw [← Array.length_toList, hacc, List.length_map, hl]
    refine codeAny_builtin PySem.F.entry_extend_loop ?_
    rw [Around.under_plainId PySem.F.plain_extend_loop _]
    show wpAny _ A.in1 (pyNext (.ref z) >>= _) _ _ _
    refine wpAny_bind (st_item (s := { s with heap := h, toks := tk }) D hS.2.2.2.2 (Heap.lt_size eS) st ha hb ex ey fun h' st' pT hs' kp => ?_)
    dsimp only at pT hs' kp ⊢
    have eS' := kp S _ Sz.1 Sz.2.1 Sz.2.2.1 Sz.2.2.2 eS
    have up : ∀ b o, b ≠ S → h'.get? b = some o → (h'.update S (Obj.mapSeq (·.push (Value.ref h.objs.size)))).get? b = some o := fun b o hb e => (Heap.get?_update_other _ _ (Ne.symm hb)).trans e
    have Sl : S < h.objs.size := Heap.lt_size eS
    show wpAny _ A.in1 (updateSeq S (·.push (Value.ref h.objs.size)) >>= _) _ _ _
    have pr' : Prs xs ys S (h'.update S (Obj.mapSeq (·.push (Value.ref h.objs.size)))) (ts ++ [h.objs.size]) :=
      (pr.keep fun c o hc e => up c o (big c hc).1 (kp c o (big c hc).2.1 (big c hc).2.2.1 (big c hc).2.2.2.1 (big c hc).2.2.2.2 e)).add (fun t ht => pr.lt ht) Sl (by rw [hl]; exact ex) (by rw [hl]; exact ey) (up _ _ (Nat.ne_of_gt Sl) pT)
    refine wpAny_bind ?_
    refine wpAny_updateSeq eS' rfl (wpAny_pure ⟨plainId_quiet PySem.F.plain_extend_loop _, ih (i + 1) _ tk _ (acc.push (Value.ref h.objs.size)) (ts ++ [h.objs.size]) (by omega) lt (st'.keep hS up) (ha.at fun o e => up _ o haS (kp _ o D.l1z D.l1TO D.l1i1 D.l1i2 e)) (hb.at fun o e => up _ o hbS (kp _ o D.l2z D.l2TO D.l2i1 D.l2i2 e))
      (fun b o n1 n2 n3 n4 n5 e => up b o n1 (kp b o n2 n3 n4 n5 (keep b o n1 n2 n3 n4 n5 e))) (Heap.get?_update_self _ eS' rfl) (by rw [Array.toList_push, hacc, List.map_append]; rfl) (by rw [List.length_append, hl]; rfl) pr'⟩) (by rw [sz]; omega) (by show (acc.push (Value.ref h.objs.size)).size ≤ sizeLine + 1; rw [Array.size_push, sz]; omega)
theorem no_hint {Q : Bool → Shared → Prop} (hT : s.TypeIs (.ref z) "zip") (h : Q true s) : wpAny (model P w) A (Builtin.List.listLengthHint (.ref z)) Q E s := by
  unfold Builtin.List.listLengthHint
  refine wpAny_bind (wpAny_specialOf hT zip_no_len ?_)
  show wpAny _ _ (specialOf (Value.ref z) (Str.ofString "__length_hint__") >>= _) _ _ s
  exact wpAny_bind (wpAny_specialOf hT zip_no_hint (wpAny_pure h))
theorem extend {n : Nat} (hh : A.handled = none) (D : ZipApart z TI TO u1 u2 a b) (t : ZSt s.heap z TI TO u1 u2 a b S 0) (hz : IsZip s.heap z TI TO .none) (ha : s.heap.IsTuple a xs) (hb : s.heap.IsTuple b ys) (hS : u1 < S ∧ u2 < S ∧ TI < S ∧ TO < S ∧ z < S) (haS : a ≠ S) (hbS : b ≠ S)
    (hn : n = min xs.size ys.size) (hn2 : n ≤ sizeLine) (res : Value) (c₀ : Nat) (eS : s.heap.get? S = some { cls := .type "list", data := .seq #[] c₀ })
    (go : ∀ h' tk acc c ts, (∀ b o, b ≠ S → b ≠ z → b ≠ TO → b ≠ u1 → b ≠ u2 → s.heap.get? b = some o → h'.get? b = some o) → h'.get? S = some { cls := .type "list", dict := none, data := .seq acc c, slots := #[] } → ts.length = n → Prs xs ys S h' ts →
      acc.toList = ts.map Value.ref → R (.ok (.ret res)) { s with heap := h', toks := tk }) :
    wpAny (model P w) A.in1 (Builtin.List.listExtendWith (.ref S) (.ref z) res)
      (fun fin s' => match fin with | .done f => R (.ok f) s' | .again c' => c'.quiet = true ∧ codeAny (model P w) A c' R s') (fun e s' => R (.error e) s') s := by
  have key : ∀ (h : Heap) (c₁ tk : Nat), (∀ b o, b ≠ S → s.heap.get? b = some o → h.get? b = some o) → h.get? S = some { cls := .type "list", data := .seq #[] c₁ } → codeAny (model P w) A (.builtin "list.extend.loop" ⟨[.ref S, .ref z, res], []⟩) R { s with heap := h, toks := tk } := by
    intro h c₁ tk hk e1
    refine loop (s := s) (h₁ := s.heap) hh D hS haS hbS hn hn2 res go n 0 h tk c₁ #[] [] (Nat.sub_zero _) (Nat.zero_le _) (t.keep hS hk) (ha.at fun o e => hk _ o haS e) (hb.at fun o e => hk _ o hbS e) (fun b o n1 _ _ _ _ e => hk b o n1 e) e1 rfl rfl ⟨List.Pairwise.nil, (fun _ h => nomatch h), (fun j t e => by simp at e)⟩
  have ty : s.TypeIs (.ref z) "zip" := ⟨_, hz, rfl⟩
  unfold Builtin.List.listExtendWith
  refine wpAny_bind (wpAny_typeOf ty ?_)
  have n1 : Builtin.List.listSameRef (.ref S) (.ref z) = false := by
    have : S ≠ z := Nat.ne_of_gt hS.2.2.2.2
    simp [Builtin.List.listSameRef, this]
  have n2 : (Value.type "zip" == Value.type "list") = false := by decide
  have n3 : (Value.type "zip" == Value.type "tuple") = false := by decide
  simp only [n1, n2, n3, Bool.or_false, Bool.false_eq_true, if_false]
  refine wpAny_bind (wpAny_pyIter_zip hz ?_)
  refine wpAny_bind (wpAny_holding (no_hint ty ?_))
  refine wpAny_ite_split (fun _ => ?_) (fun _ => wpAny_pure ⟨plainId_quiet PySem.F.plain_extend_loop _, key _ c₀ _ (fun b o _ e => e) eS⟩)
  refine wpAny_bind (wpAny_rule (wpAny_bind ?_))
  show wpAny _ _ (updateSeq S (·.push .none) >>= fun _ => updateSeq S (·.pop)) _ _ _
  refine wpAny_bind (wpAny_updateSeq eS rfl ?_)
  have e2 := Heap.get?_update_self (Obj.mapSeq (·.push Value.none)) eS rfl
  refine wpAny_updateSeq (hz := by seq_fits) e2 rfl ?_
  have e3 := Heap.get?_update_self (Obj.mapSeq (·.pop)) e2 rfl
  exact wpAny_pure ⟨plainId_quiet PySem.F.plain_extend_loop _, key _ _ _ (fun b o n e => (Heap.get?_update_other _ _ (Ne.symm n)).trans ((Heap.get?_update_other _ _ (Ne.symm n)).trans e)) e3⟩
end
end Zl
end
section
/-! list(zip(a, b)): the call, the rule -/
namespace Zl
open PySem PySem.Spec PyProof.Rows L2
section
variable {P : Program} {w : World} {A : Around} {E : Value → Shared → Prop} {s : Shared} {R : Result → Shared → Prop} {z TI TO u1 u2 a b S : Addr} {xs ys : Array Value}
theorem ZSt.first {h h' : Heap} {S' : Addr} (hz : IsZip h z TI TO .none) (hI : IsPair h TI (.ref u1) (.ref u2)) (hO : ∃ p q, IsPair h TO p q) (h1 : h.IsTupleIter u1 a 0) (h2 : h.IsTupleIter u2 b 0) (kp : ∀ c o, c ≠ S → h.get? c = some o → h'.get? c = some o) (hS : u1 < S ∧ u2 < S ∧ TI < S ∧ TO < S ∧ z < S) : ZSt h' z TI TO u1 u2 a b S 0 := by
  obtain ⟨p, q, hO⟩ := hO
  obtain ⟨g1, g2, g3, g4, g5⟩ := hS
  exact ⟨kp _ _ (Nat.ne_of_lt g3) hI, h1.at fun o e => kp _ o (Nat.ne_of_lt g1) e, h2.at fun o e => kp _ o (Nat.ne_of_lt g2) e, .inl ⟨kp _ _ (Nat.ne_of_lt g5) hz, p, q, kp _ _ (Nat.ne_of_lt g4) hO⟩⟩
theorem init {n : Nat} (hh : A.handled = none) (D : ZipApart z TI TO u1 u2 a b) (hz : IsZip s.heap z TI TO .none) (hI : IsPair s.heap TI (.ref u1) (.ref u2)) (hO : ∃ p q, IsPair s.heap TO p q) (h1 : s.heap.IsTupleIter u1 a 0) (h2 : s.heap.IsTupleIter u2 b 0) (ha : s.heap.IsTuple a xs) (hb : s.heap.IsTuple b ys)
    (hS : u1 < S ∧ u2 < S ∧ TI < S ∧ TO < S ∧ z < S) (haS : a ≠ S) (hbS : b ≠ S) (hn : n = min xs.size ys.size) (hn2 : n ≤ sizeLine) (eS : s.heap.get? S = some { cls := .type "list", data := .seq #[] })
    (go : ∀ h' tk acc c ts, (∀ b o, b ≠ S → b ≠ z → b ≠ TO → b ≠ u1 → b ≠ u2 → s.heap.get? b = some o → h'.get? b = some o) → h'.get? S = some { cls := .type "list", dict := none, data := .seq acc c, slots := #[] } → ts.length = n → Prs xs ys S h' ts →
      acc.toList = ts.map Value.ref → R (.ok (.ret .none)) { s with heap := h', toks := tk }) :
    wpAny (model P w) A.in1 (Builtin.«list.__init__» ⟨[.ref S, .ref z], []⟩)
      (fun fin s' => match fin with | .done f => R (.ok f) s' | .again c' => c'.quiet = true ∧ codeAny (model P w) A c' R s') (fun e s' => R (.error e) s') s := by
  show wpAny _ _ (do let was ← Builtin.List.listItems (.ref S); Builtin.List.listUpdate (.ref S) (fun _ => #[]); letGo was.toList.reverse; Builtin.List.listExtendWith (.ref S) (.ref z) .none) _ _ s
  refine wpAny_bind ?_
  unfold Builtin.List.listItems
  refine wpAny_bind (wpAny_seqItems eS rfl (wpAny_pure ?_))
  show wpAny _ _ (updateSeq S (fun _ => #[]) >>= fun _ => letGo (#[] : Array Value).toList.reverse >>= fun _ => Builtin.List.listExtendWith (.ref S) (.ref z) .none) _ _ s
  refine wpAny_bind (wpAny_updateSeq eS rfl ?_)
  have e2 := Heap.get?_update_self (Obj.mapSeq (fun _ => (#[] : Array Value))) eS rfl
  have off : ∀ b o, b ≠ S → s.heap.get? b = some o → (s.heap.update S (Obj.mapSeq (fun _ => (#[] : Array Value)))).get? b = some o := fun b o hb e => (Heap.get?_update_other _ _ (Ne.symm hb)).trans e
  refine wpAny_bind (wpAny_letGo ?_)
  exact extend hh D (ZSt.first (S' := S) hz hI hO h1 h2 off hS) (off _ _ (Nat.ne_of_lt hS.2.2.2.2) hz) (ha.at fun o e => off _ o haS e) (hb.at fun o e => off _ o hbS e) hS haS hbS hn hn2 .none _ e2
    fun h' tk acc c ts hk h3 hl pr hacc => go h' tk acc c ts (fun b o n1 n2 n3 n4 n5 e => hk b o n1 n2 n3 n4 n5 (off b o n1 e)) h3 hl pr hacc
theorem call_zl {n : Nat} {Q : Value → Shared → Prop} (hh : A.handled = none) (D : ZipApart z TI TO u1 u2 a b) (hz : IsZip s.heap z TI TO .none) (hI : IsPair s.heap TI (.ref u1) (.ref u2)) (hO : ∃ p q, IsPair s.heap TO p q) (h1 : s.heap.IsTupleIter u1 a 0) (h2 : s.heap.IsTupleIter u2 b 0) (ha : s.heap.IsTuple a xs) (hb : s.heap.IsTuple b ys)
    (hn : n = min xs.size ys.size) (hn2 : n ≤ sizeLine)
    (go : ∀ h' tk acc c ts, (∀ b o, b ≠ z → b ≠ TO → b ≠ u1 → b ≠ u2 → s.heap.get? b = some o → h'.get? b = some o) → h'.get? s.heap.objs.size = some { cls := .type "list", dict := none, data := .seq acc c, slots := #[] } → ts.length = n → Prs xs ys s.heap.objs.size h' ts →
      acc.toList = ts.map Value.ref → Q (.ref s.heap.objs.size) { s with heap := h', toks := tk }) :
    wpAny (model P w) A (call (.type "list") [.ref z]) Q E s := by
  refine callType_codes (Q₁ := fun o s₁ => o = .ref s.heap.objs.size ∧ s₁ = { s with heap := s.heap.push { cls := .type "list", data := .seq #[] } }) PySem.F.called_list (PySem.F.typeCall_list_1 _) PySem.F.entry_list_init (code_list_new _ ⟨rfl, rfl⟩) fun o s₁ hs => ?_
  obtain ⟨rfl, rfl⟩ := hs
  have eS : (s.heap.push { cls := .type "list", data := .seq #[] }).get? s.heap.objs.size = some { cls := .type "list", data := .seq #[] } := Heap.get?_push_size _ rfl
  obtain ⟨o1, q1, r1⟩ := h1
  obtain ⟨o2, q2, r2⟩ := h2
  obtain ⟨o3, q3, r3⟩ := ha
  obtain ⟨o4, q4, r4⟩ := hb
  obtain ⟨p, q, hO⟩ := hO
  have up : ∀ b o, s.heap.get? b = some o → (s.heap.push { cls := .type "list", data := .seq #[] }).get? b = some o := fun b o e => Heap.get?_push_of_some _ e
  refine ⟨⟨_, eS, rfl⟩, PySem.F.args_list_init_2 _ _, init (A := A.in1) hh D (up _ _ hz) (up _ _ hI) ⟨p, q, up _ _ hO⟩ ⟨o1, up _ _ q1, r1⟩ ⟨o2, up _ _ q2, r2⟩ ⟨o3, up _ _ q3, r3⟩ ⟨o4, up _ _ q4, r4⟩
    ⟨Heap.lt_size q1, Heap.lt_size q2, Heap.lt_size hI, Heap.lt_size hO, Heap.lt_size hz⟩ (Nat.ne_of_lt (Heap.lt_size q3)) (Nat.ne_of_lt (Heap.lt_size q4)) hn hn2 eS fun h' tk acc c ts hk h3 hl pr hacc => ⟨rfl, ?_⟩⟩
  exact go h' tk acc c ts (fun b o n2 n3 n4 n5 e => hk b o (Nat.ne_of_lt (Heap.lt_size e)) n2 n3 n4 n5 (up _ _ e)) h3 hl pr hacc
end
/-- the tuples tracked at their addresses -/
def putP : Hp → List Addr → List V → List V → Hp
  | H, t :: ts, x :: xs, y :: ys => putP (upd H t (.tup [x, y])) ts xs ys
  | H, _, _, _ => H
theorem putP_off {c : Addr} : ∀ (ts : List Addr) (xs ys : List V) (H : Hp), c ∉ ts → putP H ts xs ys c = H c
  | [], _, _, _, _ => rfl
  | _ :: _, [], _, _, _ => rfl
  | _ :: _, _ :: _, [], _, _ => rfl
  | t :: ts, x :: xs, y :: ys, H, h => by
    show putP (upd H t (.tup [x, y])) ts xs ys c = H c
    rw [putP_off ts xs ys _ (fun q => h (List.mem_cons_of_mem _ q)), upd_ne (fun q => h (by rw [q]; exact List.mem_cons_self))]
theorem putP_at : ∀ (ts : List Addr) (xs ys : List V) (H : Hp), ts.Nodup → ts.length ≤ xs.length → ts.length ≤ ys.length → ∀ (j : Nat) (t : Addr), ts[j]? = some t → ∃ x y, xs[j]? = some x ∧ ys[j]? = some y ∧ putP H ts xs ys t = some (.tup [x, y])
  | [], _, _, _, _, _, _, j, t, e => by simp at e
  | _ :: _, [], _, _, _, h, _, _, _, _ => absurd h (by simp)
  | _ :: _, _ :: _, [], _, _, _, h, _, _, _ => absurd h (by simp)
  | t0 :: ts, x :: xs, y :: ys, H, nd, h1, h2, 0, t, e => by
    obtain rfl : t0 = t := by simpa using e
    refine ⟨x, y, rfl, rfl, ?_⟩
    show putP (upd H t0 (.tup [x, y])) ts xs ys t0 = _
    rw [putP_off ts xs ys _ (List.nodup_cons.mp nd).1, upd_same]
  | t0 :: ts, x :: xs, y :: ys, H, nd, h1, h2, j + 1, t, e => putP_at ts xs ys (upd H t0 (.tup [x, y])) (List.nodup_cons.mp nd).2 (by simpa using h1) (by simpa using h2) j t (by simpa using e)
end Zl
end
section
/-! list(zip(a, b)): the rule -/
namespace Zl
open PySem PySem.Spec PyProof.Rows L2
/-- what the list of pairs promises -/
def rZl (K : PySem.W.Frag) : List V → Hp → VK → Prop := fun vs H Q => ∃ (a b : Addr) (xs ys : List V), vs = [.ref a, .ref b] ∧ SqT K H a xs ∧ SqT K H b ys ∧
  ∀ H' p (ts : List Addr), Same H H' → H p = none → H' p = some (.lst (ts.map V.ref)) → ts.length = min xs.length ys.length → (∀ (j : Nat) t, ts[j]? = some t → ∃ x y, xs[j]? = some x ∧ ys[j]? = some y ∧ H' t = some (.tup [x, y])) → Q (.ref p) H'
def tZl (K : PySem.W.Frag) (ta : TA) : TE := fun σ H Q => ta σ H fun vs H1 => rZl K vs H1 Q
section
variable {X : Cx}
theorem pairs_laid {pins : List (Addr × Obj)} {σ : L2.St} {H : Hp} {s : Shared} {h' : Heap} {tk : Nat} {xs ys : List V} {us vs : List Value} {acc : Array Value} {c : Nat} {S : Addr} {ts : List Addr} (I : Inv X pins σ H s) (rx : Vals xs us) (ry : Vals ys vs) (hS : s.heap.objs.size ≤ S)
    (hk : ∀ b o, s.heap.get? b = some o → h'.get? b = some o) (eS : h'.get? S = some { cls := .type "list", dict := none, data := .seq acc c, slots := #[] }) (hl : ts.length = min xs.length ys.length) (hn : ts.length ≤ sizeLine) (pr : Prs us.toArray vs.toArray S h' ts) (hacc : acc.toList = ts.map Value.ref) :
    ∃ H' : Hp, Same H H' ∧ H S = none ∧ H' S = some (.lst (ts.map V.ref)) ∧ (∀ (j : Nat) t, ts[j]? = some t → ∃ x y, xs[j]? = some x ∧ ys[j]? = some y ∧ H' t = some (.tup [x, y])) ∧ Inv X pins σ H' { s with heap := h', toks := tk } := by
  have nS : S ∉ ts := fun q => Nat.lt_irrefl _ (pr.above _ q)
  have nd : ts.Nodup := List.Pairwise.imp (fun {p q} (l : p < q) => Nat.ne_of_lt l) pr.rise
  have fS : H S = none := I.hok.fresh hS
  have ft : ∀ t ∈ ts, H t = none := fun t ht => I.hok.fresh (Nat.le_of_lt (Nat.lt_of_le_of_lt hS (pr.above t ht)))
  have off : ∀ b, b ∉ ts → b ≠ S → putP (upd H S (.lst (ts.map V.ref))) ts xs ys b = H b := fun b n1 n2 => by rw [putP_off ts xs ys _ n1, upd_ne n2]
  have kp : ∀ b u, H b = some u → putP (upd H S (.lst (ts.map V.ref))) ts xs ys b = some u := fun b u e => by
    rw [off b (fun q => by rw [ft b q] at e; cases e) (fun q => by rw [q, fS] at e; cases e)]
    exact e
  have aS : putP (upd H S (.lst (ts.map V.ref))) ts xs ys S = some (.lst (ts.map V.ref)) := by rw [putP_off ts xs ys _ nS, upd_same]
  have at' := putP_at ts xs ys (upd H S (.lst (ts.map V.ref))) nd (by omega) (by omega)
  have low : ∀ b o, s.heap.get? b = some o → b ∉ ts ∧ b ≠ S := fun b o e => by
    have l := Heap.lt_size e
    exact ⟨fun q => absurd (Nat.lt_of_lt_of_le l hS) (Nat.lt_asymm (pr.above b q)), Nat.ne_of_lt (Nat.lt_of_lt_of_le l hS)⟩
  refine ⟨_, kp, fS, aS, at', ?_⟩
  refine I.call' (ch := []) rfl ⟨fun b o q _ _ _ => hk b o q, fun b o q _ _ _ => ⟨o.slots, hk b o q⟩, fun b o q n _ => ?_, fun b o q _ => ⟨o, hk b o q⟩, fun b l q => kp b _ q, fun b o u q => kp b _ q, fun b ps q => ⟨#[], by rw [kp b _ q]; simp⟩⟩ (fun b u q => ?_) I.bare (fun b q => by simp at q)
  · rw [off b (low b o q).1 (low b o q).2]
    exact n
  · by_cases hb : b ∈ ts
    · obtain ⟨j, ej⟩ := List.mem_iff_getElem?.mp hb
      obtain ⟨x, y, ex, ey, e3⟩ := at' j b ej
      rw [e3] at q
      cases q
      obtain ⟨u, v, eu, ev, ep⟩ := pr.at' j b ej
      obtain ⟨u', e1, ru⟩ := rx.get ex
      obtain ⟨v', e2, rv⟩ := ry.get ey
      have e1 : us[j]? = some u' := e1
      have e2 : vs[j]? = some v' := e2
      rw [List.getElem?_toArray, e1] at eu
      rw [List.getElem?_toArray, e2] at ev
      cases eu
      cases ev
      exact ⟨Nat.le_of_ble_eq_true rfl, [_, _], .cons ru (.cons rv .nil), ⟨_, ep, rfl, _, rfl⟩⟩
    · by_cases hb2 : b = S
      · subst hb2
        rw [aS] at q
        cases q
        refine ⟨by rw [List.length_map]; exact hn, acc.toList, c, by rw [hacc]; exact LiI.vals_refs ts, ?_⟩
        rw [Array.toArray_toList]
        exact eS
      · rw [off b hb hb2] at q
        exact (I.hok b u q).stay (fun d v _ y => hk d v y) (fun d y => kp d _ y) fun d l y => kp d _ y
/-- list(zip(e, e2)) of two tuples -/
theorem pe_listZip {e e2 : Expr} {ta : TA} {p p2 q pos : Pos} (hc : X.calm = true) (hg : Gl X "list") (hm : X.mg "list" = none) (hg2 : Gl X "zip") (hm2 : X.mg "zip" = none) (ha : PA X [e, e2] ta)
    (hs : starEach [e, e2] X.env = (false, eval e X.env) :: starEach [e2] X.env := by rfl) (hpl : (backTo q (starEach [e2] X.env)).any (·.1) = false := by rfl)
    (na : starEach [.Call (.Name "zip" p2) [e, e2] [] q] X.env = (false, eval (.Call (.Name "zip" p2) [e, e2] [] q) X.env) :: starEach [] X.env := by rfl) :
    PE X (.Call (.Name "list" p) [.Call (.Name "zip" p2) [e, e2] [] q] [] pos) (tZl X.K ta) := by
  refine ⟨fun pins s σ H Q I h => ?_⟩
  refine Call_ (ld_blt I hg hm boot_list ?_)
  refine PyProof.Rows.callWith_type1 (PyProof.Rows.args_cons ?_ na) na rfl
  refine Call_ (ld_blt I hg2 hm2 PyProof.Rows.boot_zip (PyProof.Rows.callWith_type1 (thn (ha.run q pins s σ H _ I h) fun ws s1 ⟨vs, H1, I1, r1, q1⟩ => ?_) hs hpl))
  obtain ⟨a, b, xs, ys, rfl, hx, hy, go⟩ := q1
  obtain ⟨w1, w2, rfl, rw1, rw2⟩ : ∃ w1 w2, ws = [w1, w2] ∧ RelV (.ref a) w1 ∧ RelV (.ref b) w2 := by
    cases r1 with
    | cons r rr => cases rr with
      | cons r' rr => cases rr; exact ⟨_, _, rfl, r, r'⟩
  cases rw1
  cases rw2
  obtain ⟨us, ru, pu, lu⟩ := I1.tuple hx
  obtain ⟨vs, rv, pv, lv⟩ := I1.tuple hy
  obtain ⟨o1, ho1, _⟩ := id pu
  obtain ⟨o2, ho2, _⟩ := id pv
  refine RZ.call_zipT (show s1.heap.IsTuple a us.toArray from pu) (show s1.heap.IsTuple b vs.toArray from pv) fun h1 hz hI hO g1 g2 sz1 k1 => ?_
  refine PyProof.Rows.args_nil ?_
  have lx := ru.length
  have ly := rv.length
  have pu1 : h1.IsTuple a us.toArray := (show s1.heap.IsTuple a us.toArray from pu).at fun o e => k1 _ o e
  have pv1 : h1.IsTuple b vs.toArray := (show s1.heap.IsTuple b vs.toArray from pv).at fun o e => k1 _ o e
  refine call_zl (s := { s1 with heap := h1 }) (n := min us.toArray.size vs.toArray.size) (I1.ok.hd hc) (PySem.W.ktu_apart s1.heap.objs.size a b (Heap.lt_size ho1) (Heap.lt_size ho2)) hz hI ⟨_, _, hO⟩ g1 g2 pu1 pv1 rfl ?_ fun h' tk acc c ts hk eS hl pr hacc => ?_
  · rw [List.size_toArray]
    omega
  · have big : ∀ c o, s1.heap.get? c = some o → h'.get? c = some o := fun c o e => by
      have l := Heap.lt_size e
      exact hk c o (Nat.ne_of_lt (Nat.lt_of_lt_of_le l (Nat.le_add_right _ _))) (Nat.ne_of_lt (Nat.lt_of_lt_of_le l (Nat.le_add_right _ _))) (Nat.ne_of_lt l) (Nat.ne_of_lt (Nat.lt_of_lt_of_le l (Nat.le_add_right _ _))) (k1 c o e)
    rw [List.size_toArray, List.size_toArray] at hl
    obtain ⟨H', k, f, e1, e2, J⟩ := pairs_laid (tk := tk) I1 ru rv (by show _ ≤ h1.objs.size; rw [sz1]; exact Nat.le_add_right _ _) big eS (by omega) (by omega) pr hacc
    exact ⟨.ref _, H', J, rfl, go H' _ ts k f e1 (by omega) e2⟩
end
end Zl
end
section
/-! set(e) of a list or a tuple of ints -/
namespace Zs
open PySem PySem.Spec PyProof.Rows L2
/-- a set as it is made -/
abbrev frS (w : World) : Obj := { cls := .type "set", dict := none, data := .set #[] 0 (.fresh 0 0 (!w.params.followText "set-order")) }
section
variable {P : Program} {w : World} {A : Around} {E : Value → Shared → Prop} {s : Shared}
set_option maxHeartbeats 8000000 in
theorem call_set_lst {l : Addr} {its : Array Value} (ns : List Int) {Q : Value → Shared → Prop} (hh : A.handled = none) (hl : s.heap.IsList l its) (hit : IntsAre its.toList ns) (hb : ns.length + 1 < scanBound)
    (go : ∀ (h' : Heap) (tk c : Nat), SetR w h' s.heap.objs.size (fun j => decide (j ∈ ns)) c → c ≤ ns.length → (∀ b o, s.heap.get? b = some o → h'.get? b = some o) → Q (.ref s.heap.objs.size) { s with heap := h', toks := tk }) :
    wpAny (model P w) A (call (.type "set") [.ref l]) Q E s := by
  have sz : its.size = ns.length := by rw [← Array.length_toList]; exact IntsAre.length hit
  obtain ⟨c0, t0, hmro⟩ := F.called_set.mro
  have f1 := F.called_set.made
  have f2 := F.called_set.sub
  refine wpAny_call (codeAny_of_tree ?_)
  show wpAny _ _ (callAny (.type "set") _) _ _ s
  refine wpAny_pure ⟨Code.quiet_builtin _ (by decide +kernel), codeAny_builtin F.entry_type_call ?_⟩
  rw [Around.under_plain (weight_type_call_type "set" [Value.ref l] []) rfl]
  have f3 := F.called_set.notType
  have f4 := F.called_set.canCreate
  have f5 := F.typeCall_set_1 (.ref l)
  repeat (any_goals (first | assumption | wp_step))
  refine codeAny_mono (code_set_led1 (.ref l) (E := E) (Q₁ := fun o s₁ => o = .ref s.heap.objs.size ∧ s₁ = { s with heap := s.heap.push (frS w) }) ⟨rfl, rfl⟩) fun r s₁ hr => ?_
  cases r with
  | error e => exact hr
  | ok fl => cases fl with
    | ret o =>
      obtain ⟨rfl, rfl⟩ := hr
      have eS : (s.heap.push (frS w)).get? s.heap.objs.size = some (frS w) := Heap.get?_push_size _ rfl
      have ty : Shared.TypeIs { s with heap := s.heap.push (frS w) } (.ref s.heap.objs.size) "set" := ⟨_, eS, rfl⟩
      have g1 := F.called_set.init.lookup
      have g2 := F.called_set.init.bind (.ref s.heap.objs.size)
      repeat (any_goals (first | assumption | wp_step))
      refine codeAny_mono (codeAny_call_builtin (R := wants (fun r s₂ => r = .none ∧ ∃ h' tk c, s₂ = { s with heap := h', toks := tk } ∧ SetR w h' s.heap.objs.size (fun j => decide (j ∈ ns)) c ∧ c ≤ ns.length ∧ (∀ b o, s.heap.get? b = some o → h'.get? b = some o)) E) F.called_set.init.plain F.entry_set_init (check_set_init_1 ty ?_)) fun r₂ s₂ hr₂ => ?_
      · obtain ⟨⟨q1, q2, q3, q4⟩, hol, hc, nl, hd⟩ := hl
        simp only at hc hd
        subst hc; subst hd
        have hl1 : (s.heap.push (frS w)).IsList l its := ⟨_, Heap.get?_push_of_some _ hol, rfl, nl, rfl⟩
        have k1 := Heap.get?_push_of_some (frS w) hol
        have k2 := F.sub_list_set
        have k3 := F.sub_list_frozenset
        have k4 : (Value.type "list" == Value.type "dict") = false := by decide
        unfold Builtin.«set.__init__» noKeywords Builtin.Frozenset.updateFrom
        generalize hpi : pyIter = PI
        wp_walk
        subst hpi
        refine wpAny_pyIter_list hl1 (wpAny_bind (wpAny_runValue ?_))
        have lt : l < s.heap.objs.size := Heap.lt_size hol
        have z1 : (s.heap.push (frS w)).objs.size = s.heap.objs.size + 1 := Heap.size_push ..
        have n1 : l ≠ (s.heap.push (frS w)).objs.size := by rw [z1]; exact Nat.ne_of_lt (Nat.lt_succ_of_lt lt)
        have n2 : s.heap.objs.size ∉ [(s.heap.push (frS w)).objs.size, l] := by
          rw [z1]
          simp only [List.mem_cons, List.mem_singleton, List.not_mem_nil, or_false, not_or]
          exact ⟨Nat.ne_of_lt (Nat.lt_succ_self _), Nat.ne_of_gt lt⟩
        have val : ∀ (i : Nat) (v : Value), its[i]? = some v → ∃ k t, ns[i]? = some k ∧ v = .int k t := fun i v hv => by
          have hi : i < ns.length := by rw [← sz]; exact (Array.getElem?_eq_some_iff.mp hv).1
          obtain ⟨t, e⟩ := IntsAre.int_at hit i v (by rw [Array.getElem?_toList]; exact hv)
          exact ⟨ns[i], t, List.getElem?_eq_getElem hi, by rw [e, List.getD_eq_getElem?_getD, List.getElem?_eq_getElem hi]; rfl⟩
        refine set_update_ints ((Walks.list (show A.in1.in1.in1.handled = none by simp [hh]) _ l n1 its).toS) s.heap.objs.size n2 ns sz hb val (its.size - 0) 0 _ (by omega) (Nat.zero_le _) ⟨⟨_, Heap.get?_push_size _ rfl, rfl, rfl⟩, (hl1.push _)⟩ ⟨0, Nat.le_refl 0, setR_new_at (Heap.get?_push_of_some _ eS)⟩ ?_
        intro s' c' hm hc' hS'
        obtain ⟨h', g2, d', tk', os'⟩ := s'
        obtain rfl : g2 = s.gens := hm.gens
        obtain rfl : d' = s.drawn := hm.drawn
        obtain rfl : os' = s.os := hm.os
        show wpAny _ _ _ _ _ _
        refine wpAny_pure ?_
        show wpAny _ _ (ret Value.none) _ _ _
        rw [sz] at hc'
        refine wpAny_pure ⟨rfl, h', tk', c', rfl, hS', hc', fun b o e => ?_⟩
        have b0 := Heap.lt_size e
        refine hm.heap b o ?_ (Heap.get?_push_of_some _ (Heap.get?_push_of_some _ e))
        rw [z1]
        simp only [List.mem_cons, List.mem_singleton, List.not_mem_nil, or_false, not_or]
        exact ⟨Nat.ne_of_lt b0, Nat.ne_of_lt (Nat.lt_succ_of_lt b0)⟩
      · cases r₂ with
        | error e => exact hr₂
        | ok fl₂ =>
          cases fl₂ with
          | ret r =>
            obtain ⟨rfl, h', tk, c, rfl, y1, y2, y3⟩ := hr₂
            repeat (any_goals (first | assumption | wp_step))
            exact go h' tk c y1 y2 y3
          | _ => exact hr₂.elim
    | _ => exact hr.elim
end
def rSetI (w : World) (K : PySem.W.Frag) : List V → Hp → VK → Prop := fun vs H Q => ∃ (l : Addr) (ns : List Int), vs = [.ref l] ∧ (SqL K H l (ns.map V.int) ∨ SqT K H l (ns.map V.int)) ∧ ns.length ≤ 1000 ∧
  ∀ p c, c ≤ ns.length → H p = none → Q (.ref p) (upd H p (SetO w p (fun j => decide (j ∈ ns)) c))
theorem cr_setI {X : Cx} (hc : X.calm = true) : CallR X (.type "set") (rSetI X.w X.K) := by
  intro pins s σ H xs us Q I r h
  obtain ⟨l, ns, rfl, hs, hn, go⟩ := h
  obtain ⟨u, rfl, ru⟩ := r.one
  cases ru
  rcases hs with hs | hs
  · obtain ⟨its, rv, pl, hz⟩ := I.list hs
    exact call_set_lst ns (I.ok.hd hc) pl.isList (by simpa using ints_of_vals rv) (by unfold scanBound; omega) fun h' tk c hR hcn k => ⟨.ref _, _, I.laid (t' := tk) k (Nat.le_refl _) (setO_new hR), rfl, go _ c hcn (I.hok.fresh (Nat.le_refl _))⟩
  · obtain ⟨its, rv, pt, hz⟩ := I.tuple hs
    exact call_set_tupI ns (I.ok.hd hc) (show s.heap.IsTuple l its.toArray from pt) (by simpa using ints_of_vals rv) (by unfold scanBound; omega) fun h' tk c hR hcn k => ⟨.ref _, _, I.laid (t' := tk) k (Nat.le_refl _) (setO_new hR), rfl, go _ c hcn (I.hok.fresh (Nat.le_refl _))⟩
end Zs
end
section
/-! list.extend(a tuple) -/
namespace Zs
open PySem PySem.Spec PyProof.Rows L2
theorem extend_tup (l : Addr) (items : Array Value) (n : Nat) (b : Addr) (items2 : Array Value) (n2 : Nat) (dd : Option Addr) (sl : Array (Option Value)) (hs0 : ¬(!items.isEmpty && Builtin.List.listTooLong (items.size + items2.size)) = true) (hs1 : items.size ≤ sizeLine) (hs2 : items.size + items2.size ≤ sizeLine + 1) :
    Meets (Builtin.«list.extend» ⟨[.ref l, .ref b], []⟩) (fun _ R s => s.heap.get? l = some { cls := .type "list", dict := none, data := .seq items n, slots := #[] } ∧ s.heap.get? b = some ⟨.type "tuple", dd, .seq items2 n2, sl⟩ ∧
      R (.ok (.ret Value.none)) { s with heap := s.heap.update l (Obj.mapSeq fun x => x ++ items2), toks := s.toks }) :=
  .of_wp fun prog w A R s h => by
    obtain ⟨hp, g, d, tk, os⟩ := s
    obtain ⟨hl, hb, h⟩ := h
    have f1 := PySem.AutoSeq1.idx_int
    have f2 := PySem.AutoSeq1.sub_tuple_tuple
    have f3 := PySem.AutoSeq1.sub_list_list
    have f4 := PySem.AutoSeq1.sub_tuple_list
    have f5 := PySem.AutoSeq1.sub_list_tuple
    have hz' : (items ++ items2).size ≤ sizeLine + 1 := by rw [Array.size_append]; exact hs2
    wp_walk using (wpAny_updateSeq hl rfl (hz := hs1) (_hz' := hz')), PySem.AutoSeq1.wpAny_loadPart' hl, PySem.AutoSeq1.wpAny_loadPart' hb
    exact ⟨_, rfl, h⟩
def rExtT (K : PySem.W.Frag) : V → List V → Hp → VK → Prop := fun x vs H Q => ∃ (l b : Addr) (xs zs : List V), x = .ref l ∧ vs = [.ref b] ∧ H l = some (.lst xs) ∧ SqT K H b zs ∧ xs.length + zs.length ≤ sizeLine ∧ Q .non (upd H l (.lst (xs ++ zs)))
theorem mt_extT {X : Cx} : MtM X "list.extend" (rExtT X.K) := by
  intro pins s σ H x vs v us Q I rx rv h
  obtain ⟨l, b, xs, zs, rfl, rfl, hH, hB, hz, q⟩ := h
  cases rx
  obtain ⟨u, rfl, ru⟩ := rv.one
  cases ru
  obtain ⟨z, its, n, r, hl, e⟩ := I.lstM hH
  obtain ⟨its2, r2, pt, hz2⟩ := I.tuple hB
  obtain ⟨⟨q1, q2, q3, q4⟩, e2, hc, n2, hd⟩ := pt
  simp only at hc hd
  subst hc hd
  have hl2 := r2.length
  have sz : its.toArray.size + its2.toArray.size ≤ sizeLine := by rw [List.size_toArray, List.size_toArray]; omega
  have nl : ¬ (!its.toArray.isEmpty && Builtin.List.listTooLong (its.toArray.size + its2.toArray.size)) = true := by
    rw [notLongL sz, Bool.and_false]
    exact Bool.false_ne_true
  refine call_meets PySem.F.slot_list_extend ⟨_, e, rfl⟩ PySem.F.entry_list_extend (PySem.F.args_list_extend_2 _ _) (extend_tup l its.toArray n b its2.toArray n2 q2 q4 nl (by rw [List.size_toArray]; omega) (by omega)) ⟨e, e2, ?_⟩
  refine ⟨.non, _, I.lset (its' := its ++ its2) hH e (by simp) (r.append r2) ?_, rfl, q⟩
  rw [List.length_append]
  omega
end Zs
end
section
/-! a text times an int -/
namespace Zs
open PySem PySem.Spec PyProof.Rows L2
def repS (i : Str) (k : Int) : Str := ⟨(List.replicate k.toNat i.cps).foldl (· ++ ·) #[]⟩
theorem rep_len (a : Array Nat) : ∀ (m : Nat) (acc : Array Nat), ((List.replicate m a).foldl (· ++ ·) acc).size = acc.size + m * a.size
  | 0, acc => by simp
  | m + 1, acc => by
    rw [List.replicate_succ, List.foldl_cons, rep_len a m, Array.size_append, Nat.succ_mul]
    omega
def rMulS : R2 := fun x y H Q => ∃ i k, x = .str i ∧ y = .int k ∧ 2 ≤ k ∧ k ≤ 1000 ∧ 1 ≤ i.length ∧ i.length ≤ 1000 ∧ Q (.str (repS i k)) H
theorem op_mulS {X : Cx} : OpR X (binaryOp .Mult) rMulS := by
  intro pins s σ H x y v u Q I rx ry h
  obtain ⟨i, k, rfl, rfl, h1, h2, h3, h4, q⟩ := h
  obtain ⟨t, rfl⟩ := rx
  obtain ⟨t', rfl⟩ := ry
  have hm : i.length * k.toNat ≤ 1000 * 1000 := Nat.mul_le_mul h4 (by omega)
  have hc : (k == 1 || i.length == 0) = false := by
    rw [Bool.or_eq_false_iff]
    exact ⟨beq_eq_false_iff_ne.mpr (by omega), beq_eq_false_iff_ne.mpr (by omega)⟩
  refine PySem.P.mul_str ?_ ?_ ?_ ?_
  · rw [decide_eq_false (by omega), decide_eq_false (by omega)]; rfl
  · intro _ _ z
    have a0 : (i.length : Int) * k ≤ 1000 * k := Int.mul_le_mul_of_nonneg_right (by omega) (by omega)
    have a1 : (i.length : Int) ≤ (2 ^ 63 - 1) / k := Int.le_ediv_of_mul_le (by omega) (by omega)
    omega
  · intro _ _
    exact decide_eq_false (by show ¬ _ > sizeLine; rw [sizeLine_eq]; omega)
  · rw [if_neg (by omega), hc]
    refine ⟨?_, .str (repS i k), H, I.tok _, ⟨_, rfl⟩, q⟩
    show ((List.replicate k.toNat i.cps).foldl (· ++ ·) #[]).size ≤ _
    rw [rep_len, Nat.mul_comm]
    have e : i.cps.size = i.length := rfl
    rw [e]
    exact Nat.le_trans (by simpa using hm) (by decide)
theorem r_mulS {i : Str} {k : Int} {H : Hp} {Q : VK} (a : 2 ≤ k ∧ k ≤ 1000) (b : 1 ≤ i.length ∧ i.length ≤ 1000) (h : Q (.str (repS i k)) H) : rMulS (.str i) (.int k) H Q := ⟨i, k, rfl, rfl, a.1, a.2, b.1, b.2, h⟩
end Zs
end
section
/-! dict.update of a dict with keys by value -/
namespace Zs
open PySem PySem.Spec PyProof.Rows L2
def rUpdK : V → List V → Hp → VK → Prop := fun x vs H Q => ∃ (a b : Addr) (kvs more : List (Key × V)), x = .ref a ∧ vs = [.ref b] ∧ H a = some (.dK kvs) ∧ H b = some (.dK more) ∧ a ≠ b ∧ kvs.length + more.length ≤ 1000 ∧ Q .non (upd H a (.dK (mergeK kvs more)))
theorem mt_updK {X : Cx} : MtM X "dict.update" rUpdK := by
  intro pins s σ H x vs v us Q I rx rv h
  obtain ⟨a, b, kvs, more, rfl, rfl, ha, hb, hab, hl, q⟩ := h
  cases rx
  obtain ⟨u, rfl, ru⟩ := rv.one
  cases ru
  obtain ⟨z, hd, ws, rel, dd⟩ := dk_of I.hok ha
  obtain ⟨z2, hd2, rs, rel2, dd2⟩ := dk_of I.hok hb
  have sz : kvs.length + more.length ≤ sizeLine := Nat.le_trans hl (by decide)
  refine call_meetsIn PySem.F.slot_dict_update dd.typeIs PySem.F.entry_dict_update (PySem.F.args_dict_update_2 _ _) (meets_dict_update (mixKind X.prog X.w) a b hab hd2) ⟨ws, rs, dd, dd2, by rw [← rel.length, ← rel2.length]; exact sz, fun h' dd' _ hs => ?_⟩
  have he : ∃ q, h'.get? a = some q := by
    obtain ⟨q, _, _, hq, _⟩ := dd'
    exact ⟨q, hq⟩
  have hm : (mergeK kvs more).length ≤ sizeLine := Nat.le_trans (length_mergeK more kvs) sz
  exact ⟨.non, _, d_write (t' := s.toks) I (by rw [ha]; exact True.intro) hs he (dk_new hm hd (KV.merge rel2 rel) dd'), rfl, q⟩
end Zs
end
section
/-! rows of code: words, kinds of parts, what stands where -/
namespace CR
open PySem PySem.Spec PyProof.Rows L2 MM
inductive Kd
  | into | value | view | member | place | slot | from' | glob | thr | arr | keys | sign | order | target | sort | places | table | opt
deriving DecidableEq
def Kd.nm : Kd → Str
  | .into => "into" | .value => "value" | .view => "view" | .member => "member" | .place => "place" | .slot => "slot" | .from' => "from" | .glob => "global" | .thr => "thread" | .arr => "array"
  | .keys => "keys" | .sign => "sign" | .order => "order" | .target => "target" | .sort => "sort" | .places => "places" | .table => "table" | .opt => "optional"
inductive Wd
  | const | view | arg | reg | get | keep | global | thread | array | op | compare | minus | not | len | cat | sub | text | byte | spec | jump | zero | setglobal | setthread | setarray | record | put | speculate | commit | discard | stop | skip | end'
deriving DecidableEq
def Wd.nm : Wd → Str
  | .const => "const" | .view => "view" | .arg => "arg" | .reg => "reg" | .get => "get" | .keep => "keep" | .global => "global" | .thread => "thread" | .array => "array" | .op => "op" | .compare => "compare" | .minus => "minus" | .not => "not"
  | .len => "len" | .cat => "cat" | .sub => "sub" | .text => "text" | .byte => "byte" | .spec => "spec" | .jump => "jump" | .zero => "zero" | .setglobal => "setglobal" | .setthread => "setthread" | .setarray => "setarray" | .record => "record"
  | .put => "put" | .speculate => "speculate" | .commit => "commit" | .discard => "discard" | .stop => "stop" | .skip => "skip" | .end' => "end"
def Wd.ks : Wd → List Kd
  | .const => [.into, .value] | .view => [.into, .view] | .arg => [.into, .member] | .reg => [.into, .member] | .get => [.into, .place] | .keep => [.slot, .from'] | .global => [.into, .glob] | .thread => [.into, .thr] | .array => [.into, .arr, .keys]
  | .op => [.into, .sign, .from', .from'] | .compare => [.into, .order, .from', .from'] | .minus => [.into, .from'] | .not => [.into, .from'] | .len => [.into, .from'] | .cat => [.into, .from', .from'] | .sub => [.into, .from', .from', .from']
  | .text => [.into, .from'] | .byte => [.into, .from'] | .spec => [.into] | .jump => [.target] | .zero => [.from', .target] | .setglobal => [.glob, .from'] | .setthread => [.thr, .from'] | .setarray => [.arr, .keys, .from'] | .record => [.sort, .places]
  | .put => [.table, .keys, .opt] | .speculate => [.from'] | .commit => [.from'] | .discard => [.from'] | .stop => [] | .skip => [] | .end' => []
def Wd.all : List Wd := [.const, .view, .arg, .reg, .get, .keep, .global, .thread, .array, .op, .compare, .minus, .not, .len, .cat, .sub, .text, .byte, .spec, .jump, .zero, .setglobal, .setthread, .setarray, .record, .put, .speculate, .commit, .discard, .stop, .skip, .end']
def tab : List (Str × List Str) := [("const", ["into", "value"]), ("view", ["into", "view"]), ("arg", ["into", "member"]), ("reg", ["into", "member"]), ("get", ["into", "place"]), ("keep", ["slot", "from"]), ("global", ["into", "global"]), ("thread", ["into", "thread"]), ("array", ["into", "array", "keys"]), ("op", ["into", "sign", "from", "from"]), ("compare", ["into", "order", "from", "from"]), ("minus", ["into", "from"]), ("not", ["into", "from"]), ("len", ["into", "from"]), ("cat", ["into", "from", "from"]), ("sub", ["into", "from", "from", "from"]), ("text", ["into", "from"]), ("byte", ["into", "from"]), ("spec", ["into"]), ("jump", ["target"]), ("zero", ["from", "target"]), ("setglobal", ["global", "from"]), ("setthread", ["thread", "from"]), ("setarray", ["array", "keys", "from"]), ("record", ["sort", "places"]), ("put", ["table", "keys", "optional"]), ("speculate", ["from"]), ("commit", ["from"]), ("discard", ["from"]), ("stop", []), ("skip", []), ("end", [])]
theorem tab_get (w : Wd) : tab.lookup w.nm = some (w.ks.map Kd.nm) := by cases w <;> decide +kernel
theorem nm_from {k : Kd} : k.nm = "from" ↔ k = .from' := by cases k <;> decide +kernel
theorem nm_opt {k : Kd} : k.nm = "optional" ↔ k = .opt := by cases k <;> decide +kernel
theorem nm_place {k : Kd} : k.nm = "place" ↔ k = .place := by cases k <;> decide +kernel
theorem nm_listed {k : Kd} : inV (.str k.nm) [.str "keys", .str "places"] = decide (k = .keys ∨ k = .places) := by cases k <;> decide +kernel
/-- entries of a written dict of tuples of texts -/
def Ents (K : PySem.W.Frag) (w : World) (a : PySem.Addr) : List (Str × List Str) → Prop
  | [] => True
  | e :: r => (∃ t, KDct K w a e.1 (.ref t) ∧ ∀ H, SqT K H t (e.2.map V.str)) ∧ Ents K w a r
theorem Ents.nil {K : PySem.W.Frag} {w : World} {a : PySem.Addr} : Ents K w a [] := trivial
theorem Ents.cons {K : PySem.W.Frag} {w : World} {a : PySem.Addr} {e : Str × List Str} {r : List (Str × List Str)} (h : ∃ t, KDct K w a e.1 (.ref t) ∧ ∀ H, SqT K H t (e.2.map V.str)) (t : Ents K w a r) : Ents K w a (e :: r) := ⟨h, t⟩
theorem Ents.get {K : PySem.W.Frag} {w : World} {a : PySem.Addr} {k : Str} {ks : List Str} : ∀ {l : List (Str × List Str)}, Ents K w a l → l.lookup k = some ks → ∃ t, KDct K w a k (.ref t) ∧ ∀ H, SqT K H t (ks.map V.str)
  | [], _, h => nomatch h
  | (k', ks') :: r, e, h => by
    rw [List.lookup_cons] at h
    by_cases z : k = k'
    · subst z
      rw [beq_self_eq_true] at h
      obtain rfl := Option.some.inj h
      exact e.1
    · rw [show (k == k') = false from beq_eq_false_iff_ne.mpr z] at h
      exact e.2.get h
structure DcP (K : PySem.W.Frag) (w : World) (mg : Str → Option Value) (x : Str) (tb : List (Str × List Str)) where
  a : PySem.Addr
  g : mg x = some (.ref a)
  es : Ents K w a tb
inductive Pt
  | i (n : Int) | s (x : Str) | l (l : List Int) | o
def PtAt (H : Hp) : V → Pt → Prop
  | v, .i n => v = .int n
  | v, .s x => v = .str x
  | v, .l l => ∃ a, v = .ref a ∧ H a = some (.tup (l.map V.int))
  | _, .o => True
def Fit : Kd → Pt → Prop
  | .into, .i _ => True | .value, .o => True | .view, .s _ => True | .member, .i _ => True | .place, .i _ => True | .slot, .i _ => True | .from', .i _ => True | .glob, .i _ => True | .thr, .i _ => True | .arr, .i _ => True
  | .keys, .l l => l.length ≤ 16 | .sign, .s _ => True | .order, .s _ => True | .target, .i n => 0 ≤ n | .sort, .s _ => True | .places, .l l => l.length ≤ 16 | .table, .i _ => True | .opt, .i _ => True
  | _, _ => False
theorem PtAt.keep {H H' : Hp} (k : KeepT H H') {v : V} {p : Pt} (h : PtAt H v p) : PtAt H' v p := by
  cases p with
  | l l =>
    obtain ⟨a, e1, e2⟩ := h
    exact ⟨a, e1, k _ _ e2⟩
  | _ => exact h
/-- a row at a -/
def RowAt (H : Hp) (a : PySem.Addr) (r : Wd × List Pt) : Prop := All2 Fit r.1.ks r.2 ∧ ∃ vs, H a = some (.tup (.str r.1.nm :: vs)) ∧ All2 (PtAt H) vs r.2
theorem RowAt.keep {H H' : Hp} (k : KeepT H H') {a : PySem.Addr} {r : Wd × List Pt} (h : RowAt H a r) : RowAt H' a r := by
  obtain ⟨f, vs, e, al⟩ := h
  exact ⟨f, vs, k _ _ e, al.imp fun _ _ z => z.keep k⟩
/-- the registers that are read, the places -/
def opn1 : Kd → Pt → List Int
  | .from', .i n => [n]
  | .opt, .i n => if 0 ≤ n then [n] else []
  | _, _ => []
def plc1 : Kd → Pt → List Int
  | .place, .i n => [n]
  | .keys, .l l => l
  | .places, .l l => l
  | _, _ => []
def opn (ks : List Kd) (ps : List Pt) : List Int := (ks.zip ps).flatMap fun x => opn1 x.1 x.2
def plc (ks : List Kd) (ps : List Pt) : List Int := (ks.zip ps).flatMap fun x => plc1 x.1 x.2
theorem flat_snoc {α β : Type} {f : α → List β} {l : List α} {i : Nat} {x : α} (h : l[i]? = some x) : (l.take (i + 1)).flatMap f = (l.take i).flatMap f ++ f x := by
  rw [take_snoc h, List.flatMap_append, List.flatMap_cons, List.flatMap_nil, List.append_nil]
/-- L: the members of ns, ascending -/
def IsSet (L ns : List Int) : Prop := L.Pairwise (· < ·) ∧ ∀ k, k ∈ L ↔ k ∈ ns
theorem srt_uniq : ∀ {L L' : List Int}, L.Pairwise (· < ·) → L'.Pairwise (· < ·) → (∀ k, k ∈ L ↔ k ∈ L') → L = L'
  | [], [], _, _, _ => rfl
  | [], y :: ys, _, _, h => absurd ((h y).mpr List.mem_cons_self) (by simp)
  | x :: xs, [], _, _, h => absurd ((h x).mp List.mem_cons_self) (by simp)
  | x :: xs, y :: ys, p, q, h => by
    obtain ⟨p1, p2⟩ := List.pairwise_cons.mp p
    obtain ⟨q1, q2⟩ := List.pairwise_cons.mp q
    have e : x = y := by
      rcases List.mem_cons.mp ((h x).mp List.mem_cons_self) with z | z
      · exact z
      · rcases List.mem_cons.mp ((h y).mpr List.mem_cons_self) with z' | z'
        · exact z'.symm
        · have a := q1 x z
          have b := p1 y z'
          omega
    subst e
    rw [srt_uniq p2 q2 fun k => ⟨fun hk => ?_, fun hk => ?_⟩]
    · rcases List.mem_cons.mp ((h k).mp (List.mem_cons_of_mem _ hk)) with z | z
      · exact absurd (p1 k hk) (by omega)
      · exact z
    · rcases List.mem_cons.mp ((h k).mpr (List.mem_cons_of_mem _ hk)) with z | z
      · exact absurd (q1 k hk) (by omega)
      · exact z
theorem IsSet.uniq {L L' ns ns' : List Int} (h : IsSet L ns) (h' : IsSet L' ns') (e : ∀ k, k ∈ ns ↔ k ∈ ns') : L = L' := srt_uniq h.1 h'.1 fun k => (h.2 k).trans ((e k).trans (h'.2 k).symm)
end CR
end
section
/-! readings for rows of code -/
namespace CR
open PySem PySem.Spec PyProof.Rows L2 MM
section
variable {K : PySem.W.Frag} {H : Hp} {Q : VK} {a : PySem.Addr} {xs : List V} {σ : L2.St} {ta : TA} {w : World}
theorem r_zl (h : ta σ H fun vs H1 => Zl.rZl K vs H1 Q) : Zl.tZl K ta σ H Q := h
theorem same_acc {H H1 : Hp} {D : PySem.Addr} {o : HO} (hD : H D = none) (s : Same H H1) : Same H (upd H1 D o) := fun b x e => by
  rw [upd_ne (ne_of_none e hD)]
  exact s b x e
theorem cut_from {n : Nat} (xs : List V) : cutV xs (some (n : Int)) none = xs.drop n := by
  unfold cutV
  rw [HT.sIx_nat, HT.sIx_none]
  by_cases h : n ≤ xs.length
  · rw [Nat.min_eq_left h, List.take_of_length_le (by rw [List.length_drop]; omega)]
  · rw [Nat.min_eq_right (by omega), List.drop_of_length_le (Nat.le_refl _), List.drop_of_length_le (by omega), List.take_nil]
/-- t[n:], n at least 1 -/
theorem sl_from {n : Nat} (hs : SqT K H a xs) (h1 : 1 ≤ n) (hl : 1 ≤ xs.length) (h : ∀ p H', Same H H' → H p = none → H' p = some (.tup (xs.drop n)) → Q (.ref p) H') : rSlT K (.ref a) (some (n : Int)) none H Q := by
  refine ⟨a, xs, rfl, hs, fun z => ?_, fun p hp => ?_⟩
  · rw [HT.sIx_nat] at z
    have := z.1
    omega
  · rw [cut_from]
    exact h p _ (R.same_new hp) hp upd_same
/-- t[1:2] -/
theorem sl_12 (hs : SqT K H a xs) (hl : 1 ≤ xs.length) (h : ∀ p H', Same H H' → H p = none → H' p = some (.tup ((xs.drop 1).take 1)) → Q (.ref p) H') : rSlT K (.ref a) (some 1) (some 2) H Q := by
  have i1 : HT.sIx xs.length 0 (some 1) = min 1 xs.length := HT.sIx_nat xs.length 0 1
  have i2 : HT.sIx xs.length xs.length (some 2) = min 2 xs.length := HT.sIx_nat xs.length xs.length 2
  refine ⟨a, xs, rfl, hs, fun z => ?_, fun p hp => ?_⟩
  · rw [i1] at z
    have := z.1
    omega
  · have e : cutV xs (some 1) (some 2) = (xs.drop 1).take 1 := by
      unfold cutV
      rw [i1, i2]
      cases xs with
      | nil => rfl
      | cons x xs => cases xs <;> simp <;> omega
    rw [e]
    exact h p _ (R.same_new hp) hp upd_same
theorem r_inK {p : PySem.Addr} {x : V} {b : Bool} (e : SqT K H p xs) (hx : flatV x = true) (ha : xs.all flatV = true) (hb : inV x xs = b) (h : Q (.bl b) H) : rIn K false x (.ref p) H Q :=
  ⟨p, xs, rfl, .inr e, hx, ha, by rw [if_neg Bool.false_ne_true, hb]; exact h⟩
theorem All2.len_get {α β : Type} {R : α → β → Prop} {l : List α} {r : List β} (h : MM.All2 R l r) {i : Nat} {x : α} (e : l[i]? = some x) : ∃ y, r[i]? = some y ∧ R x y := by
  induction h generalizing i with
  | nil => simp at e
  | cons z _ ih =>
    cases i with
    | zero =>
      obtain rfl := Option.some.inj e
      exact ⟨_, rfl, z⟩
    | succ i => exact ih e
theorem All2.len_get' {α β : Type} {R : α → β → Prop} {l : List α} {r : List β} (h : MM.All2 R l r) {i : Nat} {y : β} (e : r[i]? = some y) : ∃ x, l[i]? = some x ∧ R x y := by
  obtain ⟨x, a, b⟩ := h.get e
  exact ⟨x, a, b⟩
end
section
variable {K : PySem.W.Frag} {tb : TS} {g : TG} {nx : L2.St → Hp → Prop} {rt : V → Hp → Prop} {σ : L2.St} {H : Hp} {a : PySem.Addr} {xs : List V}
theorem for_listG (Pv : Nat → L2.St → Hp → Prop) (h0 : Pv 0 σ H) (hG : ∀ i σ H, Pv i σ H → SqL K H a xs)
    (hs : ∀ i v σ H, xs[i]? = some v → Pv i σ H → g v σ H fun σ2 H2 => tb ⟨Pv (i + 1), rt, nx, Pv (i + 1)⟩ σ2 H2) (hd : ∀ σ H, Pv xs.length σ H → nx σ H) : FW (Itl K a) g tb nx rt σ H := by
  refine for_it (D := ⟨nx, rt, fun _ _ => False, fun _ _ => False⟩) (walk_list (xs := xs)) Pv h0 (fun i σ H _ p => hG i σ H p) (fun i x σ H H' hi p y => ?_) hd
  obtain ⟨rfl, e⟩ := y
  exact hs i x σ _ e p
end
theorem plc_len {w : Wd} {ps : List Pt} (f : MM.All2 Fit w.ks ps) : (plc w.ks ps).length ≤ 16 := by
  have go : ∀ (ks : List Kd) (ps : List Pt), MM.All2 Fit ks ps → (ks.filter fun k => decide (k = .place ∨ k = .keys ∨ k = .places)).length ≤ 1 → (plc ks ps).length ≤ 16 * (ks.filter fun k => decide (k = .place ∨ k = .keys ∨ k = .places)).length := by
    intro ks ps h
    induction h with
    | nil => intro _; exact Nat.zero_le _
    | @cons k p ks ps r h ih =>
      intro hl
      have e : plc (k :: ks) (p :: ps) = plc1 k p ++ plc ks ps := by
        unfold plc
        rw [List.zip_cons_cons, List.flatMap_cons]
      rw [e, List.length_append]
      by_cases c : k = .place ∨ k = .keys ∨ k = .places
      · rw [List.filter_cons_of_pos (by rw [decide_eq_true c]), List.length_cons] at hl ⊢
        have z := ih (by omega)
        have b : (plc1 k p).length ≤ 16 := by
          rcases c with c | c | c <;> subst c <;> cases p <;> simp only [Fit] at r <;> simp only [plc1, List.length_cons, List.length_nil] <;> omega
        omega
      · rw [List.filter_cons_of_neg (by rw [decide_eq_false c]; exact Bool.false_ne_true)] at hl ⊢
        have z := ih hl
        have b : plc1 k p = [] := by
          cases k <;> cases p <;> first | rfl | exact absurd (by simp) c
        rw [b]
        simpa using z
  have k1 : (w.ks.filter fun k => decide (k = .place ∨ k = .keys ∨ k = .places)).length ≤ 1 := by cases w <;> decide
  have := go w.ks ps f k1
  omega
theorem opn1_len {k : Kd} {p : Pt} : (opn1 k p).length ≤ 1 := by
  cases k <;> cases p <;> simp only [opn1, List.length_nil, List.length_cons] <;> first | omega | (split <;> simp)
theorem flat_le {α β : Type} {f : α → List β} {n : Nat} (h : ∀ x, (f x).length ≤ n) : ∀ l : List α, (l.flatMap f).length ≤ n * l.length
  | [] => Nat.zero_le _
  | x :: l => by
    rw [List.flatMap_cons, List.length_append, List.length_cons, Nat.mul_succ]
    have := flat_le h l
    have := h x
    omega
theorem opn_len {ks : List Kd} {ps : List Pt} : (opn ks ps).length ≤ ks.length := by
  induction ks generalizing ps with
  | nil => exact Nat.le_refl _
  | cons k ks ih =>
    cases ps with
    | nil => exact Nat.zero_le _
    | cons p ps =>
      have e : opn (k :: ks) (p :: ps) = opn1 k p ++ opn ks ps := by
        unfold opn
        rw [List.zip_cons_cons, List.flatMap_cons]
      have b : (opn1 k p).length ≤ 1 := by
        cases k <;> cases p <;> simp only [opn1, List.length_nil, List.length_cons] <;> first | omega | (split <;> simp)
      rw [e, List.length_append, List.length_cons]
      have := ih (ps := ps)
      omega
theorem ks_len (w : Wd) : w.ks.length ≤ 4 := by cases w <;> decide
end CR
end
section
/-! rows of code, further -/
namespace CR
open PySem PySem.Spec PyProof.Rows L2 MM
theorem inv {k : Kd} {ks : List Kd} {ps : List Pt} (h : MM.All2 Fit (k :: ks) ps) : ∃ p ps', ps = p :: ps' ∧ Fit k p ∧ MM.All2 Fit ks ps' := by
  cases h with
  | cons a b => exact ⟨_, _, rfl, a, b⟩
theorem inv0 {ps : List Pt} (h : MM.All2 Fit [] ps) : ps = [] := by cases h; rfl
theorem inva {H : Hp} {vs : List V} {p : Pt} {ps : List Pt} (h : MM.All2 (PtAt H) vs (p :: ps)) : ∃ v vs', vs = v :: vs' ∧ PtAt H v p ∧ MM.All2 (PtAt H) vs' ps := by
  cases h with
  | cons a b => exact ⟨_, _, rfl, a, b⟩
theorem inva0 {H : Hp} {vs : List V} (h : MM.All2 (PtAt H) vs []) : vs = [] := by cases h; rfl
def Kd.isI : Kd → Bool
  | .into => true | .member => true | .place => true | .slot => true | .from' => true | .glob => true | .thr => true | .arr => true | .target => true | .table => true | .opt => true
  | _ => false
theorem fit_i {k : Kd} {p : Pt} (h : Fit k p) (hk : k.isI = true) : ∃ n, p = .i n := by
  cases p with
  | i n => exact ⟨n, rfl⟩
  | _ => cases k <;> first | exact h.elim | cases hk
def Kd.isL : Kd → Bool
  | .keys => true | .places => true
  | _ => false
theorem fit_l {k : Kd} {p : Pt} (h : Fit k p) (hk : k.isL = true) : ∃ l, p = .l l ∧ l.length ≤ 16 := by
  cases p with
  | l l => cases k <;> first | exact ⟨l, rfl, h⟩ | cases hk
  | _ => cases k <;> first | exact h.elim | cases hk
theorem opn1_no {k : Kd} {p : Pt} (h1 : k ≠ .from') (h2 : k ≠ .opt) : opn1 k p = [] := by cases k <;> cases p <;> first | rfl | exact absurd rfl h1 | exact absurd rfl h2
theorem plc1_no {k : Kd} {p : Pt} (h1 : k ≠ .place) (h2 : k ≠ .keys) (h3 : k ≠ .places) : plc1 k p = [] := by cases k <;> cases p <;> first | rfl | exact absurd rfl h1 | exact absurd rfl h2 | exact absurd rfl h3
theorem opn_cons {k : Kd} {ks : List Kd} {p : Pt} {ps : List Pt} : opn (k :: ks) (p :: ps) = opn1 k p ++ opn ks ps := by unfold opn; rw [List.zip_cons_cons, List.flatMap_cons]
theorem plc_cons {k : Kd} {ks : List Kd} {p : Pt} {ps : List Pt} : plc (k :: ks) (p :: ps) = plc1 k p ++ plc ks ps := by unfold plc; rw [List.zip_cons_cons, List.flatMap_cons]
theorem opn_skip {k : Kd} {ks : List Kd} {p : Pt} {ps : List Pt} (h1 : k ≠ .from') (h2 : k ≠ .opt) : opn (k :: ks) (p :: ps) = opn ks ps := by rw [opn_cons, opn1_no h1 h2]; rfl
theorem opn_take {ks : List Kd} {n : Int} {ps : List Pt} : opn (.from' :: ks) (.i n :: ps) = n :: opn ks ps := opn_cons
theorem plc_skip {k : Kd} {ks : List Kd} {p : Pt} {ps : List Pt} (h1 : k ≠ .place) (h2 : k ≠ .keys) (h3 : k ≠ .places) : plc (k :: ks) (p :: ps) = plc ks ps := by rw [plc_cons, plc1_no h1 h2 h3]; rfl
theorem opn_nil {ks : List Kd} : ∀ {ps : List Pt}, (∀ k ∈ ks, k ≠ .from' ∧ k ≠ .opt) → opn ks ps = [] := by
  induction ks with
  | nil => intro ps _; rfl
  | cons k ks ih =>
    intro ps h
    cases ps with
    | nil => rfl
    | cons p ps => rw [opn_skip (h k List.mem_cons_self).1 (h k List.mem_cons_self).2, ih fun k hk => h k (List.mem_cons_of_mem _ hk)]
theorem plc_nil {ks : List Kd} : ∀ {ps : List Pt}, (∀ k ∈ ks, k ≠ .place ∧ k ≠ .keys ∧ k ≠ .places) → plc ks ps = [] := by
  induction ks with
  | nil => intro ps _; rfl
  | cons k ks ih =>
    intro ps h
    cases ps with
    | nil => rfl
    | cons p ps => rw [plc_skip (h k List.mem_cons_self).1 (h k List.mem_cons_self).2.1 (h k List.mem_cons_self).2.2, ih fun k hk => h k (List.mem_cons_of_mem _ hk)]
/-- what is written: the register, or -1 -/
def wrt (r : Wd × List Pt) : Int := match r.1.ks, r.2 with
  | .into :: _, .i n :: _ => n
  | _, _ => -1
def tgt (r : Wd × List Pt) : Int := match r.1, r.2 with
  | .jump, [.i t] => t
  | .zero, [_, .i t] => t
  | _, _ => 0
/-- the rows that may come next -/
def nxt (n : Nat) (at' : Nat) (r : Wd × List Pt) : List Int :=
  ((if r.1 = .jump ∨ r.1 = .stop ∨ r.1 = .end' then [] else [(at' : Int) + 1]) ++ (if r.1 = .jump ∨ r.1 = .zero then [tgt r] else [])).filter fun t => decide (0 ≤ t ∧ t < (n : Int))
theorem g_jse {r : Wd} : inV (.str r.nm) [.str "jump", .str "stop", .str "end"] = decide (r = .jump ∨ r = .stop ∨ r = .end') := by cases r <;> decide +kernel
theorem g_jz {r : Wd} : inV (.str r.nm) [.str "jump", .str "zero"] = decide (r = .jump ∨ r = .zero) := by cases r <;> decide +kernel
theorem g_oc {r : Wd} : inV (.str r.nm) [.str "op", .str "compare"] = decide (r = .op ∨ r = .compare) := by cases r <;> decide +kernel
theorem g_7 {r : Wd} : inV (.str r.nm) [.str "minus", .str "not", .str "len", .str "cat", .str "sub", .str "text", .str "byte"] = decide (r = .minus ∨ r = .not ∨ r = .len ∨ r = .cat ∨ r = .sub ∨ r = .text ∨ r = .byte) := by cases r <;> decide +kernel
theorem g_3 {r : Wd} : inV (.str r.nm) [.str "keep", .str "setglobal", .str "setthread"] = decide (r = .keep ∨ r = .setglobal ∨ r = .setthread) := by cases r <;> decide +kernel
theorem g_4 {r : Wd} : inV (.str r.nm) [.str "zero", .str "speculate", .str "commit", .str "discard"] = decide (r = .zero ∨ r = .speculate ∨ r = .commit ∨ r = .discard) := by cases r <;> decide +kernel
theorem g_3b {r : Wd} : inV (.str r.nm) [.str "setarray", .str "record", .str "put"] = decide (r = .setarray ∨ r = .record ∨ r = .put) := by cases r <;> decide +kernel
theorem g_se {r : Wd} : inV (.str r.nm) [.str "stop", .str "end"] = decide (r = .stop ∨ r = .end') := by cases r <;> decide +kernel
theorem g_sse {r : Wd} : inV (.str r.nm) [.str "stop", .str "skip", .str "end"] = decide (r = .stop ∨ r = .skip ∨ r = .end') := by cases r <;> decide +kernel
theorem g_11 {r : Wd} : inV (.str r.nm) [.str "keep", .str "jump", .str "zero", .str "setglobal", .str "setthread", .str "setarray", .str "record", .str "put", .str "speculate", .str "commit", .str "discard"] =
    decide (r = .keep ∨ r = .jump ∨ r = .zero ∨ r = .setglobal ∨ r = .setthread ∨ r = .setarray ∨ r = .record ∨ r = .put ∨ r = .speculate ∨ r = .commit ∨ r = .discard) := by cases r <;> decide +kernel
theorem nm_is {r : Wd} (s : Wd) : r.nm = s.nm ↔ r = s := by cases r <;> cases s <;> decide +kernel
theorem into_iff {r : Wd} {H : Hp} : (PyData.tuple ((r.ks.take 1).map fun k => PyData.str k.nm) = .tuple [.str "into"]) ↔ ∃ t, r.ks = .into :: t := by
  have e : ∀ k : Kd, k.nm = "into" ↔ k = .into := fun k => by cases k <;> decide +kernel
  cases h : r.ks with
  | nil => simp
  | cons k ks => simp [e]
theorem nm_ok (k : Kd) : PyData.strOk k.nm = true := by cases k <;> decide +kernel
end CR
end
section
/-! built-ins called within a comprehension -/
namespace R
open PySem PySem.Spec PyProof.Rows L2
theorem cLenSK {X : Cx} {K0 : PySem.W.Frag} (hK : X.K = K0) : CallR X (.builtin "len") (rLenS K0) := hK ▸ cLenS
theorem cListOfK {X : Cx} {K0 : PySem.W.Frag} (hK : X.K = K0) : CallR X (.type "list") (MM.rListOf K0) := hK ▸ MM.cListOf
theorem cTupOfK {X : Cx} {K0 : PySem.W.Frag} (hK : X.K = K0) : CallR X (.type "tuple") (MM.rTupOf K0) := hK ▸ MM.cTupOf
theorem ixTK {X : Cx} {K0 : PySem.W.Frag} (hK : X.K = K0) : IxR X (rIxT K0) := hK ▸ ix_tup
theorem ixLK {X : Cx} {K0 : PySem.W.Frag} (hK : X.K = K0) : IxR X (rIxL K0) := hK ▸ ix_list
end R
/-! the law's machine at its beginning; picks; what both machines tell -/
/-! readings for following, reads_places, writes -/
namespace CR
open PySem PySem.Spec PyProof.Rows L2 MM
section
variable {K : PySem.W.Frag} {H H1 H' : Hp} {Q : VK} {D a : PySem.Addr} {xs : List V} {o : HO}
theorem same_mv (hD : H D = none) (s : Same (upd H D o) H1) (m : R.Mv D H1 H') : Same H H' := fun b x e => by
  have n := ne_of_none e hD
  exact m b x (s b x (by rw [upd_ne n]; exact e)) n
theorem mv_upd {o : HO} (m : R.Mv D H1 H') : R.Mv D H1 (upd H' D o) := m.trans R.Mv.upd
/-- t[:1] -/
theorem sl_take1 (hs : SqT K H a xs) (h : ∀ p H', Same H H' → SqT K H' p (xs.take 1) → Q (.ref p) H') : rSlA K (.ref a) none (some 1) H Q := by
  have i1 : HT.sIx xs.length xs.length (some 1) = min 1 xs.length := HT.sIx_nat xs.length xs.length 1
  refine ⟨a, xs, rfl, hs, fun z => ?_, fun z p hp => ?_⟩
  · rw [i1] at z
    refine h a H (Same.refl H) ?_
    rw [List.take_of_length_le (by omega)]
    exact hs
  · have e : cutV xs none (some 1) = xs.take 1 := by
      unfold cutV
      rw [i1, HT.sIx_none]
      cases xs with
      | nil => rfl
      | cons x xs => simp
    rw [e]
    exact h p _ (R.same_new hp) (R.sqT upd_same)
theorem r_niK {p : PySem.Addr} {x : V} {b : Bool} (e : SqT K H p xs) (hx : flatV x = true) (ha : xs.all flatV = true) (hb : inV x xs = b) (h : Q (.bl (!b)) H) : rIn K true x (.ref p) H Q :=
  ⟨p, xs, rfl, .inr e, hx, ha, by rw [if_pos rfl, hb]; exact h⟩
theorem strs_dp {ks : List Kd} : DpAll K H (ks.map fun k => V.str k.nm) (ks.map fun k => PyData.str k.nm) := _root_.D.all_map fun _ _ => .str _
theorem tgt_last {r : Wd} {ps : List Pt} (fit : MM.All2 Fit r.ks ps) (al : MM.All2 (PtAt H) xs ps) (c : r = .jump ∨ r = .zero) : atI (.str r.nm :: xs) (-1) = some (.int (tgt (r, ps))) := by
  rcases c with rfl | rfl
  · obtain ⟨p, ps, rfl, f, fit⟩ := inv fit
    obtain rfl := inv0 fit
    obtain ⟨n, rfl⟩ := fit_i f rfl
    obtain ⟨v, vs, rfl, hv, al⟩ := inva al
    obtain rfl := inva0 al
    obtain rfl : v = .int n := hv
    rfl
  · obtain ⟨p0, ps, rfl, f0, fit⟩ := inv fit
    obtain ⟨p, ps, rfl, f, fit⟩ := inv fit
    obtain rfl := inv0 fit
    obtain ⟨m, rfl⟩ := fit_i f0 rfl
    obtain ⟨n, rfl⟩ := fit_i f rfl
    obtain ⟨v0, vs, rfl, _, al⟩ := inva al
    obtain ⟨v, vs, rfl, hv, al⟩ := inva al
    obtain rfl := inva0 al
    obtain rfl : v = .int n := hv
    rfl
theorem filt_snoc {α : Type} {f : α → Bool} {l : List α} {i : Nat} {x : α} (h : l[i]? = some x) : (l.take (i + 1)).filter f = (l.take i).filter f ++ (if f x = true then [x] else []) := by
  rw [take_snoc h, List.filter_append]
  congr 1
  by_cases z : f x = true
  · rw [if_pos z, List.filter_cons_of_pos z, List.filter_nil]
  · rw [if_neg z, List.filter_cons_of_neg z, List.filter_nil]
end
/-! the law's own table -/
section
variable {H : Hp}
theorem opn_all : ∀ {ks : List Kd} {ps : List Pt} {xs : List V}, MM.All2 Fit ks ps → MM.All2 (PtAt H) xs ps → (∀ k ∈ ks, k = .from') → xs = (opn ks ps).map V.int
  | [], ps, xs, f, a, _ => by
    obtain rfl := inv0 f
    rw [inva0 a]
    rfl
  | k :: ks, ps, xs, f, a, h => by
    obtain rfl : k = .from' := h k List.mem_cons_self
    obtain ⟨p, ps', rfl, f1, f2⟩ := inv f
    obtain ⟨n, rfl⟩ := fit_i f1 rfl
    obtain ⟨v, vs, rfl, hv, a2⟩ := inva a
    obtain rfl : v = .int n := hv
    rw [opn_take, List.map_cons, ← opn_all f2 a2 fun k hk => h k (List.mem_cons_of_mem _ hk)]
theorem opn_drop : ∀ (n : Nat) {ks : List Kd} {ps : List Pt} {xs : List V}, MM.All2 Fit ks ps → MM.All2 (PtAt H) xs ps → (∀ k ∈ ks.take n, k ≠ .from' ∧ k ≠ .opt) → (∀ k ∈ ks.drop n, k = .from') → xs.drop n = (opn ks ps).map V.int
  | 0, _, _, _, f, a, _, h2 => opn_all f a h2
  | n + 1, [], ps, xs, f, a, _, _ => by
    obtain rfl := inv0 f
    rw [inva0 a]
    rfl
  | n + 1, k :: ks, ps, xs, f, a, h1, h2 => by
    obtain ⟨p, ps, rfl, _, f⟩ := inv f
    obtain ⟨v, vs, rfl, _, a⟩ := inva a
    have z := h1 k List.mem_cons_self
    rw [opn_skip z.1 z.2, List.drop_succ_cons]
    exact opn_drop n f a (fun k hk => h1 k (List.mem_cons_of_mem _ hk)) h2
theorem opn_one {ks : List Kd} {ps : List Pt} {xs : List V} (f : MM.All2 Fit (.from' :: ks) ps) (a : MM.All2 (PtAt H) xs ps) (h : ∀ k ∈ ks, k ≠ .from' ∧ k ≠ .opt) : xs.take 1 = (opn (.from' :: ks) ps).map V.int := by
  obtain ⟨p, ps, rfl, f1, f⟩ := inv f
  obtain ⟨n, rfl⟩ := fit_i f1 rfl
  obtain ⟨v, vs, rfl, hv, a⟩ := inva a
  obtain rfl : v = .int n := hv
  rw [opn_take, opn_nil h]
  rfl
/-- put's last part -/
theorem put_at {ps : List Pt} {xs : List V} (f : MM.All2 Fit (Wd.ks .put) ps) (a : MM.All2 (PtAt H) xs ps) : ∃ (v1 v2 : V) (n : Int), xs = [v1, v2, .int n] ∧ opn (Wd.ks .put) ps = if 0 ≤ n then [n] else [] := by
  obtain ⟨p, ps, rfl, f1, f⟩ := inv f
  obtain ⟨p2, ps, rfl, f2, f⟩ := inv f
  obtain ⟨p3, ps, rfl, f3, f⟩ := inv f
  obtain rfl := inv0 f
  obtain ⟨n, rfl⟩ := fit_i f3 rfl
  obtain ⟨v1, vs, rfl, _, a⟩ := inva a
  obtain ⟨v2, vs, rfl, _, a⟩ := inva a
  obtain ⟨v3, vs, rfl, hv, a⟩ := inva a
  obtain rfl := inva0 a
  obtain rfl : v3 = .int n := hv
  refine ⟨v1, v2, n, rfl, ?_⟩
  show opn [.table, .keys, .opt] _ = _
  rw [opn_skip (by nofun) (by nofun), opn_skip (by nofun) (by nofun), opn_cons]
  show (if 0 ≤ n then [n] else []) ++ [] = _
  rw [List.append_nil]
theorem opn_else {r : Wd} {ps : List Pt} (c1 : ¬ (r = .op ∨ r = .compare)) (c2 : ¬ (r = .minus ∨ r = .not ∨ r = .len ∨ r = .cat ∨ r = .sub ∨ r = .text ∨ r = .byte)) (c3 : ¬ (r = .keep ∨ r = .setglobal ∨ r = .setthread))
    (c4 : ¬ (r = .zero ∨ r = .speculate ∨ r = .commit ∨ r = .discard)) (c5 : r ≠ .setarray) (c6 : r ≠ .put) : opn r.ks ps = [] := by
  refine opn_nil ?_
  cases r <;> first | decide | (refine absurd ?_ c1; decide) | (refine absurd ?_ c2; decide) | (refine absurd ?_ c3; decide) | (refine absurd ?_ c4; decide) | exact absurd rfl c5 | exact absurd rfl c6
/-- the places: one, or a tuple at a part -/
theorem plc_get {ps : List Pt} {xs : List V} (f : MM.All2 Fit (Wd.ks .get) ps) (a : MM.All2 (PtAt H) xs ps) : xs.drop 1 = (plc (Wd.ks .get) ps).map V.int ∧ 1 ≤ xs.length := by
  obtain ⟨p, ps, rfl, f1, f⟩ := inv f
  obtain ⟨p2, ps, rfl, f2, f⟩ := inv f
  obtain rfl := inv0 f
  obtain ⟨n, rfl⟩ := fit_i f2 rfl
  obtain ⟨v1, vs, rfl, _, a⟩ := inva a
  obtain ⟨v2, vs, rfl, hv, a⟩ := inva a
  obtain rfl := inva0 a
  obtain rfl : v2 = .int n := hv
  refine ⟨?_, by simp⟩
  show [V.int n] = (plc [.into, .place] [p, .i n]).map V.int
  rw [plc_skip (by nofun) (by nofun) (by nofun), plc_cons]
  rfl
theorem plc_at : ∀ (n : Nat) {ks : List Kd} {ps : List Pt} {xs : List V}, MM.All2 Fit ks ps → MM.All2 (PtAt H) xs ps → (∀ k ∈ ks.take n, k ≠ .place ∧ k ≠ .keys ∧ k ≠ .places) → (∃ k, ks[n]? = some k ∧ (k = .keys ∨ k = .places)) → (∀ k ∈ ks.drop (n + 1), k ≠ .place ∧ k ≠ .keys ∧ k ≠ .places) →
    ∃ b, xs[n]? = some (.ref b) ∧ H b = some (.tup ((plc ks ps).map V.int))
  | _, [], _, _, _, _, _, h2, _ => by
    obtain ⟨k, e, _⟩ := h2
    simp at e
  | 0, k :: ks, ps, xs, f, a, _, h2, h3 => by
    obtain ⟨k', e, h2⟩ := h2
    obtain rfl := Option.some.inj e
    obtain ⟨p, ps, rfl, f1, f⟩ := inv f
    obtain ⟨l, rfl, _⟩ := fit_l f1 (by rcases h2 with z | z <;> rw [z] <;> rfl)
    obtain ⟨v, vs, rfl, hv, a⟩ := inva a
    obtain ⟨b, rfl, eb⟩ := hv
    refine ⟨b, rfl, ?_⟩
    have h3 : ∀ k ∈ ks, k ≠ .place ∧ k ≠ .keys ∧ k ≠ .places := h3
    rw [plc_cons, plc_nil h3, List.append_nil, show plc1 k (.l l) = l by rcases h2 with z | z <;> rw [z] <;> rfl]
    exact eb
  | n + 1, k :: ks, ps, xs, f, a, h1, h2, h3 => by
    obtain ⟨p, ps, rfl, _, f⟩ := inv f
    obtain ⟨v, vs, rfl, _, a⟩ := inva a
    have z := h1 k List.mem_cons_self
    obtain ⟨b, e, eb⟩ := plc_at n f a (fun k hk => h1 k (List.mem_cons_of_mem _ hk)) h2 h3
    refine ⟨b, e, ?_⟩
    rw [plc_skip z.1 z.2.1 z.2.2]
    exact eb
theorem plc_else {r : Wd} {ps : List Pt} (c1 : r ≠ .get) (c2 : r ≠ .array) (c3 : ¬ (r = .setarray ∨ r = .record ∨ r = .put)) : plc r.ks ps = [] := by
  refine plc_nil ?_
  cases r <;> first | decide | exact absurd rfl c1 | exact absurd rfl c2 | (refine absurd ?_ c3; decide)
theorem wrt_no {r : Wd} {ps : List Pt} (c : (r = .keep ∨ r = .jump ∨ r = .zero ∨ r = .setglobal ∨ r = .setthread ∨ r = .setarray ∨ r = .record ∨ r = .put ∨ r = .speculate ∨ r = .commit ∨ r = .discard) ∨ (r = .stop ∨ r = .skip ∨ r = .end')) : wrt (r, ps) = -1 := by
  cases r <;> first | rfl | (simp at c)
theorem wrt_yes {r : Wd} {ps : List Pt} {xs : List V} (f : MM.All2 Fit r.ks ps) (a : MM.All2 (PtAt H) xs ps) (c : ¬ (r = .keep ∨ r = .jump ∨ r = .zero ∨ r = .setglobal ∨ r = .setthread ∨ r = .setarray ∨ r = .record ∨ r = .put ∨ r = .speculate ∨ r = .commit ∨ r = .discard)) (c2 : ¬ (r = .stop ∨ r = .skip ∨ r = .end')) : xs[0]? = some (.int (wrt (r, ps))) := by
  have z : ∃ t, r.ks = .into :: t := by cases r <;> first | exact ⟨_, rfl⟩ | (refine absurd ?_ c; decide) | (refine absurd ?_ c2; decide)
  obtain ⟨t, z⟩ := z
  rw [z] at f
  obtain ⟨p, ps, rfl, f1, f⟩ := inv f
  obtain ⟨n, rfl⟩ := fit_i f1 rfl
  obtain ⟨v, vs, rfl, hv, a⟩ := inva a
  obtain rfl : v = .int n := hv
  rw [show wrt (r, .i n :: ps) = n by unfold wrt; dsimp only; rw [z]]
  rfl
theorem tgt_at {r : Wd} {ps : List Pt} {xs : List V} (f : MM.All2 Fit r.ks ps) (a : MM.All2 (PtAt H) xs ps) : 0 ≤ tgt (r, ps) ∧ (r = .jump → xs[0]? = some (.int (tgt (r, ps)))) ∧ (r = .zero → xs[1]? = some (.int (tgt (r, ps)))) := by
  by_cases c : r = .jump
  · subst c
    obtain ⟨p, ps, rfl, f1, f⟩ := inv f
    obtain rfl := inv0 f
    obtain ⟨n, rfl⟩ := fit_i f1 rfl
    obtain ⟨v, vs, rfl, hv, a⟩ := inva a
    obtain rfl : v = .int n := hv
    exact ⟨f1, fun _ => rfl, (fun h => nomatch h)⟩
  · by_cases c2 : r = .zero
    · subst c2
      obtain ⟨p0, ps, rfl, f0, f⟩ := inv f
      obtain ⟨p, ps, rfl, f1, f⟩ := inv f
      obtain rfl := inv0 f
      obtain ⟨n, rfl⟩ := fit_i f1 rfl
      obtain ⟨v0, vs, rfl, _, a⟩ := inva a
      obtain ⟨v, vs, rfl, hv, a⟩ := inva a
      obtain rfl : v = .int n := hv
      exact ⟨f1, (fun h => nomatch h), fun _ => rfl⟩
    · refine ⟨?_, fun h => absurd h c, fun h => absurd h c2⟩
      have e : tgt (r, ps) = 0 := by
        unfold tgt
        dsimp only
        split
        · exact absurd rfl c
        · exact absurd rfl c2
        · rfl
      omega
def raw (at' : Nat) (r : Wd × List Pt) : List Int := (if r.1 = .jump ∨ r.1 = .stop ∨ r.1 = .end' then [] else [(at' : Int) + 1]) ++ (if r.1 = .jump ∨ r.1 = .zero then [tgt r] else [])
theorem raw_nn {at' : Nat} {r : Wd} {ps : List Pt} (h : 0 ≤ tgt (r, ps)) : ∀ t ∈ raw at' (r, ps), 0 ≤ t := fun t ht => by
  rcases List.mem_append.mp ht with z | z
  · split at z
    · simp at z
    · rw [List.mem_singleton] at z; omega
  · split at z
    · rw [List.mem_singleton] at z; omega
    · simp at z
theorem raw_set {n at' : Nat} {r : Wd} {ps : List Pt} {L : List Int} (h : 0 ≤ tgt (r, ps)) (s : IsSet L (raw at' (r, ps))) : IsSet (L.filter fun t => decide (t < (n : Int))) (nxt n at' (r, ps)) := by
  refine ⟨s.1.filter _, fun k => ?_⟩
  show _ ↔ k ∈ (raw at' (r, ps)).filter _
  rw [List.mem_filter, List.mem_filter, decide_eq_true_iff, decide_eq_true_iff, s.2 k]
  exact ⟨fun z => ⟨z.1, raw_nn h k z.1, z.2⟩, fun z => ⟨z.1, z.2.2⟩⟩
end
section
variable {K : PySem.W.Frag} {H : Hp} {Q : VK} {p : PySem.Addr} {xs : List V}
theorem r_inL {x : V} {b : Bool} (e : SqL K H p xs) (hx : flatV x = true) (ha : xs.all flatV = true) (hb : inV x xs = b) (h : Q (.bl b) H) : rIn K false x (.ref p) H Q :=
  ⟨p, xs, rfl, .inl e, hx, ha, by rw [if_neg Bool.false_ne_true, hb]; exact h⟩
theorem r_inNew {x : V} {b : Bool} (hl : xs.length ≤ sizeLine) (hx : flatV x = true) (ha : xs.all flatV = true) (hb : inV x xs = b) (h : ∀ H', Same H H' → Q (.bl b) H') : xs.length ≤ sizeLine ∧ ∀ p, H p = none → rIn K false x (.ref p) (upd H p (.tup xs)) Q :=
  ⟨hl, fun p hp => r_inK (R.sqT upd_same) hx ha hb (h _ (R.same_new hp))⟩
theorem sl_1 {a : PySem.Addr} {n : Nat} {x : V} {ns : List Int} (hs : SqT K H a (x :: xs)) (e : xs.drop n = ns.map V.int) (h : ∀ p H', Same H H' → H' p = some (.tup (ns.map V.int)) → Q (.ref p) H') : rSlT K (.ref a) (some ((n + 1 : Nat) : Int)) none H Q :=
  sl_from hs (by omega) (by rw [List.length_cons]; omega) fun p H' s _ e' => h p H' s (by rw [← e]; exact e')
end
theorem raw_se {i : Nat} {r : Wd} {ps : List Pt} (c : r = .stop ∨ r = .end') : IsSet [] (raw i (r, ps)) := by
  have e : raw i (r, ps) = [] := by rcases c with rfl | rfl <;> rfl
  rw [e]
  exact ⟨.nil, fun _ => Iff.rfl⟩
theorem raw_jump {i : Nat} {ps : List Pt} : IsSet [tgt (.jump, ps)] (raw i (.jump, ps)) := ⟨List.pairwise_singleton _ _, fun _ => Iff.rfl⟩
theorem raw_zero {i : Nat} {ps : List Pt} {ns : List Int} (hp : ns.Perm [(i : Int) + 1, tgt (.zero, ps)]) (hs : ns.Pairwise (· ≤ ·)) (h : tgt (.zero, ps) ≠ (i : Int) + 1) : IsSet ns (raw i (.zero, ps)) := by
  refine ⟨?_, fun k => hp.mem_iff⟩
  have nd : ns.Nodup := hp.nodup_iff.mpr (by simp; omega)
  exact (hs.and nd).imp fun {a b} z => by have := z.1; have := z.2; omega
theorem raw_same {i : Nat} {ps : List Pt} (h : tgt (.zero, ps) = (i : Int) + 1) : IsSet [(i : Int) + 1] (raw i (.zero, ps)) := by
  refine ⟨List.pairwise_singleton _ _, fun k => ?_⟩
  show _ ↔ k ∈ [(i : Int) + 1] ++ [tgt (.zero, ps)]
  rw [h]
  simp
theorem raw_one {i : Nat} {r : Wd} {ps : List Pt} (c1 : ¬ (r = .stop ∨ r = .end')) (c2 : r ≠ .jump) (c3 : r ≠ .zero) : IsSet [(i : Int) + 1] (raw i (r, ps)) := by
  have e : raw i (r, ps) = [(i : Int) + 1] := by
    unfold raw
    dsimp only
    rw [if_neg (fun z => by rcases z with z | z | z; exact c2 z; exact c1 (.inl z); exact c1 (.inr z)), if_neg (fun z => by rcases z with z | z; exact c2 z; exact c3 z), List.append_nil]
  rw [e]
  exact ⟨List.pairwise_singleton _ _, fun _ => Iff.rfl⟩
end CR
end
section
/-! the drawing of code -/
namespace CR
open PySem PySem.Spec PyProof.Rows L2 MM
def rw0 (dl : PySem.Addr) (at' : Int) : List (Key × V) := [(.inr "row", .ref dl), (.inr "at", .int at')]
def Wr (H : Hp) (pw dl : PySem.Addr) : Prop := ∃ (at' : Int) (ds : List Int), H pw = some (.dK (rw0 dl at')) ∧ H dl = some (.lst (ds.map V.int)) ∧ 1 ≤ ds.length ∧ ds.length ≤ 1000
section
variable {H H0 H1 H2 H' : Hp} {pw dl b D : PySem.Addr}
theorem Wr.same (s : Same H H') (d : Wr H pw dl) : Wr H' pw dl := by
  obtain ⟨a, ds, e1, e2, h⟩ := d
  exact ⟨a, ds, s _ _ e1, s _ _ e2, h⟩
theorem Wr.ne (d : Wr H pw dl) (h : H b = none) : b ≠ pw ∧ b ≠ dl := by
  obtain ⟨a, ds, e1, e2, _⟩ := d
  exact ⟨(ne_of_none e1 h).symm, (ne_of_none e2 h).symm⟩
/-- the drawing goes on, all else stands -/
def Gr (pw dl : PySem.Addr) (H H' : Hp) : Prop := R.Mv pw H H' ∧ Wr H pw dl ∧ Wr H' pw dl
theorem Gr.refl (d : Wr H pw dl) : Gr pw dl H H := ⟨R.Mv.refl, d, d⟩
theorem Gr.trans (a : Gr pw dl H H1) (b : Gr pw dl H1 H2) : Gr pw dl H H2 := ⟨a.1.trans b.1, a.2.1, b.2.2⟩
theorem Gr.sm (a : Gr pw dl H H1) (s : Same H1 H2) : Gr pw dl H H2 := ⟨a.1.trans (R.Mv.of s), a.2.1, a.2.2.same s⟩
theorem Gr.new {o : HO} (a : Gr pw dl H H1) (h : H1 b = none) : Gr pw dl H (upd H1 b o) := a.sm (R.same_new h)
theorem Gr.keepT (g : Gr pw dl H H') : KeepT H H' := fun b xs e => g.1 b _ e fun z => by
  obtain ⟨a, ds, e1, _⟩ := g.2.1
  rw [z, e1] at e
  cases e
theorem Gr.at' {o : HO} (g : Gr pw dl H H') (d : H0 b = none) (g0 : Wr H0 pw dl) (e : H b = some o) : H' b = some o := g.1 b _ e (g0.ne d).1
/-- a list that is filled meanwhile -/
theorem Gr.put {o : HO} (g : Gr pw dl H H') (h : H b = none) : Gr pw dl H (upd H' b o) := by
  have n := g.2.1.ne h
  refine ⟨fun c x e hc => by rw [upd_ne (ne_of_none e h)]; exact g.1 c x e hc, g.2.1, ?_⟩
  obtain ⟨a, ds, e1, e2, h2⟩ := g.2.2
  exact ⟨a, ds, by rw [upd_ne n.1.symm]; exact e1, by rw [upd_ne n.2.symm]; exact e2, h2⟩
/-- a list under way: i things so far, each as P says -/
structure Ac (P : Hp → V → Prop) (pw dl : PySem.Addr) (H0 : Hp) (D : PySem.Addr) (i : Nat) (H' : Hp) : Prop where
  g : Gr pw dl H0 H'
  d : H0 D = none
  e : ∃ vs, H' D = some (.lst vs) ∧ vs.length = i ∧ ∀ v ∈ vs, P H' v
section
variable {P : Hp → V → Prop}
theorem Ac.start (w : Wr H0 pw dl) (d : H0 D = none) : Ac P pw dl H0 D 0 (upd H0 D (.lst [])) :=
  ⟨(Gr.refl w).new d, d, [], upd_same, rfl, fun _ h => nomatch h⟩
theorem Ac.w {i : Nat} (A : Ac P pw dl H0 D i H) : Wr H pw dl := A.g.2.2
theorem Ac.step {i : Nat} {y : V} (hP : ∀ H H' v, KeepT H H' → P H v → P H' v) (A : Ac P pw dl H0 D i H) (hi : i < 1000) (g : Gr pw dl H H2) (hy : P H2 y) :
    ∃ acc, H2 D = some (.lst acc) ∧ acc.length < sizeLine ∧ Ac P pw dl H0 D (i + 1) (upd H2 D (.lst (acc ++ [y]))) := by
  obtain ⟨vs, e, l, hv⟩ := A.e
  have e2 : H2 D = some (.lst vs) := g.1 _ _ e (A.g.2.1.ne A.d).1
  have kp : KeepT H2 (upd H2 D (.lst (vs ++ [y]))) := fun b xs eb => by
    by_cases z : b = D
    · rw [z, e2] at eb; cases eb
    · rw [upd_ne z]; exact eb
  refine ⟨vs, e2, R.size_lt (by omega), (A.g.trans g).put A.d, A.d, vs ++ [y], upd_same, by rw [List.length_append, l]; rfl, fun v h => ?_⟩
  rcases List.mem_append.mp h with z | z
  · exact hP _ _ _ kp (hP _ _ _ g.keepT (hv v z))
  · rw [List.mem_singleton] at z
    rw [z]
    exact hP _ _ _ kp hy
end
/-- rows made so far -/
def Mk (pw dl : PySem.Addr) (H0 : Hp) (l : List PySem.Addr) (H : Hp) : Prop := Gr pw dl H0 H ∧ ∀ a ∈ l, ∃ r, RowAt H a r
theorem Mk.go {l : List PySem.Addr} (m : Mk pw dl H0 l H) (g : Gr pw dl H H') : Mk pw dl H0 l H' := ⟨m.1.trans g, fun a h => by
  obtain ⟨r, z⟩ := m.2 a h
  exact ⟨r, z.keep g.keepT⟩⟩
theorem Mk.sm {l : List PySem.Addr} (m : Mk pw dl H0 l H) (s : Same H H') : Mk pw dl H0 l H' := m.go ((Gr.refl m.1.2.2).sm s)
theorem Mk.w {l : List PySem.Addr} (m : Mk pw dl H0 l H) : Wr H pw dl := m.1.2.2
theorem mk_row {l : List PySem.Addr} {vs : List V} {p : PySem.Addr} (m : Mk pw dl H0 l H) (w : Wd) (ps : List Pt) (hu : upd H p (.tup (V.str w.nm :: vs)) = H') (hp : H p = none) (f : MM.All2 Fit w.ks ps) (a : MM.All2 (PtAt H) vs ps) : Same H H' ∧ Mk pw dl H0 (p :: l) H' := by
  subst hu
  refine ⟨R.same_new hp, ?_⟩
  have m2 := m.sm (R.same_new (o := .tup (V.str w.nm :: vs)) hp)
  refine ⟨m2.1, fun b hb => ?_⟩
  rcases List.mem_cons.mp hb with z | z
  · subst z
    exact ⟨(w, ps), f, vs, upd_same, a.imp fun _ _ z => z.keep (KeepT.of (R.same_new hp))⟩
  · exact m2.2 b z
theorem mk_one {Q : VK} {l : List PySem.Addr} {vs : List V} (m : Mk pw dl H0 l H) (w : Wd) (ps : List Pt) (hl : (V.str w.nm :: vs).length ≤ sizeLine) (f : MM.All2 Fit w.ks ps) (a : MM.All2 (PtAt H) vs ps) (q : ∀ H' p r, Gr pw dl H0 H' → RowAt H' p r → Q (.ref p) H') :
    (V.str w.nm :: vs).length ≤ sizeLine ∧ ∀ p, H p = none → Q (.ref p) (upd H p (.tup (V.str w.nm :: vs))) := by
  refine ⟨hl, fun p hp => ?_⟩
  obtain ⟨_, m2⟩ := mk_row m w ps rfl hp f a
  obtain ⟨r, hr⟩ := m2.2 p List.mem_cons_self
  exact q _ p r m2.1 hr
theorem cut_pre {ds : List Int} {many : Int} (h0 : 1 ≤ many) (h1 : many ≤ 1000) (hl : 1 ≤ ds.length) : ∃ ds' : List Int, cutV (ds.map V.int) none (some many) = ds'.map V.int ∧ 1 ≤ ds'.length ∧ ds'.length ≤ 1000 := by
  obtain ⟨m, rfl⟩ := Int.eq_ofNat_of_zero_le (show 0 ≤ many by omega)
  refine ⟨ds.take (min m ds.length), ?_, ?_, ?_⟩
  · unfold cutV
    rw [HT.sIx_none, List.drop_zero, HT.sIx_nat, List.length_map, Nat.sub_zero, List.map_take]
  · rw [List.length_take]
    omega
  · rw [List.length_take]
    omega
theorem pickA {xs : List V} {i : Int} (h0 : 0 ≤ i) (h1 : i < xs.length) : ∃ v ∈ xs, atI xs i = some v := by
  have h : i.toNat < xs.length := by omega
  exact ⟨xs[i.toNat], List.getElem_mem h, R.at_nat h0 (List.getElem?_eq_getElem h)⟩
def Grw (H : Hp) (p : PySem.Addr) (lo hi : Nat) (H' : Hp) : Prop := Same H H' ∧ ∃ ds : List Int, H' p = some (.lst (ds.map V.int)) ∧ lo ≤ ds.length ∧ ds.length ≤ hi
theorem Grw.app {p : PySem.Addr} {n m k k' : Nat} {ds : List Int} {v : Int} (hp : H p = none) (sm : Same H H') (e : H' p = some (.lst (ds.map V.int))) (hk : k' ≤ k + 1) (hk2 : k ≤ ds.length) (hl : ds.length ≤ n) (hm : n + 1 ≤ m) : Grw H p k' m (upd H' p (.lst (ds.map V.int ++ [.int v]))) := by
  refine ⟨fun b o hb => ?_, ds ++ [v], ?_, ?_, ?_⟩
  · rw [upd_ne (ne_of_none hb hp)]
    exact sm b o hb
  · rw [upd_same, List.map_append]
    rfl
  · rw [List.length_append]
    show _ ≤ ds.length + 1
    omega
  · rw [List.length_append]
    show ds.length + 1 ≤ m
    omega
def spDraws (K : PySem.W.Frag) : Sp := fun vs H Q _ => ∃ (a : PySem.Addr) (ns : List Int) (many : Int), vs = [.ref a, .int many] ∧ SqL K H a (ns.map V.int) ∧ ns.length ≤ 63 ∧ 1 ≤ many ∧ many ≤ 1000 ∧
  ∀ p (ds : List Int) H', Same H H' → H p = none → H' p = some (.lst (ds.map V.int)) → 1 ≤ ds.length → ds.length ≤ 1000 → Q (.ref p) H'
def spTake : Sp := fun vs H Q _ => ∃ (pw dl : PySem.Addr), vs = [.ref pw] ∧ Wr H pw dl ∧ ∀ H' (v : Int), Gr pw dl H H' → Q (.int v) H'
def spAny : Sp := fun vs H Q _ => ∃ (pw dl : PySem.Addr), vs = [.ref pw] ∧ Wr H pw dl ∧ ∀ H' v, Gr pw dl H H' → Q v H'
def spPlaces : Sp := fun vs H Q _ => ∃ (pw dl : PySem.Addr) (m : Int), vs = [.ref pw, .int m] ∧ 0 ≤ m ∧ m ≤ 16 ∧ Wr H pw dl ∧ ∀ H' p (ns : List Int), Gr pw dl H H' → H' p = some (.tup (ns.map V.int)) → ns.length ≤ 16 → Q (.ref p) H'
def spRow : Sp := fun vs H Q _ => ∃ (pw dl : PySem.Addr) (m : Int), vs = [.ref pw, .int m] ∧ 1 ≤ m ∧ Wr H pw dl ∧ ∀ H' p r, Gr pw dl H H' → RowAt H' p r → Q (.ref p) H'
def spCode : Sp := fun vs H Q _ => ∃ (pw dl : PySem.Addr), vs = [.ref pw] ∧ Wr H pw dl ∧ ∀ H' c cp cr (rs : List PySem.Addr), Gr pw dl H H' → H' c = some (.tup [.ref cp, .ref cr]) → H' cr = some (.tup (rs.map V.ref)) → rs.length ≤ 14 → (∀ a ∈ rs, ∃ r, RowAt H' a r) → Q (.ref c) H'
theorem ints_of : ∀ {vs : List V}, (∀ v ∈ vs, ∃ n : Int, v = .int n) → ∃ ns : List Int, vs = ns.map V.int
  | [], _ => ⟨[], rfl⟩
  | v :: vs, h => by
    obtain ⟨n, rfl⟩ := h v List.mem_cons_self
    obtain ⟨ns, rfl⟩ := ints_of fun v hv => h v (List.mem_cons_of_mem _ hv)
    exact ⟨n :: ns, rfl⟩
theorem refs_of {P : PySem.Addr → Prop} : ∀ {vs : List V}, (∀ v ∈ vs, ∃ a, v = .ref a ∧ P a) → ∃ rs : List PySem.Addr, vs = rs.map V.ref ∧ ∀ a ∈ rs, P a
  | [], _ => ⟨[], rfl, fun _ h => nomatch h⟩
  | v :: vs, h => by
    obtain ⟨a, rfl, ha⟩ := h v List.mem_cons_self
    obtain ⟨rs, rfl, hr⟩ := refs_of fun v hv => h v (List.mem_cons_of_mem _ hv)
    exact ⟨a :: rs, rfl, fun b hb => by
      rcases List.mem_cons.mp hb with z | z
      · rw [z]; exact ha
      · exact hr b z⟩
theorem r_pick {K : PySem.W.Frag} {Q : VK} {l : PySem.Addr} {i : Int} {ps ps' : List PySem.Addr} (m : Mk pw dl H0 ps' H) (hl : H l = none) (sub : ∀ a ∈ ps, a ∈ ps') (h0 : 0 ≤ i) (h1 : i < ps.length) (q : ∀ H' p r, Gr pw dl H0 H' → RowAt H' p r → Q (.ref p) H') :
    rIxL K (.ref l) (.int i) (upd H l (.lst (ps.map V.ref))) Q := by
  obtain ⟨a, ha, e⟩ := MM.pickV (f := V.ref) h0 h1
  have m2 := m.sm (R.same_new (o := .lst (ps.map V.ref)) hl)
  obtain ⟨r, hr⟩ := m2.2 a (sub a ha)
  exact R.r_ixL (R.sqL upd_same) e (q _ a r m2.1 hr)
theorem Mk.neL {l : List PySem.Addr} {b : PySem.Addr} {xs : List V} (m : Mk pw dl H0 l H) (e : H b = some (.lst xs)) : b ≠ pw := fun z => by
  obtain ⟨a, ds, e1, _⟩ := m.w
  rw [z, e1] at e
  cases e
theorem Mk.take {Q : VK} {l : List PySem.Addr} {E : XK} (m : Mk pw dl H0 l H) (h : ∀ H' (v : Int), Mk pw dl H0 l H' → Gr pw dl H H' → Q (.int v) H') : spTake ([.ref pw] ++ []) H Q E :=
  ⟨pw, dl, rfl, m.w, fun H' v g => h H' v (m.go g) g⟩
theorem Mk.places {Q : VK} {l : List PySem.Addr} {E : XK} {k : Int} (m : Mk pw dl H0 l H) (h0 : 0 ≤ k ∧ k ≤ 16) (h : ∀ H' p (ns : List Int), Mk pw dl H0 l H' → Gr pw dl H H' → H' p = some (.tup (ns.map V.int)) → ns.length ≤ 16 → Q (.ref p) H') : spPlaces ([.ref pw, .int k] ++ []) H Q E :=
  ⟨pw, dl, k, rfl, h0.1, h0.2, m.w, fun H' p ns g e hl => h H' p ns (m.go g) g e hl⟩
theorem ne_ints {K : PySem.W.Frag} {Q : VK} {a b : PySem.Addr} {L L' : List Int} (e : L = L') (ha : H a = some (.tup (L.map V.int))) (hb : H b = some (.tup (L'.map V.int))) (q : Q (.bl false) H) : rNeD K (.ref a) (.ref b) H Q := by
  subst e
  have s : _root_.D.Sh 1 (PyData.tuple (L.map PyData.int)) := .tup _root_.D.Sh.ints
  refine _root_.D.r_neD (p := True) (.tup (R.sqT ha) _root_.D.all_ints) (.tup (R.sqT hb) _root_.D.all_ints) s s (by decide) (by decide) (by simp) ?_
  rw [decide_eq_true trivial]
  exact q
end
end CR
end
section
/-! things that may be code, as data -/
namespace CK
open PySem PySem.Spec PyProof.Rows L2 MM
def chs : List (Str × List Str) := [("view", ["now", "cpu", "pid", "tid", "at", "name"]), ("sign", ["+", "-", "*", "/", "mod"]), ("order", ["==", "!=", "<", "<=", ">", ">="]), ("sort", ["trace", "say"])]
def words : List V := CR.Wd.all.map fun r => V.str r.nm
/-- a thing: nested tuples, not deep, not long -/
def gd : Nat → PyData → Prop
  | _, .none => True
  | _, .bool _ => True
  | _, .int _ => True
  | _, .str s => s.length ≤ 1000 ∧ PyData.strOk s = true
  | 0, .tuple xs => xs = []
  | k + 1, .tuple xs => xs.length ≤ 1000 ∧ ∀ x ∈ xs, gd k x
  | _, _ => False
def isD (c : String) : PyData → Bool
  | .none => false
  | .bool _ => c == "bool" || c == "int"
  | .int _ => c == "int"
  | .str _ => c == "str"
  | .tuple _ => c == "tuple"
  | _ => false
theorem ty_tup {K : PySem.W.Frag} {H : Hp} {a : PySem.Addr} {xs : List V} (h : SqT K H a xs) : TyX K H (.ref a) (.type "tuple") := by
  rcases h with (h | ⟨o, h⟩) | ⟨o, its, n, h, hc, _⟩
  · exact .base (.tup h)
  · exact .fTuple h
  · exact .kTuple h hc
def four (c : String) : Prop := c = "int" ∨ c = "bool" ∨ c = "str" ∨ c = "tuple"
theorem isi_d {K : PySem.W.Frag} {H : Hp} {v : V} {d : PyData} {k : Nat} {c : String} (hd : Dp K H v d) (g : gd k d) (hc : four c) : R.CIsi K H v (.ty c) (isD c d) := by
  cases hd with
  | non => rcases hc with rfl | rfl | rfl | rfl <;> exact ⟨_, _, .ty _, .base .non, kit_ty (by first | (show kitB _ _ = some true; decide +kernel) | (show kitB _ _ = some false; decide +kernel))⟩
  | bl b => rcases hc with rfl | rfl | rfl | rfl <;> exact ⟨_, _, .ty _, .base (.bl b), kit_ty (by first | (show kitB _ _ = some true; decide +kernel) | (show kitB _ _ = some false; decide +kernel))⟩
  | int b => rcases hc with rfl | rfl | rfl | rfl <;> exact ⟨_, _, .ty _, .base (.int b), kit_ty (by first | (show kitB _ _ = some true; decide +kernel) | (show kitB _ _ = some false; decide +kernel))⟩
  | str b => rcases hc with rfl | rfl | rfl | rfl <;> exact ⟨_, _, .ty _, .base (.str b), kit_ty (by first | (show kitB _ _ = some true; decide +kernel) | (show kitB _ _ = some false; decide +kernel))⟩
  | lst a b => cases k <;> exact g.elim
  | tup a b => rcases hc with rfl | rfl | rfl | rfl <;> exact ⟨_, _, .ty _, ty_tup a, kit_ty (by first | (show kitB _ _ = some true; decide +kernel) | (show kitB _ _ = some false; decide +kernel))⟩
/-- an int from lo to hi -/
def cnt (lo hi : Int) : PyData → Bool
  | .int n => decide (lo ≤ n ∧ n ≤ hi)
  | _ => false
/-- a character of a text -/
def chS (c : Nat) : Bool := decide (32 ≤ c ∧ c ≤ 126 ∧ c ≠ 92 ∧ c ≠ 37)
def chT (c : Nat) : Bool := chS c && decide (c ≠ 34)
def txt : PyData → Bool
  | .str s => decide (s.length ≤ 32) && s.cps.toList.all chT
  | _ => false
def val : PyData → Bool
  | .tuple [.str k, h] => if k = "int" then cnt (-9223372036854775808) 9223372036854775807 h else decide (k = "str") && txt h
  | _ => false
def plcs : PyData → Bool
  | .tuple xs => xs.all (cnt 0 10000)
  | _ => false
def few (n : Nat) : PyData → Bool
  | .tuple xs => decide (xs.length ≤ n)
  | _ => false
def wrd (ws : List Str) : PyData → Bool
  | .str s => decide (s ∈ ws)
  | _ => false
def prt (k : CR.Kd) (d : PyData) : Bool := match k with
  | .into => cnt 0 7 d | .from' => cnt 0 7 d | .opt => cnt (-1) 7 d | .member => cnt 0 3 d | .value => val d
  | .view => wrd ["now", "cpu", "pid", "tid", "at", "name"] d | .sign => wrd ["+", "-", "*", "/", "mod"] d | .order => wrd ["==", "!=", "<", "<=", ">", ">="] d | .sort => wrd ["trace", "say"] d
  | .keys => plcs d && few 3 d | .places => plcs d | _ => cnt 0 10000 d
def row : PyData → Bool
  | .tuple (.str w :: xs) => match CR.Wd.all.find? fun r => decide (r.nm = w) with
    | some r => decide (r.ks.length = xs.length) && (r.ks.zip xs).all fun x => prt x.1 x.2
    | none => false
  | _ => false
def kind : PyData → Bool
  | .str s => decide (s = "int" ∨ s = "str")
  | _ => false
def code : PyData → Bool
  | .tuple [.tuple ks, .tuple rs] => ks.all kind && rs.all row
  | _ => false
/-- a text of one character: its comparisons -/
theorem lt1 {a b : Nat} : decide ((⟨#[a]⟩ : Str).cps.toList < (⟨#[b]⟩ : Str).cps.toList) = decide (a < b) := by
  show decide ([a] < [b]) = decide (a < b)
  congr 1
  rw [List.cons_lt_cons_iff]
  simp
/-- a promise about a thing -/
def spD (K : PySem.W.Frag) (f : PyData → Bool) : Sp := fun vs H Q _ => ∃ (v : V) (d : PyData) (k : Nat), vs = [v] ∧ Dp K H v d ∧ gd k d ∧ k ≤ 20 ∧ ∀ H', Same H H' → Q (.bl (f d)) H'
def spCh (f : Nat → Bool) : Sp := fun vs H Q _ => ∃ c : Nat, vs = [.str ⟨#[c]⟩] ∧ Q (.bl (f c)) H
def spFrom (K : PySem.W.Frag) : Sp := fun vs H Q _ => ∃ (v : V) (d : PyData) (k : Nat) (lo hi : Int), vs = [v, .int lo, .int hi] ∧ Dp K H v d ∧ gd k d ∧ k ≤ 20 ∧ ∀ H', Same H H' → Q (.bl (cnt lo hi d)) H'
section
variable {J : It} {g : TG} {tt : TT} {te tl : TE} {tr : TA} {vs : List Nat} {σ : L2.St} {Q : VK} {H : Hp} {K : PySem.W.Frag}
theorem r_lcS (h : tl σ H fun x H1 => ∃ z, x = .str z ∧ LW (Its z) g tt te vs σ Q H1) : tLc (iStr tl) g tt te vs σ H Q := h
theorem r_lcZA (h : tr σ H fun vs' H1 => ∃ a b xs ys, vs' = [.ref a, .ref b] ∧ ((SqL K H1 a xs ∧ SqL K H1 b ys ∧ LW (Itz K a b) g tt te vs σ Q H1) ∨ (SqT K H1 a xs ∧ SqT K H1 b ys ∧ LW (RZ.ItzT K a b) g tt te vs σ Q H1))) : tLc (RZ.iZipA K tr) g tt te vs σ H Q := h
/-- a list of truths that a comprehension fills -/
def Tr (bs : List Bool) (H : Hp) (D : PySem.Addr) (i : Nat) (H' : Hp) : Prop := Same H H' ∧ H' D = some (.lst ((bs.take i).map V.bl))
theorem Tr.start {bs : List Bool} {D : PySem.Addr} (hD : H D = none) : Tr bs H D 0 (upd H D (.lst [])) := ⟨R.same_new hD, upd_same⟩
theorem Tr.step {bs : List Bool} {H1 H2 : Hp} {D : PySem.Addr} {i : Nat} {b : Bool} (hD : H D = none) (t : Tr bs H D i H1) (s : Same H1 H2) (e : bs[i]? = some b) (hl : bs.length ≤ 1000) : ∃ acc, H2 D = some (.lst acc) ∧ acc.length < sizeLine ∧ Tr bs H D (i + 1) (upd H2 D (.lst (acc ++ [.bl b]))) := by
  refine ⟨_, s _ _ t.2, R.size_lt (by rw [List.length_map, List.length_take]; omega), CR.same_acc hD (t.1.trans s), ?_⟩
  rw [upd_same, take_snoc e, List.map_append]
  rfl
theorem Tr.all {bs : List Bool} {H1 : Hp} {D : PySem.Addr} {n : Nat} (t : Tr bs H D n H1) (hn : bs.length ≤ n) (q : ∀ H', Same H H' → Q (.bl (bs.all id)) H') : rAll K [.ref D] H1 Q := by
  obtain ⟨s, e⟩ := t
  rw [List.take_of_length_le hn] at e
  exact ⟨D, bs, rfl, R.sqL e, q _ s⟩
end
theorem gd_lay : ∀ (k : Nat) (d : PyData), gd k d → d.canLay0 = true ∧ d.depth ≤ k + 1
  | k, .none, _ => ⟨rfl, Nat.zero_le _⟩
  | k, .bool _, _ => ⟨rfl, Nat.zero_le _⟩
  | k, .int _, _ => ⟨rfl, Nat.zero_le _⟩
  | k, .str z, h => ⟨by rw [PyData.canLay0]; cases k <;> exact h.2, Nat.zero_le _⟩
  | 0, .tuple xs, h => by
    obtain rfl : xs = [] := h
    exact ⟨rfl, Nat.le_of_ble_eq_true rfl⟩
  | k + 1, .tuple xs, h => ⟨by rw [PyData.canLay0]; exact _root_.D.lay_of fun x hx => (gd_lay k x (h.2 x hx)).1, by rw [PyData.depth]; exact Nat.succ_le_succ (_root_.D.depth_of fun x hx => (gd_lay k x (h.2 x hx)).2)⟩
  | 0, .list _, h => h.elim
  | k + 1, .list _, h => h.elim
  | 0, .dict _, h => h.elim
  | k + 1, .dict _, h => h.elim
theorem gd.sh {k : Nat} {d : PyData} (g : gd k d) (hk : k ≤ 20) : SeqAt.shaped d = true := by
  obtain ⟨a, b⟩ := gd_lay k d g
  unfold SeqAt.shaped
  rw [a, decide_eq_true (by omega)]
  rfl
def isS (s : Str) : PyData → Bool
  | .str z => decide (z = s)
  | _ => false
theorem eqv_str {d : PyData} {s : Str} : PyData.eqv d (.str s) = isS s d := by
  cases d <;> simp [PyData.eqv, isS] <;> rfl
theorem r_eqS {K : PySem.W.Frag} {H : Hp} {Q : VK} {v : V} {d : PyData} {k : Nat} {s : Str} (hd : Dp K H v d) (g : gd k d) (hk : k ≤ 20) (hs : PyData.strOk s = true) (q : Q (.bl (isS s d)) H) : rEqD K v (.str s) H Q :=
  ⟨d, .str s, hd, .str s, g.sh hk, (_root_.D.Sh.str (k := 0) hs).shaped (by decide), by rw [eqv_str]; exact q⟩
theorem gd.mem {k : Nat} {xs : List PyData} (g : gd k (.tuple xs)) : xs.length ≤ 1000 ∧ ∀ x ∈ xs, ∃ j, j ≤ k ∧ gd j x := by
  cases k with
  | zero =>
    obtain rfl : xs = [] := g
    exact ⟨Nat.zero_le _, fun _ h => nomatch h⟩
  | succ k => exact ⟨g.1, fun x hx => ⟨k, Nat.le_succ k, g.2 x hx⟩⟩
theorem dp_len {K : PySem.W.Frag} {H : Hp} : ∀ {vs : List V} {ds : List PyData}, DpAll K H vs ds → vs.length = ds.length
  | _, _, .nil => rfl
  | _, _, .cons _ b => congrArg Nat.succ (dp_len b)
theorem dp_get {K : PySem.W.Frag} {H : Hp} : ∀ {vs : List V} {ds : List PyData} {i : Nat} {v : V}, DpAll K H vs ds → vs[i]? = some v → ∃ d, ds[i]? = some d ∧ Dp K H v d
  | _, _, i, _, .nil, e => by simp at e
  | _, _, 0, _, .cons a _, e => ⟨_, rfl, by obtain rfl := Option.some.inj e; exact a⟩
  | _, _, i + 1, _, .cons _ b, e => by
    rw [List.getElem?_cons_succ] at e ⊢
    exact dp_get b e
theorem dp_two {K : PySem.W.Frag} {H : Hp} {vs : List V} {ds : List PyData} (h : DpAll K H vs ds) (hl : ds.length = 2) : ∃ v0 v1 d0 d1, vs = [v0, v1] ∧ ds = [d0, d1] ∧ Dp K H v0 d0 ∧ Dp K H v1 d1 := by
  cases h with
  | nil => cases hl
  | cons a h => cases h with
    | nil => cases hl
    | cons b h => cases h with
      | nil => exact ⟨_, _, _, _, rfl, rfl, a, b⟩
      | cons c h => simp at hl
theorem val_len {ds : List PyData} (h : ds.length ≠ 2) : val (.tuple ds) = false := by
  match ds, h with
  | [], _ => rfl
  | [a], _ => cases a <;> rfl
  | [a, b], h => exact absurd rfl h
  | a :: b :: c :: r, _ => cases a <;> rfl
theorem val_two {a b : PyData} : val (.tuple [a, b]) = if isS "int" a = true then cnt (-9223372036854775808) 9223372036854775807 b else isS "str" a && txt b := by
  cases a with
  | str z =>
    show (if z = "int" then _ else _) = if decide (z = "int") = true then _ else _
    by_cases c : z = "int"
    · rw [if_pos c, if_pos (decide_eq_true c)]
    · rw [if_neg c, if_neg (by rw [decide_eq_true_iff]; exact c)]; rfl
  | _ => rfl
def keyS (e : DictEntry) : Option Str := match e.key with
  | .str x _ => some x
  | _ => none
structure DcIn (K : PySem.W.Frag) (w : World) (a : PySem.Addr) (names : List Str) where
  es : Array DictEntry
  n : Nat
  kd : KDict K w a es n
  m : ∀ z : Str, ∃ r, PySem.W.nsIn K a z = some r ∧ r.isSome = decide (z ∈ names)
theorem find_keys {z : Str} : ∀ {es : List DictEntry} {names : List Str}, es.map keyS = names.map some → ((es.find? (·.key.isStr z)).isSome = decide (z ∈ names)) ∧ es.any (·.refKey) = false
  | [], [], _ => ⟨rfl, rfl⟩
  | [], _ :: _, h => nomatch h
  | _ :: _, [], h => nomatch h
  | e :: es, x :: names, h => by
    rw [List.map_cons, List.map_cons] at h
    injection h with h1 h2
    obtain ⟨i1, i2⟩ := find_keys (z := z) h2
    have hk : ∃ t, e.key = .str x t := by
      unfold keyS at h1
      split at h1
      · next y t hy => exact ⟨t, by rw [hy, Option.some.inj h1]⟩
      · cases h1
    obtain ⟨t, hk⟩ := hk
    refine ⟨?_, ?_⟩
    · rw [List.find?_cons]
      by_cases c : x = z
      · subst c
        rw [show e.key.isStr x = true by rw [hk]; show (x == x) = true; exact beq_self_eq_true x]
        rw [decide_eq_true List.mem_cons_self]
        rfl
      · rw [show e.key.isStr z = false by rw [hk]; show (x == z) = false; exact beq_eq_false_iff_ne.mpr c, i1]
        by_cases d : z ∈ names
        · rw [decide_eq_true d, decide_eq_true (List.mem_cons_of_mem _ d)]
        · rw [decide_eq_false d, decide_eq_false (fun q => by
            rcases List.mem_cons.mp q with q | q
            · exact c q.symm
            · exact d q)]
    · rw [List.any_cons, i2, Bool.or_false]
      unfold DictEntry.refKey
      rw [hk]
def DcIn.mk' {K : PySem.W.Frag} {w : World} {a : PySem.Addr} {names : List Str} {es : Array DictEntry} {n : Nat} (hl : K.lookup a = some ⟨.type "dict", none, .dict es n, #[]⟩) (hk : PySem.W.KeysLit w.params es.toList) (lo : (a == sysModules) = false) (hm : es.toList.map keyS = names.map some) : DcIn K w a names :=
  ⟨es, n, ⟨hl, hk, lo⟩, fun z => by
    obtain ⟨i1, i2⟩ := find_keys (z := z) hm
    unfold PySem.W.nsIn
    rw [hl]
    dsimp only
    cases e : es.toList.find? (·.key.isStr z) with
    | none =>
      rw [e] at i1
      dsimp only
      rw [i2, if_neg Bool.false_ne_true]
      exact ⟨none, rfl, i1⟩
    | some x =>
      rw [e] at i1
      exact ⟨some x.val, rfl, i1⟩⟩
theorem ch_get {kd : CR.Kd} (h : kd.nm ∈ chs.map Prod.fst) : ∃ ws, chs.lookup kd.nm = some ws ∧ ∀ d, prt kd d = wrd ws d := by
  cases kd <;> first | exact ⟨_, by decide +kernel, fun _ => rfl⟩ | exact absurd h (by decide +kernel)
theorem in_strs {z : Str} : ∀ {ws : List Str}, inV (.str z) (ws.map V.str) = decide (z ∈ ws)
  | [] => rfl
  | x :: ws => by
    have i := in_strs (z := z) (ws := ws)
    unfold inV at i ⊢
    rw [List.map_cons, List.any_cons, R.eqS, i, Bool.eq_iff_iff, Bool.or_eq_true, decide_eq_true_iff, decide_eq_true_iff, decide_eq_true_iff, List.mem_cons]
theorem flat_strs : ∀ {ws : List Str}, (ws.map V.str).all flatV = true
  | [] => rfl
  | x :: ws => by rw [List.map_cons, List.all_cons, flat_strs]; rfl
theorem nm_if {kd : CR.Kd} : inV (.str kd.nm) [.str "into", .str "from"] = decide (kd = .into ∨ kd = .from') := by cases kd <;> decide +kernel
theorem nm_member {kd : CR.Kd} : kd.nm = "member" ↔ kd = .member := by cases kd <;> decide +kernel
theorem nm_value {kd : CR.Kd} : kd.nm = "value" ↔ kd = .value := by cases kd <;> decide +kernel
theorem nm_keys {kd : CR.Kd} : kd.nm = "keys" ↔ kd = .keys := by cases kd <;> decide +kernel
theorem prt_else {kd : CR.Kd} {d : PyData} (c1 : ¬ kd.nm ∈ chs.map Prod.fst) (c2 : ¬ (kd = .into ∨ kd = .from')) (c3 : kd ≠ .opt) (c4 : kd ≠ .member) (c5 : kd ≠ .value) (c6 : ¬ (kd = .keys ∨ kd = .places)) : prt kd d = cnt 0 10000 d := by
  cases kd <;> first | rfl | exact absurd (by decide +kernel) c1 | (refine absurd ?_ c2; decide) | exact absurd rfl c3 | exact absurd rfl c4 | exact absurd rfl c5 | (refine absurd ?_ c6; decide)
/-- two tuples side by side -/
theorem wk_zip {K : PySem.W.Frag} {a b : PySem.Addr} {xs ys : List V} (hl : xs.length = ys.length) : Walk (RZ.ItzT K a b) xs.length (fun H => SqT K H a xs ∧ SqT K H b ys) (fun i H v H' => ∃ T x y, v = .ref T ∧ H T = none ∧ H' = upd H T (.tup [x, y]) ∧ xs[i]? = some x ∧ ys[i]? = some y) where
  goes := fun i H hi q => ⟨xs, ys, xs[i], ys[i]'(by omega), q.1, q.2, List.getElem?_eq_getElem hi, List.getElem?_eq_getElem (by omega)⟩
  stops := fun H q => ⟨xs, ys, q.1, q.2, .inl (Nat.le_refl _)⟩
  yields := fun i H v H' _ q y => by
    obtain ⟨T, x, y, e1, e2, e3, e4, e5⟩ := y
    exact ⟨T, x, y, e1, e2, e3, e4 _ q.1, e5 _ q.2⟩
theorem tab_some {z : Str} (h : z ∈ CR.tab.map Prod.fst) : ∃ r : CR.Wd, z = r.nm := by
  have e : CR.tab.map Prod.fst = CR.Wd.all.map CR.Wd.nm := by decide +kernel
  rw [e] at h
  obtain ⟨r, _, rfl⟩ := List.mem_map.mp h
  exact ⟨r, rfl⟩
theorem all_mem (w : CR.Wd) : w ∈ CR.Wd.all := by cases w <;> decide
theorem tab_none {z : Str} (h : ¬ z ∈ CR.tab.map Prod.fst) : CR.Wd.all.find? (fun r => decide (r.nm = z)) = none := by
  rw [List.find?_eq_none]
  intro r _ e
  have e' : CR.tab.map Prod.fst = CR.Wd.all.map CR.Wd.nm := by decide +kernel
  exact h (by rw [e', ← of_decide_eq_true e]; exact List.mem_map.mpr ⟨r, all_mem r, rfl⟩)
theorem find_nm (w : CR.Wd) : CR.Wd.all.find? (fun r => decide (r.nm = w.nm)) = some w := by cases w <;> decide +kernel
theorem row_no {d : PyData} {xs : List PyData} (h : isD "str" d = false) : row (.tuple (d :: xs)) = false := by
  cases d with
  | str z => cases h
  | _ => rfl
theorem row_bad {z : Str} {xs : List PyData} (h : ¬ z ∈ CR.tab.map Prod.fst) : row (.tuple (.str z :: xs)) = false := by
  unfold row
  dsimp only
  rw [tab_none h]
theorem row_w {w : CR.Wd} {xs : List PyData} : row (.tuple (.str w.nm :: xs)) = (decide (w.ks.length = xs.length) && ((w.ks.zip xs).map fun x => prt x.1 x.2).all id) := by
  unfold row
  dsimp only
  rw [find_nm, List.all_map]
  rfl
theorem dp_cons {K : PySem.W.Frag} {H : Hp} {vs : List V} {d : PyData} {ds : List PyData} (h : DpAll K H vs (d :: ds)) : ∃ v ws, vs = v :: ws ∧ Dp K H v d ∧ DpAll K H ws ds := by
  cases h with
  | cons a b => exact ⟨_, _, rfl, a, b⟩
/-- x in a tuple, x any data -/
def rInDT (K : PySem.W.Frag) : R2 := fun x y H Q => ∃ d ds, Dp K H x d ∧ Dp K H y (.tuple ds) ∧ SeqAt.shaped d = true ∧ SeqAt.shaped (.tuple ds) = true ∧ Q (.bl (ds.any fun z => PyData.eqv z d)) H
theorem op_inDT {X : Cx} {K0 : PySem.W.Frag} (hK : X.K = K0) (hu : X.A.units + 65 < cLine) : OpR X (compareOp .In) (rInDT K0) := by
  subst hK
  intro pins s σ H x y v u Q I rx ry h
  obtain ⟨d, ds, hd, he, sd, se, q⟩ := h
  obtain ⟨as, r1⟩ := Dp.reads I d x v hd rx
  obtain ⟨bs, r2⟩ := Dp.reads I (.tuple ds) y u he ry
  exact SeqAt.in_tuple_reads r2 r1 (SeqAt.canLay_of_shaped se) (SeqAt.canLay_of_shaped sd) (room_in_shaped sd hu) ⟨.bl _, H, I, rfl, q⟩
theorem r_inKinds {K : PySem.W.Frag} {H : Hp} {Q : VK} {v : V} {d : PyData} {k : Nat} (hd : Dp K H v d) (g : gd k d) (hk : k ≤ 20) (q : ∀ H', Same H H' → Q (.bl (kind d)) H') :
    [V.str "int", V.str "str"].length ≤ sizeLine ∧ ∀ p, H p = none → rInDT K v (.ref p) (upd H p (.tup [.str "int", .str "str"])) Q := by
  refine ⟨Nat.le_of_ble_eq_true rfl, fun p hp => ?_⟩
  have s := R.same_new (o := .tup [.str "int", .str "str"]) hp
  refine ⟨d, [.str "int", .str "str"], _root_.D.dp_same s _ _ hd, .tup (R.sqT upd_same) (.cons (.str _) (.cons (.str _) .nil)), g.sh hk, by decide +kernel, ?_⟩
  have e : ([PyData.str "int", .str "str"].any fun z => PyData.eqv z d) = kind d := by
    cases d with
    | str z =>
      show (PyData.eqv (.str "int") (.str z) || (PyData.eqv (.str "str") (.str z) || false)) = _
      rw [eqv_str, eqv_str]
      show (decide ("int" = z) || (decide ("str" = z) || false)) = decide (z = "int" ∨ z = "str")
      rw [Bool.or_false, Bool.eq_iff_iff, Bool.or_eq_true, decide_eq_true_iff, decide_eq_true_iff, decide_eq_true_iff]
      exact ⟨fun h => h.imp Eq.symm Eq.symm, fun h => h.imp Eq.symm Eq.symm⟩
    | _ => rfl
  rw [e]
  exact q _ s
theorem code_len {ds : List PyData} (h : ds.length ≠ 2) : code (.tuple ds) = false := by
  match ds, h with
  | [], _ => rfl
  | [a], _ => cases a <;> rfl
  | [a, b], h => exact absurd rfl h
  | a :: b :: c :: r, _ => cases a <;> (try rfl) <;> cases b <;> rfl
theorem code_no1 {a b : PyData} (h : isD "tuple" a = false) : code (.tuple [a, b]) = false := by
  cases a with
  | tuple z => cases h
  | _ => rfl
theorem code_no2 {a b : PyData} (h : isD "tuple" b = false) : code (.tuple [a, b]) = false := by
  cases b with
  | tuple z => cases h
  | _ => cases a <;> rfl
theorem code_two {ks rs : List PyData} : code (.tuple [.tuple ks, .tuple rs]) = ((ks.map kind).all id && (rs.map row).all id) := by
  show (ks.all kind && rs.all row) = _
  rw [List.all_map, List.all_map]
  rfl
theorem inSeqK {X : Cx} {K0 : PySem.W.Frag} (hK : X.K = K0) : OpR X (compareOp .In) (rIn K0 false) := hK ▸ op_in_seq
theorem r_neS {K : PySem.W.Frag} {H : Hp} {Q : VK} {v : V} {d : PyData} {k : Nat} {s : Str} (hd : Dp K H v d) (g : gd k d) (hk : k ≤ 20) (hs : PyData.strOk s = true) (q : Q (.bl (!isS s d)) H) : rNeD K v (.str s) H Q :=
  ⟨d, .str s, hd, .str s, g.sh hk, (_root_.D.Sh.str (k := 0) hs).shaped (by decide), by rw [eqv_str]; exact q⟩
theorem val_int {n : Int} : decide ((if 2 * n + 1 < 0 then -(2 * n + 1) else 2 * n + 1) < 18446744073709551616) = cnt (-9223372036854775808) 9223372036854775807 (.int n) := by
  show _ = decide (_ ∧ _)
  congr 1
  apply propext
  split <;> omega
theorem in_3 {c : Nat} : inV (.int (c : Int)) [.int 34, .int 37, .int 92] = decide (c = 34 ∨ c = 37 ∨ c = 92) := by
  show (decide ((34 : Int) = c) || (decide ((37 : Int) = c) || (decide ((92 : Int) = c) || false))) = _
  rw [Bool.or_false, Bool.eq_iff_iff, Bool.or_eq_true, Bool.or_eq_true, decide_eq_true_iff, decide_eq_true_iff, decide_eq_true_iff, decide_eq_true_iff]
  omega
theorem chT_iff {c : Nat} : chT c = true ↔ (32 ≤ c ∧ c ≤ 126 ∧ c ≠ 92 ∧ c ≠ 37) ∧ c ≠ 34 := by
  unfold chT chS
  rw [Bool.and_eq_true, decide_eq_true_iff, decide_eq_true_iff]
theorem ok_ch {z : Str} {c : Nat} (h : PyData.strOk z = true) (hc : c ∈ z.cps.toList) : PyData.strOk ⟨#[c]⟩ = true := by
  unfold PyData.strOk at h ⊢
  rw [Array.all_eq_true'] at h
  have e := h c (Array.mem_toList_iff.mp hc)
  simpa using e
theorem eq_nil {K : PySem.W.Frag} {H : Hp} {Q : VK} {D p : PySem.Addr} {l : List Nat} (hD : H D = some (.lst (l.map fun c => V.str ⟨#[c]⟩))) (hp : H p = some (.lst [])) (hc : ∀ c ∈ l, PyData.strOk ⟨#[c]⟩ = true) (q : Q (.bl (decide (l = []))) H) : rEqD K (.ref D) (.ref p) H Q := by
  refine _root_.D.r_eqD (k := 1) (j := 1) (d := .list (l.map fun c => .str ⟨#[c]⟩)) (e := .list []) (p := l = []) (.lst (R.sqL hD) (_root_.D.all_map fun _ _ => .str _)) (.lst (R.sqL hp) .nil) (.lst fun y hy => ?_) (.lst _root_.D.Sh.nil) (by decide) (by decide) ?_ q
  · obtain ⟨c, h, rfl⟩ := List.mem_map.mp hy
    exact .str (hc c h)
  · constructor
    · intro h
      injection h with h
      exact List.map_eq_nil_iff.mp h
    · intro h
      rw [h]
      rfl
theorem filt_all {l : List Nat} : decide ((l.filter fun c => !chT c) = []) = l.all chT := by
  rw [Bool.eq_iff_iff, decide_eq_true_iff, List.filter_eq_nil_iff, List.all_eq_true]
  exact ⟨fun h x hx => by have := h x hx; simpa using this, fun h x hx => by have := h x hx; simp [this]⟩
/-- the letters that the law writes for the parts -/
def sortOf : CR.Wd → Str
  | .const => "dv" | .view => "dw" | .arg => "dk" | .reg => "dk" | .get => "dp" | .keep => "pd" | .global => "dp" | .thread => "dp" | .array => "dpx" | .op => "dsdd" | .compare => "dcdd" | .minus => "dd" | .not => "dd" | .len => "dd" | .cat => "ddd" | .sub => "dddd"
  | .text => "dd" | .byte => "dd" | .spec => "d" | .jump => "p" | .zero => "dp" | .setglobal => "pd" | .setthread => "pd" | .setarray => "pxd" | .record => "ry" | .put => "pxm" | .speculate => "d" | .commit => "d" | .discard => "d" | .stop => "" | .skip => "" | .end' => ""
def srt : List (Key × V) := CR.Wd.all.map fun w => (.inr w.nm, .str (sortOf w))
def sd (l : List CR.Wd) : List (Key × V) := l.map fun w => (.inr w.nm, .str (sortOf w))
def g1 : List CR.Wd := [.const, .view, .arg, .reg, .get, .keep, .global, .thread]
def g2 : List CR.Wd := [.array, .op, .compare, .minus, .not, .len, .cat, .sub]
def g3 : List CR.Wd := [.text, .byte, .spec, .jump, .zero, .setglobal, .setthread]
def g4 : List CR.Wd := [.setarray, .record, .put, .speculate, .commit, .discard, .stop]
def g5 : List CR.Wd := [.skip, .end']
theorem opt_t {d : PyData} (h : cnt 0 7 d = true) : cnt (-1) 7 d = true := by
  cases d with
  | int n =>
    have h := of_decide_eq_true h
    exact decide_eq_true (by omega)
  | _ => cases h
theorem opt_i {n : Int} (h : cnt 0 7 (.int n) = false) : cnt (-1) 7 (.int n) = decide (n = -1) := by
  have h := of_decide_eq_false h
  show decide _ = decide _
  congr 1
  apply propext
  omega
theorem eq1 {a b : Nat} : decide ((⟨#[a]⟩ : Str) = (⟨#[b]⟩ : Str)) = decide (a = b) := by
  congr 1
  simp
end CK
end
section
/-! things as data, further -/
namespace CK
open PySem PySem.Spec PyProof.Rows L2 MM
theorem gd.up : ∀ {k : Nat} {d : PyData}, gd k d → gd (k + 1) d
  | k, .none, _ => trivial
  | k, .bool _, _ => trivial
  | k, .int _, _ => trivial
  | k, .str z, h => by cases k <;> exact h
  | 0, .tuple xs, h => by
    obtain rfl : xs = [] := h
    exact ⟨Nat.zero_le _, fun _ h => nomatch h⟩
  | k + 1, .tuple xs, h => ⟨h.1, fun x hx => (h.2 x hx).up⟩
  | 0, .list _, h => h.elim
  | k + 1, .list _, h => h.elim
  | 0, .dict _, h => h.elim
  | k + 1, .dict _, h => h.elim
theorem gd.le {j k : Nat} {d : PyData} (g : gd j d) (h : j ≤ k) : gd k d := by
  induction h with
  | refl => exact g
  | step _ ih => exact ih.up
theorem gd_tup {k : Nat} {xs : List PyData} (h : xs.length ≤ 1000) (g : ∀ x ∈ xs, gd k x) : gd (k + 1) (.tuple xs) := ⟨h, g⟩
theorem lay_all {k : Nat} {ds : List PyData} (g : ∀ x ∈ ds, gd k x) (hk : k ≤ 20) : SeqAt.shaped (.list ds) = true := by
  have h : ∀ x ∈ ds, x.canLay0 = true ∧ x.depth ≤ k + 1 := fun x hx => gd_lay k x (g x hx)
  unfold SeqAt.shaped
  have h1 : (PyData.list ds).canLay0 = true := by rw [PyData.canLay0]; exact _root_.D.lay_of fun x hx => (h x hx).1
  have h2 : (PyData.list ds).depth ≤ 64 := by
    rw [PyData.depth]
    have := _root_.D.depth_of (k := k + 1) fun x hx => (h x hx).2
    omega
  rw [h1, decide_eq_true h2]
  rfl
theorem eqv_nil {ds : List PyData} : PyData.eqv (.list ds) (.list []) = decide (ds = []) := by
  cases ds with
  | nil => simp [PyData.eqv, PyData.eqvAll]
  | cons d ds => simp [PyData.eqv, PyData.eqvAll]
theorem eq_nilD {K : PySem.W.Frag} {H : Hp} {Q : VK} {D p : PySem.Addr} {vs : List V} {ds : List PyData} {k : Nat} (hD : H D = some (.lst vs)) (hv : DpAll K H vs ds) (g : ∀ x ∈ ds, gd k x) (hk : k ≤ 20) (hp : H p = some (.lst [])) (q : Q (.bl (decide (ds = []))) H) : rEqD K (.ref D) (.ref p) H Q :=
  ⟨.list ds, .list [], .lst (R.sqL hD) hv, .lst (R.sqL hp) .nil, lay_all g hk, lay_all (k := 0) (fun _ h => nomatch h) (by decide), by rw [eqv_nil]; exact q⟩
theorem dp_snoc {K : PySem.W.Frag} {H : Hp} {vs : List V} {ds : List PyData} {v : V} {d : PyData} (h : DpAll K H vs ds) (hd : Dp K H v d) : DpAll K H (vs ++ [v]) (ds ++ [d]) := by
  match vs, ds, h with
  | [], [], _ => exact .cons hd .nil
  | _ :: vs, _ :: ds, .cons a b => exact .cons a (dp_snoc b hd)
theorem filt_nil {f : PyData → Bool} {ds : List PyData} : decide ((ds.filter fun d => !f d) = []) = ds.all f := by
  rw [Bool.eq_iff_iff, decide_eq_true_iff, List.filter_eq_nil_iff, List.all_eq_true]
  exact ⟨fun h x hx => by have := h x hx; simpa using this, fun h x hx => by have := h x hx; simp [this]⟩
theorem r_eqB {H : Hp} {Q : VK} {a b : Bool} (h : Q (.bl (decide (a = b))) H) : rEq (.bl a) (.bl b) H Q := ⟨rfl, by
  rw [show decide (V.bl a = V.bl b) = decide (a = b) from by simp]; exact h⟩
theorem isi_bool {K : PySem.W.Frag} {H : Hp} {b : Bool} : R.CIsi K H (.bl b) (.ty "bool") true := ⟨_, _, .ty _, .base (.bl b), kit_ty (by decide +kernel)⟩
theorem r_inL {K : PySem.W.Frag} {H : Hp} {Q : VK} {p : PySem.Addr} {z : Str} {ws : List Str} (e : H p = some (.lst (ws.map V.str))) (q : Q (.bl (decide (z ∈ ws))) H) : rIn K false (.str z) (.ref p) H Q :=
  ⟨p, ws.map V.str, rfl, .inl (R.sqL e), rfl, flat_strs, by rw [if_neg Bool.false_ne_true, in_strs]; exact q⟩
theorem eqv_m1 {d : PyData} (h : (∃ n, d = .int n) ∨ ∃ b, d = .bool b) : PyData.eqv d (.int (-1)) = match d with | .int n => decide (n = -1) | _ => false := by
  rcases h with ⟨n, rfl⟩ | ⟨b, rfl⟩
  · simp [PyData.eqv]
    rfl
  · cases b <;> simp [PyData.eqv] <;> rfl
def ltr : CR.Kd → Str
  | .into => "d" | .from' => "d" | .opt => "m" | .member => "k" | .value => "v" | .view => "w" | .sign => "s" | .order => "c" | .sort => "r" | .keys => "x" | .places => "y" | _ => "p"
def wds : CR.Kd → List Str
  | .view => ["now", "cpu", "pid", "tid", "at", "name"] | .sign => ["+", "-", "*", "/", "mod"] | .order => ["==", "!=", "<", "<=", ">", ">="] | .sort => ["trace", "say"]
  | _ => []
/-- what a comprehension keeps of data -/
def Kp (K : PySem.W.Frag) (f : PyData → Bool) (ds : List PyData) (H : Hp) (D : PySem.Addr) (i : Nat) (H' : Hp) : Prop := Same H H' ∧ ∃ vs, H' D = some (.lst vs) ∧ DpAll K H' vs ((ds.take i).filter fun d => !f d) ∧ vs.length ≤ i
theorem Kp.start {K : PySem.W.Frag} {f : PyData → Bool} {ds : List PyData} {H : Hp} {D : PySem.Addr} (hD : H D = none) : Kp K f ds H D 0 (upd H D (.lst [])) := ⟨R.same_new hD, [], upd_same, .nil, Nat.le_refl _⟩
section
variable {K : PySem.W.Frag} {f : PyData → Bool} {ds : List PyData} {H H1 H2 : Hp} {D : PySem.Addr} {i : Nat} {d : PyData} {v : V}
theorem Kp.no (k : Kp K f ds H D i H1) (s : Same H1 H2) (e : ds[i]? = some d) (hf : f d = true) : Kp K f ds H D (i + 1) H2 := by
  obtain ⟨s1, vs, eD, al, hl⟩ := k
  refine ⟨s1.trans s, vs, s _ _ eD, ?_, by omega⟩
  rw [CR.filt_snoc e, if_neg (by rw [hf]; exact Bool.false_ne_true), List.append_nil]
  exact _root_.D.dpAll_same s _ _ al
theorem sqt_mv {p : PySem.Addr} {xs ys : List V} (m : R.Mv D H H1) (e : H D = some (.lst ys)) (h : SqT K H p xs) : SqT K H1 p xs := by
  rcases h with (h | ⟨o, h⟩) | h
  · exact .inl (.inl (m _ _ h fun z => by rw [z, e] at h; cases h))
  · exact .inl (.inr ⟨o, m _ _ h fun z => by rw [z, e] at h; cases h⟩)
  · exact .inr h
mutual
theorem dp_mv {ys : List V} (m : R.Mv D H H1) (e : H D = some (.lst ys)) : ∀ (k : Nat) (v : V) (d : PyData), gd k d → Dp K H v d → Dp K H1 v d
  | _, _, _, _, .non => .non
  | _, _, _, _, .bl b => .bl b
  | _, _, _, _, .int b => .int b
  | _, _, _, _, .str b => .str b
  | 0, _, _, g, .lst q h => g.elim
  | _ + 1, _, _, g, .lst q h => g.elim
  | 0, _, .tuple ds, g, .tup q h => .tup (sqt_mv m e q) (dpAll_mv m e 0 _ ds (fun x hx => by rw [show ds = [] from g] at hx; cases hx) h)
  | k + 1, _, .tuple ds, g, .tup q h => .tup (sqt_mv m e q) (dpAll_mv m e k _ ds g.2 h)
theorem dpAll_mv {ys : List V} (m : R.Mv D H H1) (e : H D = some (.lst ys)) : ∀ (k : Nat) (vs : List V) (ds : List PyData), (∀ x ∈ ds, gd k x) → DpAll K H vs ds → DpAll K H1 vs ds
  | _, _, _, _, .nil => .nil
  | k, _, _, g, .cons a b => .cons (dp_mv m e k _ _ (g _ List.mem_cons_self) a) (dpAll_mv m e k _ _ (fun x hx => g x (List.mem_cons_of_mem _ hx)) b)
end
theorem Kp.yes {j : Nat} (hD : H D = none) (k : Kp K f ds H D i H1) (s : Same H1 H2) (e : ds[i]? = some d) (hf : f d = false) (g : ∀ x ∈ ds, gd j x) (hv : Dp K H2 v d) (hi : i < 100000) : ∃ acc, H2 D = some (.lst acc) ∧ acc.length < sizeLine ∧ Kp K f ds H D (i + 1) (upd H2 D (.lst (acc ++ [v]))) := by
  obtain ⟨s1, vs, eD, al, hl⟩ := k
  have e2 := s _ _ eD
  have gd' : gd j d := g d (List.mem_of_getElem? e)
  refine ⟨vs, e2, R.size_lt (by omega), CR.same_acc hD (s1.trans s), _, upd_same, ?_, by rw [List.length_append]; show vs.length + 1 ≤ i + 1; omega⟩
  rw [CR.filt_snoc e, if_pos (by rw [hf]; rfl)]
  have al2 := _root_.D.dpAll_same s _ _ al
  refine dp_snoc (dpAll_mv R.Mv.upd e2 j _ _ (fun x hx => g x ?_) al2) (dp_mv R.Mv.upd e2 j _ _ gd' hv)
  exact List.mem_of_mem_take (List.mem_filter.mp hx).1
end
end CK
namespace CK
open PySem PySem.Spec PyProof.Rows L2 MM
theorem r_dget1 {td ty : TE} {σ : L2.St} {H : Hp} {Q : VK} (h : td σ H fun x H1 => ∃ a, x = .ref a ∧ IsD H1 a ∧ ty σ H1 fun y H2 => ∃ o, DGet H2 a y o ∧ Q (o.getD .non) H2) : tDGet1 td ty σ H Q := h
theorem nm_cases (z : Str) : (∃ w : CR.Wd, z = w.nm) ∨ ∀ w : CR.Wd, z ≠ w.nm := by
  by_cases h : ∃ w : CR.Wd, z = w.nm
  · exact .inl h
  · exact .inr fun w e => h ⟨w, e⟩
theorem srt_some (w : CR.Wd) : valV srt (Sum.inr w.nm : Key) = some (.str (sortOf w)) := by cases w <;> rfl
theorem srt_none {z : Str} (h : ∀ w : CR.Wd, z ≠ w.nm) : valV srt (Sum.inr z : Key) = none := by
  unfold valV
  rw [List.find?_eq_none.mpr, Option.map_none]
  intro kv hk e
  obtain ⟨w, _, rfl⟩ := List.mem_map.mp hk
  have e := of_decide_eq_true e
  injection e with e
  exact h w e.symm
theorem row_no' {z : Str} {xs : List PyData} (h : ∀ w : CR.Wd, z ≠ w.nm) : row (.tuple (.str z :: xs)) = false := by
  unfold row
  dsimp only
  rw [List.find?_eq_none.mpr]
  intro w _ e
  exact h w (of_decide_eq_true e).symm
theorem sort_len (w : CR.Wd) : (sortOf w).length = w.ks.length := by cases w <;> rfl
theorem let_at (w : CR.Wd) (i : Nat) (kd : CR.Kd) (h : w.ks[i]? = some kd) : ∃ c, (sortOf w).cps.toList[i]? = some c ∧ (⟨#[c]⟩ : Str) = ltr kd := by
  have hi : i < 4 := by
    have := (List.getElem?_eq_some_iff.mp h).1
    have := CR.ks_len w
    omega
  rcases (show i = 0 ∨ i = 1 ∨ i = 2 ∨ i = 3 by omega) with rfl | rfl | rfl | rfl <;> cases w <;> first | (obtain rfl := Option.some.inj h; exact ⟨_, rfl, rfl⟩) | (cases h)
theorem prt_no {ks : List CR.Kd} {ds : List PyData} {i : Nat} {kd : CR.Kd} {d : PyData} (e1 : ks[i]? = some kd) (e2 : ds[i]? = some d) (h : prt kd d = false) : (((ks.zip ds).map fun x => prt x.1 x.2).all id) = false := by
  rw [List.all_eq_false]
  refine ⟨prt kd d, List.mem_map.mpr ⟨(kd, d), ?_, rfl⟩, by rw [h]; exact Bool.false_ne_true⟩
  exact List.mem_of_getElem? (i := i) (List.getElem?_zip_eq_some.mpr ⟨e1, e2⟩)
theorem prt_yes {ks : List CR.Kd} {ds : List PyData} (h : ∀ (i : Nat) kd d, ks[i]? = some kd → ds[i]? = some d → prt kd d = true) : (((ks.zip ds).map fun x => prt x.1 x.2).all id) = true := by
  rw [List.all_eq_true]
  intro b hb
  obtain ⟨x, hx, rfl⟩ := List.mem_map.mp hb
  obtain ⟨i, hi⟩ := List.mem_iff_getElem?.mp hx
  obtain ⟨e1, e2⟩ := List.getElem?_zip_eq_some.mp hi
  exact h i _ _ e1 e2
end CK
namespace CK
open PySem PySem.Spec PyProof.Rows L2 MM
section
variable {K : PySem.W.Frag} {tb : TS} {g : TG} {nx bk ct : L2.St → Hp → Prop} {rt : V → Hp → Prop} {σ : L2.St} {H : Hp} {tl : TE} {a : PySem.Addr} {xs : List V}
theorem r_forT (h : tl σ H fun x H1 => ∃ a, x = .ref a ∧ (∃ xs, SqT K H1 a xs) ∧ FW (Itt K a) g tb nx rt σ H1) : tFor (iTup K tl) g tb ⟨nx, rt, bk, ct⟩ σ H := h
theorem for_tupG (Pv : Nat → L2.St → Hp → Prop) (h0 : Pv 0 σ H) (hG : ∀ i σ H, Pv i σ H → SqT K H a xs)
    (hs : ∀ i v σ H, xs[i]? = some v → Pv i σ H → g v σ H fun σ2 H2 => tb ⟨Pv (i + 1), rt, nx, Pv (i + 1)⟩ σ2 H2) (hd : ∀ σ H, Pv xs.length σ H → nx σ H) : FW (Itt K a) g tb nx rt σ H := by
  refine for_it (D := ⟨nx, rt, fun _ _ => False, fun _ _ => False⟩) (walk_tup (xs := xs)) Pv h0 (fun i σ H _ p => hG i σ H p) (fun i x σ H H' hi p y => ?_) hd
  obtain ⟨rfl, e⟩ := y
  exact hs i x σ _ e p
end
end CK
end
section
/-! the drawing of code, told as data -/
namespace CK
open PySem PySem.Spec PyProof.Rows L2 MM
mutual
inductive Td (H : Hp) : V → PyData → Prop
  | non : Td H .non .none
  | bl (b : Bool) : Td H (.bl b) (.bool b)
  | int (i : Int) : Td H (.int i) (.int i)
  | str (x : Str) : Td H (.str x) (.str x)
  | tup {a : PySem.Addr} {xs : List V} {ds : List PyData} : H a = some (.tup xs) → TdAll H xs ds → Td H (.ref a) (.tuple ds)
inductive TdAll (H : Hp) : List V → List PyData → Prop
  | nil : TdAll H [] []
  | cons {v : V} {vs : List V} {d : PyData} {ds : List PyData} : Td H v d → TdAll H vs ds → TdAll H (v :: vs) (d :: ds)
end
mutual
theorem Td.keep {H H' : Hp} (k : KeepT H H') : ∀ {v : V} {d : PyData}, Td H v d → Td H' v d
  | _, _, .non => .non
  | _, _, .bl b => .bl b
  | _, _, .int i => .int i
  | _, _, .str x => .str x
  | _, _, .tup e al => .tup (k _ _ e) (TdAll.keep k al)
theorem TdAll.keep {H H' : Hp} (k : KeepT H H') : ∀ {v : List V} {d : List PyData}, TdAll H v d → TdAll H' v d
  | _, _, .nil => .nil
  | _, _, .cons a b => .cons (Td.keep k a) (TdAll.keep k b)
end
mutual
theorem Td.dp {K : PySem.W.Frag} {H : Hp} : ∀ {v : V} {d : PyData}, Td H v d → Dp K H v d
  | _, _, .non => .non
  | _, _, .bl b => .bl b
  | _, _, .int i => .int i
  | _, _, .str x => .str x
  | _, _, .tup e al => .tup (R.sqT e) (TdAll.dp al)
theorem TdAll.dp {K : PySem.W.Frag} {H : Hp} : ∀ {v : List V} {d : List PyData}, TdAll H v d → DpAll K H v d
  | _, _, .nil => .nil
  | _, _, .cons a b => .cons (Td.dp a) (TdAll.dp b)
end
theorem TdAll.ints {H : Hp} : ∀ {ns : List Int}, TdAll H (ns.map V.int) (ns.map PyData.int)
  | [] => .nil
  | n :: ns => .cons (.int n) TdAll.ints
theorem TdAll.strs {H : Hp} : ∀ {ns : List Str}, TdAll H (ns.map V.str) (ns.map PyData.str)
  | [] => .nil
  | n :: ns => .cons (.str n) TdAll.strs
theorem TdAll.len {H : Hp} : ∀ {vs : List V} {ds : List PyData}, TdAll H vs ds → vs.length = ds.length
  | _, _, .nil => rfl
  | _, _, .cons _ b => by rw [List.length_cons, List.length_cons, b.len]
inductive FitD : List CR.Kd → List PyData → Prop
  | nil : FitD [] []
  | cons {k : CR.Kd} {ks : List CR.Kd} {d : PyData} {ds : List PyData} : prt k d = true → gd 1 d → FitD ks ds → FitD (k :: ks) (d :: ds)
theorem FitD.len {ks : List CR.Kd} {ds : List PyData} (f : FitD ks ds) : ks.length = ds.length := by
  induction f with
  | nil => rfl
  | cons _ _ _ ih => rw [List.length_cons, List.length_cons, ih]
theorem FitD.gd {ks : List CR.Kd} {ds : List PyData} (f : FitD ks ds) : ∀ d ∈ ds, CK.gd 1 d := by
  induction f with
  | nil => exact fun _ h => nomatch h
  | cons _ g _ ih =>
    intro x hx
    rcases List.mem_cons.mp hx with z | z
    · rw [z]; exact g
    · exact ih x z
theorem FitD.get {ks : List CR.Kd} {ds : List PyData} (f : FitD ks ds) : ∀ (i : Nat) kd d, ks[i]? = some kd → ds[i]? = some d → prt kd d = true := by
  induction f with
  | nil => intro i kd d e; simp at e
  | cons h _ _ ih =>
    intro i kd d e1 e2
    cases i with
    | zero =>
      rw [← Option.some.inj e1, ← Option.some.inj e2]
      exact h
    | succ i => exact ih i kd d e1 e2
theorem FitD.row {w : CR.Wd} {ds : List PyData} (f : FitD w.ks ds) : CK.row (.tuple (.str w.nm :: ds)) = true := by
  rw [row_w, decide_eq_true f.len, prt_yes f.get]
  rfl
theorem nm_ok (w : CR.Wd) : w.nm.length ≤ 1000 ∧ PyData.strOk w.nm = true := by cases w <;> decide +kernel
theorem FitD.gdr {w : CR.Wd} {ds : List PyData} (f : FitD w.ks ds) : CK.gd 2 (.tuple (.str w.nm :: ds)) := by
  refine ⟨?_, fun x hx => ?_⟩
  · have := f.len
    have := CR.ks_len w
    rw [List.length_cons]
    omega
  · rcases List.mem_cons.mp hx with z | z
    · rw [z]; exact nm_ok w
    · exact f.gd x z
theorem p7 {n : Int} (h : 0 ≤ n ∧ n ≤ 7) : cnt 0 7 (.int n) = true := decide_eq_true h
theorem p3 {n : Int} (h : 0 ≤ n ∧ n ≤ 3) : cnt 0 3 (.int n) = true := decide_eq_true h
theorem pm {n : Int} (h : -1 ≤ n ∧ n ≤ 7) : cnt (-1) 7 (.int n) = true := decide_eq_true h
theorem p4 {n : Int} (h : 0 ≤ n ∧ n ≤ 10000) : cnt 0 10000 (.int n) = true := decide_eq_true h
theorem pp {ns : List Int} (h : ∀ n ∈ ns, 0 ≤ n ∧ n ≤ 10000) : plcs (.tuple (ns.map PyData.int)) = true := by
  show (ns.map PyData.int).all (cnt 0 10000) = true
  rw [List.all_eq_true]
  intro d hd
  obtain ⟨n, hn, rfl⟩ := List.mem_map.mp hd
  exact p4 (h n hn)
theorem pk {ns : List Int} (h : ∀ n ∈ ns, 0 ≤ n ∧ n ≤ 10000) (hl : ns.length ≤ 3) : prt .keys (.tuple (ns.map PyData.int)) = true := by
  show (plcs (.tuple (ns.map PyData.int)) && decide ((ns.map PyData.int).length ≤ 3)) = true
  rw [pp h, List.length_map, decide_eq_true hl]
  rfl
theorem gi {n : Int} : gd 1 (.int n) := trivial
theorem gs {s : Str} (h : s.length ≤ 1000 ∧ PyData.strOk s = true) : gd 1 (.str s) := h
theorem gl {ns : List Int} (h : ns.length ≤ 1000) : gd 1 (.tuple (ns.map PyData.int)) := ⟨by rw [List.length_map]; exact h, fun x hx => by
  obtain ⟨n, _, rfl⟩ := List.mem_map.mp hx
  exact trivial⟩
def MkD (pw dl : PySem.Addr) (H0 : Hp) (l : List PySem.Addr) (H : Hp) : Prop := CR.Gr pw dl H0 H ∧ ∀ a ∈ l, ∃ d, Td H (.ref a) d ∧ row d = true ∧ gd 2 d
def spPlaceD : Sp := fun vs H Q _ => ∃ (pw dl : PySem.Addr), vs = [.ref pw] ∧ CR.Wr H pw dl ∧ ∀ H' (v : Int), CR.Gr pw dl H H' → 0 ≤ v → v ≤ 10000 → Q (.int v) H'
def spPlacesD : Sp := fun vs H Q _ => ∃ (pw dl : PySem.Addr) (m : Int), vs = [.ref pw, .int m] ∧ 0 ≤ m ∧ m ≤ 16 ∧ CR.Wr H pw dl ∧ ∀ H' p (ns : List Int), CR.Gr pw dl H H' → H' p = some (.tup (ns.map V.int)) → (ns.length : Int) ≤ m → (∀ n ∈ ns, 0 ≤ n ∧ n ≤ 10000) → Q (.ref p) H'
def spValD : Sp := fun vs H Q _ => ∃ (pw dl : PySem.Addr), vs = [.ref pw] ∧ CR.Wr H pw dl ∧ ∀ H' v d, CR.Gr pw dl H H' → Td H' v d → val d = true → gd 1 d → Q v H'
def spRowD : Sp := fun vs H Q _ => ∃ (pw dl : PySem.Addr) (m : Int), vs = [.ref pw, .int m] ∧ 1 ≤ m ∧ m ≤ 14 ∧ CR.Wr H pw dl ∧ ∀ H' v d, CR.Gr pw dl H H' → Td H' v d → row d = true → gd 2 d → Q v H'
def spCodeD : Sp := fun vs H Q _ => ∃ (pw dl : PySem.Addr), vs = [.ref pw] ∧ CR.Wr H pw dl ∧ ∀ H' v d, CR.Gr pw dl H H' → Td H' v d → code d = true → gd 4 d → Q v H'
section
variable {H H0 H1 H2 H' : Hp} {pw dl p : PySem.Addr} {l : List PySem.Addr}
theorem MkD.go (m : MkD pw dl H0 l H) (g : CR.Gr pw dl H H') : MkD pw dl H0 l H' := ⟨m.1.trans g, fun a h => by
  obtain ⟨d, z, r⟩ := m.2 a h
  exact ⟨d, z.keep g.keepT, r⟩⟩
theorem MkD.sm (m : MkD pw dl H0 l H) (s : Same H H') : MkD pw dl H0 l H' := m.go ((CR.Gr.refl m.1.2.2).sm s)
theorem MkD.w (m : MkD pw dl H0 l H) : CR.Wr H pw dl := m.1.2.2
theorem mk_row {vs : List V} (m : MkD pw dl H0 l H) (w : CR.Wd) (ds : List PyData) (hu : L2.upd H p (.tup (V.str w.nm :: vs)) = H') (hp : H p = none) (f : FitD w.ks ds) (a : TdAll H vs ds) : Same H H' ∧ MkD pw dl H0 (p :: l) H' := by
  subst hu
  refine ⟨R.same_new hp, ?_⟩
  have s := R.same_new (o := .tup (V.str w.nm :: vs)) hp
  have m2 := m.sm s
  refine ⟨m2.1, fun b hb => ?_⟩
  rcases List.mem_cons.mp hb with z | z
  · subst z
    exact ⟨_, .tup upd_same (.cons (.str _) (a.keep (KeepT.of s))), f.row, f.gdr⟩
  · exact m2.2 b z
theorem mk_one {Q : VK} {vs : List V} (m : MkD pw dl H0 l H) (w : CR.Wd) (ds : List PyData) (hl : (V.str w.nm :: vs).length ≤ sizeLine) (f : FitD w.ks ds) (a : TdAll H vs ds) (q : ∀ H' v d, CR.Gr pw dl H0 H' → Td H' v d → row d = true → gd 2 d → Q v H') :
    (V.str w.nm :: vs).length ≤ sizeLine ∧ ∀ p, H p = none → Q (.ref p) (L2.upd H p (.tup (V.str w.nm :: vs))) := by
  refine ⟨hl, fun p hp => ?_⟩
  obtain ⟨_, m2⟩ := mk_row m w ds rfl hp f a
  obtain ⟨d, hd, hr, hg⟩ := m2.2 p List.mem_cons_self
  exact q _ _ d m2.1 hd hr hg
theorem r_pick {K : PySem.W.Frag} {Q : VK} {l : PySem.Addr} {i : Int} {ps ps' : List PySem.Addr} (m : MkD pw dl H0 ps' H) (hl : H l = none) (sub : ∀ a ∈ ps, a ∈ ps') (h0 : 0 ≤ i) (h1 : i < ps.length) (q : ∀ H' v d, CR.Gr pw dl H0 H' → Td H' v d → row d = true → gd 2 d → Q v H') :
    rIxL K (.ref l) (.int i) (L2.upd H l (.lst (ps.map V.ref))) Q := by
  obtain ⟨a, ha, e⟩ := MM.pickV (f := V.ref) h0 h1
  have m2 := m.sm (R.same_new (o := .lst (ps.map V.ref)) hl)
  obtain ⟨d, hd, hr, hg⟩ := m2.2 a (sub a ha)
  exact R.r_ixL (R.sqL upd_same) e (q _ _ d m2.1 hd hr hg)
theorem MkD.neL {b : PySem.Addr} {xs : List V} (m : MkD pw dl H0 l H) (e : H b = some (.lst xs)) : b ≠ pw := fun z => by
  obtain ⟨a, ds, e1, _⟩ := m.w
  rw [z, e1] at e
  cases e
theorem MkD.take {Q : VK} {E : XK} (m : MkD pw dl H0 l H) (h : ∀ H' (v : Int), MkD pw dl H0 l H' → CR.Gr pw dl H H' → Q (.int v) H') : CR.spTake ([.ref pw] ++ []) H Q E :=
  ⟨pw, dl, rfl, m.w, fun H' v g => h H' v (m.go g) g⟩
theorem MkD.place {Q : VK} {E : XK} (m : MkD pw dl H0 l H) (h : ∀ H' (v : Int), MkD pw dl H0 l H' → 0 ≤ v → v ≤ 10000 → Q (.int v) H') : spPlaceD ([.ref pw] ++ []) H Q E :=
  ⟨pw, dl, rfl, m.w, fun H' v g h0 h1 => h H' v (m.go g) h0 h1⟩
theorem MkD.places {Q : VK} {E : XK} {k : Int} (m : MkD pw dl H0 l H) (h0 : 0 ≤ k ∧ k ≤ 16) (h : ∀ H' p (ns : List Int), MkD pw dl H0 l H' → CR.Gr pw dl H H' → Td H' (.ref p) (.tuple (ns.map PyData.int)) → (ns.length : Int) ≤ k → (∀ n ∈ ns, 0 ≤ n ∧ n ≤ 10000) → Q (.ref p) H') : spPlacesD ([.ref pw, .int k] ++ []) H Q E :=
  ⟨pw, dl, k, rfl, h0.1, h0.2, m.w, fun H' p ns g e hl hr => h H' p ns (m.go g) g (.tup e TdAll.ints) hl hr⟩
end
end CK
namespace CK
open PySem PySem.Spec PyProof.Rows L2 MM
theorem few_ok {ws : List Str} {x : Str} (h : ∀ w ∈ ws, w.length ≤ 1000 ∧ PyData.strOk w = true) (hx : x ∈ ws) : x.length ≤ 1000 ∧ PyData.strOk x = true := h x hx
def vis : List Int := [0, 1, -1, 9223372036854775808 - 1, -9223372036854775808, 255, 1000000000000]
def vss : List Str := ["", "a b", Zs.repS "x" 32, "'", "~!", "str 1 'q", "A9 "]
theorem vi_ok : ∀ n ∈ vis, val (.tuple [.str "int", .int n]) = true := by decide +kernel
theorem vs_ok : ∀ s ∈ vss, val (.tuple [.str "str", .str s]) = true ∧ s.length ≤ 1000 ∧ PyData.strOk s = true := by decide +kernel
theorem gv {a : Str} {d : PyData} (ha : a.length ≤ 1000 ∧ PyData.strOk a = true) (hd : gd 0 d) : gd 1 (.tuple [.str a, d]) := ⟨Nat.le_of_ble_eq_true rfl, fun x hx => by
  simp only [List.mem_cons, List.not_mem_nil, or_false] at hx
  rcases hx with rfl | rfl
  · exact ha
  · exact hd⟩
end CK
end
section
/-! code as data; things that are spoilt -/
namespace CK
open PySem PySem.Spec PyProof.Rows L2 MM
theorem tds_of {H : Hp} {P : PyData → Prop} : ∀ {vs : List V}, (∀ v ∈ vs, ∃ d, Td H v d ∧ P d) → ∃ ds, TdAll H vs ds ∧ ∀ d ∈ ds, P d
  | [], _ => ⟨[], .nil, fun _ h => nomatch h⟩
  | v :: vs, h => by
    obtain ⟨d, hd, hp⟩ := h v List.mem_cons_self
    obtain ⟨ds, al, hq⟩ := tds_of fun v hv => h v (List.mem_cons_of_mem _ hv)
    exact ⟨d :: ds, .cons hd al, fun x hx => by
      rcases List.mem_cons.mp hx with z | z
      · rw [z]; exact hp
      · exact hq x z⟩
theorem all_map {f : PyData → Bool} {ds : List PyData} (h : ∀ d ∈ ds, f d = true) : (ds.map f).all id = true := by
  rw [List.all_eq_true]
  intro b hb
  obtain ⟨x, hx, rfl⟩ := List.mem_map.mp hb
  exact h x hx
theorem TdAll.get {H : Hp} : ∀ {vs : List V} {ds : List PyData} {i : Nat} {v : V}, TdAll H vs ds → vs[i]? = some v → ∃ d, ds[i]? = some d ∧ Td H v d
  | _, _, i, v, .nil, e => by cases e
  | _, _, 0, v, .cons a _, e => by
    obtain rfl := Option.some.inj e
    exact ⟨_, rfl, a⟩
  | _, _, i + 1, v, .cons _ b, e => TdAll.get (i := i) b e
theorem TdAll.app {H : Hp} : ∀ {vs ws : List V} {ds es : List PyData}, TdAll H vs ds → TdAll H ws es → TdAll H (vs ++ ws) (ds ++ es)
  | _, _, _, _, .nil, h => h
  | _, _, _, _, .cons a b, h => .cons a (TdAll.app b h)
theorem TdAll.take {H : Hp} : ∀ {vs : List V} {ds : List PyData} (n : Nat), TdAll H vs ds → TdAll H (vs.take n) (ds.take n)
  | _, _, 0, _ => by rw [List.take_zero, List.take_zero]; exact .nil
  | _, _, n + 1, .nil => .nil
  | _, _, n + 1, .cons a b => .cons a (TdAll.take n b)
theorem TdAll.drop {H : Hp} : ∀ {vs : List V} {ds : List PyData} (n : Nat), TdAll H vs ds → TdAll H (vs.drop n) (ds.drop n)
  | _, _, 0, h => h
  | _, _, n + 1, .nil => .nil
  | _, _, n + 1, .cons a b => TdAll.drop n b
theorem or_key {c c' : TT} {σ : L2.St} {H : Hp} {B : Bool → Hp → Prop} (J : Bool → Hp → Prop) (key : ∀ b H', J b H' → B b H') (h : (∀ b H', J b H' → B b H') → tOr c c' σ H B) : tOr c c' σ H B := h key
section
variable {K : PySem.W.Frag} {H H' : Hp} {Q : VK} {a b : PySem.Addr} {xs ys : List V}
theorem r_catA (ha : H a = some (.tup xs)) (hb : H b = some (.tup ys)) (hl : xs.length + ys.length ≤ 100000) (q : ∀ H' p, Same H H' → H' p = some (.tup (xs ++ ys)) → Q (.ref p) H') : rCatA K (.ref a) (.ref b) H Q :=
  ⟨a, b, xs, ys, rfl, rfl, R.sqT ha, R.sqT hb, R.size_of hl, fun e => by subst e; exact q H b (Same.refl H) hb, fun _ e => by subst e; exact q H a (Same.refl H) (by rw [List.append_nil]; exact ha), fun _ _ p hp => q _ p (R.same_new hp) upd_same⟩
theorem r_cat (h1 : H a = some (.lst xs)) (h2 : H b = some (.lst ys)) (hl : xs.length + ys.length ≤ 100000) (q : ∀ p, H p = none → Q (.ref p) (L2.upd H p (.lst (xs ++ ys)))) : rCat (.ref a) (.ref b) H Q :=
  ⟨a, b, xs, ys, rfl, rfl, h1, h2, R.size_of hl, q⟩
theorem cut_to {n : Nat} (xs : List V) : cutV xs none (some (n : Int)) = xs.take (min n xs.length) := by
  unfold cutV
  rw [HT.sIx_none, List.drop_zero, HT.sIx_nat, Nat.sub_zero]
theorem sl_to {n : Nat} (hs : H a = some (.tup xs)) (hn : n < xs.length) (q : ∀ p, H p = none → Q (.ref p) (L2.upd H p (.tup (xs.take n)))) : rSlA K (.ref a) none (some (n : Int)) H Q :=
  ⟨a, xs, rfl, R.sqT hs, fun z => by
    have := z.2
    rw [HT.sIx_nat] at this
    omega, fun _ p hp => by
    rw [cut_to, Nat.min_eq_left (by omega)]
    exact q p hp⟩
theorem sl_fr {n : Nat} (hs : H a = some (.tup xs)) (h1 : 1 ≤ n) (hn : n ≤ xs.length) (q : ∀ p, H p = none → Q (.ref p) (L2.upd H p (.tup (xs.drop n)))) : rSlA K (.ref a) (some (n : Int)) none H Q :=
  ⟨a, xs, rfl, R.sqT hs, fun z => by
    have := z.1
    rw [HT.sIx_nat] at this
    omega, fun _ p hp => by
    rw [CR.cut_from]
    exact q p hp⟩
theorem isi_td {v : V} {d : PyData} {k : Nat} (hd : Td H v d) (g : gd k d) : R.CIsi K H v (.ty "tuple") (isD "tuple" d) := isi_d (c := "tuple") (hd.dp (K := K)) g (.inr (.inr (.inr rfl)))
end
theorem eqv_tnil {d : PyData} : PyData.eqv d (.tuple []) = match d with | .tuple [] => true | _ => false := by
  cases d with
  | tuple xs => cases xs <;> simp [PyData.eqv, PyData.eqvAll]
  | _ => simp [PyData.eqv]
def spSpoil (n : Nat) : Sp := fun vs H Q _ => ∃ (pw dl : PySem.Addr) (v : V) (steps : Int) (d : PyData) (k : Nat), vs = [.ref pw, v, .int steps] ∧ 1 ≤ n ∧ steps + 1 ≤ n ∧ CR.Wr H pw dl ∧ Td H v d ∧ gd k d ∧ k ≤ 15 ∧ ∀ H' v' d', CR.Gr pw dl H H' → Td H' v' d' → gd (k + 1) d' → Q v' H'
/-- the things that may stand in a part's place -/
def thV (a b c e f g h i j l : PySem.Addr) : List V := [.non, .bl true, .int (-1), .int 0, .int 3, .int 7, .int 8, .int 15, .int 10000, .int 10001, .str "int", .str "str", .str "trace", .str "now", .str "+", .str "end", .str "", .ref a, .ref b] ++ [.ref c, .ref e, .ref f, .ref g, .ref h, .ref i, .ref j, .ref l]
def thD : List PyData := [.none, .bool true, .int (-1), .int 0, .int 3, .int 7, .int 8, .int 15, .int 10000, .int 10001, .str "int", .str "str", .str "trace", .str "now", .str "+", .str "end", .str "", .tuple [], .tuple [.str "int", .int 1]] ++ [.tuple [.str "int", .int 9223372036854775808], .tuple [.str "int", .bool true], .tuple [.str "str", .str (Zs.repS "x" 33)], .tuple [.str "str", .int 5], .tuple [.str "end"], .tuple [.str "skip", .int 0], .tuple [.str "jump"], .tuple [.int 0, .int 1, .int 2, .int 3]]
theorem thD_gd : ∀ d ∈ thD, gd 1 d := by
  unfold thD
  intro d hd
  simp only [List.cons_append, List.nil_append, List.mem_cons, List.not_mem_nil, or_false] at hd
  have two : ∀ {x y : PyData}, gd 0 x → gd 0 y → gd 1 (.tuple [x, y]) := fun hx hy => ⟨Nat.le_of_ble_eq_true rfl, fun z hz => by
    simp only [List.mem_cons, List.not_mem_nil, or_false] at hz
    rcases hz with rfl | rfl
    · exact hx
    · exact hy⟩
  have one : ∀ {x : PyData}, gd 0 x → gd 1 (.tuple [x]) := fun hx => ⟨Nat.le_of_ble_eq_true rfl, fun z hz => by
    rw [List.mem_singleton] at hz
    rw [hz]; exact hx⟩
  have st : ∀ {s : Str} {k : Nat}, (s.length ≤ 1000 ∧ PyData.strOk s = true) → gd k (.str s) := fun {s k} h => by cases k <;> exact h
  rcases hd with rfl | rfl | rfl | rfl | rfl | rfl | rfl | rfl | rfl | rfl | rfl | rfl | rfl | rfl | rfl | rfl | rfl | rfl | rfl | rfl | rfl | rfl | rfl | rfl | rfl | rfl | rfl
  all_goals first
    | exact trivial
    | exact st (by decide +kernel)
    | exact ⟨Nat.zero_le _, fun _ h => nomatch h⟩
    | exact two (st (by decide +kernel)) trivial
    | exact two (st (by decide +kernel)) (st (by decide +kernel))
    | exact one (st (by decide +kernel))
    | exact ⟨Nat.le_of_ble_eq_true rfl, fun z hz => by
        simp only [List.mem_cons, List.not_mem_nil, or_false] at hz
        rcases hz with rfl | rfl | rfl | rfl <;> exact trivial⟩
end CK
namespace CK
open PySem PySem.Spec PyProof.Rows L2 MM
theorem rep3 : ∀ n, (List.replicate n [V.int 3]).flatten = (List.replicate n (3 : Int)).map V.int
  | 0 => rfl
  | n + 1 => by
    rw [List.replicate_succ, List.replicate_succ, List.flatten_cons, List.map_cons, rep3 n]
    rfl
def wordS : List Str := CR.Wd.all.map fun r => r.nm
theorem words_eq : words = wordS.map V.str := by
  unfold words wordS
  rw [List.map_map]
  rfl
theorem words_ok : SeqAt.shaped (.tuple (wordS.map PyData.str)) = true ∧ PyData.eqv (.tuple (wordS.map PyData.str)) (.tuple (wordS.map PyData.str)) = true := by decide +kernel
end CK
namespace CK
open PySem PySem.Spec PyProof.Rows L2 MM
theorem gl0 {k : Nat} : ∀ x ∈ ([] : List PyData), gd k x := fun _ h => nomatch h
theorem gl1 {k : Nat} {d : PyData} {ds : List PyData} (a : gd k d) (b : ∀ x ∈ ds, gd k x) : ∀ x ∈ d :: ds, gd k x := fun x hx => by
  rcases List.mem_cons.mp hx with z | z
  · rw [z]; exact a
  · exact b x z
theorem gd_nil : ∀ {k : Nat}, gd k (.tuple [])
  | 0 => rfl
  | _ + 1 => ⟨Nat.zero_le _, gl0⟩
theorem gd_non : ∀ {k : Nat}, gd k .none
  | 0 => trivial
  | _ + 1 => trivial
def putD (n : Int) : PyData := .tuple [.str "put", .int 0, .tuple [], .int n]
theorem gd_put {n : Int} : gd 2 (putD n) := gd_tup (Nat.le_of_ble_eq_true rfl) (gl1 (gs (by decide +kernel)) (gl1 trivial (gl1 gd_nil (gl1 trivial gl0))))
def lastD (ld : PyData) : List PyData := [.tuple [.tuple [], .tuple []], .none, .tuple [], .tuple [.tuple []], .tuple [.tuple [], .tuple [], .tuple []], .tuple [.tuple [], .none], .tuple [.tuple [], .tuple [ld]], .tuple [.tuple [], .tuple [putD (-1), putD (-2)]]]
theorem lastD_gd {ld : PyData} (g : gd 2 ld) : ∀ d ∈ lastD ld, gd 4 d := by
  have b : ∀ {n : Nat}, Nat.ble n 1000 = true → n ≤ 1000 := fun h => Nat.le_of_ble_eq_true h
  exact gl1 (gd_tup (b rfl) (gl1 gd_nil (gl1 gd_nil gl0))) (gl1 gd_non (gl1 gd_nil (gl1 (gd_tup (b rfl) (gl1 gd_nil gl0)) (gl1 (gd_tup (b rfl) (gl1 gd_nil (gl1 gd_nil (gl1 gd_nil gl0)))) (gl1 (gd_tup (b rfl) (gl1 gd_nil (gl1 gd_non gl0))) (gl1 (gd_tup (b rfl) (gl1 gd_nil (gl1 (gd_tup (b rfl) (gl1 g gl0)) gl0))) (gl1 (gd_tup (b rfl) (gl1 gd_nil (gl1 (gd_tup (b rfl) (gl1 gd_put (gl1 gd_put gl0))) gl0))) gl0)))))))
end CK
end
section
/-! buffers: items, rows of items, what is lost (plain) -/
namespace BF
open PySem
inductive Vl
  | s (x : Str) | i (n : Int)
def Vl.sz : Vl → Int
  | .s x => 1 + x.length
  | .i _ => 1
def Vl.ok : Vl → Prop
  | .s x => x.length ≤ 32 ∧ PyData.strOk x = true
  | .i n => 0 ≤ n ∧ n < 1000000
inductive It
  | lost (n : Int) | rc (t c : Int) (s : Str) (vs : List Vl)
def It.num : It → Int
  | .lost n => n
  | .rc .. => 1
def It.isL : It → Bool
  | .lost _ => true
  | .rc .. => false
def szV (vs : List Vl) : Int := (vs.map Vl.sz).sum
def It.sz : It → Int
  | .lost _ => 0
  | .rc _ _ _ vs => 2 + szV vs
def It.ok : It → Prop
  | .lost n => 1 ≤ n
  | .rc _ _ s vs => PyData.strOk s = true ∧ (∀ v ∈ vs, v.ok) ∧ vs.length ≤ 100
def It.one (a : It) : Int := if a.isL then 0 else 1
def usd (L : List It) : Int := (L.map It.sz).sum
def numL (L : List It) : Int := (L.map It.num).sum
def oneL (L : List It) : Int := (L.map It.one).sum
/-- no two lost ones side by side -/
def jnd : List It → Prop
  | [] => True
  | [_] => True
  | a :: b :: r => (a.isL = true → b.isL = false) ∧ jnd (b :: r)
def pushL (L : List It) (n : Int) : List It := match L.getLast? with
  | some (.lost m) => L.dropLast ++ [.lost (n + m)]
  | _ => L ++ [.lost n]
def push (L : List It) : It → List It
  | .lost n => pushL L n
  | .rc t c s vs => L ++ [.rc t c s vs]
/-- n lost ones ahead of it -/
def glue (n : Int) : List It → List It
  | .lost b :: R => .lost (n + b) :: R
  | R => .lost n :: R
def glu (g : Int) (R : List It) : List It := if 0 < g then glue g R else R
theorem szV_nn : ∀ (vs : List Vl), (vs.length : Int) ≤ szV vs
  | [] => Int.le_refl _
  | v :: vs => by
    have h := szV_nn vs
    unfold szV at h ⊢
    rw [List.map_cons, List.sum_cons, List.length_cons]
    have : 1 ≤ v.sz := by cases v <;> simp only [Vl.sz] <;> omega
    omega
theorem It.sz_nn (a : It) : 0 ≤ a.sz := by
  cases a with
  | lost n => exact Int.le_refl _
  | rc t c s vs =>
    have := szV_nn vs
    simp only [It.sz]
    omega
theorem It.sz_rec {a : It} (h : a.isL = false) : 2 ≤ a.sz := by
  cases a with
  | lost n => cases h
  | rc t c s vs =>
    have := szV_nn vs
    simp only [It.sz]
    omega
theorem It.sz_lost {a : It} (h : a.isL = true) : a.sz = 0 := by
  cases a with
  | lost n => rfl
  | rc t c s vs => cases h
theorem usd_cons {a : It} {L : List It} : usd (a :: L) = a.sz + usd L := by unfold usd; rw [List.map_cons, List.sum_cons]
theorem usd_app {L M : List It} : usd (L ++ M) = usd L + usd M := by unfold usd; rw [List.map_append, List.sum_append]
theorem usd_nil : usd [] = 0 := rfl
theorem numL_cons {a : It} {L : List It} : numL (a :: L) = a.num + numL L := by unfold numL; rw [List.map_cons, List.sum_cons]
theorem oneL_cons {a : It} {L : List It} : oneL (a :: L) = a.one + oneL L := by unfold oneL; rw [List.map_cons, List.sum_cons]
theorem usd_nn : ∀ L : List It, 0 ≤ usd L
  | [] => Int.le_refl _
  | a :: L => by
    have := usd_nn L
    have := a.sz_nn
    rw [usd_cons]
    omega
theorem jnd.tail {a : It} {L : List It} (h : jnd (a :: L)) : jnd L := by
  cases L with
  | nil => trivial
  | cons b r => exact h.2
theorem jnd.next {a b : It} {L : List It} (h : jnd (a :: b :: L)) (e : a.isL = true) : b.isL = false := h.1 e
theorem jnd.consR {a : It} {L : List It} (h : jnd L) (e : a.isL = false) : jnd (a :: L) := by
  cases L with
  | nil => trivial
  | cons b r => exact ⟨fun z => by (rw [e] at z; cases z), h⟩
/-- the head exchanged for one of its kind -/
theorem jnd.head {a a' : It} {L : List It} (h : jnd (a :: L)) (e : a'.isL = true → a.isL = true) : jnd (a' :: L) := by
  cases L with
  | nil => trivial
  | cons b r => exact ⟨fun z => h.1 (e z), h.2⟩
theorem jnd.app {L : List It} {x y : It} {M : List It} (h : jnd (L ++ [x])) (h2 : jnd (y :: M)) (e : y.isL = true → x.isL = true) (e2 : x.isL = true → y.isL = true) : jnd (L ++ y :: M) := by
  induction L with
  | nil => exact h2
  | cons a L ih =>
    cases L with
    | nil =>
      refine ⟨fun z => ?_, h2⟩
      have := h.1 z
      cases q : y.isL with
      | false => rfl
      | true => rw [e q] at this; cases this
    | cons b L => exact ⟨h.1, ih h.2⟩
theorem jnd.snocR {L : List It} {x : It} (h : jnd L) (e : x.isL = false) : jnd (L ++ [x]) := by
  induction L with
  | nil => trivial
  | cons a L ih =>
    cases L with
    | nil => exact ⟨fun _ => e, trivial⟩
    | cons b L => exact ⟨h.1, ih h.2⟩
theorem jnd.snocL {L : List It} {x : It} (h : jnd L) (e : ∀ y, L.getLast? = some y → y.isL = false) : jnd (L ++ [x]) := by
  induction L with
  | nil => trivial
  | cons a L ih =>
    cases L with
    | nil => exact ⟨fun z => by (rw [e a rfl] at z; cases z), trivial⟩
    | cons b L => exact ⟨h.1, ih h.2 fun y hy => e y (by rw [List.getLast?_cons_cons]; exact hy)⟩
theorem glue_jnd {n : Int} {R : List It} (h : jnd R) : jnd (glue n R) := by
  cases R with
  | nil => trivial
  | cons a R =>
    cases a with
    | lost b => exact h.head fun _ => rfl
    | rc t c s vs => exact ⟨fun _ => rfl, h⟩
theorem glu_jnd {g : Int} {R : List It} (h : jnd R) : jnd (glu g R) := by
  unfold glu
  split
  · exact glue_jnd h
  · exact h
theorem glue_usd {n : Int} {R : List It} : usd (glue n R) = usd R := by
  cases R with
  | nil => rfl
  | cons a R =>
    cases a with
    | lost b => rfl
    | rc t c s vs => show usd (.lost n :: _) = _; rw [usd_cons]; simp [It.sz]
theorem glu_usd {g : Int} {R : List It} : usd (glu g R) = usd R := by
  unfold glu
  split
  · exact glue_usd
  · rfl
/-- the last one -/
theorem last_cases (L : List It) : L = [] ∨ ∃ M x, L = M ++ [x] := by
  rcases List.eq_nil_or_concat L with h | ⟨M, x, h⟩
  · exact .inl h
  · exact .inr ⟨M, x, by rw [h, List.concat_eq_append]⟩
theorem pushL_nil {n : Int} : pushL [] n = [.lost n] := rfl
theorem pushL_lost {M : List It} {m n : Int} : pushL (M ++ [.lost m]) n = M ++ [.lost (n + m)] := by
  unfold pushL
  rw [List.getLast?_append, List.getLast?_singleton, Option.some_or, List.dropLast_concat]
theorem pushL_rec {M : List It} {x : It} {n : Int} (h : x.isL = false) : pushL (M ++ [x]) n = (M ++ [x]) ++ [.lost n] := by
  unfold pushL
  rw [List.getLast?_append, List.getLast?_singleton, Option.some_or]
  cases x with
  | lost m => cases h
  | rc t c s vs => rfl
theorem pushL_jnd {L : List It} {n : Int} (h : jnd L) : jnd (pushL L n) := by
  rcases last_cases L with rfl | ⟨M, x, rfl⟩
  · trivial
  · cases e : x.isL with
    | false =>
      rw [pushL_rec e]
      exact h.snocL fun y hy => by
        rw [List.getLast?_append, List.getLast?_singleton, Option.some_or] at hy
        rw [← Option.some.inj hy, e]
    | true =>
      cases x with
      | rc t c s vs => cases e
      | lost m =>
        rw [pushL_lost]
        exact h.app trivial (fun _ => rfl) (fun _ => rfl)
theorem push_jnd {L : List It} {a : It} (h : jnd L) : jnd (push L a) := by
  cases a with
  | lost n => exact pushL_jnd h
  | rc t c s vs => exact h.snocR rfl
theorem pushL_usd {L : List It} {n : Int} : usd (pushL L n) = usd L := by
  rcases last_cases L with rfl | ⟨M, x, rfl⟩
  · rfl
  · cases e : x.isL with
    | false => rw [pushL_rec e, usd_app, usd_cons, usd_nil]; simp [It.sz]
    | true =>
      cases x with
      | rc t c s vs => cases e
      | lost m => rw [pushL_lost, usd_app, usd_app]; rfl
theorem push_usd {L : List It} {a : It} : usd (push L a) = usd L + a.sz := by
  cases a with
  | lost n => show usd (pushL L n) = _; rw [pushL_usd]; simp [It.sz]
  | rc t c s vs => show usd (L ++ _) = _; rw [usd_app, usd_cons, usd_nil]; omega
theorem pushL_pushL {L : List It} {a b : Int} : pushL (pushL L a) b = pushL L (a + b) := by
  rcases last_cases L with rfl | ⟨M, x, rfl⟩
  · rw [pushL_nil, show ([It.lost a] : List It) = [] ++ [.lost a] from rfl, pushL_lost, pushL_nil, Int.add_comm]; rfl
  · cases e : x.isL with
    | false => rw [pushL_rec e, pushL_lost, pushL_rec e, Int.add_comm]
    | true =>
      cases x with
      | rc t c s vs => cases e
      | lost m => rw [pushL_lost, pushL_lost, pushL_lost, ← Int.add_assoc, Int.add_comm b a]
theorem pushL_len {L : List It} {n : Int} : (pushL L n).length ≤ L.length + 1 := by
  rcases last_cases L with rfl | ⟨M, x, rfl⟩
  · exact Nat.le_refl _
  · cases e : x.isL with
    | false => rw [pushL_rec e]; simp
    | true =>
      cases x with
      | rc t c s vs => cases e
      | lost m => rw [pushL_lost]; simp
theorem push_len {L : List It} {a : It} : (push L a).length ≤ L.length + 1 := by
  cases a with
  | lost n => exact pushL_len
  | rc t c s vs => simp [push]
theorem foldl_len : ∀ {M L : List It}, (M.foldl push L).length ≤ L.length + M.length
  | [], L => Nat.le_refl _
  | a :: M, L => by
    have h := foldl_len (M := M) (L := push L a)
    have := push_len (L := L) (a := a)
    rw [List.foldl_cons, List.length_cons]
    omega
theorem foldl_jnd : ∀ {M L : List It}, jnd L → jnd (M.foldl push L)
  | [], L, h => h
  | a :: M, L, h => foldl_jnd (M := M) (push_jnd h)
theorem foldl_usd : ∀ {M L : List It}, usd (M.foldl push L) = usd L + usd M
  | [], L => by rw [List.foldl_nil, usd_nil, Int.add_zero]
  | a :: M, L => by rw [List.foldl_cons, foldl_usd, push_usd, usd_cons, Int.add_assoc]
/-- what is joined stays -/
theorem foldl_id : ∀ {M L : List It}, jnd (L ++ M) → M.foldl push L = L ++ M
  | [], L, _ => by rw [List.foldl_nil, List.append_nil]
  | a :: M, L, h => by
    have e : push L a = L ++ [a] := by
      cases a with
      | rc t c s vs => rfl
      | lost n =>
        show pushL L n = _
        rcases last_cases L with rfl | ⟨N, x, rfl⟩
        · rfl
        · have hx : x.isL = false := by
            induction N with
            | nil =>
              have h : jnd (x :: .lost n :: M) := h
              cases q : x.isL with
              | false => rfl
              | true => have := h.1 q; cases this
            | cons b N ih => exact ih (jnd.tail (a := b) h)
          rw [pushL_rec hx]
    rw [List.foldl_cons, e, foldl_id (by rw [List.append_assoc]; exact h), List.append_assoc]
    rfl
theorem joined_id {L : List It} (h : jnd L) : L.foldl push [] = L := foldl_id h
theorem joined_app {L M : List It} (h : jnd L) : (L ++ M).foldl push [] = M.foldl push L := by rw [List.foldl_append, joined_id h]
theorem joined_glue {g : Int} {R : List It} (h : jnd R) : ([It.lost g] ++ R).foldl push [] = glue g R := by
  show R.foldl push [.lost g] = glue g R
  cases R with
  | nil => rfl
  | cons a R =>
    cases a with
    | rc t c s vs => exact foldl_id (L := [.lost g]) (M := .rc t c s vs :: R) ⟨fun _ => rfl, h⟩
    | lost b =>
      rw [List.foldl_cons, show push [.lost g] (.lost b) = [.lost (g + b)] by
        show pushL ([] ++ [.lost g]) b = _
        rw [pushL_lost, Int.add_comm]; rfl]
      exact foldl_id (L := [.lost (g + b)]) (M := R) (h.head fun _ => rfl)
/-- what the ring gives up: the rest, how much is gone, how many records -/
def trim (room size : Int) : List It → Int → Int → List It × Int × Int
  | [], g, c => ([], g, c)
  | a :: R, g, c => if room < usd (a :: R) + size then trim room size R (g + a.num) (c + a.one) else (a :: R, g, c)
theorem trim_stop {room size : Int} {R : List It} {g c : Int} (h : usd R + size ≤ room) : trim room size R g c = (R, g, c) := by
  cases R with
  | nil => rfl
  | cons a R => unfold trim; rw [if_neg (by omega)]
theorem trim_go {room size : Int} {a : It} {R : List It} {g c : Int} (h : room < usd (a :: R) + size) : trim room size (a :: R) g c = trim room size R (g + a.num) (c + a.one) := by
  rw [trim, if_pos h]
/-- one turn of the program's loop -/
theorem trim_step {room size : Int} {R : List It} {g c : Int} (hj : jnd R) (ho : ∀ a ∈ R, a.ok) (hg : 0 ≤ g) (hs : size ≤ room) (h : room < usd R + size) :
    ∃ r R2 g2, r.isL = false ∧ r ∈ R ∧ trim room size R g c = trim room size R2 g2 (c + 1) ∧ usd R2 = usd R - r.sz ∧ jnd R2 ∧ (∀ a ∈ R2, a ∈ R) ∧ R2.length < R.length ∧ 1 ≤ g2 ∧ g2 ≤ g + numL R - numL R2 ∧
      ((glu g R = r :: R2 ∧ g2 = 1) ∨ ∃ m, glu g R = .lost m :: r :: R2 ∧ g2 = 1 + m) := by
  cases R with
  | nil => rw [usd_nil] at h; omega
  | cons a R =>
    cases a with
    | rc t c0 s vs =>
      refine ⟨.rc t c0 s vs, R, g + 1, rfl, List.mem_cons_self, trim_go h, by rw [usd_cons]; omega, hj.tail, fun a ha => List.mem_cons_of_mem _ ha, Nat.lt_succ_self _, by omega, by rw [numL_cons]; simp only [It.num]; omega, ?_⟩
      unfold glu
      by_cases z : 0 < g
      · rw [if_pos z]
        exact .inr ⟨g, rfl, by omega⟩
      · rw [if_neg z]
        exact .inl ⟨rfl, by omega⟩
    | lost m =>
      have hm : 1 ≤ m := ho _ List.mem_cons_self
      have e0 : usd (.lost m :: R) = usd R := by rw [usd_cons]; simp [It.sz]
      cases R with
      | nil => rw [e0, usd_nil] at h; omega
      | cons b R =>
        have hb : b.isL = false := hj.next rfl
        cases b with
        | lost k => cases hb
        | rc t c0 s vs =>
          refine ⟨.rc t c0 s vs, R, g + m + 1, rfl, List.mem_cons_of_mem _ List.mem_cons_self, ?_, by rw [e0, usd_cons]; omega, hj.tail.tail, fun a ha => List.mem_cons_of_mem _ (List.mem_cons_of_mem _ ha), by simp only [List.length_cons]; omega, by omega, by rw [numL_cons, numL_cons]; simp only [It.num]; omega, ?_⟩
          · rw [trim_go h, trim_go (by rw [e0] at h; exact h)]
            show trim _ _ _ (g + m + 1) (c + 0 + 1) = _
            rw [Int.add_zero]
          · unfold glu
            by_cases z : 0 < g
            · rw [if_pos z]
              exact .inr ⟨g + m, rfl, by omega⟩
            · rw [if_neg z]
              exact .inr ⟨m, rfl, by omega⟩
theorem glu_one {g : Int} {R : List It} (h : 1 ≤ g) : glu g R = glue g R := if_pos h
end BF
end
section
/-! a buffer as plain data: what is added, lost, read -/
namespace BF
open PySem
structure Bs where
  room : Int
  pol : Str
  used : Int
  lost : Int
  rd : Bool
  L : List It
structure Bs.ok (S : Bs) : Prop where
  pol : S.pol = "hold" ∨ S.pol = "ring"
  used : S.used = usd S.L
  fit : S.used ≤ S.room
  j : jnd S.L
  it : ∀ a ∈ S.L, a.ok
/-- room for so much -/
def Bs.mr (S : Bs) (size : Int) : Bs :=
  if S.pol = "ring" ∧ size ≤ S.room then { S with used := usd (trim S.room size S.L 0 0).1, lost := S.lost + (trim S.room size S.L 0 0).2.2, L := glu (trim S.room size S.L 0 0).2.1 (trim S.room size S.L 0 0).1 } else S
def Bs.addB (S : Bs) (M : List It) : Bs × Bool :=
  if (S.mr (usd M)).used + usd M ≤ S.room then ({ S.mr (usd M) with used := (S.mr (usd M)).used + usd M, L := M.foldl push (S.mr (usd M)).L }, true)
  else ({ S.mr (usd M) with lost := (S.mr (usd M)).lost + oneL M, L := M.foldl (fun L a => pushL L a.num) (S.mr (usd M)).L }, false)
theorem usd_all {M : List It} : 0 ≤ usd M := usd_nn M
/-- what trim leaves -/
theorem trim_end {room size : Int} (hs : size ≤ room) : ∀ {L : List It} {g c : Int}, jnd L → (∀ a ∈ L, a.ok) → 0 ≤ g → usd (trim room size L g c).1 + size ≤ room ∧ jnd (trim room size L g c).1 ∧ (∀ a ∈ (trim room size L g c).1, a ∈ L) ∧ (trim room size L g c).1.length ≤ L.length ∧ 0 ≤ (trim room size L g c).2.1
  | [], g, c, _, _, hg => ⟨by show usd [] + size ≤ room; rw [usd_nil]; omega, trivial, fun _ h => h, Nat.le_refl _, hg⟩
  | a :: R, g, c, hj, ho, hg => by
    by_cases z : room < usd (a :: R) + size
    · rw [trim_go z]
      have hn : 0 ≤ a.num := by
        cases a with
        | lost n => have : 1 ≤ n := ho _ List.mem_cons_self; simp only [It.num]; omega
        | rc t c s vs => simp [It.num]
      obtain ⟨h1, h2, h3, h4, h5⟩ := trim_end hs (L := R) (g := g + a.num) (c := c + a.one) hj.tail (fun b hb => ho b (List.mem_cons_of_mem _ hb)) (by omega)
      exact ⟨h1, h2, fun b hb => List.mem_cons_of_mem _ (h3 b hb), by rw [List.length_cons]; omega, h5⟩
    · rw [trim_stop (by omega)]
      exact ⟨by show usd (a :: R) + size ≤ room; omega, hj, fun _ h => h, Nat.le_refl _, hg⟩
theorem glue_ok {n : Int} {R : List It} (hn : 1 ≤ n) (h : ∀ a ∈ R, a.ok) : ∀ a ∈ glue n R, a.ok := by
  cases R with
  | nil =>
    intro a ha
    rw [show glue n [] = [.lost n] from rfl, List.mem_singleton] at ha
    rw [ha]; exact hn
  | cons b R =>
    cases b with
    | lost b =>
      intro a ha
      rcases List.mem_cons.mp ha with z | z
      · have : 1 ≤ b := h _ List.mem_cons_self
        rw [z]; show 1 ≤ n + b; omega
      · exact h a (List.mem_cons_of_mem _ z)
    | rc t c s vs =>
      intro a ha
      rcases List.mem_cons.mp ha with z | z
      · rw [z]; exact hn
      · exact h a z
theorem glu_ok {n : Int} {R : List It} (h : ∀ a ∈ R, a.ok) : ∀ a ∈ glu n R, a.ok := by
  unfold glu
  split
  · exact glue_ok (by omega) h
  · exact h
theorem glue_len {n : Int} {R : List It} : (glue n R).length ≤ R.length + 1 := by
  cases R with
  | nil => exact Nat.le_refl _
  | cons b R => cases b <;> simp [glue]
theorem glu_len {n : Int} {R : List It} : (glu n R).length ≤ R.length + 1 := by
  unfold glu
  split
  · exact glue_len
  · omega
theorem Bs.mr_room {S : Bs} {size : Int} : (S.mr size).room = S.room := by unfold mr; split <;> rfl
theorem Bs.mr_pol {S : Bs} {size : Int} : (S.mr size).pol = S.pol := by unfold mr; split <;> rfl
theorem Bs.mr_rd {S : Bs} {size : Int} : (S.mr size).rd = S.rd := by unfold mr; split <;> rfl
theorem Bs.mr_ok {S : Bs} {size : Int} (h : S.ok) (hs : 0 ≤ size) : (S.mr size).ok := by
  unfold mr
  by_cases z : S.pol = "ring" ∧ size ≤ S.room
  · rw [if_pos z]
    obtain ⟨h1, h2, h3, h4, h5⟩ := trim_end z.2 (g := 0) (c := 0) h.j h.it (Int.le_refl _)
    exact ⟨h.pol, by show _ = usd (glu _ _); rw [glu_usd], by show usd _ ≤ S.room; omega, glu_jnd h2, glu_ok fun a ha => h.it a (h3 a ha)⟩
  · rw [if_neg z]; exact h
theorem Bs.mr_len {S : Bs} {size : Int} (h : S.ok) : (S.mr size).L.length ≤ S.L.length + 1 := by
  unfold mr
  by_cases z : S.pol = "ring" ∧ size ≤ S.room
  · rw [if_pos z]
    obtain ⟨h1, h2, h3, h4, h5⟩ := trim_end z.2 (g := 0) (c := 0) h.j h.it (Int.le_refl _)
    have := glu_len (n := (trim S.room size S.L 0 0).2.1) (R := (trim S.room size S.L 0 0).1)
    show (glu _ _).length ≤ _
    omega
  · rw [if_neg z]; omega
theorem Bs.mr_hold {S : Bs} {size : Int} (h : ¬ (S.pol = "ring" ∧ size ≤ S.room)) : S.mr size = S := if_neg h
/-- nothing to be made room for -/
theorem Bs.mr_0 {S : Bs} (h : S.ok) : S.mr 0 = S := by
  unfold mr
  split
  · rw [trim_stop (by have := h.fit; have := h.used; omega)]
    show { S with used := usd S.L, lost := S.lost + 0, L := glu 0 S.L } = S
    rw [← h.used, Int.add_zero]
    rfl
  · rfl
theorem Bs.mr_fits {S : Bs} {size : Int} (h : S.ok) (z : S.pol = "ring" ∧ size ≤ S.room) : (S.mr size).used + size ≤ S.room := by
  unfold mr
  rw [if_pos z]
  exact (trim_end z.2 (g := 0) (c := 0) h.j h.it (Int.le_refl _)).1
theorem pushL_ok {L : List It} {n : Int} (hn : 1 ≤ n) (h : ∀ a ∈ L, a.ok) : ∀ a ∈ pushL L n, a.ok := by
  rcases last_cases L with rfl | ⟨M, x, rfl⟩
  · intro a ha
    rw [pushL_nil, List.mem_singleton] at ha
    rw [ha]; exact hn
  · cases e : x.isL with
    | false =>
      rw [pushL_rec e]
      intro a ha
      rcases List.mem_append.mp ha with z | z
      · exact h a z
      · rw [List.mem_singleton] at z
        rw [z]; exact hn
    | true =>
      cases x with
      | rc t c s vs => cases e
      | lost m =>
        rw [pushL_lost]
        intro a ha
        rcases List.mem_append.mp ha with z | z
        · exact h a (List.mem_append_left _ z)
        · rw [List.mem_singleton] at z
          have : 1 ≤ m := h (.lost m) (List.mem_append_right _ (List.mem_singleton.mpr rfl))
          rw [z]; show 1 ≤ n + m; omega
theorem push_ok {L : List It} {a : It} (ha : a.ok) (h : ∀ a ∈ L, a.ok) : ∀ b ∈ push L a, b.ok := by
  cases a with
  | lost n => exact pushL_ok ha h
  | rc t c s vs =>
    intro b hb
    rcases List.mem_append.mp hb with z | z
    · exact h b z
    · rw [List.mem_singleton] at z
      rw [z]; exact ha
theorem foldl_ok : ∀ {M L : List It}, (∀ a ∈ M, a.ok) → (∀ a ∈ L, a.ok) → ∀ a ∈ M.foldl push L, a.ok
  | [], _, _, h => h
  | a :: M, L, hm, h => foldl_ok (M := M) (fun b hb => hm b (List.mem_cons_of_mem _ hb)) (push_ok (hm a List.mem_cons_self) h)
theorem It.num_pos {a : It} (h : a.ok) : 1 ≤ a.num := by
  cases a with
  | lost n => exact h
  | rc t c s vs => exact Int.le_refl _
/-- all of them lost -/
theorem lose_ok : ∀ {M L : List It}, (∀ a ∈ M, a.ok) → (∀ a ∈ L, a.ok) → ∀ a ∈ M.foldl (fun L a => pushL L a.num) L, a.ok
  | [], _, _, h => h
  | a :: M, L, hm, h => lose_ok (M := M) (fun b hb => hm b (List.mem_cons_of_mem _ hb)) (pushL_ok (It.num_pos (hm a List.mem_cons_self)) h)
theorem lose_jnd : ∀ {M L : List It}, jnd L → jnd (M.foldl (fun L a => pushL L a.num) L)
  | [], _, h => h
  | a :: M, L, h => lose_jnd (M := M) (pushL_jnd h)
theorem lose_usd : ∀ {M L : List It}, usd (M.foldl (fun L a => pushL L a.num) L) = usd L
  | [], _ => rfl
  | a :: M, L => (lose_usd (M := M)).trans pushL_usd
theorem lose_len : ∀ {M L : List It}, (M.foldl (fun L a => pushL L a.num) L).length ≤ L.length + M.length
  | [], _ => Nat.le_refl _
  | a :: M, L => by
    have h := lose_len (M := M) (L := pushL L a.num)
    have := pushL_len (L := L) (n := a.num)
    rw [List.foldl_cons, List.length_cons]
    omega
theorem lose_eq : ∀ {M L : List It}, M ≠ [] → M.foldl (fun L a => pushL L a.num) L = pushL L (numL M)
  | [], _, h => absurd rfl h
  | [a], L, _ => by
    show pushL L a.num = pushL L (a.num + 0)
    rw [Int.add_zero]
  | a :: b :: M, L, _ => by
    rw [List.foldl_cons, lose_eq (by simp), pushL_pushL, numL_cons (a := a)]
theorem Bs.addB_ok {S : Bs} {M : List It} (h : S.ok) (hm : ∀ a ∈ M, a.ok) : (S.addB M).1.ok := by
  have k := mr_ok h (usd_nn M)
  unfold addB
  split
  · next z => exact ⟨k.pol, by show _ = usd (M.foldl push _); rw [foldl_usd, k.used], by show _ ≤ (S.mr _).room; rw [mr_room]; exact z, foldl_jnd k.j, foldl_ok hm k.it⟩
  · exact ⟨k.pol, by show _ = usd (M.foldl _ _); rw [lose_usd]; exact k.used, k.fit, lose_jnd k.j, lose_ok hm k.it⟩
theorem Bs.addB_len {S : Bs} {M : List It} (h : S.ok) : (S.addB M).1.L.length ≤ S.L.length + M.length + 1 := by
  have k := mr_len h (size := usd M)
  unfold addB
  split
  · have := foldl_len (M := M) (L := (S.mr (usd M)).L)
    show (M.foldl push _).length ≤ _
    omega
  · have := lose_len (M := M) (L := (S.mr (usd M)).L)
    show (M.foldl (fun L a => pushL L a.num) _).length ≤ _
    omega
theorem Bs.addB_same {S : Bs} {M : List It} : (S.addB M).1.room = S.room ∧ (S.addB M).1.pol = S.pol ∧ (S.addB M).1.rd = S.rd := by
  unfold addB
  split <;> exact ⟨mr_room, mr_pol, mr_rd⟩
/-- without records -/
theorem usd_none : ∀ {M : List It}, M.filter (fun a => !a.isL) = [] → usd M = 0
  | [], _ => rfl
  | a :: M, h => by
    rw [List.filter_cons] at h
    cases e : a.isL with
    | false => rw [e] at h; cases h
    | true => rw [usd_cons, It.sz_lost e, usd_none (by rw [e] at h; exact h)]; rfl
theorem oneL_filter : ∀ {M : List It}, oneL M = ((M.filter (fun a => !a.isL)).length : Nat)
  | [] => rfl
  | a :: M => by
    rw [oneL_cons, oneL_filter, List.filter_cons]
    cases e : a.isL with
    | false => simp only [It.one, e]; simp; omega
    | true => simp only [It.one, e]; simp
theorem Bs.addB_none {S : Bs} {M : List It} (h : S.ok) (e : M.filter (fun a => !a.isL) = []) : S.addB M = ({ S with L := M.foldl push S.L }, true) := by
  have hu := usd_none e
  unfold addB
  rw [hu, mr_0 h, if_pos (by have := h.fit; omega), Int.add_zero]
theorem Bs.addB_one {S : Bs} {a : It} (h : S.ok) (e : a.isL = false) : S.addB [a] = if (S.mr a.sz).used + a.sz ≤ S.room then ({ S.mr a.sz with used := (S.mr a.sz).used + a.sz, L := (S.mr a.sz).L ++ [a] }, true) else ({ S.mr a.sz with lost := (S.mr a.sz).lost + 1, L := pushL (S.mr a.sz).L 1 }, false) := by
  have hu : usd [a] = a.sz := by rw [usd_cons, usd_nil, Int.add_zero]
  have ho : oneL [a] = 1 := by rw [oneL_cons]; simp only [It.one, e]; rfl
  unfold addB
  rw [hu, ho]
  cases a with
  | lost n => cases e
  | rc t c s vs => rfl
end BF
end
section
/-! buffers in the heap -/
namespace BF
open PySem PySem.Spec PyProof.Rows L2 MM
def Vl.d : Vl → PyData
  | .s x => .tuple [.str "str", .str x]
  | .i n => .tuple [.str "int", .int n]
def It.d : It → PyData
  | .lost n => .tuple [.str "lost", .int n]
  | .rc t c s vs => .tuple [.int t, .int c, .str s, .tuple (vs.map Vl.d)]
def Vl.kd : Vl → Str
  | .s _ => "str"
  | .i _ => "int"
def Vl.v : Vl → V
  | .s x => .str x
  | .i n => .int n
def VlAt (H : Hp) (v : V) (x : Vl) : Prop := ∃ a, v = .ref a ∧ H a = some (.tup [.str x.kd, x.v])
def ItAt (H : Hp) (a : PySem.Addr) : It → Prop
  | .lost n => H a = some (.tup [.str "lost", .int n])
  | .rc t c s vs => ∃ b ws, H a = some (.tup [.int t, .int c, .str s, .ref b]) ∧ H b = some (.tup ws) ∧ All2 (VlAt H) ws vs
def ItV (H : Hp) (v : V) (x : It) : Prop := ∃ a, v = .ref a ∧ ItAt H a x
def Its (H : Hp) (ws : List V) (L : List It) : Prop := All2 (ItV H) ws L
section
variable {H H' H1 H2 : Hp} {K : PySem.W.Frag} {a b h l p : PySem.Addr} {L M : List It} {ws : List V} {v : V}
theorem VlAt.keep (k : KeepT H H') {x : Vl} (h : VlAt H v x) : VlAt H' v x := by
  obtain ⟨a, rfl, e⟩ := h
  exact ⟨a, rfl, k _ _ e⟩
theorem ItAt.keep (k : KeepT H H') {x : It} (h : ItAt H a x) : ItAt H' a x := by
  cases x with
  | lost n => exact k _ _ h
  | rc t c s vs =>
    obtain ⟨b, ws, e1, e2, e3⟩ := h
    exact ⟨b, ws, k _ _ e1, k _ _ e2, e3.imp fun _ _ z => z.keep k⟩
theorem ItV.keep (k : KeepT H H') {x : It} (h : ItV H v x) : ItV H' v x := by
  obtain ⟨a, rfl, e⟩ := h
  exact ⟨a, rfl, e.keep k⟩
theorem Its.keep (k : KeepT H H') (h : Its H ws L) : Its H' ws L := All2.imp (fun _ _ z => z.keep k) h
theorem ItAt.tup {x : It} (h : ItAt H a x) : ∃ xs, H a = some (.tup xs) := by
  cases x with
  | lost n => exact ⟨_, h⟩
  | rc t c s vs =>
    obtain ⟨b, ws, e1, _⟩ := h
    exact ⟨_, e1⟩
theorem dp_vl {x : Vl} (h : VlAt H v x) : Dp K H v x.d := by
  obtain ⟨a, rfl, e⟩ := h
  cases x with
  | s x => exact .tup (R.sqT e) (.cons (.str _) (.cons (.str _) .nil))
  | i n => exact .tup (R.sqT e) (.cons (.str _) (.cons (.int _) .nil))
theorem dp_all {α : Type} {R : V → α → Prop} {f : α → PyData} (h : ∀ v x, R v x → Dp K H v (f x)) {vs : List V} {xs : List α} (r : All2 R vs xs) : DpAll K H vs (xs.map f) := by
  induction r with
  | nil => exact .nil
  | cons r _ ih => exact .cons (h _ _ r) ih
theorem dp_it {x : It} (h : ItV H v x) : Dp K H v x.d := by
  obtain ⟨a, rfl, h⟩ := h
  cases x with
  | lost n => exact .tup (R.sqT h) (.cons (.str _) (.cons (.int _) .nil))
  | rc t c s vs =>
    obtain ⟨b, ws, e1, e2, e3⟩ := h
    exact .tup (R.sqT e1) (.cons (.int _) (.cons (.int _) (.cons (.str _) (.cons (.tup (R.sqT e2) (dp_all (fun _ _ z => dp_vl z) e3)) .nil))))
theorem dp_its (h : Its H ws L) : DpAll K H ws (L.map It.d) := dp_all (fun _ _ z => dp_it z) h
theorem sh_vl {x : Vl} (h : x.ok) : _root_.D.Sh 1 x.d := by
  cases x with
  | s x => exact .tup (.cons (.str (by decide +kernel)) (.cons (.str h.2) .nil))
  | i n => exact .tup (.cons (.str (by decide +kernel)) (.cons (.int _) .nil))
theorem sh_it {x : It} (h : x.ok) : _root_.D.Sh 3 x.d := by
  cases x with
  | lost n => exact (_root_.D.Sh.tup (.cons (.str (by decide +kernel)) (.cons (.int _) .nil)) : _root_.D.Sh (0 + 1) _).mono (by decide)
  | rc t c s vs =>
    refine .tup (.cons (.int _) (.cons (.int _) (.cons (.str h.1) (.cons (.tup fun y hy => ?_) .nil))))
    obtain ⟨x, hx, rfl⟩ := List.mem_map.mp hy
    exact sh_vl (h.2.1 x hx)
theorem sh_its (h : ∀ a ∈ L, a.ok) : _root_.D.Sh 4 (.tuple (L.map It.d)) := .tup fun y hy => by
  obtain ⟨x, hx, rfl⟩ := List.mem_map.mp hy
  exact sh_it (h x hx)
/-- two rows of the same items -/
theorem eq_its {Q : VK} (ha : SqT K H a ws) (hb : SqT K H b ws') (ia : Its H ws L) (ib : Its H ws' L) (ok : ∀ a ∈ L, a.ok) (q : Q (.bl true) H) : rEqD K (.ref a) (.ref b) H Q := by
  refine _root_.D.r_eqD (p := True) (.tup ha (dp_its ia)) (.tup hb (dp_its ib)) (sh_its ok) (sh_its ok) (by decide) (by decide) (by simp) ?_
  rw [decide_eq_true trivial]
  exact q
theorem ne_its {Q : VK} (ha : SqT K H a ws) (hb : SqT K H b ws') (ia : Its H ws L) (ib : Its H ws' L) (ok : ∀ a ∈ L, a.ok) (q : Q (.bl false) H) : rNeD K (.ref a) (.ref b) H Q := by
  refine _root_.D.r_neD (p := True) (.tup ha (dp_its ia)) (.tup hb (dp_its ib)) (sh_its ok) (sh_its ok) (by decide) (by decide) (by simp) ?_
  rw [decide_eq_true trivial]
  exact q
/-- all stands but what A names -/
def Fr (A : List PySem.Addr) (H H' : Hp) : Prop := ∀ b o, H b = some o → b ∉ A → H' b = some o
theorem Fr.refl {A : List PySem.Addr} : Fr A H H := fun _ _ e _ => e
theorem Fr.trans {A : List PySem.Addr} (x : Fr A H H1) (y : Fr A H1 H2) : Fr A H H2 := fun b o e hb => y b o (x b o e hb) hb
theorem Fr.of {A : List PySem.Addr} (s : Same H H') : Fr A H H' := fun b o e _ => s b o e
theorem Fr.mv {A : List PySem.Addr} (s : R.Mv p H H') (hp : p ∈ A) : Fr A H H' := fun b o e hb => s b o e fun z => hb (z ▸ hp)
theorem Fr.sub {A B : List PySem.Addr} (s : Fr A H H') (h : ∀ a ∈ A, a ∈ B) : Fr B H H' := fun b o e hb => s b o e fun z => hb (h b z)
theorem Fr.upd {A : List PySem.Addr} {o : HO} (hp : p ∈ A) : Fr A H (upd H p o) := Fr.mv R.Mv.upd hp
theorem Fr.keepT {A : List PySem.Addr} (s : Fr A H H') (h : ∀ a ∈ A, ∀ xs, H a ≠ some (.tup xs)) : KeepT H H' := fun b xs e => s b _ e fun z => h b z xs e
theorem mv_keepT {o : HO} (s : R.Mv p H H') (e : H p = some o) (h : ∀ xs, o ≠ .tup xs) : KeepT H H' := fun b xs eb => s b _ eb fun z => by
  rw [z, e] at eb
  exact h xs (Option.some.inj eb)
/-- a row of items at h, its list at l -/
def RowAt (CR : PySem.Addr) (H : Hp) (h l : PySem.Addr) (L : List It) : Prop := (∃ dx, H h = some (.ins CR dx [("inner", .ref l)])) ∧ ∃ ws, H l = some (.lst ws) ∧ Its H ws L
variable {CR CB : PySem.Addr}
theorem RowAt.keep (r : RowAt CR H h l L) (k : KeepT H H') (k1 : ∀ o, H h = some o → H' h = some o) (k2 : ∀ o, H l = some o → H' l = some o) : RowAt CR H' h l L := by
  obtain ⟨⟨dx, e1⟩, ws, e2, i⟩ := r
  exact ⟨⟨dx, k1 _ e1⟩, ws, k2 _ e2, i.keep k⟩
theorem RowAt.same (r : RowAt CR H h l L) (s : Same H H') : RowAt CR H' h l L := r.keep (KeepT.of s) (fun _ e => s _ _ e) (fun _ e => s _ _ e)
/-- another list of items in it -/
theorem RowAt.put (r : RowAt CR H h l L) (s : Same H H') {ws : List V} {L2 : List It} (i : Its H' ws L2) : RowAt CR (upd H' l (.lst ws)) h l L2 ∧ R.Mv l H (upd H' l (.lst ws)) := by
  obtain ⟨⟨dx, e1⟩, ws', e2, _⟩ := r
  have ne : h ≠ l := fun z => by rw [z, e2] at e1; cases e1
  exact ⟨⟨⟨dx, by rw [upd_ne ne]; exact s _ _ e1⟩, ws, upd_same, i.keep (KeepT.upd (s _ _ e2) fun _ => nofun)⟩, fun b o e hb => by rw [upd_ne hb]; exact s b o e⟩
theorem RowAt.keepT (r : RowAt CR H h l L) (m : R.Mv l H H') : KeepT H H' := by
  obtain ⟨_, ws', e2, _⟩ := r
  exact mv_keepT m e2 fun _ => nofun
/-- a buffer at b -/
def fsB (h : PySem.Addr) (S : Bs) : List (Str × V) := [("room", .int S.room), ("policy", .str S.pol), ("used", .int S.used), ("lost", .int S.lost), ("half", .ref h), ("reading", .bl S.rd)]
def BufAt (CB CR : PySem.Addr) (H : Hp) (b h l : PySem.Addr) (S : Bs) : Prop := (∃ dx, H b = some (.ins CB dx (fsB h S))) ∧ RowAt CR H h l S.L
theorem BufAt.ne {S : Bs} (B : BufAt CB CR H b h l S) : b ≠ h ∧ b ≠ l ∧ h ≠ l := by
  obtain ⟨⟨dx, e⟩, ⟨dx2, e1⟩, ws, e2, _⟩ := B
  refine ⟨fun z => ?_, fun z => ?_, fun z => ?_⟩
  · rw [z, e1] at e
    have e := Option.some.inj e
    injection e with _ _ e
    cases e
  · rw [z, e2] at e
    cases e
  · rw [z, e2] at e1
    cases e1
theorem BufAt.keepT {S : Bs} (B : BufAt CB CR H b h l S) (m : Fr [b, h, l] H H') : KeepT H H' := by
  obtain ⟨⟨dx, e⟩, ⟨dx2, e1⟩, ws, e2, _⟩ := B
  refine m.keepT fun a ha xs z => ?_
  simp only [List.mem_cons, List.not_mem_nil, or_false] at ha
  rcases ha with rfl | rfl | rfl
  · rw [e] at z; cases z
  · rw [e1] at z; cases z
  · rw [e2] at z; cases z
theorem BufAt.keep {S : Bs} (B : BufAt CB CR H b h l S) (k : KeepT H H') (k0 : ∀ o, H b = some o → H' b = some o) (k1 : ∀ o, H h = some o → H' h = some o) (k2 : ∀ o, H l = some o → H' l = some o) : BufAt CB CR H' b h l S := by
  obtain ⟨⟨dx, e⟩, r⟩ := B
  exact ⟨⟨dx, k0 _ e⟩, r.keep k k1 k2⟩
theorem BufAt.same {S : Bs} (B : BufAt CB CR H b h l S) (s : Same H H') : BufAt CB CR H' b h l S := B.keep (KeepT.of s) (fun _ e => s _ _ e) (fun _ e => s _ _ e) (fun _ e => s _ _ e)
/-- its row has changed -/
theorem BufAt.row {S : Bs} (B : BufAt CB CR H b h l S) (m : R.Mv l H H') {L2 : List It} (r : RowAt CR H' h l L2) : BufAt CB CR H' b h l { S with L := L2 } := by
  obtain ⟨n1, n2, n3⟩ := B.ne
  obtain ⟨⟨dx, e⟩, _⟩ := B
  exact ⟨⟨dx, m _ _ e n2⟩, r⟩
/-- its fields have changed -/
theorem BufAt.fld {S S2 : Bs} (B : BufAt CB CR H b h l S) (s : Same H H') {dx : PySem.Addr} {fs : List (Str × V)} (ef : fs = fsB h S2) (hL : S2.L = S.L) : BufAt CB CR (upd H' b (.ins CB dx fs)) b h l S2 ∧ R.Mv b H (upd H' b (.ins CB dx fs)) := by
  obtain ⟨n1, n2, n3⟩ := B.ne
  obtain ⟨⟨dx0, e⟩, r⟩ := B
  subst ef
  refine ⟨⟨⟨dx, upd_same⟩, ?_⟩, fun b o e hb => by rw [upd_ne hb]; exact s b o e⟩
  rw [hL]
  have k : KeepT H (upd H' b (.ins CB dx (fsB h S2))) := (KeepT.of s).trans (KeepT.upd (s _ _ e) fun _ => nofun)
  exact r.keep k (fun o e => by rw [upd_ne n1.symm]; exact s _ _ e) (fun o e => by rw [upd_ne n2.symm]; exact s _ _ e)
end
section
variable {K : PySem.W.Frag} {C a dx : PySem.Addr} {f m : Str} {fs : List (Str × V)} {v y : V} {Q : VK} {H : Hp} {G : Prop} {σ : L2.St} {nx bk ct : L2.St → Hp → Prop} {rt : V → Hp → Prop} {ta tv : TE} {rd : V → V → Hp → VK → Prop}
theorem q_fld (c : Cls K C) (n : NoAttr K C f) (e : H a = some (.ins C dx fs)) (hl : fs.lookup f = some v) (h : Q v H) : ∃ a' C' dx' fs' v', V.ref a = .ref a' ∧ H a' = some (.ins C' dx' fs') ∧ Cls K C' ∧ NoAttr K C' f ∧ fs'.lookup f = some v' ∧ Q v' H := ⟨a, C, dx, fs, v, rfl, e, c, n, hl, h⟩
theorem q_meth (e : H a = some (.ins C dx fs)) (hl : fs.lookup m = none) (h : G) : ∃ a' dx' fs', V.ref a = .ref a' ∧ H a' = some (.ins C dx' fs') ∧ fs'.lookup m = none ∧ G := ⟨a, dx, fs, rfl, e, hl, h⟩
theorem q_sfld (c : Cls K C) (n : NoAttr K C f) (e : H a = some (.ins C dx fs)) (hl : fs.length < 1000) (h : nx σ (upd H a (.ins C dx (putF f y fs)))) : ∃ a' C' dx' fs', V.ref a = .ref a' ∧ H a' = some (.ins C' dx' fs') ∧ Cls K C' ∧ NoAttr K C' f ∧ fs'.length < 1000 ∧ nx σ (upd H a' (.ins C' dx' (putF f y fs'))) := ⟨a, C, dx, fs, rfl, e, c, n, hl, h⟩
theorem r_faug (h : ta σ H fun x H1 => ∃ a C dx fs v, x = .ref a ∧ H1 a = some (.ins C dx fs) ∧ Cls K C ∧ NoAttr K C f ∧ fs.lookup f = some v ∧
  tv σ H1 fun y H2 => rd v y H2 fun z H3 => ∃ dx' fs', H3 a = some (.ins C dx' fs') ∧ fs'.length < 1000 ∧ nx σ (upd H3 a (.ins C dx' (putF f z fs')))) : sFldAug K ta tv rd f ⟨nx, rt, bk, ct⟩ σ H := h
theorem r_sub {i j : Int} (h : Q (.int (i - j)) H) : rSub (.int i) (.int j) H Q := ⟨i, j, rfl, rfl, h⟩
end
section
variable {K : PySem.W.Frag} {tb : TS} {g : TG} {nx : L2.St → Hp → Prop} {rt : V → Hp → Prop} {σ : L2.St} {H : Hp} {a : PySem.Addr} {xs : List V}
/-- for over a tuple that stands -/
theorem for_tupG (Pv : Nat → L2.St → Hp → Prop) (h0 : Pv 0 σ H) (hG : ∀ i σ H, Pv i σ H → SqT K H a xs)
    (hs : ∀ i v σ H, xs[i]? = some v → Pv i σ H → g v σ H fun σ2 H2 => tb ⟨Pv (i + 1), rt, nx, Pv (i + 1)⟩ σ2 H2) (hd : ∀ σ H, Pv xs.length σ H → nx σ H) : FW (Itt K a) g tb nx rt σ H := by
  refine for_it (D := ⟨nx, rt, fun _ _ => False, fun _ _ => False⟩) (walk_tup (xs := xs)) Pv h0 (fun i σ H _ p => hG i σ H p) (fun i x σ H H' hi p y => ?_) hd
  obtain ⟨rfl, e⟩ := y
  exact hs i x σ _ e p
end
end BF
end
section
/-! promises of rows and buffers -/
namespace R
theorem iteT' {p A B : Prop} [Decidable p] (h : p) (a : A) : if p then A else B := by rw [if_pos h]; exact a
theorem iteF' {p A B : Prop} [Decidable p] (h : ¬ p) (b : B) : if p then A else B := by rw [if_neg h]; exact b
end R
namespace BF
open PySem PySem.Spec PyProof.Rows L2 MM
theorem isi_intT {K : PySem.W.Frag} {H : Hp} {i : Int} : R.CIsi K H (.int i) (.ty "tuple") false := ⟨_, _, .ty _, .base (.int i), kit_ty (by decide +kernel)⟩
theorem at_last {α : Type} (xs : List α) (x : α) : atI (xs ++ [x]) (-1) = some x := by
  unfold atI ixN
  simp
  rw [if_pos (by omega), Option.bind_some]
  rw [show (-1 + ((xs.length : Int) + 1)).toNat = xs.length by omega]
  simp
theorem its_snoc {H : Hp} {ws : List V} {M : List It} {x : It} (i : Its H ws (M ++ [x])) : ∃ ws' v, ws = ws' ++ [v] ∧ Its H ws' M ∧ ItV H v x := by
  induction M generalizing ws with
  | nil =>
    cases i with
    | cons a b => cases b with
      | nil => exact ⟨[], _, rfl, .nil, a⟩
  | cons y M ih =>
    cases i with
    | cons a b =>
      obtain ⟨ws', v, rfl, i', iv⟩ := ih b
      exact ⟨_ :: ws', v, rfl, .cons a i', iv⟩
theorem itv_lost {H : Hp} {p : PySem.Addr} {n : Int} (e : H p = some (.tup [.str "lost", .int n])) : ItV H (.ref p) (.lost n) := ⟨p, rfl, e⟩
theorem Its.nil {H : Hp} : Its H [] [] := MM.All2.nil
theorem Its.cons {H : Hp} {ws : List V} {M : List It} {v : V} {x : It} (iv : ItV H v x) (i : Its H ws M) : Its H (v :: ws) (x :: M) := MM.All2.cons iv i
theorem Its.snoc {H : Hp} {ws : List V} {M : List It} {v : V} {x : It} (i : Its H ws M) (iv : ItV H v x) : Its H (ws ++ [v]) (M ++ [x]) := MM.All2.snoc iv i
theorem Its.app {H : Hp} {ws ws' : List V} {M M' : List It} (i : Its H ws M) (i' : Its H ws' M') : Its H (ws ++ ws') (M ++ M') := MM.All2.app i i'
theorem Its.len {H : Hp} {ws : List V} {M : List It} (i : Its H ws M) : ws.length = M.length := MM.All2.length i
def spIsLost : Sp := fun vs H Q _ => ∃ (a : PySem.Addr) (it : It), vs = [.ref a] ∧ ItAt H a it ∧ Q (.bl it.isL) H
def spRowNew (CR : PySem.Addr) : Sp := fun vs H Q _ => ∃ (h dx : PySem.Addr), vs = [.ref h] ∧ H h = some (.ins CR dx []) ∧ ∀ H' l, H l = none → R.Mv h H H' → RowAt CR H' h l [] → Q .non H'
def spAddLost (CR : PySem.Addr) : Sp := fun vs H Q _ => ∃ (h l : PySem.Addr) (L : List It) (n : Int), vs = [.ref h, .int n] ∧ RowAt CR H h l L ∧ L.length ≤ 10000 ∧ ∀ H', R.Mv l H H' → RowAt CR H' h l (pushL L n) → Q .non H'
def spRowAdd (CR : PySem.Addr) : Sp := fun vs H Q _ => ∃ (h l : PySem.Addr) (L : List It) (a : PySem.Addr) (it : It), vs = [.ref h, .ref a] ∧ RowAt CR H h l L ∧ L.length ≤ 10000 ∧ ItAt H a it ∧ ∀ H', R.Mv l H H' → RowAt CR H' h l (push L it) → Q .non H'
def spLoseFirst (CR : PySem.Addr) : Sp := fun vs H Q _ => ∃ (h l : PySem.Addr) (L : List It) (r : It) (R0 : List It) (n : Int), vs = [.ref h] ∧ RowAt CR H h l L ∧ L.length ≤ 10000 ∧ r.isL = false ∧ ((L = r :: R0 ∧ n = 1) ∨ ∃ m, L = .lost m :: r :: R0 ∧ n = 1 + m) ∧
  ∀ H' a, R.Mv l H H' → RowAt CR H' h l (glue n R0) → ItAt H' a r → Q (.ref a) H'
def spImage (CR : PySem.Addr) : Sp := fun vs H Q _ => ∃ (h l : PySem.Addr) (L : List It), vs = [.ref h] ∧ RowAt CR H h l L ∧ ∀ H' p ws, Same H H' → H' p = some (.tup ws) → Its H' ws L → Q (.ref p) H'
def spSizeOf : Sp := fun vs H Q _ => ∃ (a : PySem.Addr) (it : It), vs = [.ref a] ∧ ItAt H a it ∧ it.isL = false ∧ it.ok ∧ ∀ H', Same H H' → Q (.int it.sz) H'
def spBufNew (CB CR : PySem.Addr) : Sp := fun vs H Q _ => ∃ (b dx : PySem.Addr) (room : Int) (pol : Str), vs = [.ref b, .int room, .str pol] ∧ H b = some (.ins CB dx []) ∧ ∀ H' h l, H h = none → H l = none → Fr [b] H H' → BufAt CB CR H' b h l ⟨room, pol, 0, 0, false, []⟩ → Q .non H'
def spAddBlock (CB CR : PySem.Addr) : Sp := fun vs H Q _ => ∃ (b h l p : PySem.Addr) (S : Bs) (ws : List V) (M : List It), vs = [.ref b, .ref p] ∧ BufAt CB CR H b h l S ∧ S.ok ∧ S.L.length ≤ 5000 ∧ H p = some (.tup ws) ∧ Its H ws M ∧ (∀ a ∈ M, a.ok) ∧ M.length ≤ 1000 ∧
  ∀ H', Fr [b, h, l] H H' → BufAt CB CR H' b h l (S.addB M).1 → Q (.bl (S.addB M).2) H'
def spAdd (CB CR : PySem.Addr) : Sp := fun vs H Q _ => ∃ (b h l a : PySem.Addr) (S : Bs) (it : It), vs = [.ref b, .ref a] ∧ BufAt CB CR H b h l S ∧ S.ok ∧ S.L.length ≤ 5000 ∧ ItAt H a it ∧ it.ok ∧
  ∀ H', Fr [b, h, l] H H' → BufAt CB CR H' b h l (S.addB [it]).1 → Q (.bl (S.addB [it]).2) H'
def spMakeRoom (CB CR : PySem.Addr) : Sp := fun vs H Q _ => ∃ (b h l : PySem.Addr) (S : Bs) (size : Int), vs = [.ref b, .int size] ∧ BufAt CB CR H b h l S ∧ S.ok ∧ S.L.length ≤ 5000 ∧ 0 ≤ size ∧
  ∀ H', Fr [b, h, l] H H' → BufAt CB CR H' b h l (S.mr size) → Q (.bl (decide ((S.mr size).used + size ≤ S.room))) H'
def spLose (CB CR : PySem.Addr) : Sp := fun vs H Q _ => ∃ (b h l p : PySem.Addr) (S : Bs) (ws : List V) (M : List It), vs = [.ref b, .ref p] ∧ BufAt CB CR H b h l S ∧ S.L.length ≤ 6000 ∧ H p = some (.tup ws) ∧ Its H ws M ∧ M.length ≤ 1000 ∧
  ∀ H', Fr [b, h, l] H H' → BufAt CB CR H' b h l { S with lost := S.lost + oneL M, L := M.foldl (fun L a => pushL L a.num) S.L } → Q .non H'
def spHeld (CB CR : PySem.Addr) : Sp := fun vs H Q _ => ∃ (b h l : PySem.Addr) (S : Bs), vs = [.ref b] ∧ BufAt CB CR H b h l S ∧ ∀ H' p ws, Same H H' → H' p = some (.tup ws) → Its H' ws S.L → Q (.ref p) H'
def spSwitch (CB CR : PySem.Addr) : Sp := fun vs H Q _ => ∃ (b h l : PySem.Addr) (S : Bs), vs = [.ref b] ∧ BufAt CB CR H b h l S ∧ (S.rd = true → Q .non H) ∧
  (S.rd = false → ∀ H' p ws h' l', Fr [b] H H' → H h' = none → H l' = none → H' p = some (.tup ws) → Its H' ws S.L → BufAt CB CR H' b h' l' { S with used := 0, rd := true, L := [] } → Q (.ref p) H')
def spGive (CB CR : PySem.Addr) : Sp := fun vs H Q _ => ∃ (b h l : PySem.Addr) (S : Bs), vs = [.ref b] ∧ BufAt CB CR H b h l S ∧ ∀ H', Fr [b] H H' → BufAt CB CR H' b h l { S with rd := false } → Q .non H'
end BF
namespace BF
open PySem PySem.Spec PyProof.Rows L2 MM
theorem six0 {n : Nat} (h : 0 < n) : seqIndex? 0 n = some 0 := by
  unfold seqIndex?
  simp [h]
section
variable {K : PySem.W.Frag} {H H' H1 : Hp} {Q : VK} {l a p h b : PySem.Addr} {v : V} {ws : List V}
theorem r_pop0 (e : H l = some (.lst (v :: ws))) (q : Q v (upd H l (.lst ws))) : rPopAt (.ref l) [.int 0] H Q :=
  ⟨l, v :: ws, 0, 0, v, rfl, rfl, e, by decide, by decide, six0 (by simp), rfl, q⟩
theorem r_popL (e : H l = some (.lst (ws ++ [v]))) (q : Q v (upd H l (.lst ws))) : rPop (.ref l) [] H Q :=
  ⟨l, ws ++ [v], v, rfl, rfl, e, by simp, by rw [List.dropLast_concat]; exact q⟩
theorem tyL {xs : List V} (e : H l = some (.lst xs)) : tyV K "list" (.ref l) H := .inl ⟨rfl, _, R.sqL e⟩
theorem its_cons {x : It} {M : List It} (i : Its H ws (x :: M)) : ∃ a ws', ws = .ref a :: ws' ∧ ItAt H a x ∧ Its H ws' M := by
  cases i with
  | cons iv i =>
    obtain ⟨a, rfl, ha⟩ := iv
    exact ⟨a, _, rfl, ha, i⟩
theorem Its.get {M : List It} (i : Its H ws M) {j : Nat} {x : It} (e : M[j]? = some x) : ∃ a, ws[j]? = some (.ref a) ∧ ItAt H a x := by
  obtain ⟨v, e1, a, rfl, ha⟩ := MM.All2.get i e
  exact ⟨a, e1, ha⟩
theorem Its.get' {M : List It} (i : Its H ws M) {j : Nat} {v : V} (e : ws[j]? = some v) : ∃ a x, v = .ref a ∧ M[j]? = some x ∧ ItAt H a x := by
  obtain ⟨x, e1, a, rfl, ha⟩ := CR.All2.len_get i e
  exact ⟨a, x, rfl, e1, ha⟩
theorem vls_get {vs : List Vl} (i : All2 (VlAt H) ws vs) {j : Nat} {v : V} (e : ws[j]? = some v) : ∃ x a, v = .ref a ∧ vs[j]? = some x ∧ H a = some (.tup [.str x.kd, x.v]) := by
  obtain ⟨x, e1, a, rfl, ha⟩ := CR.All2.len_get i e
  exact ⟨x, a, rfl, e1, ha⟩
/-- its list changed, nothing else -/
theorem RowAt.put' {CR : PySem.Addr} {L L2 : List It} (r : RowAt CR H h l L) (i : Its H ws L2) (hu : upd H l (.lst ws) = H') : RowAt CR H' h l L2 ∧ R.Mv l H H' ∧ H' l = some (.lst ws) ∧ Its H' ws L2 ∧ KeepT H H' := by
  subst hu
  obtain ⟨r2, m2⟩ := r.put (Same.refl _) (ws := ws) (L2 := L2) i
  exact ⟨r2, m2, upd_same, i.keep (r.keepT m2), r.keepT m2⟩
theorem lens_app {vs : List Vl} {f : Vl → List Int} {j : Nat} {x : Vl} (e : vs[j]? = some x) : (vs.take (j + 1)).flatMap f = (vs.take j).flatMap f ++ f x := CR.flat_snoc e
def txl : Vl → List Int
  | .s x => [(x.length : Int)]
  | .i _ => []
theorem txl_sum : ∀ vs : List Vl, (vs.length : Int) + (vs.flatMap txl).sum = szV vs
  | [] => rfl
  | v :: vs => by
    have h := txl_sum vs
    unfold szV at h ⊢
    rw [List.flatMap_cons, List.sum_append, List.map_cons, List.sum_cons, List.length_cons]
    cases v with
    | s x => simp only [txl, Vl.sz, List.sum_cons, List.sum_nil]; omega
    | i n => simp only [txl, Vl.sz, List.sum_nil]; omega
theorem txl_len (vs : List Vl) : (vs.flatMap txl).length ≤ vs.length := by
  have := CR.flat_le (f := txl) (n := 1) (fun x => by cases x <;> simp [txl]) vs
  omega
/-- the sizes of the records -/
def rsz (a : It) : List Int := if a.isL then [] else [a.sz]
theorem rsz_sum : ∀ M : List It, (M.flatMap rsz).sum = usd M
  | [] => rfl
  | a :: M => by
    rw [List.flatMap_cons, List.sum_append, rsz_sum M, usd_cons]
    cases e : a.isL with
    | true => simp [rsz, e, It.sz_lost e]
    | false => simp [rsz, e]
theorem rsz_len (M : List It) : (M.flatMap rsz).length ≤ M.length := by
  have := CR.flat_le (f := rsz) (n := 1) (fun x => by unfold rsz; split <;> simp) M
  omega
end
section
variable {K : PySem.W.Frag} {tb : TS} {g : TG} {nx bk ct : L2.St → Hp → Prop} {rt : V → Hp → Prop} {σ : L2.St} {H : Hp} {tl : TE}
theorem r_forT (h : tl σ H fun x H1 => ∃ a, x = .ref a ∧ (∃ xs, SqT K H1 a xs) ∧ FW (Itt K a) g tb nx rt σ H1) : tFor (iTup K tl) g tb ⟨nx, rt, bk, ct⟩ σ H := h
end
end BF
namespace BF
open PySem PySem.Spec PyProof.Rows L2 MM
def rLenZ : List V → Hp → VK → Prop := fun xs H Q => ∃ z : Str, xs = [.str z] ∧ z.length ≤ 100000 ∧ Q (.int (z.length : Nat)) H
theorem cLenZ {X : Cx} : CallR X (.builtin "len") rLenZ := by
  rintro pins s σ H xs us Q I r ⟨z, rfl, hz, q⟩
  exact call_len pins s σ H _ us Q I r ⟨_, z.length, rfl, ⟨Nat.le_trans hz (by decide), rfl⟩, q⟩
theorem r_lenZ {H : Hp} {Q : VK} {z : Str} (hz : z.length ≤ 100000) (q : Q (.int (z.length : Nat)) H) : rLenZ [.str z] H Q := ⟨z, rfl, hz, q⟩
def rStrZ : List V → Hp → VK → Prop := fun xs H Q => (∃ i : Int, xs = [.int i] ∧ i.natAbs.log2 < 1920 ∧ Q (.str (toString i)) H) ∨ ∃ z : Str, xs = [.str z] ∧ Q (.str z) H
theorem cStrZ {X : Cx} : CallR X (.type "str") rStrZ := by
  rintro pins s σ H xs us Q I r (⟨i, rfl, hz, q⟩ | ⟨z, rfl, q⟩)
  · exact call_str_int pins s σ H _ us Q I r ⟨i, rfl, hz, q⟩
  · exact SkE.call_str_str pins s σ H _ us Q I r ⟨z, rfl, q⟩
end BF
namespace BF
open PySem PySem.Spec PyProof.Rows L2 MM
theorem BufAt.fldU {CB CR : PySem.Addr} {H H' H2 : Hp} {b h l : PySem.Addr} {S S2 : Bs} (B : BufAt CB CR H b h l S) (s : Same H H') {dx : PySem.Addr} {fs : List (Str × V)} (hu : L2.upd H' b (.ins CB dx fs) = H2) (ef : fs = fsB h S2) (hL : S2.L = S.L) : BufAt CB CR H2 b h l S2 ∧ R.Mv b H H2 := by
  subst hu
  exact B.fld s ef hL
end BF
namespace R
open PySem PySem.Spec PyProof.Rows L2
end R
end
section
/-! the laws' own buffers: dicts, and what is drawn -/
namespace BF
open PySem PySem.Spec PyProof.Rows L2 MM
/-- the reader's dict and its row -/
def dd (r : PySem.Addr) (at' : Nat) (seed : Int) : List (Key × V) := [(.inr "row", .ref r), (.inr "at", .int (at' : Int)), (.inr "seed", .int seed)]
def Dw (H : Hp) (p r : PySem.Addr) : Prop := ∃ (ds : List Int) (at' : Nat) (seed : Int), H p = some (.dK (dd r at' seed)) ∧ H r = some (.lst (ds.map V.int))
section
variable {H H' H1 H2 : Hp} {p r b q l a pm : PySem.Addr} {S : Bs} {x : Option Bool} {K : PySem.W.Frag}
theorem Dw.same (s : Same H H') (d : Dw H p r) : Dw H' p r := by
  obtain ⟨ds, n, z, e, e2⟩ := d
  exact ⟨ds, n, z, s _ _ e, s _ _ e2⟩
theorem Dw.keep (d : Dw H p r) (k1 : ∀ o, H p = some o → H' p = some o) (k2 : ∀ o, H r = some o → H' r = some o) : Dw H' p r := by
  obtain ⟨ds, n, z, e, e2⟩ := d
  exact ⟨ds, n, z, k1 _ e, k2 _ e2⟩
theorem Dw.ne (d : Dw H p r) (h : H b = none) : p ≠ b := by
  obtain ⟨ds, n, z, e, e2⟩ := d
  exact ne_of_none e h
/-- p's reader goes on, all else stands -/
def Go (p r : PySem.Addr) (H H' : Hp) : Prop := R.Mv p H H' ∧ Dw H' p r ∧ KeepT H H'
theorem Go.trans (a : Go p r H H1) (b : Go p r H1 H2) : Go p r H H2 := ⟨a.1.trans b.1, b.2.1, a.2.2.trans b.2.2⟩
theorem Go.refl (d : Dw H p r) : Go p r H H := ⟨R.Mv.refl, d, KeepT.refl H⟩
theorem Go.sm (a : Go p r H H1) (s : Same H1 H2) : Go p r H H2 := ⟨a.1.trans (R.Mv.of s), a.2.1.same s, a.2.2.trans (KeepT.of s)⟩
theorem Go.new {o : HO} (a : Go p r H H1) (h : H1 q = none) : Go p r H (upd H1 q o) := a.sm (R.same_new h)
/-- a list that is filled -/
def Grow (H : Hp) (p : PySem.Addr) (n : Nat) (H' : Hp) : Prop := Same H H' ∧ ∃ ds : List Int, H' p = some (.lst (ds.map V.int)) ∧ ds.length ≤ n
theorem Grow.app {n m : Nat} {ds : List Int} {v : Int} (hp : H p = none) (sm : Same H H') (e : H' p = some (.lst (ds.map V.int))) (hl : ds.length ≤ n) (hm : n + 1 ≤ m) : Grow H p m (upd H' p (.lst (ds.map V.int ++ [.int v]))) := by
  refine ⟨fun b o hb => ?_, ds ++ [v], ?_, ?_⟩
  · rw [upd_ne (ne_of_none hb hp)]
    exact sm b o hb
  · rw [upd_same, List.map_append]
    rfl
  · rw [List.length_append]
    show ds.length + 1 ≤ m
    omega
/-- a law's own buffer -/
def mkx : Option Bool → List (Key × V)
  | none => []
  | some g => [(.inr "given", .bl g)]
def mkv (r : PySem.Addr) (S : Bs) (x : Option Bool) : List (Key × V) := (.inr "room", .int S.room) :: (.inr "policy", .str S.pol) :: (.inr "row", .ref r) :: (.inr "lost", .int S.lost) :: mkx x
def MAt (H : Hp) (pm r : PySem.Addr) (S : Bs) (x : Option Bool) : Prop := H pm = some (.dK (mkv r S x)) ∧ ∃ ws, H r = some (.lst ws) ∧ Its H ws S.L
theorem MAt.ne (m : MAt H pm r S x) : pm ≠ r := fun z => by
  obtain ⟨e, ws, e2, _⟩ := m
  rw [z, e2] at e
  cases e
theorem MAt.keep (m : MAt H pm r S x) (k : KeepT H H') (k1 : ∀ o, H pm = some o → H' pm = some o) (k2 : ∀ o, H r = some o → H' r = some o) : MAt H' pm r S x := by
  obtain ⟨e, ws, e2, i⟩ := m
  exact ⟨k1 _ e, ws, k2 _ e2, i.keep k⟩
theorem MAt.same (m : MAt H pm r S x) (s : Same H H') : MAt H' pm r S x := m.keep (KeepT.of s) (fun _ e => s _ _ e) (fun _ e => s _ _ e)
theorem MAt.keepT (m : MAt H pm r S x) (v : R.Mv pm H H') : KeepT H H' := mv_keepT v m.1 fun _ => nofun
theorem mkv_len : (mkv r S x).length ≤ 1000 := by
  cases x with
  | none => show 4 ≤ 1000; decide
  | some g => show 5 ≤ 1000; decide
theorem put_row : putK (mkv r S x) (Sum.inr "row" : Key) (V.ref q) = mkv q S x := by cases x <;> rfl
theorem put_lost {n : Int} : putK (mkv r S x) (Sum.inr "lost" : Key) (V.int n) = mkv r { S with lost := n } x := by cases x <;> rfl
theorem put_given {g g' : Bool} : putK (mkv r S (some g)) (Sum.inr "given" : Key) (V.bl g') = mkv r S (some g') := rfl
/-- m["row"] = a new list -/
theorem MAt.row (m : MAt H pm r S x) (s : Same H H') {ws : List V} {L : List It} (e : H' q = some (.lst ws)) (i : Its H' ws L) (hu : L2.upd H' pm (.dK (mkv q S x)) = H2) : MAt H2 pm q { S with L := L } x ∧ R.Mv pm H H2 ∧ KeepT H' H2 := by
  subst hu
  have em := s _ _ m.1
  have ne : q ≠ pm := fun z => by rw [z, em] at e; cases e
  have k : KeepT H' (L2.upd H' pm (.dK (mkv q S x))) := KeepT.upd em fun _ => nofun
  exact ⟨⟨upd_same, ws, by rw [upd_ne ne]; exact e, i.keep k⟩, fun b o eb hb => by rw [upd_ne hb]; exact s b o eb, k⟩
theorem MAt.lost (m : MAt H pm r S x) (s : Same H H') {n : Int} (hu : L2.upd H' pm (.dK (mkv r { S with lost := n } x)) = H2) : MAt H2 pm r { S with lost := n } x ∧ R.Mv pm H H2 ∧ KeepT H' H2 := by
  subst hu
  have em := s _ _ m.1
  have ne := m.ne
  have k : KeepT H' (L2.upd H' pm (.dK (mkv r { S with lost := n } x))) := KeepT.upd em fun _ => nofun
  obtain ⟨_, ws, e, i⟩ := m
  exact ⟨⟨upd_same, ws, by rw [upd_ne ne.symm]; exact s _ _ e, i.keep ((KeepT.of s).trans k)⟩, fun b o eb hb => by rw [upd_ne hb]; exact s b o eb, k⟩
theorem r_eqIS {Q : VK} {i : Int} {s : Str} (h : Q (.bl false) H) : rEq (.int i) (.str s) H Q := ⟨rfl, by
  rw [show decide (V.int i = V.str s) = false from decide_eq_false nofun]; exact h⟩
theorem r_neIS {Q : VK} {i : Int} {s : Str} (h : Q (.bl true) H) : rNe (.int i) (.str s) H Q := ⟨rfl, by
  rw [show decide (V.int i = V.str s) = false from decide_eq_false nofun]; exact h⟩
theorem r_eqB {Q : VK} {a b : Bool} (h : Q (.bl (decide (a = b))) H) : rEq (.bl a) (.bl b) H Q := ⟨rfl, by
  rw [show decide (V.bl a = V.bl b) = decide (a = b) from by simp]; exact h⟩
theorem r_setAt {Q : Hp → Prop} {xs : List V} {k : Int} {v : V} (e : H p = some (.lst xs)) (h0 : 0 ≤ k) (h1 : k.toNat < xs.length) (q : Q (L2.upd H p (.lst (xs.set k.toNat v)))) : rSetL (.ref p) (.int k) v H Q :=
  ⟨p, xs, k, k.toNat, rfl, rfl, e, by unfold ixN; rw [if_pos h0, if_pos (by omega)], q⟩
/-- what stands first in an item -/
def It.hd : It → V
  | .lost _ => .str "lost"
  | .rc t _ _ _ => .int t
theorem r_hd {Q : VK} {it : It} (h : ItAt H a it) (q : Q it.hd H) : rIxT K (.ref a) (.int 0) H Q := by
  cases it with
  | lost n => exact R.r_ixT (R.sqT h) (R.at_nat (by decide) rfl) q
  | rc t c s vs =>
    obtain ⟨b, ws, e1, _⟩ := h
    exact R.r_ixT (R.sqT e1) (R.at_nat (by decide) rfl) q
theorem r_eqHd {Q : VK} {it : It} (q : Q (.bl it.isL) H) : rEq it.hd (.str "lost") H Q := by
  cases it with
  | lost n => exact R.r_eqS (by rw [decide_eq_true rfl]; exact q)
  | rc t c s vs => exact r_eqIS q
theorem r_neHd {Q : VK} {it : It} (q : Q (.bl (!it.isL)) H) : rNe it.hd (.str "lost") H Q := by
  cases it with
  | lost n => exact R.r_neS (by rw [decide_eq_true rfl]; exact q)
  | rc t c s vs => exact r_neIS q
end
def spDraws (K : PySem.W.Frag) : Sp := fun vs H Q _ => ∃ (a : PySem.Addr) (ns : List Int), vs = [.ref a] ∧ SqL K H a (ns.map V.int) ∧ ns.length ≤ 63 ∧
  ∀ (H' : Hp) (p : PySem.Addr) (ds : List Int), Same H H' → H p = none → H' p = some (.lst (ds.map V.int)) → ds.length ≤ 1260 → Q (.ref p) H'
def spReader (K : PySem.W.Frag) : Sp := fun vs H Q _ => ∃ (a : PySem.Addr) (ns : List Int), vs = [.ref a] ∧ SqL K H a (ns.map V.int) ∧ ns.length ≤ 63 ∧
  ∀ (H' : Hp) (p r : PySem.Addr), Same H H' → Dw H' p r → Q (.ref p) H'
def spNext : Sp := fun vs H Q _ => ∃ (p r : PySem.Addr) (m : Int), vs = [.ref p, .int m] ∧ 0 < m ∧ Dw H p r ∧ ∀ (v : Int) (H' : Hp), 0 ≤ v → v < m → Go p r H H' → Q (.int v) H'
def spRecord : Sp := fun vs H Q _ => ∃ (p r : PySem.Addr), vs = [.ref p] ∧ Dw H p r ∧ ∀ (H' : Hp) (a : PySem.Addr) (it : It), Go p r H H' → ItAt H' a it → it.isL = false → it.ok → Q (.ref a) H'
def spBlock : Sp := fun vs H Q _ => ∃ (p r : PySem.Addr), vs = [.ref p] ∧ Dw H p r ∧ ∀ (H' : Hp) (a : PySem.Addr) (ws : List V) (M : List It), Go p r H H' → H' a = some (.tup ws) → Its H' ws M → (∀ x ∈ M, x.ok) → M.length ≤ 4 → Q (.ref a) H'
def spUsedL (K : PySem.W.Frag) : Sp := fun vs H Q _ => ∃ (l : PySem.Addr) (ws : List V) (L : List It), vs = [.ref l] ∧ SqL K H l ws ∧ Its H ws L ∧ (∀ x ∈ L, x.ok) ∧ L.length ≤ 10000 ∧ ∀ H', Same H H' → Q (.int (usd L)) H'
def spUsedT (K : PySem.W.Frag) : Sp := fun vs H Q _ => ∃ (l : PySem.Addr) (ws : List V) (L : List It), vs = [.ref l] ∧ SqT K H l ws ∧ Its H ws L ∧ (∀ x ∈ L, x.ok) ∧ L.length ≤ 10000 ∧ ∀ H', Same H H' → Q (.int (usd L)) H'
def spJoined (K : PySem.W.Frag) : Sp := fun vs H Q _ => ∃ (l : PySem.Addr) (ws : List V) (L : List It), vs = [.ref l] ∧ SqL K H l ws ∧ Its H ws L ∧ L.length ≤ 10000 ∧ ∀ H' p ws', Same H H' → H p = none → H' p = some (.lst ws') → Its H' ws' (L.foldl push []) → Q (.ref p) H'
def spMade : Sp := fun vs H Q _ => ∃ (pm r : PySem.Addr) (S : Bs) (x : Option Bool) (size : Int), vs = [.ref pm, .int size] ∧ MAt H pm r S x ∧ S.ok ∧ 0 ≤ size ∧ S.L.length ≤ 5000 ∧
  ∀ H' r', R.Mv pm H H' → MAt H' pm r' (S.mr size) x → (r' = r ∨ H r' = none) → Q (.bl (decide ((S.mr size).used + size ≤ S.room))) H'
def spLAdd : Sp := fun vs H Q _ => ∃ (pm r a : PySem.Addr) (S : Bs) (x : Option Bool) (it : It), vs = [.ref pm, .ref a] ∧ MAt H pm r S x ∧ S.ok ∧ S.L.length ≤ 5000 ∧ ItAt H a it ∧ it.isL = false ∧ it.ok ∧
  ∀ H' r', R.Mv pm H H' → MAt H' pm r' (S.addB [it]).1 x → (r' = r ∨ H r' = none) → Q (.bl (S.addB [it]).2) H'
def spLBlock : Sp := fun vs H Q _ => ∃ (pm r a : PySem.Addr) (S : Bs) (x : Option Bool) (ws : List V) (M : List It), vs = [.ref pm, .ref a] ∧ MAt H pm r S x ∧ S.ok ∧ S.L.length ≤ 5000 ∧ H a = some (.tup ws) ∧ Its H ws M ∧ (∀ x ∈ M, x.ok) ∧ M.length ≤ 1000 ∧
  ∀ H' r', R.Mv pm H H' → MAt H' pm r' (S.addB M).1 x → (r' = r ∨ H r' = none) → Q (.bl (S.addB M).2) H'
end BF
namespace BF
open PySem PySem.Spec PyProof.Rows L2 MM
theorem Go.put {p r D : PySem.Addr} {H H1 : Hp} {xs ys : List V} (g : Go p r H H1) (d0 : Dw H p r) (hD : H D = none) (e : H1 D = some (.lst xs)) : Go p r H (L2.upd H1 D (.lst ys)) := by
  have n1 : p ≠ D := d0.ne hD
  have n2 : r ≠ D := by
    obtain ⟨ds, n, z, _, e2⟩ := d0
    exact ne_of_none e2 hD
  refine ⟨fun b o eb hb => ?_, g.2.1.keep (fun o eo => by rw [upd_ne n1]; exact eo) (fun o eo => by rw [upd_ne n2]; exact eo), g.2.2.trans (KeepT.upd e fun _ => nofun)⟩
  rw [upd_ne (ne_of_none eb hD)]
  exact g.1 b o eb hb
theorem cut_abc : ∀ n : Nat, n < 11 → (cutS "abcdefghij" none (some (n : Int))).length ≤ 32 ∧ PyData.strOk (cutS "abcdefghij" none (some (n : Int))) = true := by decide +kernel
theorem pick3 {i : Int} (h0 : 0 ≤ i) (h1 : i < 3) : ∃ s : Str, PyData.strOk s = true ∧ atI [V.str "trace", V.str "say", V.str "fault"] i = some (.str s) := by
  have : i = 0 ∨ i = 1 ∨ i = 2 := by omega
  rcases this with rfl | rfl | rfl
  · exact ⟨"trace", by decide +kernel, rfl⟩
  · exact ⟨"say", by decide +kernel, rfl⟩
  · exact ⟨"fault", by decide +kernel, rfl⟩
theorem vls_keep {H H' : Hp} (k : KeepT H H') {ws : List V} {vs : List Vl} (h : All2 (VlAt H) ws vs) : All2 (VlAt H') ws vs := h.imp fun _ _ z => z.keep k
def vsz (x : Vl) : Int := match x with
  | .s z => 1 + (z.length : Int) * 1
  | .i _ => 1 + 0
theorem vsz_sum : ∀ vs : List Vl, (vs.map vsz).sum = szV vs
  | [] => rfl
  | v :: vs => by
    have h := vsz_sum vs
    unfold szV at h ⊢
    rw [List.map_cons, List.sum_cons, List.map_cons, List.sum_cons, h]
    cases v <;> simp [vsz, Vl.sz]
end BF
namespace BF
open PySem PySem.Spec PyProof.Rows L2 MM
theorem small_log {n : Int} (h : 0 ≤ n ∧ n < 1000000) : n.natAbs.log2 < 1920 := by
  have h1 : n.natAbs < 2 ^ 100 := Nat.lt_of_lt_of_le (show n.natAbs < 1000000 by omega) (by decide)
  exact Nat.lt_of_lt_of_le (PySem.Flt.log2_lt_of (k := 100) (by decide) h1) (by decide)
theorem small_len {n : Int} (h : 0 ≤ n ∧ n < 1000000) : (Str.ofString (toString n)).length ≤ 100000 := Nat.le_trans (int_text_len_1921 (small_log h)) (by decide)
end BF
namespace BF
open PySem PySem.Spec PyProof.Rows L2 MM
theorem set_last {α : Type} (xs : List α) (x y : α) : (xs ++ [x]).set xs.length y = xs ++ [y] := by
  rw [List.set_append_right (h := Nat.le_refl _), Nat.sub_self]
  rfl
theorem at_len {α : Type} (xs : List α) (x : α) : atI (xs ++ [x]) (((xs ++ [x]).length : Int) - 1) = some x := by
  refine R.at_nat (by rw [List.length_append]; simp) ?_
  rw [List.length_append]
  rw [show (((xs.length + [x].length : Nat) : Int) - 1).toNat = xs.length by simp]
  simp
theorem MAt.congr {H : Hp} {pm r : PySem.Addr} {S S' : Bs} {x : Option Bool} (m : MAt H pm r S x) (h1 : S'.room = S.room) (h2 : S'.pol = S.pol) (h3 : S'.lost = S.lost) (h4 : S'.L = S.L) : MAt H pm r S' x := by
  unfold MAt mkv at m ⊢
  rw [h1, h2, h3, h4]
  exact m
theorem sl_1 {K : PySem.W.Frag} {H : Hp} {Q : VK} {a : PySem.Addr} {v : V} {ws : List V} (h : SqL K H a (v :: ws)) (q : ∀ p, H p = none → Q (.ref p) (L2.upd H p (.lst ws))) : rSlL K (.ref a) (some 1) none H Q :=
  ⟨a, v :: ws, rfl, h, fun p hp => by
    rw [show cutV (v :: ws) (some 1) none = ws from CR.cut_from (n := 1) (v :: ws)]
    exact q p hp⟩
theorem r_cat {H : Hp} {Q : VK} {a b : PySem.Addr} {xs ys : List V} (h1 : H a = some (.lst xs)) (h2 : H b = some (.lst ys)) (hl : xs.length + ys.length ≤ 100000) (q : ∀ p, H p = none → Q (.ref p) (L2.upd H p (.lst (xs ++ ys)))) : rCat (.ref a) (.ref b) H Q :=
  ⟨a, b, xs, ys, rfl, rfl, h1, h2, R.size_of hl, q⟩
theorem isL_d {it : It} : it.isL = true ∨ it.isL = false := by cases it <;> simp [It.isL]
end BF
namespace BF
open PySem PySem.Spec PyProof.Rows L2 MM
theorem or_key {c c' : TT} {σ : L2.St} {H : Hp} {B : Bool → Hp → Prop} (J : Bool → Hp → Prop) (key : ∀ b H', J b H' → B b H') (h : (∀ b H', J b H' → B b H') → tOr c c' σ H B) : tOr c c' σ H B := h key
def lsn (a : It) : List Int := match a with
  | .lost n => [n]
  | .rc .. => []
theorem lsn_sum : ∀ M : List It, oneL M + (M.flatMap lsn).sum = numL M
  | [] => rfl
  | a :: M => by
    have h := lsn_sum M
    rw [List.flatMap_cons, List.sum_append, oneL_cons, numL_cons, ← h]
    cases a with
    | lost n => simp only [lsn, It.one, It.isL, It.num, List.sum_cons, List.sum_nil]; simp; omega
    | rc t c s vs => simp only [lsn, It.one, It.isL, It.num, List.sum_nil]; simp; omega
theorem lsn_len (M : List It) : (M.flatMap lsn).length ≤ M.length := by
  have := CR.flat_le (f := lsn) (n := 1) (fun x => by cases x <;> simp [lsn]) M
  omega
end BF
end
section
/-! a program's buffer, a law's own one and the draws side by side -/
namespace BF
open PySem PySem.Spec PyProof.Rows L2 MM
structure Jn (CB CR : PySem.Addr) (H : Hp) (pd pr b h l pm r : PySem.Addr) (S S' : Bs) (x : Option Bool) : Prop where
  d : Dw H pd pr
  B : BufAt CB CR H b h l S
  m : MAt H pm r S' x
  n1 : l ≠ r
  n2 : l ≠ pr
section
variable {CB CR : PySem.Addr} {H H' : Hp} {pd pr b h l pm r h' l' r' : PySem.Addr} {S S' S2 : Bs} {x x' : Option Bool}
theorem dict_ne {a c : PySem.Addr} {kvs : List (Key × V)} {o : HO} (e : H a = some (.dK kvs)) (e2 : H c = some o) (hn : o ≠ .dK kvs) : a ≠ c := fun z => by
  rw [z, e2] at e
  exact hn (Option.some.inj e)
theorem Jn.draw (J : Jn CB CR H pd pr b h l pm r S S' x) (g : Go pd pr H H') : Jn CB CR H' pd pr b h l pm r S S' x := by
  obtain ⟨⟨ds, n, z, ed, er⟩, B, m, n1, n2⟩ := J
  obtain ⟨⟨dx, eb⟩, ⟨dx1, eh⟩, ws, el, _⟩ := id B
  obtain ⟨em, ws2, e2, _⟩ := id m
  refine ⟨g.2.1, B.keep g.2.2 (fun o e => g.1 _ _ e ?_) (fun o e => g.1 _ _ e ?_) (fun o e => g.1 _ _ e ?_), m.keep g.2.2 (fun o e => g.1 _ _ e ?_) (fun o e => g.1 _ _ e ?_), n1, n2⟩
  · exact (dict_ne ed eb nofun).symm
  · exact (dict_ne ed eh nofun).symm
  · exact (dict_ne ed el nofun).symm
  · refine (dict_ne ed em fun q => ?_).symm
    injection q with q
    unfold mkv dd at q
    injection q with q _
    injection q with q _
    exact absurd q (by decide)
  · exact (dict_ne ed e2 nofun).symm
theorem Jn.buf (J : Jn CB CR H pd pr b h l pm r S S' x) (f : Fr [b, h, l] H H') (B' : BufAt CB CR H' b h' l' S2) (hl : l' = l ∨ H l' = none) : Jn CB CR H' pd pr b h' l' pm r S2 S' x := by
  obtain ⟨⟨ds, n, z, ed, er⟩, B, m, n1, n2⟩ := J
  have k := B.keepT f
  obtain ⟨⟨dx, eb⟩, ⟨dx1, eh⟩, ws, el, _⟩ := id B
  obtain ⟨em, ws2, e2, _⟩ := id m
  have kd : ∀ {a : PySem.Addr} {kvs : List (Key × V)}, H a = some (.dK kvs) → a ∉ [b, h, l] := fun {a} {kvs} e q => by
    simp only [List.mem_cons, List.not_mem_nil, or_false] at q
    rcases q with rfl | rfl | rfl
    · rw [eb] at e; cases e
    · rw [eh] at e; cases e
    · rw [el] at e; cases e
  have kl : ∀ {a : PySem.Addr} {xs : List V}, H a = some (.lst xs) → l ≠ a → a ∉ [b, h, l] := fun {a} {xs} e ne q => by
    simp only [List.mem_cons, List.not_mem_nil, or_false] at q
    rcases q with rfl | rfl | rfl
    · rw [eb] at e; cases e
    · rw [eh] at e; cases e
    · exact ne rfl
  refine ⟨⟨ds, n, z, f _ _ ed (kd ed), f _ _ er (kl er n2)⟩, B', m.keep k (fun o e => f _ _ e (kd em)) (fun o e => f _ _ e (kl e2 n1)), ?_, ?_⟩
  · rcases hl with rfl | hl
    · exact n1
    · exact fun z => by rw [z, e2] at hl; cases hl
  · rcases hl with rfl | hl
    · exact n2
    · exact fun z => by rw [z, er] at hl; cases hl
theorem Jn.law (J : Jn CB CR H pd pr b h l pm r S S' x) (v : R.Mv pm H H') (m' : MAt H' pm r' S2 x') (hr : r' = r ∨ H r' = none) : Jn CB CR H' pd pr b h l pm r' S S2 x' := by
  obtain ⟨⟨ds, n, z, ed, er⟩, B, m, n1, n2⟩ := J
  have k := m.keepT v
  obtain ⟨⟨dx, eb⟩, ⟨dx1, eh⟩, ws, el, _⟩ := id B
  obtain ⟨em, ws2, e2, _⟩ := id m
  have nd : pd ≠ pm := dict_ne ed em fun q => by
    injection q with q
    unfold mkv dd at q
    injection q with q _
    injection q with q _
    exact absurd q (by decide)
  refine ⟨⟨ds, n, z, v _ _ ed nd, v _ _ er (dict_ne em er nofun).symm⟩, B.keep k (fun o e => v _ _ e (dict_ne em eb nofun).symm) (fun o e => v _ _ e (dict_ne em eh nofun).symm) (fun o e => v _ _ e (dict_ne em el nofun).symm), m', ?_, n2⟩
  rcases hr with rfl | hr
  · exact n1
  · exact fun z => by rw [← z, el] at hr; cases hr
/-- another buffer stands apart -/
theorem Jn.apart (J : Jn CB CR H pd pr b h l pm r S S' x) {b2 h2 l2 : PySem.Addr} {S3 : Bs} (B2 : BufAt CB CR H b2 h2 l2 S3) (ap : ∀ c ∈ [b2, h2, l2], c ∉ [b, h, l]) (f : Fr [pd, b, h, l, pm] H H') (k : KeepT H H') : BufAt CB CR H' b2 h2 l2 S3 := by
  obtain ⟨⟨ds, n, z, ed, er⟩, B, m, n1, n2⟩ := J
  obtain ⟨⟨dx, eb⟩, ⟨dx1, eh⟩, ws, el, _⟩ := id B2
  obtain ⟨em, ws2, e2, _⟩ := id m
  have go : ∀ {c : PySem.Addr} {o : HO}, H c = some o → (∀ kvs, o ≠ .dK kvs) → c ∉ [b, h, l] → ∀ o, H c = some o → H' c = some o := fun {c} {o} e hn ap o' e' => f _ _ e' fun q => by
    simp only [List.mem_cons, List.not_mem_nil, or_false] at q ap
    rcases q with rfl | rfl | rfl | rfl | rfl
    · rw [ed] at e; exact hn _ (Option.some.inj e).symm
    · exact ap (.inl rfl)
    · exact ap (.inr (.inl rfl))
    · exact ap (.inr (.inr rfl))
    · rw [em] at e; exact hn _ (Option.some.inj e).symm
  exact B2.keep k (go eb (fun _ => nofun) (ap _ (by simp))) (go eh (fun _ => nofun) (ap _ (by simp))) (go el (fun _ => nofun) (ap _ (by simp)))
end
/-- what a deed does: the same on both sides -/
def spDeed22 (CB CR : PySem.Addr) : Sp := fun vs H Q _ => ∃ (pd pr b h l pm r : PySem.Addr) (S : Bs), vs = [.ref pd, .ref b, .ref pm] ∧ Jn CB CR H pd pr b h l pm r S S (some S.rd) ∧ S.ok ∧ S.L.length ≤ 4000 ∧
  ∀ H' h' l' r' S', Jn CB CR H' pd pr b h' l' pm r' S' S' (some S'.rd) → S'.ok → S'.L.length ≤ S.L.length + 6 → Fr [pd, b, h, l, pm] H H' → KeepT H H' → (h' = h ∨ H h' = none) → (l' = l ∨ H l' = none) → Q (.bl true) H'
end BF
end
section
/-! things side by side, each with its own addresses -/
namespace BF
open PySem PySem.Spec PyProof.Rows L2 MM
structure Ob where
  fp : List PySem.Addr
  P : Hp → Prop
  nt : ∀ H, P H → ∀ a ∈ fp, ∃ u, H a = some u ∧ ∀ xs, u ≠ .tup xs
  st : ∀ H H', P H → KeepT H H' → (∀ a ∈ fp, ∀ u, H a = some u → H' a = some u) → P H'
def Sep (H : Hp) (os : List Ob) : Prop := (∀ o ∈ os, o.P H) ∧ os.Pairwise fun o o' => ∀ a ∈ o.fp, a ∉ o'.fp
section
variable {H H' : Hp} {o o' : Ob} {pre post os : List Ob}
theorem Sep.keepT (p : o.P H) (f : Fr o.fp H H') : KeepT H H' := f.keepT fun a ha xs e => by
  obtain ⟨u, e1, e2⟩ := o.nt H p a ha
  rw [e1] at e
  exact e2 xs (Option.some.inj e)
theorem Sep.same (s : Sep H os) (h : Same H H') : Sep H' os := ⟨fun o ho => o.st H H' (s.1 o ho) (KeepT.of h) fun _ _ _ e => h _ _ e, s.2⟩
theorem Sep.get (s : Sep H os) (h : o ∈ os) : o.P H := s.1 o h
theorem Sep.apart (s : Sep H (pre ++ o :: post)) : ∀ p ∈ pre ++ post, ∀ a ∈ p.fp, a ∉ o.fp := by
  obtain ⟨_, h⟩ := s
  rw [List.pairwise_append] at h
  obtain ⟨_, h2, h3⟩ := h
  rw [List.pairwise_cons] at h2
  intro p hp a ha hb
  rcases List.mem_append.mp hp with z | z
  · exact h3 p z o List.mem_cons_self a ha hb
  · exact h2.1 p z a hb ha
/-- one of them changes -/
theorem Sep.upd (s : Sep H (pre ++ o :: post)) (f : Fr o.fp H H') (p : o'.P H') (hf : ∀ a ∈ o'.fp, a ∈ o.fp ∨ H a = none) : Sep H' (pre ++ o' :: post) := by
  have po : o.P H := s.1 o (List.mem_append_right _ List.mem_cons_self)
  have k : KeepT H H' := Sep.keepT po f
  have ap := s.apart
  have keep : ∀ q ∈ pre ++ post, q.P H' := fun q hq => by
    have hq' : q ∈ pre ++ o :: post := by
      rcases List.mem_append.mp hq with z | z
      · exact List.mem_append_left _ z
      · exact List.mem_append_right _ (List.mem_cons_of_mem _ z)
    exact q.st H H' (s.1 q hq') k fun a ha u e => f a u e (ap q hq a ha)
  have fresh : ∀ q ∈ pre ++ post, ∀ a ∈ q.fp, a ∉ o'.fp := fun q hq a ha hb => by
    rcases hf a hb with z | z
    · exact ap q hq a ha z
    · have hq' : q ∈ pre ++ o :: post := by
        rcases List.mem_append.mp hq with z | z
        · exact List.mem_append_left _ z
        · exact List.mem_append_right _ (List.mem_cons_of_mem _ z)
      obtain ⟨u, e, _⟩ := q.nt H (s.1 q hq') a ha
      rw [z] at e
      cases e
  refine ⟨fun q hq => ?_, ?_⟩
  · rcases List.mem_append.mp hq with z | z
    · exact keep q (List.mem_append_left _ z)
    · rcases List.mem_cons.mp z with z | z
      · rw [z]; exact p
      · exact keep q (List.mem_append_right _ z)
  · have h := s.2
    rw [List.pairwise_append, List.pairwise_cons] at h ⊢
    refine ⟨h.1, ⟨fun q hq a ha hb => fresh q (List.mem_append_right _ hq) a hb ha, h.2.1.2⟩, fun q hq r hr => ?_⟩
    rcases List.mem_cons.mp hr with z | z
    · subst z
      exact fun a ha hb => fresh q (List.mem_append_left _ hq) a ha hb
    · exact h.2.2 q hq r (List.mem_cons_of_mem _ z)
theorem Sep.add (s : Sep H os) (h : Same H H') (p : o.P H') (hf : ∀ a ∈ o.fp, H a = none) : Sep H' (o :: os) := by
  have s' := s.same h
  refine ⟨fun q hq => ?_, List.pairwise_cons.mpr ⟨fun q hq a ha hb => ?_, s'.2⟩⟩
  · rcases List.mem_cons.mp hq with z | z
    · rw [z]; exact p
    · exact s'.1 q z
  · obtain ⟨u, e, _⟩ := q.nt H (s.1 q hq) a hb
    rw [hf a ha] at e
    cases e
theorem Sep.perm {os' : List Ob} (s : Sep H os) (h : os.Perm os') : Sep H os' :=
  ⟨fun o ho => s.1 o (h.mem_iff.mpr ho), (h.pairwise_iff (fun {o o'} (r : ∀ a ∈ o.fp, a ∉ o'.fp) a ha hb => r a hb ha)).mp s.2⟩
theorem Sep.drop (s : Sep H (pre ++ o :: post)) : Sep H (pre ++ post) :=
  ⟨fun q hq => s.1 q (by
    rcases List.mem_append.mp hq with z | z
    · exact List.mem_append_left _ z
    · exact List.mem_append_right _ (List.mem_cons_of_mem _ z)), by
    have h := s.2
    rw [List.pairwise_append, List.pairwise_cons] at h
    rw [List.pairwise_append]
    exact ⟨h.1, h.2.1.2, fun q hq r hr => h.2.2 q hq r (List.mem_cons_of_mem _ hr)⟩⟩
end
/-- the draws -/
def obD (p r : PySem.Addr) : Ob where
  fp := [p, r]
  P := fun H => Dw H p r
  nt := fun H ⟨ds, n, z, e, e2⟩ a ha => by
    simp only [List.mem_cons, List.not_mem_nil, or_false] at ha
    rcases ha with rfl | rfl
    · exact ⟨_, e, fun _ => nofun⟩
    · exact ⟨_, e2, fun _ => nofun⟩
  st := fun H H' d _ k => d.keep (fun o e => k p (by simp) o e) (fun o e => k r (by simp) o e)
/-- a buffer -/
def obB (CB CR b h l : PySem.Addr) (S : Bs) : Ob where
  fp := [b, h, l]
  P := fun H => BufAt CB CR H b h l S
  nt := fun H B a ha => by
    obtain ⟨⟨dx, eb⟩, ⟨dx1, eh⟩, ws, el, _⟩ := B
    simp only [List.mem_cons, List.not_mem_nil, or_false] at ha
    rcases ha with rfl | rfl | rfl
    · exact ⟨_, eb, fun _ => nofun⟩
    · exact ⟨_, eh, fun _ => nofun⟩
    · exact ⟨_, el, fun _ => nofun⟩
  st := fun H H' B kt k => B.keep kt (fun o e => k b (by simp) o e) (fun o e => k h (by simp) o e) (fun o e => k l (by simp) o e)
/-- a law's own buffer -/
def obM (pm r : PySem.Addr) (S : Bs) (x : Option Bool) : Ob where
  fp := [pm, r]
  P := fun H => MAt H pm r S x
  nt := fun H m a ha => by
    obtain ⟨e, ws, e2, _⟩ := m
    simp only [List.mem_cons, List.not_mem_nil, or_false] at ha
    rcases ha with rfl | rfl
    · exact ⟨_, e, fun _ => nofun⟩
    · exact ⟨_, e2, fun _ => nofun⟩
  st := fun H H' m kt k => m.keep kt (fun o e => k pm (by simp) o e) (fun o e => k r (by simp) o e)
/-- speculations: how many places, their room, lost, given -/
structure Sq where
  places : Int
  room : Int
  lost : Int
  given : Int
def fsS (wt : PySem.Addr) (P : Sq) : List (Str × V) := [("places", .int P.places), ("room", .int P.room), ("lost", .int P.lost), ("given", .int P.given), ("waiting", .ref wt)]
def SpAt (CS : PySem.Addr) (H : Hp) (sp wt : PySem.Addr) (P : Sq) (kvs : List (Key × V)) : Prop := (∃ dx, H sp = some (.ins CS dx (fsS wt P))) ∧ H wt = some (.dK kvs)
def obS (CS sp wt : PySem.Addr) (P : Sq) (kvs : List (Key × V)) : Ob where
  fp := [sp, wt]
  P := fun H => SpAt CS H sp wt P kvs
  nt := fun H m a ha => by
    obtain ⟨⟨dx, e⟩, e2⟩ := m
    simp only [List.mem_cons, List.not_mem_nil, or_false] at ha
    rcases ha with rfl | rfl
    · exact ⟨_, e, fun _ => nofun⟩
    · exact ⟨_, e2, fun _ => nofun⟩
  st := fun H H' ⟨⟨dx, e⟩, e2⟩ kt k => ⟨⟨dx, k sp (by simp) _ e⟩, k wt (by simp) _ e2⟩
/-- a law's own speculations -/
def sdv (so : PySem.Addr) (P : Sq) : List (Key × V) := [(.inr "places", .int P.places), (.inr "room", .int P.room), (.inr "open", .ref so), (.inr "last", .int P.given), (.inr "lost", .int P.lost)]
def StAt (H : Hp) (sd so : PySem.Addr) (P : Sq) (kvs : List (Key × V)) : Prop := H sd = some (.dK (sdv so P)) ∧ H so = some (.dK kvs) ∧ sd ≠ so
def obT (sd so : PySem.Addr) (P : Sq) (kvs : List (Key × V)) : Ob where
  fp := [sd, so]
  P := fun H => StAt H sd so P kvs
  nt := fun H m a ha => by
    obtain ⟨e, e2, _⟩ := m
    simp only [List.mem_cons, List.not_mem_nil, or_false] at ha
    rcases ha with rfl | rfl
    · exact ⟨_, e, fun _ => nofun⟩
    · exact ⟨_, e2, fun _ => nofun⟩
  st := fun H H' ⟨e, e2, n⟩ kt k => ⟨k sd (by simp) _ e, k so (by simp) _ e2, n⟩
/-- the open ones -/
structure En where
  n : Int
  b : PySem.Addr
  h : PySem.Addr
  l : PySem.Addr
  pm : PySem.Addr
  r : PySem.Addr
  S : Bs
def kvB (es : List En) : List (Key × V) := es.map fun e => (.inl e.n, .ref e.b)
def kvM (es : List En) : List (Key × V) := es.map fun e => (.inl e.n, .ref e.pm)
def asc (es : List En) : Prop := es.Pairwise fun a b => a.n < b.n
theorem valV_at {f : En → V} {pre post : List En} {e : En} (h : asc (pre ++ e :: post)) : valV ((pre ++ e :: post).map fun e => ((.inl e.n : Key), f e)) (.inl e.n) = some (f e) := by
  induction pre with
  | nil => exact valV_pos rfl
  | cons a pre ih =>
    have h' := List.pairwise_cons.mp h
    have hn : a.n < e.n := h'.1 e (List.mem_append_right _ List.mem_cons_self)
    rw [List.cons_append, List.map_cons, valV_neg (by show ¬ (Sum.inl a.n : Key) = .inl e.n; intro z; injection z with z; omega)]
    exact ih h'.2
theorem valV_none {f : En → V} {n : Int} : ∀ {es : List En}, (∀ e ∈ es, e.n ≠ n) → valV (es.map fun e => ((.inl e.n : Key), f e)) (.inl n) = none
  | [], _ => rfl
  | a :: es, h => by
    rw [List.map_cons, valV_neg (by show ¬ (Sum.inl a.n : Key) = .inl n; intro z; injection z with z; exact h a List.mem_cons_self z)]
    exact valV_none fun e he => h e (List.mem_cons_of_mem _ he)
theorem en_cases {n : Int} (es : List En) : (∀ e ∈ es, e.n ≠ n) ∨ ∃ pre e post, es = pre ++ e :: post ∧ e.n = n := by
  induction es with
  | nil => exact .inl fun _ h => nomatch h
  | cons a es ih =>
    by_cases z : a.n = n
    · exact .inr ⟨[], a, es, rfl, z⟩
    · rcases ih with h | ⟨pre, e, post, rfl, h⟩
      · exact .inl fun e he => by
          rcases List.mem_cons.mp he with y | y
          · rw [y]; exact z
          · exact h e y
      · exact .inr ⟨a :: pre, e, post, rfl, h⟩
theorem dropK_at {f : En → V} {pre post : List En} {e : En} (h : asc (pre ++ e :: post)) : dropK ((pre ++ e :: post).map fun e => ((.inl e.n : Key), f e)) (.inl e.n) = (pre ++ post).map fun e => ((.inl e.n : Key), f e) := by
  have h' := List.pairwise_append.mp h
  have h2 := List.pairwise_cons.mp h'.2.1
  have id' : ∀ {l : List En}, (∀ x ∈ l, x.n ≠ e.n) → (l.map fun e => ((.inl e.n : Key), f e)).filter (fun kv => decide (kv.1 ≠ .inl e.n)) = l.map fun e => ((.inl e.n : Key), f e) := by
    intro l hl
    rw [List.filter_eq_self]
    intro kv hk
    obtain ⟨x, hx, rfl⟩ := List.mem_map.mp hk
    rw [decide_eq_true_iff]
    intro z
    injection z with z
    exact hl x hx z
  unfold dropK
  rw [List.map_append, List.map_append, List.map_cons, List.filter_append, List.filter_cons_of_neg (by simp), id' fun x hx => by
    have := h'.2.2 x hx e List.mem_cons_self
    omega, id' fun x hx => by
    have := h2.1 x hx
    omega]
theorem putK_new {f : En → V} {n : Int} {v : V} {es : List En} (h : ∀ e ∈ es, e.n ≠ n) : putK (es.map fun e => ((.inl e.n : Key), f e)) (.inl n) v = (es.map fun e => ((.inl e.n : Key), f e)) ++ [(.inl n, v)] := by
  unfold putK
  rw [if_neg]
  rw [valV_any, valV_none h]
  exact Bool.false_ne_true
theorem asc_drop {pre post : List En} {e : En} (h : asc (pre ++ e :: post)) : asc (pre ++ post) := by
  have h' := List.pairwise_append.mp h
  have h2 := List.pairwise_cons.mp h'.2.1
  exact List.pairwise_append.mpr ⟨h'.1, h2.2, fun a ha b hb => h'.2.2 a ha b (List.mem_cons_of_mem _ hb)⟩
theorem asc_chg {pre post : List En} {e e' : En} (h : asc (pre ++ e :: post)) (hn : e'.n = e.n) : asc (pre ++ e' :: post) := by
  have h' := List.pairwise_append.mp h
  have h2 := List.pairwise_cons.mp h'.2.1
  refine List.pairwise_append.mpr ⟨h'.1, List.pairwise_cons.mpr ⟨fun b hb => by rw [hn]; exact h2.1 b hb, h2.2⟩, fun a ha b hb => ?_⟩
  rcases List.mem_cons.mp hb with z | z
  · rw [z, hn]; exact h'.2.2 a ha e List.mem_cons_self
  · exact h'.2.2 a ha b (List.mem_cons_of_mem _ z)
theorem asc_new {es : List En} {e : En} (h : asc es) (hn : ∀ x ∈ es, x.n < e.n) : asc (es ++ [e]) :=
  List.pairwise_append.mpr ⟨h, List.pairwise_singleton _ _, fun a ha b hb => by
    rw [List.mem_singleton] at hb
    rw [hb]; exact hn a ha⟩
def obE (CB CR : PySem.Addr) (es : List En) : List Ob := es.flatMap fun e => [obB CB CR e.b e.h e.l e.S, obM e.pm e.r e.S none]
theorem obE_app {CB CR : PySem.Addr} {es fs : List En} : obE CB CR (es ++ fs) = obE CB CR es ++ obE CB CR fs := List.flatMap_append
theorem obE_cons {CB CR : PySem.Addr} {e : En} {fs : List En} : obE CB CR (e :: fs) = obB CB CR e.b e.h e.l e.S :: obM e.pm e.r e.S none :: obE CB CR fs := rfl
/-! promises of speculations -/
section
variable (CB CR CS : PySem.Addr)
def spSNew : Sp := fun vs H Q _ => ∃ (sp dx : PySem.Addr) (pl rm : Int), vs = [.ref sp, .int pl, .int rm] ∧ H sp = some (.ins CS dx []) ∧ ∀ H' wt, H wt = none → Fr [sp] H H' → SpAt CS H' sp wt ⟨pl, rm, 0, 0⟩ [] → Q .non H'
def spBegin : Sp := fun vs H Q _ => ∃ (sp wt : PySem.Addr) (P : Sq) (kvs : List (Key × V)), vs = [.ref sp] ∧ SpAt CS H sp wt P kvs ∧ kvs.length ≤ 100 ∧ (P.places ≤ kvs.length → Q (.int 0) H) ∧
  (kvs.length < P.places → ∀ H1 H2 H' b h l, Fr [sp, wt] H H1 → H1 b = none → H1 h = none → H1 l = none → SpAt CS H1 sp wt { P with given := P.given + 1 } kvs → Same H1 H2 → BufAt CB CR H2 b h l ⟨P.room, "hold", 0, 0, false, []⟩ → Fr [sp, wt] H2 H' →
    SpAt CS H' sp wt { P with given := P.given + 1 } (putK kvs (.inl (P.given + 1)) (.ref b)) → Q (.int (P.given + 1)) H')
def spIsOpen : Sp := fun vs H Q _ => ∃ (sp wt : PySem.Addr) (P : Sq) (kvs : List (Key × V)) (n : Int), vs = [.ref sp, .int n] ∧ SpAt CS H sp wt P kvs ∧ Q (.bl (valV kvs (.inl n)).isSome) H
def spSAdd : Sp := fun vs H Q _ => ∃ (sp wt a b h l : PySem.Addr) (P : Sq) (kvs : List (Key × V)) (n : Int) (S : Bs) (it : It), vs = [.ref sp, .int n, .ref a] ∧ SpAt CS H sp wt P kvs ∧ valV kvs (.inl n) = some (.ref b) ∧ BufAt CB CR H b h l S ∧ (∀ c ∈ [sp, wt], c ∉ [b, h, l]) ∧ S.ok ∧ S.L.length ≤ 5000 ∧ ItAt H a it ∧ it.ok ∧
  ∀ H1 H', Fr [b, h, l] H H1 → BufAt CB CR H1 b h l (S.addB [it]).1 → Fr [sp, wt] H1 H' → SpAt CS H' sp wt { P with lost := P.lost + (if (S.addB [it]).2 = true then 0 else 1) } kvs → Q (.bl (S.addB [it]).2) H'
def spSHeld : Sp := fun vs H Q _ => ∃ (sp wt b h l : PySem.Addr) (P : Sq) (kvs : List (Key × V)) (n : Int) (S : Bs), vs = [.ref sp, .int n] ∧ SpAt CS H sp wt P kvs ∧ valV kvs (.inl n) = some (.ref b) ∧ BufAt CB CR H b h l S ∧
  ∀ H' p ws, Same H H' → H' p = some (.tup ws) → Its H' ws S.L → Q (.ref p) H'
def spCommit : Sp := fun vs H Q _ => ∃ (sp wt b h l b0 h0 l0 : PySem.Addr) (P : Sq) (kvs : List (Key × V)) (n : Int) (S S0 : Bs), vs = [.ref sp, .int n, .ref b0] ∧ SpAt CS H sp wt P kvs ∧ valV kvs (.inl n) = some (.ref b) ∧ BufAt CB CR H b h l S ∧ BufAt CB CR H b0 h0 l0 S0 ∧
  S.ok ∧ S.L.length ≤ 1000 ∧ S0.ok ∧ S0.L.length ≤ 5000 ∧ ∀ H1 H2 H', Fr [sp, wt] H H1 → SpAt CS H1 sp wt P (dropK kvs (.inl n)) → Same H1 H2 → Fr [b0, h0, l0] H2 H' → BufAt CB CR H' b0 h0 l0 (S0.addB S.L).1 → Q (.bl (S0.addB S.L).2) H'
def spDiscard : Sp := fun vs H Q _ => ∃ (sp wt : PySem.Addr) (P : Sq) (kvs : List (Key × V)) (n : Int), vs = [.ref sp, .int n] ∧ SpAt CS H sp wt P kvs ∧ (valV kvs (.inl n)).isSome = true ∧ ∀ H', Fr [sp, wt] H H' → SpAt CS H' sp wt P (dropK kvs (.inl n)) → Q .non H'
end
end BF
namespace BF
open PySem PySem.Spec PyProof.Rows L2 MM
theorem r_ddel {td ty : TE} {nx bk ct : L2.St → Hp → Prop} {rt : V → Hp → Prop} {σ : L2.St} {H : Hp} (h : td σ H fun x H1 => ty σ H1 fun y H2 => ∃ a kvs k, x = .ref a ∧ H2 a = some (.dK kvs) ∧ y = kV k ∧ (valV kvs k).isSome = true ∧ nx σ (L2.upd H2 a (.dK (dropK kvs k)))) : sDDel td ty ⟨nx, rt, bk, ct⟩ σ H := h
end BF
namespace BF
open PySem PySem.Spec PyProof.Rows L2 MM
/-- all that a run has -/
structure Pl where
  pd : PySem.Addr
  pr : PySem.Addr
  sp : PySem.Addr
  wt : PySem.Addr
  sd : PySem.Addr
  so : PySem.Addr
  b0 : PySem.Addr
  h0 : PySem.Addr
  l0 : PySem.Addr
  pm0 : PySem.Addr
structure Wo (CB CR CS : PySem.Addr) (H : Hp) (A : Pl) (r0 : PySem.Addr) (P : Sq) (S0 : Bs) (es : List En) : Prop where
  sep : Sep H (obD A.pd A.pr :: obS CS A.sp A.wt P (kvB es) :: obT A.sd A.so P (kvM es) :: obB CB CR A.b0 A.h0 A.l0 S0 :: obM A.pm0 r0 S0 none :: obE CB CR es)
  asc : asc es
  rng : ∀ e ∈ es, 1 ≤ e.n ∧ e.n ≤ P.given
  g0 : 0 ≤ P.given
  r0 : 0 ≤ P.room
  ok0 : S0.ok
  ok : ∀ e ∈ es, e.S.ok
section
variable {CB CR CS : PySem.Addr} {H H' : Hp} {A : Pl} {r0 : PySem.Addr} {P : Sq} {S0 : Bs} {es : List En}
theorem Wo.d (W : Wo CB CR CS H A r0 P S0 es) : Dw H A.pd A.pr := W.sep.1 (obD A.pd A.pr) (by simp)
theorem Wo.s (W : Wo CB CR CS H A r0 P S0 es) : SpAt CS H A.sp A.wt P (kvB es) := W.sep.1 (obS CS A.sp A.wt P (kvB es)) (by simp)
theorem Wo.t (W : Wo CB CR CS H A r0 P S0 es) : StAt H A.sd A.so P (kvM es) := W.sep.1 (obT A.sd A.so P (kvM es)) (by simp)
theorem Wo.b (W : Wo CB CR CS H A r0 P S0 es) : BufAt CB CR H A.b0 A.h0 A.l0 S0 := W.sep.1 (obB CB CR A.b0 A.h0 A.l0 S0) (by simp)
theorem Wo.m (W : Wo CB CR CS H A r0 P S0 es) : MAt H A.pm0 r0 S0 none := W.sep.1 (obM A.pm0 r0 S0 none) (by simp)
theorem Wo.same (W : Wo CB CR CS H A r0 P S0 es) (s : Same H H') : Wo CB CR CS H' A r0 P S0 es := ⟨W.sep.same s, W.asc, W.rng, W.g0, W.r0, W.ok0, W.ok⟩
theorem Wo.draw (W : Wo CB CR CS H A r0 P S0 es) (g : Go A.pd A.pr H H') : Wo CB CR CS H' A r0 P S0 es :=
  ⟨Sep.upd (pre := []) (o := obD A.pd A.pr) (o' := obD A.pd A.pr) W.sep (Fr.mv g.1 (by simp [obD])) g.2.1 fun _ h => .inl h, W.asc, W.rng, W.g0, W.r0, W.ok0, W.ok⟩
theorem en_mem {pre post : List En} {e : En} : obB CB CR e.b e.h e.l e.S ∈ obE CB CR (pre ++ e :: post) ∧ obM e.pm e.r e.S none ∈ obE CB CR (pre ++ e :: post) := by
  rw [obE_app, obE_cons]
  exact ⟨List.mem_append_right _ List.mem_cons_self, List.mem_append_right _ (List.mem_cons_of_mem _ List.mem_cons_self)⟩
theorem Wo.eb {pre post : List En} {e : En} (W : Wo CB CR CS H A r0 P S0 (pre ++ e :: post)) : BufAt CB CR H e.b e.h e.l e.S := W.sep.1 (obB CB CR e.b e.h e.l e.S) (by have := (en_mem (CB := CB) (CR := CR) (pre := pre) (post := post) (e := e)).1; simp [this])
theorem Wo.em {pre post : List En} {e : En} (W : Wo CB CR CS H A r0 P S0 (pre ++ e :: post)) : MAt H e.pm e.r e.S none := W.sep.1 (obM e.pm e.r e.S none) (by have := (en_mem (CB := CB) (CR := CR) (pre := pre) (post := post) (e := e)).2; simp [this])
theorem Wo.vB {pre post : List En} {e : En} (W : Wo CB CR CS H A r0 P S0 (pre ++ e :: post)) : valV (kvB (pre ++ e :: post)) (.inl e.n) = some (.ref e.b) := valV_at (f := fun e => .ref e.b) W.asc
theorem Wo.vM {pre post : List En} {e : En} (W : Wo CB CR CS H A r0 P S0 (pre ++ e :: post)) : valV (kvM (pre ++ e :: post)) (.inl e.n) = some (.ref e.pm) := valV_at (f := fun e => .ref e.pm) W.asc
theorem kv_len : (kvB es).length = es.length ∧ (kvM es).length = es.length := by
  unfold kvB kvM
  rw [List.length_map, List.length_map]
  exact ⟨rfl, rfl⟩
end
section
variable (CB CR CS : PySem.Addr)
def spLBegin : Sp := fun vs H Q _ => ∃ (A : Pl) (r0 : PySem.Addr) (P : Sq) (S0 : Bs) (es : List En), vs = [.ref A.sp, .ref A.sd] ∧ Wo CB CR CS H A r0 P S0 es ∧ es.length ≤ 60 ∧
  ∀ H' P' es', Wo CB CR CS H' A r0 P' S0 es' → es'.length ≤ es.length + 1 → P'.given ≤ P.given + 1 → (∀ e ∈ es', e ∈ es ∨ e.S.L = []) → Q (.bl true) H'
def spDeed24 : Sp := fun vs H Q _ => ∃ (A : Pl) (r0 : PySem.Addr) (P : Sq) (S0 : Bs) (es : List En) (k : Nat), vs = [.ref A.pd, .ref A.sp, .ref A.sd, .ref A.b0, .ref A.pm0] ∧ Wo CB CR CS H A r0 P S0 es ∧ es.length ≤ k ∧ S0.L.length ≤ 101 * k ∧ (∀ e ∈ es, e.S.L.length ≤ 2 * k) ∧ k < 50 ∧ P.given ≤ k ∧
  ∀ H' r0' P' S0' es', Wo CB CR CS H' A r0' P' S0' es' → es'.length ≤ k + 1 → P'.given ≤ (k : Int) + 1 → S0'.L.length ≤ 101 * (k + 1) → (∀ e ∈ es', e.S.L.length ≤ 2 * (k + 1)) → Q (.bl true) H'
def spAlike24 : Sp := fun vs H Q _ => ∃ (A : Pl) (r0 : PySem.Addr) (P : Sq) (S0 : Bs) (es : List En), vs = [.ref A.sp, .ref A.sd, .ref A.b0, .ref A.pm0] ∧ Wo CB CR CS H A r0 P S0 es ∧ P.given ≤ 1000000 ∧ ∀ H', Wo CB CR CS H' A r0 P S0 es → Q (.bl true) H'
end
theorem put_last {so : PySem.Addr} {P : Sq} {n : Int} : putK (sdv so P) (Sum.inr "last" : Key) (V.int n) = sdv so { P with given := n } := rfl
theorem put_slost {so : PySem.Addr} {P : Sq} {n : Int} : putK (sdv so P) (Sum.inr "lost" : Key) (V.int n) = sdv so { P with lost := n } := rfl
end BF
namespace BF
open PySem PySem.Spec PyProof.Rows L2 MM
section
variable {H H' : Hp} {os : List Ob} {o : Ob} {p : PySem.Addr}
theorem Sep.none (s : Sep H os) (hp : H p = none) : ∀ q ∈ os, p ∉ q.fp := fun q hq hb => by
  obtain ⟨u, e, _⟩ := q.nt H (s.1 q hq) p hb
  rw [hp] at e
  cases e
/-- p is none of theirs -/
theorem Sep.put (s : Sep H os) (hn : ∀ q ∈ os, p ∉ q.fp) {u u' : HO} (e : H p = some u) (ht : ∀ xs, u ≠ .tup xs) : Sep (L2.upd H p u') os :=
  ⟨fun q hq => q.st H _ (s.1 q hq) (KeepT.upd e ht) fun a ha v ev => by rw [upd_ne (fun z => by rw [z] at ha; exact hn q hq ha)]; exact ev, s.2⟩
theorem Sep.cons (s : Sep H os) (h : o.P H) (hd : ∀ a ∈ o.fp, ∀ q ∈ os, a ∉ q.fp) : Sep H (o :: os) :=
  ⟨fun q hq => by
    rcases List.mem_cons.mp hq with z | z
    · rw [z]; exact h
    · exact s.1 q z, List.pairwise_cons.mpr ⟨fun q hq a ha => hd a ha q hq, s.2⟩⟩
theorem Sep.one (h : o.P H) : Sep H [o] := ⟨fun q hq => by rw [List.mem_singleton] at hq; rw [hq]; exact h, List.pairwise_singleton _ _⟩
theorem r_neB {Q : VK} {a b : Bool} (h : Q (.bl (!decide (a = b))) H) : rNe (.bl a) (.bl b) H Q := ⟨rfl, by
  rw [show decide (V.bl a = V.bl b) = decide (a = b) from by simp]; exact h⟩
theorem isi_bool {K : PySem.W.Frag} {b : Bool} : R.CIsi K H (.bl b) (.ty "bool") true := ⟨_, _, .ty _, .base (.bl b), kit_ty (by decide +kernel)⟩
end
section
variable {tb : TS} {g : TG} {nx bk ct : L2.St → Hp → Prop} {rt : V → Hp → Prop} {σ : L2.St} {H : Hp} {tr : TA}
theorem r_rng2 (h : tr σ H fun vs H1 => ∃ i j : Int, vs = [.int i, .int j] ∧ (-(2 ^ 62) ≤ i ∧ i < 2 ^ 62 ∧ -(2 ^ 62) ≤ j ∧ j < 2 ^ 62) ∧ FW (Itr i (j - i).toNat) g tb nx rt σ H1) : tFor (iRng2 tr) g tb ⟨nx, rt, bk, ct⟩ σ H := h
theorem for_rng2 {lo : Int} {n : Nat} (Pv : Nat → L2.St → Hp → Prop) (h0 : Pv 0 σ H) (hs : ∀ (i : Nat) σ H, i < n → Pv i σ H → g (.int (lo + (i : Int))) σ H fun σ2 H2 => tb ⟨Pv (i + 1), rt, nx, Pv (i + 1)⟩ σ2 H2) (hd : ∀ σ H, Pv n σ H → nx σ H) : FW (Itr lo n) g tb nx rt σ H := by
  refine for_it (D := ⟨nx, rt, fun _ _ => False, fun _ _ => False⟩) (walk_range (lo := lo) (n := n)) Pv h0 (fun _ _ _ _ _ => trivial) (fun i x σ H H' hi p y => ?_) hd
  obtain ⟨rfl, rfl⟩ := y
  exact hs i σ _ hi p
end
end BF
theorem BF.perm5 {α : Type} {a b c d e : α} : List.Perm [a, b, c, d, e] [e, b, d, a, c] := by
  have h1 : List.Perm [a, b, c, d, e] [e, a, b, c, d] := List.perm_append_comm (l₁ := [a, b, c, d]) (l₂ := [e])
  refine h1.trans (List.Perm.cons e ?_)
  refine (List.Perm.swap b a [c, d]).trans (List.Perm.cons b ?_)
  exact List.perm_append_comm (l₁ := [a, c]) (l₂ := [d])
end
section
/-! sorted(rows): rows that begin with three ints, which set them apart; whatever stands behind -/
namespace TV
open PySem PySem.Spec PyProof.Rows L2 Srt SrtO
abbrev K3 := Int × Int × Int
def lex3 (p q : K3) : Bool := if p.1 = q.1 then lexB p.2 q.2 else decide (p.1 < q.1)
theorem lex3_iff {p q : K3} : lex3 p q = true ↔ p.1 < q.1 ∨ (p.1 = q.1 ∧ (p.2.1 < q.2.1 ∨ (p.2.1 = q.2.1 ∧ p.2.2 < q.2.2))) := by
  unfold lex3
  by_cases e : p.1 = q.1
  · rw [if_pos e, lexB_iff]
    omega
  · rw [if_neg e, decide_eq_true_eq]
    omega
theorem lex3_no {p q : K3} : lex3 p q = false ↔ ¬ (p.1 < q.1 ∨ (p.1 = q.1 ∧ (p.2.1 < q.2.1 ∨ (p.2.1 = q.2.1 ∧ p.2.2 < q.2.2)))) := by
  rw [← lex3_iff]
  cases lex3 p q <;> simp
theorem swo3 {α : Type} (k : α → K3) : Swo fun v u => lex3 (k v) (k u) := by
  refine ⟨fun x y h => ?_, fun x y z h1 h2 => ?_⟩
  · have a := lex3_iff.mp h
    refine lex3_no.mpr ?_
    omega
  · have a := lex3_no.mp h1
    have b := lex3_no.mp h2
    refine lex3_no.mpr ?_
    omega
def IsTri (h : Heap) (v : Value) (x : K3) : Prop := ∃ a o t u w n rest, v = .ref a ∧ h.get? a = some o ∧ o.cls = .type "tuple" ∧ o.data = .seq (Value.int x.1 t :: Value.int x.2.1 u :: Value.int x.2.2 w :: rest).toArray n
theorem IsTri.keeps {h h' : Heap} {v : Value} {x : K3} (p : IsTri h v x) (k : ∀ b o, h.get? b = some o → o.cls = .type "tuple" → h'.get? b = some o) : IsTri h' v x := by
  obtain ⟨a, o, t, u, w, n, rest, e, ho, hc, hd⟩ := p
  exact ⟨a, o, t, u, w, n, rest, e, k _ _ ho hc, hc, hd⟩
section
variable {prog : Program} {w : World} {A : Around} {s : Shared} {b : Bool} {Q : Bool → Shared → Prop}
theorem lex_same : ∀ (l : List Value) (i : Nat), Q false s → PySem.W.KatLex prog w A b false Q (l.zip l) i s
  | [], _, h => PySem.W.kat_nil h
  | v :: l, i, h => PySem.W.kat_cons (SeqAt.EqAt.same v prog w _ _ (PySem.W.kat_go (fun _ => PySem.W.kat_yes (lex_same l (i + 1) h)) fun e => nomatch e))
theorem tri_cmp {vs : List Value} {k : Value → K3} (hp : ∀ v ∈ vs, IsTri s.heap v (k v)) (inj : ∀ v ∈ vs, ∀ u ∈ vs, k v = k u → v = u) : Cmp prog w A s (tuples' true) (fun p => p.1 ∈ vs) (lt2 fun v u => lex3 (k v) (k u)) := by
  intro p q hm hm'
  have h1 := hp _ hm
  have h2 := hp _ hm'
  have hi := inj _ hm _ hm'
  show wpAny (model prog w) A (keyLt' (tuples' true) p.1 q.1) (fun r s' => s' = s ∧ r = lex3 (k p.1) (k q.1)) (fun _ _ => False) s
  by_cases same : k p.1 = k q.1
  · have e := hi same
    have no : lex3 (k p.1) (k q.1) = false := by
      rw [same]
      exact lex3_no.mpr (by omega)
    rw [no, ← e]
    obtain ⟨a, o, t, u, z, n, rest, e1, ho, hc, hd⟩ := h1
    rw [e1]
    refine PySem.W.kat_lt ho hd ho hd ?_
    rw [decide_eq_false (Nat.lt_irrefl _)]
    exact lex_same _ 0 ⟨rfl, rfl⟩
  · generalize k p.1 = x at h1 same ⊢
    generalize k q.1 = y at h2 same ⊢
    obtain ⟨a, o, t, u, z, n, rest, e1, ho, hc, hd⟩ := h1
    obtain ⟨a', o', t', u', z', n', rest', e2, ho', hc', hd'⟩ := h2
    rw [e1, e2]
    refine PySem.W.kat_lt ho hd ho' hd' ?_
    show PySem.W.KatLex prog w A true _ _ ((Value.int x.1 t, Value.int y.1 t') :: (Value.int x.2.1 u, Value.int y.2.1 u') :: (Value.int x.2.2 z, Value.int y.2.2 z') :: rest.zip rest') 0 s
    obtain ⟨x1, x2, x3⟩ := x
    obtain ⟨y1, y2, y3⟩ := y
    unfold lex3 lexB
    refine PySem.W.kat_cons (SeqAt.EqAt.int_int _ t _ t' prog w _ _ ?_)
    refine PySem.W.kat_go (fun g1 => ?_) (fun g1 => ?_)
    · have g1 : x1 = y1 := by simpa using g1
      subst g1
      refine PySem.W.kat_yes (PySem.W.kat_cons (SeqAt.EqAt.int_int _ u _ u' prog w _ _ ?_))
      refine PySem.W.kat_go (fun g2 => ?_) (fun g2 => ?_)
      · have g2 : x2 = y2 := by simpa using g2
        subst g2
        refine PySem.W.kat_yes (PySem.W.kat_cons (SeqAt.EqAt.int_int _ z _ z' prog w _ _ ?_))
        refine PySem.W.kat_go (fun g3 => ?_) (fun g3 => ?_)
        · have g3 : x3 = y3 := by simpa using g3
          subst g3
          exact absurd rfl same
        · refine PySem.W.kat_no (PySem.W.kat_one _ _ (PyProof.Rows.lt_int ?_))
          exact (show s = s ∧ decide (x3 < y3) = _ from ⟨rfl, by simp⟩)
      · have g2 : ¬ x2 = y2 := by simpa using g2
        refine PySem.W.kat_no (PySem.W.kat_one _ _ (PyProof.Rows.lt_int ?_))
        exact (show s = s ∧ decide (x2 < y2) = _ from ⟨rfl, by simp [g2]⟩)
    · have g1 : ¬ x1 = y1 := by simpa using g1
      exact PySem.W.kat_no (oneLt_int ⟨rfl, by simp [g1]⟩)
theorem tri_firsts {h : Heap} {k : Value → K3} : ∀ {vs : List Value}, (∀ v ∈ vs, IsTri h v (k v)) → ∃ fs : List Value, PySem.W.KatTups h vs fs ∧ fs.length = vs.length ∧ ∀ f ∈ fs, ∃ x t, f = Value.int x t
  | [], _ => ⟨[], PySem.W.KatTups.nil, rfl, fun _ hm => by simp at hm⟩
  | v :: vs, hp => by
    obtain ⟨fs, h1, h2, h3⟩ := tri_firsts (vs := vs) fun v' hm => hp v' (List.mem_cons_of_mem _ hm)
    obtain ⟨a, o, t, u, z, n, rest, e, ho, hc, hd⟩ := hp v List.mem_cons_self
    subst e
    refine ⟨.int _ t :: fs, PySem.W.KatTups.cons ho hc hd rfl h1, congrArg (· + 1) h2, fun f hm => ?_⟩
    rcases List.mem_cons.mp hm with e | hm
    · exact ⟨_, t, e⟩
    · exact h3 f hm
theorem tri_sortable {a : Addr} {vs : List Value} {k : Value → K3} (h0 : 0 < vs.length) (hp : ∀ v ∈ vs, IsTri s.heap v (k v)) (inj : ∀ v ∈ vs, ∀ u ∈ vs, k v = k u → v = u) (ha : ∀ o, s.heap.get? a = some o → o.cls ≠ .type "tuple") :
    SortableO prog w A s a vs fun v u => lex3 (k v) (k u) := by
  intro h' keep
  have hp' : ∀ v ∈ vs, IsTri h' v (k v) := fun v hm => (hp v hm).keeps fun b o e c => keep b o (fun z => by subst z; exact ha o e c) e
  obtain ⟨fs, h1, h2, h3⟩ := tri_firsts hp'
  refine ⟨tuples' true, fun Q E hq => ?_, tri_cmp hp' inj⟩
  refine PySem.W.kat_kind (T := .type "int") h1 (by omega) (fun f hm => ?_) (by rfl) ?_
  · obtain ⟨x, t, rfl⟩ := h3 f hm
    exact PySem.W.Looks.now
  · rw [show (Value.type "int" != Value.type "tuple") = true by decide +kernel]
    exact hq
end
end TV
namespace TV
open PySem PySem.Spec PyProof.Rows L2
/-- sorted(rows), any number of them: k says the three ints that a row begins with -/
def rSort3 (K : PySem.W.Frag) : List V → Hp → VK → Prop := fun vs H Q => ∃ (a : PySem.Addr) (xs : List V) (k : V → K3), vs = [V.ref a] ∧ SqL K H a xs ∧ (∀ x ∈ xs, ∃ t rest, x = V.ref t ∧ H t = some (.tup (.int (k x).1 :: .int (k x).2.1 :: .int (k x).2.2 :: rest))) ∧
  (∀ x ∈ xs, ∀ y ∈ xs, k x = k y → x = y) ∧ ∀ ys p, ys.Perm xs → ys.Pairwise (fun x y => lex3 (k y) (k x) = false) → H p = none → Q (.ref p) (upd H p (.lst ys))
theorem cr_sort3 {X : Cx} : CallR X (.builtin "sorted") (rSort3 X.K) := by
  intro pins s σ H vs us Q I r h
  obtain ⟨a, xs, k, rfl, hs, hx, inj, q⟩ := h
  obtain ⟨its, rv, hl, hz⟩ := I.list hs
  obtain ⟨u, rfl, ru⟩ := vals1 r
  obtain rfl : u = Value.ref a := ru
  obtain ⟨e1, e2⟩ := refs_back rv fun x m => by
    obtain ⟨t, _, e, _⟩ := hx x m
    exact ⟨t, e⟩
  have mem : ∀ v ∈ its, backV v ∈ xs := fun v hv => by rw [e1]; exact List.mem_map.mpr ⟨_, hv, rfl⟩
  have tri : ∀ v ∈ its, IsTri s.heap v (k (backV v)) := fun v hv => by
    have hm := mem v hv
    obtain ⟨t, rfl⟩ := e2 v hv
    obtain ⟨t', rest, e, ht⟩ := hx _ hm
    obtain rfl : t = t' := by cases e; rfl
    obtain ⟨_, its2, r2, o, ho, hc, n, hd⟩ := I.hok _ _ ht
    cases r2 with
    | cons ra r3 =>
      cases r3 with
      | cons rb r4 =>
        cases r4 with
        | cons rc r5 =>
          obtain ⟨t1, rfl⟩ := ra
          obtain ⟨t2, rfl⟩ := rb
          obtain ⟨t3, rfl⟩ := rc
          exact ⟨t, o, t1, t2, t3, n, _, rfl, ho, hc, hd⟩
  have inj' : ∀ v ∈ its, ∀ u ∈ its, k (backV v) = k (backV u) → v = u := fun v hv u hu e => by
    have z := inj _ (mem v hv) _ (mem u hu) e
    obtain ⟨t, rfl⟩ := e2 v hv
    obtain ⟨t', rfl⟩ := e2 u hu
    have z : V.ref t = V.ref t' := z
    cases z
    rfl
  refine SrtO.sorted_ord (swo3 fun u => k (backV u)) hl.isList (by rw [← rv.length]; exact hz) (fun h2 h₁ d hd kk => ?_) fun out o1 o2 => ?_
  · refine tri_sortable (s := { s with heap := h₁ }) (by omega) (fun v hm => (tri v hm).keeps fun b o e _ => (kk b o e).2) inj' fun o e => ?_
    obtain rfl := Option.some.inj (e.symm.trans hd)
    intro c
    exact absurd (Value.type.inj c) (by decide)
  · have h3 : ∀ u ∈ out, ∃ a, u = Value.ref a := fun u hu => e2 u (o2.perm.mem_iff.mp hu)
    obtain ⟨n, hn⟩ := PyProof.Rows.sortedAll_at s.heap its out.toArray
    have pm : (out.map backV).Perm xs := by
      rw [e1]
      exact o2.perm.map backV
    have fr := I.hok.fresh (Nat.le_succ s.heap.objs.size)
    refine ⟨.ref _, upd H (s.heap.objs.size + 1) (.lst (out.map backV)), I.laid (t' := s.toks) (fun _ _ => PyProof.Rows.sortedAll_old) (Nat.le_succ _) ⟨by rw [pm.length_eq]; exact hz, out, n, vals_back h3, hn⟩, rfl, q _ _ pm (List.pairwise_map.mpr o1) fr⟩
end TV
end
section
/-! list(reversed(a list)): the call, the rule -/
namespace TR
open PySem PySem.Spec PyProof.Rows L2
section
variable {P : Program} {w : World} {A : Around} {E : Value → Shared → Prop} {s : Shared} {R : Result → Shared → Prop} {it l S : Addr} {items : Array Value}
theorem hint_rev {Q : Bool → Shared → Prop} (hT : s.TypeIs (.ref it) "list_reverseiterator") (h : Q false s) : wpAny (model P w) A (Builtin.List.listLengthHint (.ref it)) Q E s := by
  unfold Builtin.List.listLengthHint
  refine wpAny_bind (wpAny_specialOf hT RT.nolen_lri ?_)
  show wpAny _ A (specialOf (Value.ref it) (Str.ofString "__length_hint__") >>= _) _ _ _
  refine wpAny_bind (wpAny_specialOf hT RT.hint_lri ?_)
  generalize hid : ("list_reverseiterator.__length_hint__" : String) = id0
  wp_delta
  rw [show splitId id0 = some ("list_reverseiterator", "__length_hint__") from by subst hid; decide +kernel]
  subst hid
  refine wpAny_bind (wpAny_isInstance (b := true) hT (by rw [isSubtype_type]; kernel_rfl) ?_)
  exact wpAny_pure h
theorem extend (hh : A.handled = none) (hit : s.heap.IsRevIter it l ((items.size : Int) - 1)) (hl : s.heap.IsList l items) (hne : l ≠ it) (hn : items.size ≤ sizeLine) (hSi : S ≠ it) (hSl : S ≠ l) (res : Value) (c₀ : Nat) (hS : s.heap.get? S = some { cls := .type "list", data := .seq #[] c₀ })
    (go : ∀ h' tk acc c, (∀ b o, b ≠ S → b ≠ it → s.heap.get? b = some o → h'.get? b = some o) → h'.get? S = some { cls := .type "list", dict := none, data := .seq acc c, slots := #[] } → ItemsOf (fun i v => items[items.size - 1 - i]? = some v) acc items.size → R (.ok (.ret res)) { s with heap := h', toks := tk }) :
    wpAny (model P w) A.in1 (Builtin.List.listExtendWith (.ref S) (.ref it) res)
      (fun fin s' => match fin with | .done f => R (.ok f) s' | .again c' => c'.quiet = true ∧ codeAny (model P w) A c' R s') (fun e s' => R (.error e) s') s := by
  have W := (Walks.listRev (prog := P) (w := w) (A := A.in1) hh it l hne items).toS
  have hSf : S ∉ [it, l] := by simp only [List.mem_cons, List.not_mem_nil, or_false, not_or]; exact ⟨hSi, hSl⟩
  have hT : s.TypeIs (.ref it) "list_reverseiterator" := hit.typeIs
  have n1 : Builtin.List.listSameRef (.ref S) (.ref it) = false := by simp [Builtin.List.listSameRef, hSi]
  have n2 : (Value.type "list_reverseiterator" == Value.type "list") = false := by decide
  have n3 : (Value.type "list_reverseiterator" == Value.type "tuple") = false := by decide
  have e0 : ((items.size : Nat) : Int) - 1 - ((0 : Nat) : Int) = (items.size : Int) - 1 := by omega
  unfold Builtin.List.listExtendWith
  refine wpAny_bind (wpAny_typeOf hT ?_)
  simp only [n1, n2, n3, Bool.or_false, Bool.false_eq_true, if_false]
  refine wpAny_bind (wpAny_pyIter_revIter hit ?_)
  refine wpAny_bind (wpAny_holding (hint_rev hT ?_))
  rw [if_neg (by decide)]
  refine wpAny_pure ⟨plainId_quiet PySem.F.plain_extend_loop _, codeAny_extend_loopS W hn S hSf res items.size 0 _ #[] c₀ rfl (Nat.zero_le _) ⟨Nat.zero_le _, by rw [e0]; exact hit, hl⟩ hS (ItemsOf.nil _) fun s' acc' c' hm hS' hacc => ?_⟩
  rw [Moved.eq_with hm]
  refine go s'.heap s'.toks acc' c' (fun b o h1 h2 e => hm.heap b o (fun hmem => ?_) e) hS' hacc
  rcases List.mem_cons.mp hmem with e' | hmem
  · exact h1 e'
  · exact h2 (List.mem_singleton.mp hmem)
theorem init (hh : A.handled = none) (hit : s.heap.IsRevIter it l ((items.size : Int) - 1)) (hl : s.heap.IsList l items) (hne : l ≠ it) (hn : items.size ≤ sizeLine) (hSi : S ≠ it) (hSl : S ≠ l) (hS : s.heap.get? S = some { cls := .type "list", data := .seq #[] })
    (go : ∀ h' tk acc c, (∀ b o, b ≠ S → b ≠ it → s.heap.get? b = some o → h'.get? b = some o) → h'.get? S = some { cls := .type "list", dict := none, data := .seq acc c, slots := #[] } → ItemsOf (fun i v => items[items.size - 1 - i]? = some v) acc items.size → R (.ok (.ret .none)) { s with heap := h', toks := tk }) :
    wpAny (model P w) A.in1 (Builtin.«list.__init__» ⟨[.ref S, .ref it], []⟩)
      (fun fin s' => match fin with | .done f => R (.ok f) s' | .again c' => c'.quiet = true ∧ codeAny (model P w) A c' R s') (fun e s' => R (.error e) s') s := by
  show wpAny _ _ (do let was ← Builtin.List.listItems (.ref S); Builtin.List.listUpdate (.ref S) (fun _ => #[]); letGo was.toList.reverse; Builtin.List.listExtendWith (.ref S) (.ref it) .none) _ _ s
  refine wpAny_bind ?_
  unfold Builtin.List.listItems
  refine wpAny_bind (wpAny_seqItems hS rfl (wpAny_pure ?_))
  show wpAny _ _ (updateSeq S (fun _ => #[]) >>= fun _ => letGo (#[] : Array Value).toList.reverse >>= fun _ => Builtin.List.listExtendWith (.ref S) (.ref it) .none) _ _ s
  refine wpAny_bind (wpAny_updateSeq hS rfl ?_)
  have e2 := Heap.get?_update_self (Obj.mapSeq (fun _ => (#[] : Array Value))) hS rfl
  have off : ∀ b o, b ≠ S → s.heap.get? b = some o → (s.heap.update S (Obj.mapSeq (fun _ => (#[] : Array Value)))).get? b = some o := fun b o hb e => (Heap.get?_update_other _ _ (Ne.symm hb)).trans e
  refine wpAny_bind (wpAny_letGo ?_)
  refine extend hh (hit.at fun o e => off _ o hSi.symm e) (hl.at fun o e => off _ o hSl.symm e) hne hn hSi hSl .none _ e2 fun h' tk acc c hk h3 hacc => go h' tk acc c (fun b o h1 h2 e => hk b o h1 h2 (off b o h1 e)) h3 hacc
theorem call_lr {Q : Value → Shared → Prop} (hh : A.handled = none) (hit : s.heap.IsRevIter it l ((items.size : Int) - 1)) (hl : s.heap.IsList l items) (hne : l ≠ it) (hn : items.size ≤ sizeLine)
    (go : ∀ h' tk acc c, (∀ b o, b ≠ it → s.heap.get? b = some o → h'.get? b = some o) → h'.get? s.heap.objs.size = some { cls := .type "list", dict := none, data := .seq acc c, slots := #[] } → ItemsOf (fun i v => items[items.size - 1 - i]? = some v) acc items.size → Q (.ref s.heap.objs.size) { s with heap := h', toks := tk }) :
    wpAny (model P w) A (call (.type "list") [.ref it]) Q E s := by
  refine callType_codes (Q₁ := fun o s₁ => o = .ref s.heap.objs.size ∧ s₁ = { s with heap := s.heap.push { cls := .type "list", data := .seq #[] } }) PySem.F.called_list (PySem.F.typeCall_list_1 _) PySem.F.entry_list_init (code_list_new _ ⟨rfl, rfl⟩) fun o s₁ hs => ?_
  obtain ⟨rfl, rfl⟩ := hs
  have eS : (s.heap.push { cls := .type "list", data := .seq #[] }).get? s.heap.objs.size = some { cls := .type "list", data := .seq #[] } := Heap.get?_push_size _ rfl
  obtain ⟨o1, q1, _⟩ := id hit
  obtain ⟨o2, q2, _⟩ := id hl
  refine ⟨⟨_, eS, rfl⟩, PySem.F.args_list_init_2 _ _, init (A := A.in1) hh (hit.at fun o e => Heap.get?_push_of_some _ e) (hl.push _) hne hn (Nat.ne_of_gt (Heap.lt_size q1)) (Nat.ne_of_gt (Heap.lt_size q2)) eS fun h' tk acc c hk h3 hacc => ⟨rfl, ?_⟩⟩
  exact go h' tk acc c (fun b o n2 e => hk b o (Nat.ne_of_lt (Heap.lt_size e)) n2 (Heap.get?_push_of_some _ e)) h3 hacc
end
/-- a new list, the other way round -/
def tLr (K : PySem.W.Frag) (te : TE) : TE := fun σ H Q => te σ H fun v H1 => ∃ (a : Addr) (xs : List V), v = .ref a ∧ SqL K H1 a xs ∧ ∀ q, H1 q = none → Q (.ref q) (upd H1 q (.lst xs.reverse))
theorem r_lr {K : PySem.W.Frag} {te : TE} {σ : L2.St} {H : Hp} {Q : VK} (h : te σ H fun v H1 => ∃ (a : Addr) (xs : List V), v = .ref a ∧ SqL K H1 a xs ∧ ∀ q, H1 q = none → Q (.ref q) (upd H1 q (.lst xs.reverse))) : tLr K te σ H Q := h
section
variable {X : Cx}
theorem pe_listRev {e : Expr} {te : TE} {p p2 pos pos2 : Pos} (hc : X.calm = true) (hg : Gl X "list") (hm : X.mg "list" = none) (hg2 : Gl X "reversed") (hm2 : X.mg "reversed" = none) (he : PE X e te)
    (hs : starEach [e] X.env = (false, eval e X.env) :: starEach [] X.env := by rfl)
    (hs2 : starEach [.Call (.Name "reversed" p2) [e] [] pos2] X.env = (false, eval (.Call (.Name "reversed" p2) [e] [] pos2) X.env) :: starEach [] X.env := by rfl) :
    PE X (.Call (.Name "list" p) [.Call (.Name "reversed" p2) [e] [] pos2] [] pos) (tLr X.K te) := by
  refine ⟨fun pins s σ H Q I h => ?_⟩
  refine Call_ (ld_blt I hg hm boot_list (PyProof.Rows.callWith_type1 (PyProof.Rows.args_cons (Call_ (ld_blt I hg2 hm2 PyProof.Rows.boot_reversed (PyProof.Rows.callWith_type1 (PyProof.Rows.args_cons (thn (he.run pins s σ H _ I h) fun u s1 ⟨v, H1, I1, r1, q1⟩ => PyProof.Rows.args_nil ?_) hs) hs rfl))) hs2) hs2 rfl))
  obtain ⟨a, xs, ev, hq, q⟩ := q1
  subst ev
  obtain rfl : u = Value.ref a := r1
  obtain ⟨its, rv, p', hz⟩ := I1.list hq
  refine call_reversed_list p'.isList (PyProof.Rows.args_nil ?_)
  have I2 : Inv X pins σ H1 { s1 with heap := s1.heap.push (revObj a ((its.toArray.size : Int) - 1)) } := I1.kept (t' := s1.toks) fun b o e => Heap.get?_push_of_some _ e
  obtain ⟨f0, f1, f2, f3, f4, f5⟩ := I1.fpOk (H' := H1) (b := s1.heap.objs.size) (Nat.le_refl _) (I1.hok.fresh (Nat.le_refl _))
  have hl := p'.isList
  obtain ⟨ol, hol, _⟩ := id hl
  have hne : a ≠ s1.heap.objs.size := Nat.ne_of_lt (Heap.lt_size hol)
  have hn : its.toArray.size ≤ sizeLine := by rw [List.size_toArray, ← rv.length]; exact hz
  refine call_lr (s := { s1 with heap := s1.heap.push (revObj a ((its.toArray.size : Int) - 1)) }) (I1.ok.hd hc) ⟨_, Heap.get?_push_size _ rfl, rfl, rfl⟩ (hl.push _) hne hn fun h' tk acc c hk hS hi => ?_
  have k1 : ∀ b o, s1.heap.get? b = some o → h'.get? b = some o := fun b o e => hk b o (Nat.ne_of_lt (Heap.lt_size e)) (Heap.get?_push_of_some _ e)
  have lt : s1.heap.objs.size ≤ (s1.heap.push (revObj a ((its.toArray.size : Int) - 1))).objs.size := by simp [Heap.push]
  have ok : Vals xs.reverse acc.toList := RT.vals_rev rv hi
  refine ⟨.ref _, upd H1 _ (.lst xs.reverse), I1.laid (t' := tk) k1 lt (show ObjOk X.prog X.w _ _ _ (.lst xs.reverse) from ⟨by rw [List.length_reverse]; exact hz, acc.toList, c, ok, by rw [Array.toArray_toList]; exact hS⟩), rfl, q _ (I1.hok.fresh lt)⟩
end
end TR
end
section
/-! the reader of k11: plain data -/
namespace RD
open PySem PySem.Spec PyProof.Rows MM BF TV
open L2 hiding It
/-! texts -/
theorem ok_app {a b : Str} (h : PyData.strOk a = true) (g : PyData.strOk b = true) : PyData.strOk (a ++ b) = true := by
  unfold PyData.strOk at *
  rw [Str.cps_append, Array.all_append, h, g]
  rfl
theorem ok_of (s : String) : PyData.strOk (Str.ofString s) = true := by
  unfold PyData.strOk
  rw [Str.ofString_eq_toList, ← Array.all_toList, List.all_eq_true]
  intro c hc
  obtain ⟨d, _, rfl⟩ := List.mem_map.mp hc
  have v : d.val.toNat.isValidChar := d.valid
  unfold Nat.isValidChar at v
  refine decide_eq_true ?_
  show d.val.toNat < 1114112
  omega
def decT (n : Int) : Str := toString n
theorem decT_ok (n : Int) : PyData.strOk (decT n) = true := ok_of _
theorem decT_len {n : Int} (h0 : 0 ≤ n) (h1 : n < 1000000000000000000) : (decT n).length ≤ 18 := toString_length_le h0 (by decide) (by omega)
/-- the text of a record's one value -/
def lineF (cpu : Int) : It → Str
  | .lost n => Str.empty ++ decT cpu ++ " lost " ++ decT n
  | .rc t c s vs => Str.empty ++ decT cpu ++ " @" ++ decT t ++ " " ++ decT c ++ " " ++ s ++ ": " ++ (match vs with | [.i n] => decT n | _ => Str.empty)
def okI : It → Prop
  | .lost n => 1 ≤ n ∧ n < 1000000
  | .rc t c s vs => (0 ≤ t ∧ t < 1000000) ∧ (0 ≤ c ∧ c < 1000) ∧ s = "trace" ∧ ∃ n, vs = [.i n] ∧ 0 ≤ n ∧ n < 1000000
theorem okI.ok {a : It} (h : okI a) : a.ok := by
  cases a with
  | lost n => exact h.1
  | rc t c s vs =>
    obtain ⟨_, _, rfl, n, rfl, h0, h1⟩ := h
    exact ⟨by decide +kernel, fun v hv => by rw [List.mem_singleton.mp hv]; exact ⟨h0, h1⟩, by show 1 ≤ 100; decide⟩
theorem lineF_ok {cpu : Int} {a : It} (h : okI a) : PyData.strOk (lineF cpu a) = true := by
  have e : PyData.strOk Str.empty = true := by decide +kernel
  cases a with
  | lost n => exact ok_app (ok_app (ok_app e (decT_ok _)) (by decide +kernel)) (decT_ok _)
  | rc t c s vs =>
    obtain ⟨_, _, rfl, n, rfl, _⟩ := h
    exact ok_app (ok_app (ok_app (ok_app (ok_app (ok_app (ok_app (ok_app (ok_app e (decT_ok _)) (by decide +kernel)) (decT_ok _)) (by decide +kernel)) (decT_ok _)) (by decide +kernel)) (by decide +kernel)) (by decide +kernel)) (decT_ok _)
/-! lost ones joined with a run -/
def pend (f : List It) (r : Int) : List It := if 0 < r then f ++ [.lost r] else f
def noL (f : List It) : Prop := ∀ y, f.getLast? = some y → y.isL = false
theorem pushL_no {f : List It} {n : Int} (h : noL f) : pushL f n = f ++ [.lost n] := by
  rcases last_cases f with rfl | ⟨M, x, rfl⟩
  · rfl
  · exact pushL_rec (h x (by simp))
theorem pend_lost {f : List It} {r n : Int} (h : noL f) (hr : 0 ≤ r) (hn : 1 ≤ n) : push (pend f r) (.lost n) = pend f (r + n) := by
  show pushL (pend f r) n = _
  unfold pend
  rw [if_pos (show 0 < r + n by omega)]
  by_cases c : 0 < r
  · rw [if_pos c, pushL_lost, Int.add_comm]
  · rw [if_neg c, pushL_no h, show r + n = n by omega]
theorem noL_snoc {f : List It} {x : It} (h : x.isL = false) : noL (f ++ [x]) := fun y hy => by
  rw [List.getLast?_concat] at hy
  cases hy
  exact h
/-! the greatest time so far -/
def tm (r : Int) : It → Int
  | .lost _ => r
  | .rc t _ _ _ => if t > r then t else r
def tms : It → List Int
  | .lost _ => []
  | .rc t _ _ _ => [t]
def rk (L : List It) (k : Nat) : Int := (L.take k).foldl tm 0
theorem rk_succ {L : List It} {k : Nat} {x : It} (h : L[k]? = some x) : rk L (k + 1) = tm (rk L k) x := by
  unfold rk
  rw [List.take_succ, h, Option.toList_some, List.foldl_append]
  rfl
theorem fold_max : ∀ (L : List It) (r : Int), L.foldl tm r ∈ r :: L.flatMap tms ∧ ∀ y ∈ r :: L.flatMap tms, y ≤ L.foldl tm r
  | [], r => ⟨List.mem_cons_self, fun y hy => by
    rw [List.flatMap_nil, List.mem_singleton] at hy
    rw [hy]
    exact Int.le_refl _⟩
  | .lost n :: L, r => fold_max L r
  | .rc t c s vs :: L, r => by
    obtain ⟨h1, h2⟩ := fold_max L (tm r (.rc t c s vs))
    rw [List.foldl_cons, List.flatMap_cons]
    show _ ∈ r :: ([t] ++ _) ∧ ∀ y ∈ r :: ([t] ++ _), _
    have hr : tm r (.rc t c s vs) = t ∨ tm r (.rc t c s vs) = r := by
      unfold tm
      dsimp only
      split
      · exact .inl rfl
      · exact .inr rfl
    have hm : r ≤ tm r (.rc t c s vs) ∧ t ≤ tm r (.rc t c s vs) := by
      unfold tm
      dsimp only
      split <;> omega
    have h3 := h2 _ List.mem_cons_self
    refine ⟨?_, fun y hy => ?_⟩
    · rcases List.mem_cons.mp h1 with z | z
      · rw [z]
        rcases hr with q | q <;> rw [q] <;> simp
      · exact List.mem_cons_of_mem _ (List.mem_cons_of_mem _ z)
    · rcases List.mem_cons.mp hy with z | z
      · omega
      · rcases List.mem_cons.mp z with z | z
        · omega
        · exact h2 _ (List.mem_cons_of_mem _ z)
theorem rk_max {L : List It} {k : Nat} {m : Int} (h1 : m ∈ (0 : Int) :: (L.take k).flatMap tms) (h2 : ∀ y ∈ (0 : Int) :: (L.take k).flatMap tms, y ≤ m) : m = rk L k := by
  obtain ⟨a, b⟩ := fold_max (L.take k) 0
  exact Int.le_antisymm (b _ h1) (h2 _ a)
/-! the keys of all items -/
def keysOf (c : Nat) (L : List It) : List K3 := (List.range L.length).map fun k => (rk L (k + 1), (c : Int), (k : Int))
def upto (Ls : List (List It)) (c : Nat) : List K3 := (List.range c).flatMap fun j => keysOf j (Ls.getD j [])
theorem upto_succ {Ls : List (List It)} {c : Nat} {L : List It} (h : Ls[c]? = some L) : upto Ls (c + 1) = upto Ls c ++ keysOf c L := by
  unfold upto
  rw [List.range_succ, List.flatMap_append, List.flatMap_cons, List.flatMap_nil, List.append_nil, List.getD_eq_getElem?_getD, h]
  rfl
theorem upto_len {Ls : List (List It)} {m : Nat} (h : ∀ L ∈ Ls, L.length ≤ m) : ∀ n, (upto Ls n).length ≤ m * n
  | 0 => Nat.zero_le _
  | n + 1 => by
    have e : upto Ls (n + 1) = upto Ls n ++ keysOf n (Ls.getD n []) := by
      unfold upto
      rw [List.range_succ, List.flatMap_append, List.flatMap_cons, List.flatMap_nil, List.append_nil]
    rw [e, List.length_append, keysOf, List.length_map, List.length_range, Nat.mul_succ]
    have h1 := upto_len h n
    have h2 : (Ls.getD n []).length ≤ m := by
      rw [List.getD_eq_getElem?_getD]
      cases z : Ls[n]? with
      | none => exact Nat.zero_le _
      | some L => exact h _ (List.mem_of_getElem? z)
    omega
theorem all2_cat {α β : Type} {R : α → β → Prop} {a b : List α} {c d : List β} (h : All2 R a c) (g : All2 R b d) : All2 R (a ++ b) (c ++ d) := All2.app h g
theorem keysOf_len {c : Nat} {L : List It} : (keysOf c L).length = L.length := by rw [keysOf, List.length_map, List.length_range]
theorem keys_snoc {c k : Nat} {L : List It} (h : k < L.length) : (keysOf c L).take (k + 1) = (keysOf c L).take k ++ [(rk L (k + 1), (c : Int), (k : Int))] := by
  rw [List.take_succ]
  congr 1
  unfold keysOf
  rw [List.getElem?_map, List.getElem?_range h]
  rfl
theorem mem_upto {Ls : List (List It)} {n : Nat} {q : K3} (h : q ∈ upto Ls n) : ∃ j k : Nat, j < n ∧ k < (Ls.getD j []).length ∧ q = (rk (Ls.getD j []) (k + 1), (j : Int), (k : Int)) := by
  obtain ⟨j, hj, h⟩ := List.mem_flatMap.mp h
  obtain ⟨k, hk, rfl⟩ := List.mem_map.mp h
  exact ⟨j, k, List.mem_range.mp hj, List.mem_range.mp hk, rfl⟩
theorem keys_nodup {c : Nat} {L : List It} : (keysOf c L).Nodup := by
  unfold keysOf
  refine List.pairwise_map.mpr (List.Pairwise.imp (fun {a b} (h : a < b) => ?_) List.pairwise_lt_range)
  intro z
  injection z with _ z
  injection z with _ z
  omega
theorem upto_nodup {Ls : List (List It)} : ∀ n, (upto Ls n).Nodup
  | 0 => List.nodup_nil
  | n + 1 => by
    have e : upto Ls (n + 1) = upto Ls n ++ keysOf n (Ls.getD n []) := by
      unfold upto
      rw [List.range_succ, List.flatMap_append, List.flatMap_cons, List.flatMap_nil, List.append_nil]
    rw [e]
    refine List.nodup_append.mpr ⟨upto_nodup n, keys_nodup, fun a ha b hb z => ?_⟩
    obtain ⟨j, k, hj, _, rfl⟩ := mem_upto ha
    obtain ⟨k', _, rfl⟩ := List.mem_map.mp hb
    injection z with _ z
    injection z with z _
    omega
theorem map_inj {α β : Type} {f : α → β} : ∀ {l : List α}, (l.map f).Nodup → ∀ x ∈ l, ∀ y ∈ l, f x = f y → x = y
  | [], _, _, h, _, _, _ => nomatch h
  | a :: l, nd, x, hx, y, hy, e => by
    rw [List.map_cons, List.nodup_cons] at nd
    rcases List.mem_cons.mp hx with ex | hx'
    · rcases List.mem_cons.mp hy with ey | hy'
      · rw [ex, ey]
      · exact absurd (List.mem_map.mpr ⟨y, hy', by rw [← e, ex]⟩) nd.1
    · rcases List.mem_cons.mp hy with ey | hy'
      · exact absurd (List.mem_map.mpr ⟨x, hx', by rw [e, ey]⟩) nd.1
      · exact map_inj nd.2 x hx' y hy' e
/-- sorted in one way -/
theorem sort_uniq {a b c : List K3} (h1 : a.Perm c) (h2 : b.Perm c) (p1 : a.Pairwise fun x y => lex3 y x = false) (p2 : b.Pairwise fun x y => lex3 y x = false) : a = b := by
  refine (h1.trans h2.symm).eq_of_pairwise (fun x y _ _ u v => ?_) p1 p2
  have u := lex3_no.mp u
  have v := lex3_no.mp v
  obtain ⟨x1, x2, x3⟩ := x
  obtain ⟨y1, y2, y3⟩ := y
  dsimp only at u v
  have : x1 = y1 ∧ x2 = y2 ∧ x3 = y3 := by omega
  obtain ⟨rfl, rfl, rfl⟩ := this
  rfl
def itemAt (Ls : List (List It)) (q : K3) : Option It := (Ls.getD q.2.1.toNat [])[q.2.2.toNat]?
/-- the key that a row shows -/
def keyV (H : Hp) : V → K3
  | .ref t => match H t with
    | some (.tup (.int a :: .int b :: .int c :: _)) => (a, b, c)
    | _ => (0, 0, 0)
  | _ => (0, 0, 0)
def KR (H : Hp) (v : V) (q : K3) : Prop := ∃ t rest, v = .ref t ∧ H t = some (.tup (.int q.1 :: .int q.2.1 :: .int q.2.2 :: rest))
theorem KR.key {H : Hp} {v : V} {q : K3} (h : KR H v q) : keyV H v = q := by
  obtain ⟨t, rest, rfl, e⟩ := h
  show (match H t with | some (.tup (.int a :: .int b :: .int c :: _)) => ((a, b, c) : K3) | _ => (0, 0, 0)) = q
  rw [e]
/-- all that sorted wants, and what it gives -/
theorem sorts {R : V → K3 → Prop} {H : Hp} {xs ys : List V} {ks : List K3} (hr : ∀ v q, R v q → KR H v q) (al : All2 R xs ks) (nd : ks.Nodup) :
    (∀ x ∈ xs, ∃ t rest, x = V.ref t ∧ H t = some (.tup (.int (keyV H x).1 :: .int (keyV H x).2.1 :: .int (keyV H x).2.2 :: rest))) ∧ (∀ x ∈ xs, ∀ y ∈ xs, keyV H x = keyV H y → x = y) ∧
    (ys.Perm xs → ys.Pairwise (fun x y => lex3 (keyV H y) (keyV H x) = false) → All2 R ys (ys.map (keyV H)) ∧ (ys.map (keyV H)).Perm ks ∧ (ys.map (keyV H)).Pairwise fun x y => lex3 y x = false) := by
  have em : xs.map (keyV H) = ks := by
    clear nd ys
    induction al with
    | nil => rfl
    | cons r _ ih => rw [List.map_cons, (hr _ _ r).key, ih]
  have mem : ∀ x ∈ xs, R x (keyV H x) := by
    clear nd em ys
    induction al with
    | nil => exact fun _ h => nomatch h
    | cons r _ ih =>
      intro x hx
      rcases List.mem_cons.mp hx with rfl | hx
      · rw [(hr _ _ r).key]; exact r
      · exact ih x hx
  refine ⟨fun x hx => ?_, map_inj (by rw [em]; exact nd), fun p pw => ⟨?_, by rw [← em]; exact p.map _, List.pairwise_map.mpr pw⟩⟩
  · obtain ⟨t, rest, e1, e2⟩ := hr _ _ (mem x hx)
    exact ⟨t, rest, e1, e2⟩
  · have h : ∀ y ∈ ys, R y (keyV H y) := fun y hy => mem y (p.mem_iff.mp hy)
    clear p pw
    induction ys with
    | nil => exact .nil
    | cons y ys ih => exact .cons (h y List.mem_cons_self) (ih fun z hz => h z (List.mem_cons_of_mem _ hz))
section
variable {c : TT} {tb : TS} {nx bk ct : L2.St → Hp → Prop} {rt : V → Hp → Prop} {σ : L2.St} {H : Hp}
/-- a while that is not entered -/
theorem r_while0 (h : ∀ P : Hp → Prop, c σ H fun b H1 => if b = true then P H1 else nx σ H1) : tWhile c tb ⟨nx, rt, bk, ct⟩ σ H :=
  ⟨fun _ σ' H' => σ' = σ ∧ H' = H, ⟨0, rfl, rfl⟩, fun m σ' H' ⟨e1, e2⟩ => by subst e1 e2; exact h _⟩
end
section
variable {ts : List TE} {te : TE} {acc z : Str} {σ : L2.St} {H : Hp} {Q : Str → Hp → Prop}
theorem j_nil (h : Q acc H) : tJs [] acc σ H Q := h
theorem j_c (hl : acc.length + z.length ≤ 100000) (h : tJs ts (acc ++ z) σ H Q) : tJs (tC (.str z) :: ts) acc σ H Q := ⟨z, rfl, by rw [Str.length_append]; exact R.size_of hl, h⟩
theorem j_f (h : te σ H fun x H1 => (∃ y : Str, x = .str y ∧ y.length ≤ sizeLine ∧ ∃ y'' : Str, V.str y = .str y'' ∧ (acc ++ y'').length ≤ sizeLine ∧ tJs ts (acc ++ y'') σ H1 Q) ∨
    ∃ i : Int, x = .int i ∧ i.natAbs.log2 < 1920 ∧ ∃ y'' : Str, V.str (toString i) = .str y'' ∧ (acc ++ y'').length ≤ sizeLine ∧ tJs ts (acc ++ y'') σ H1 Q) : tJs (tFmt te :: ts) acc σ H Q := h
theorem j_y {y : Str} (h1 : y.length ≤ 1000) (h2 : acc.length + y.length ≤ 100000) (h : tJs ts (acc ++ y) σ H Q) : (∃ y' : Str, V.str y = .str y' ∧ y'.length ≤ sizeLine ∧ ∃ y'' : Str, V.str y' = .str y'' ∧ (acc ++ y'').length ≤ sizeLine ∧ tJs ts (acc ++ y'') σ H Q) ∨
    ∃ i : Int, V.str y = .int i ∧ i.natAbs.log2 < 1920 ∧ ∃ y'' : Str, V.str (toString i) = .str y'' ∧ (acc ++ y'').length ≤ sizeLine ∧ tJs ts (acc ++ y'') σ H Q :=
  .inl ⟨y, rfl, R.size_of (by omega), y, rfl, by rw [Str.length_append]; exact R.size_of h2, h⟩
end
theorem log_small {n : Int} (h0 : 0 ≤ n) (h1 : n < 1000000000000000000) : n.natAbs.log2 < 1920 := by
  by_cases z : n.natAbs = 0
  · rw [z]; decide
  · exact Nat.lt_of_lt_of_le ((Nat.log2_lt z).mpr (show n.natAbs < 2 ^ 60 by omega)) (by decide)
/-! what is lost -/
def los : It → List Int
  | .lost n => [n]
  | .rc .. => []
theorem los_len (L : List It) : (L.flatMap los).length ≤ L.length := by
  have := CR.flat_le (f := los) (n := 1) (fun x => by cases x <;> simp [los]) L
  omega
theorem los_all {m : Nat} : ∀ {Ls : List (List It)}, (∀ L ∈ Ls, L.length ≤ m) → (Ls.flatMap fun L => L.flatMap los).length ≤ m * Ls.length
  | [], _ => Nat.zero_le _
  | L :: Ls, h => by
    have h1 := los_all (Ls := Ls) fun M hM => h M (List.mem_cons_of_mem _ hM)
    have h2 := los_len L
    have h3 := h L List.mem_cons_self
    rw [List.flatMap_cons, List.length_append, List.length_cons, Nat.mul_succ]
    omega
end RD
end
section
/-! own exceptions: made, raised, caught -/
namespace XP
open PySem PySem.Spec PyProof.Rows L2
/-- what the top says of an exception's class -/
structure ExP (K : PySem.W.Frag) (mg : Str → Option Value) (x : Str) where
  a : Addr
  g : mg x = some (.ref a)
  ex : PySem.W.excIn K a [.type "ValueError", .type "Exception", .type "BaseException", .type "object"] "ValueError.__new__" = true
  k : PySem.W.keepIn K (.ref a) = true
  b : PySem.W.subIn K (.ref a) (.type "BaseException") = some true
  t : PySem.W.typeIn K (.ref a) = some (.type "type")
section
variable {X : Cx} {C : Addr} {B newId initId : String} {bmB : List Value}
/-- X() -/
theorem pmk_own0 {x : Str} {p pos : Pos} (F : ExcBaseFacts B newId initId bmB) (q : PySem.W.excIn X.K C bmB newId = true) (gC : X.mg x = some (.ref C)) (kC : PySem.W.keepIn X.K (.ref C) = true) (r : Raises X (.ref C)) (hg : Gl X x)
    (hdb : (x == ("__debug__" : Str)) = false := by decide) : PMk X (.Call (.Name x p) [] [] pos) (fun _ H Q => Q (.ref C) none H) := by
  intro pins s σ H Q I h
  refine wpAny_Call_Name_kw (ld_glob I hg gC ?_ hdb)
  refine PySem.W.callWith_K0 I.kIn kC ?_
  obtain ⟨bm, N, nm, qn, bs, hdct, sn, sub, ab, col, dd, k0, k1, k2, k3, k5, mN, hC, hN, hni, T⟩ := exc_obj I.kIn q
  refine wpAny_call_exc_subT F T hC hN hni (fun h' e hm => ?_) (Nat.zero_le _)
  exact mk_of I hm r h (I.hok.gone hm.new)
end
section
variable {sp : Sp} {E : L2.St → XK} {tr : TA} {σ : L2.St} {H : Hp} {Q : VK}
theorem r_callS (h : tr σ H fun vs H1 => sp vs H1 Q (E σ)) : tCallS sp E tr σ H Q := h
end
/-- a def that lets nothing out where it is called so -/
theorem calm {P : Program} {w : World} {K : PySem.W.Frag} {mg : Str → Option Value} {base : Heap} {k : Nat} {f : Addr} {fd : FuncData} {ps : List Str} {sp sp' : Sp} (F : FnOk P w K mg base (L2.CX P w) k f fd ps sp) (h : ∀ vs H Q E, sp' vs H Q E → sp vs H Q fun _ _ _ => False) : FnOk P w K mg base CX0 k f fd ps sp' :=
  ⟨fun vs H Q E q => F.len _ _ _ _ (h vs H Q E q), fun A outer s H args us vs Q E hr he hb hv hs => codeAny_mono (F.run A outer s H args us vs Q (fun _ _ _ => False) hr he hb hv (h _ _ _ _ hs)) fun r s' z => by
    cases r with
    | ok v => cases v <;> exact z
    | error e => 
      obtain ⟨a, B, H', cls, d, _, _, _, _, _, _, _, q⟩ := z
      exact q.elim⟩
/-- a class is its own clause -/
theorem exm_of {K : PySem.W.Frag} {S : Addr} (b : PySem.W.subIn K (.ref S) (.type "BaseException") = some true) (i : PySem.W.isClsIn K S = true) (t : PySem.W.typeIn K (.ref S) = some (.type "type")) (s : PySem.W.subIn K (.ref S) (.ref S) = some true) : PySem.W.exmOne K (.ref S) (.ref S) = some true := by
  unfold PySem.W.isClsIn at i
  simp [PySem.W.exmOne, PySem.W.kitCls, b, i, t, s]
section
variable {X : Cx} {D a : Addr} {oe : Obj} {cls : Value} {d : Option Addr} {pn : List (Addr × Obj)}
/-- isinstance(e, ..) of the exception that the suite holds -/
def rIsX (K : PySem.W.Frag) (D a : Addr) (cls : Value) (d : Option Addr) : List V → Hp → VK → Prop := fun xs H Q => (cls = .ref D ∧ d = none) ∧ rIsE K D a xs H Q
theorem call_isX {K0 : PySem.W.Frag} (hK : X.K = K0) (C : ExcC K0 D) (hz : Zc cls d oe) (hf : ∃ vs, oe.data = .fields vs) : CallR (X.suite a ((a, oe) :: pn)) (.builtin "isinstance") (rIsX K0 D a cls d) := by
  subst hK
  intro pins s σ H xs us Q I r h
  obtain ⟨⟨rfl, rfl⟩, h⟩ := h
  exact call_isE C hz hf pins s σ H xs us Q I r h
end
end XP
end
section
/-! lines read back: what of a text is a line -/
namespace LN
open PySem PySem.Spec PyProof.Rows L2
open BF (Vl)
/-- where a text stands in another, so that it can be reckoned -/
def occC (s sub : Str) (lo hi limit : Nat) : List Nat := (forIn (List.range' lo (hi + 1 - lo)) (#[], lo) (PySem.StrLaws.occBody s sub hi limit)).run.fst.toList
theorem occC_eq {s sub : Str} {lo hi limit : Nat} : PySem.Builtin.Str.occurrences s sub lo hi limit = occC s sub lo hi limit := PySem.StrLaws.occ_eq s sub lo hi limit
def splitC (x y : Str) (k : Int) : List Str :=
  if (decide (x.length < y.length) || decide (Builtin.Str.strKind x < Builtin.Str.strKind y)) = true then [x] else
  if (occC x y 0 x.length (limitOf x k)).isEmpty = true then [x] else Builtin.Str.partsBetween x (occC x y 0 x.length (limitOf x k)) y.length
theorem splitC_eq {x y : Str} {k : Int} : Txt.splitMax x y k = splitC x y k := by
  unfold Txt.splitMax splitC
  rw [occC_eq]
def findC (x y : Str) (i : Int) : Int := match occC x y (fromIndex x.length i) x.length 1 with | k :: _ => (k : Int) | [] => -1
theorem findC_eq {x y : Str} {i : Int} : Txt.find3 x y i = findC x y i := by
  unfold Txt.find3 findC
  rw [occC_eq]
  generalize occC x y (fromIndex x.length i) x.length 1 = l
  cases l <;> rfl
def isDig (c : Nat) : Bool := decide (48 ≤ c) && decide (c ≤ 57)
def digs : Int → List Nat → Option Int
  | n, [] => some n
  | n, c :: r => if isDig c = true then digs (10 * n + ((c : Int) - 48)) r else none
def natF (z : Str) : Option Int := if z = "" ∨ (1 < z.length ∧ z.cps.toList[0]? = some 48) then none else digs 0 z.cps.toList
def wholeF (z : Str) : Option Int := if Txt.startswith z "-" = true then (match natF (cutS z (some 1) none) with | none => none | some n => if n = 0 then none else some (-n)) else natF z
/-- the value that a text tells -/
def valD (z : Str) : Option Vl := if Txt.startswith z "\"" = true then (if CK.txt (.str (cutS z (some 1) (some (-1)))) = true then some (.s (cutS z (some 1) (some (-1)))) else none) else match wholeF z with | none => none | some n => if CK.cnt (-9223372036854775808) 9223372036854775807 (.int n) = true then some (.i n) else none
def vend (z : Str) (b : Int) : Int := if cutS z (some b) (some (b + 1)) = "\"" then findC z "\"" (b + 1) + 1 else if findC z "," b < 0 then (z.length : Int) else findC z "," b
/-- the values of a trace, from b on; none: not known; some none: no values -/
def vals : Nat → Str → Int → Option (Option (List Vl))
  | 0, _, _ => none
  | k + 1, z, b => match valD (cutS z (some b) (some (vend z b))) with
    | none => some none
    | some x => if vend z b = (z.length : Int) then some (some [x]) else if cutS z (some (vend z b)) (some (vend z b + 2)) = ", " then (match vals k z (vend z b + 2) with | none => none | some none => some none | some (some r) => some (some (x :: r))) else some none
section
variable {m : Nat} {z : Str} {b : Int} {x : Vl}
theorem vals_bad (h : valD (cutS z (some b) (some (vend z b))) = none) : vals (m + 1) z b = some none := by
  rw [vals, h]
theorem vals_end (h : valD (cutS z (some b) (some (vend z b))) = some x) (c : vend z b = (z.length : Int)) : vals (m + 1) z b = some (some [x]) := by
  rw [vals, h]
  exact if_pos c
theorem vals_stop (h : valD (cutS z (some b) (some (vend z b))) = some x) (c : ¬ vend z b = (z.length : Int)) (d : ¬ cutS z (some (vend z b)) (some (vend z b + 2)) = ", ") : vals (m + 1) z b = some none := by
  rw [vals, h]
  exact (if_neg c).trans (if_neg d)
theorem vals_more (h : valD (cutS z (some b) (some (vend z b))) = some x) (c : ¬ vend z b = (z.length : Int)) (d : cutS z (some (vend z b)) (some (vend z b + 2)) = ", ") : vals (m + 1) z b = (vals m z (vend z b + 2)).map (Option.map (x :: ·)) := by
  rw [vals, h]
  refine ((if_neg c).trans (if_pos d)).trans ?_
  cases vals m z (vend z b + 2) with
  | none => rfl
  | some r => cases r <;> rfl
end
def listD (z : Str) : Option (Option (List Vl)) := if z = "" then some (some []) else vals 20 z 0
def wordF (z : Str) : Bool := !decide (z = "") && z.cps.toList.all fun c => decide (97 ≤ c) && decide (c ≤ 122)
def valsD (s z : Str) : Option (Option (List Vl)) := if s = "trace:" then listD z else some (if ((decide (s = "say:") && z.cps.toList.all CK.chS) || (decide (s = "fault:") && wordF z)) = true then some [.s z] else none)
def posF (z : Str) : Option Int := match natF z with | none => none | some n => if n = 0 then none else some n
def partsF (z : Str) : List Str := splitC z " " 4
def lostD (a c : Str) : Option (Int × BF.It) := match natF a with | none => none | some x => match posF c with | none => none | some y => some (x, .lost y)
def recD (a b c d : Str) (vs : List Vl) : Option (Int × BF.It) := match natF a with | none => none | some x => match natF (cutS b (some 1) none) with | none => none | some t => match natF c with | none => none | some k => some (x, .rc t k (cutS d none (some (-1))) vs)
def itemL : List Str → Option (Option (Int × BF.It))
  | [a, b, c] => if b = "lost" then some (lostD a c) else some none
  | [a, b, c, d, e] => if Txt.startswith b "@" = true then (match valsD d e with | none => none | some none => some none | some (some vs) => some (recD a b c d vs)) else some none
  | _ :: _ :: _ :: _ :: _ :: _ :: _ => none
  | _ => some none
def itemD (z : Str) : Option (Option (Int × BF.It)) := itemL (partsF z)
def itemF (z : Str) : Option Bool := (itemD z).map Option.isSome
/-- what is cut out of a text is of its characters -/
theorem ok_iff {z : Str} : PyData.strOk z = true ↔ ∀ c ∈ z.cps.toList, c < 0x110000 := by
  show z.cps.all (· < 0x110000) = true ↔ _
  rw [← Array.all_toList, List.all_eq_true]
  exact ⟨fun h c m => of_decide_eq_true (h c m), fun h c m => decide_eq_true (h c m)⟩
theorem cut_ok {z : Str} {a b : Option Int} (h : PyData.strOk z = true) : PyData.strOk (cutS z a b) = true := by
  rw [ok_iff] at h ⊢
  intro c m
  exact h c (List.mem_of_mem_drop (List.mem_of_mem_take m))
theorem parts_ok {z x : Str} {k : Int} (h : PyData.strOk z = true) : ∀ p ∈ splitC z x k, p.length ≤ z.length ∧ PyData.strOk p = true := by
  have self : ∀ p ∈ [z], p.length ≤ z.length ∧ PyData.strOk p = true := fun p m => by
    obtain rfl := List.mem_singleton.mp m
    exact ⟨Nat.le_refl _, h⟩
  intro p m
  unfold splitC at m
  split at m
  · exact self p m
  · split at m
    · exact self p m
    · obtain ⟨⟨i, j⟩, _, rfl⟩ := List.mem_map.mp m
      refine ⟨?_, ?_⟩
      · show (z.cps.extract i j).size ≤ z.cps.size
        rw [Array.size_extract]
        omega
      · rw [ok_iff] at h ⊢
        intro c m
        have m : c ∈ (z.cps.extract i j).toList := m
        rw [Array.toList_extract] at m
        exact h c (List.mem_of_mem_drop (List.mem_of_mem_take m))
def goods : List Str := (["0 lost 1", "12 lost 900", "0 @0 0 trace: ", "3 @7 1 trace: 5, \"x, y\", -3", "1 @10 2 say: ", "1 @10 2 say: at 5, so", "0 @1 1 fault: byte"] : List String).map Str.ofString
def bads : List Str := (["", " ", "0", "0 lost", "0 lost 0", "0 lost 01", "0 lost -1", "0 lost 1 ", " 0 lost 1", "0  lost 1", "00 lost 1", "x lost 1", "0 Lost 1", "-1 lost 2", "0 lost x", "0 1 1 trace: ", "0 @1 1 trace:", "0 @1 trace: 5", "0 @01 1 trace: 5", "0 @1 01 trace: 5",
  "0 @ 1 trace: 5", "0 @1 1 print: 5", "0 @1 1 trace 5", "0 @1 1 Trace: 5", "0 @-1 1 trace: 5", "0 @1 -1 trace: 5", "0 @1 1 trace : 5", "0 @1 1 trace: 5,6", "0 @1 1 trace: 5, ", "0 @1 1 trace: , 5", "0 @1 1 trace: 05", "0 @1 1 trace: -0", "0 @1 1 trace: --5", "0 @1 1 trace: 5 6",
  "0 @1 1 trace: x", "0 @1 1 trace: \"x", "0 @1 1 trace: x\"", "0 @1 1 trace: \"x\" \"y\"", "0 @1 1 trace: \"x\", y", "0 @1 1 trace: \"x\"y", "0 @1 1 trace: 5.",
  "0 @1 1 trace: 9223372036854775808", "0 @1 1 trace: -9223372036854775809", "0 @1 1 trace: \"aaaaaaaaaaaaaaaaaaaaaaaaaaaaaaaaa\"", "0 @1 1 trace: \"a\tb\"", "0 @1 1 trace: +5",
  "0 @1 1 say: a\nb", "0 @1 1 say: \t", "0 @1 1 say", "0 @1 1 fault: ", "0 @1 1 fault: Byte", "0 @1 1 fault: no byte", "0 @1 1 fault: byte1", "0 @1  1 say: x"] : List String).map Str.ofString
theorem goods_ok : ∀ z ∈ goods, itemF z = some true ∧ itemF (z ++ "\n") = some false ∧ itemF (" " ++ z) = some false ∧ z.length ≤ 60 ∧ PyData.strOk z = true ∧ (1 < z.length ∧ itemF (cutS z (some (1 + (if z.cps.toList.getD 1 0 = 32 then 0 else 1))) none) = some false) := by decide +kernel
theorem bads_ok : ∀ z ∈ bads, itemF z = some false ∧ z.length ≤ 60 ∧ PyData.strOk z = true := by decide +kernel
end LN
end
section
/-! lines read back: what is written is read (the parts of a text, the values of a trace) -/
namespace LN
open PySem PySem.Spec PyProof.Rows L2
open BF (Vl)
open Builtin.Str (strSub subAt partsBetween)
def tx (l : List Nat) : Str := ⟨l.toArray⟩
theorem tx_list {z : Str} {l : List Nat} (h : z.cps.toList = l) : z = tx l := by
  cases z with
  | mk a =>
    show Str.mk a = ⟨l.toArray⟩
    rw [← h]
theorem tx_of (z : Str) : tx z.cps.toList = z := (tx_list rfl).symm
/-- the places of a character, o ahead of them -/
def pos (c : Nat) : Nat → List Nat → List Nat
  | _, [] => []
  | o, x :: r => if x = c then o :: pos c (o + 1) r else pos c (o + 1) r
theorem pos_app {c : Nat} {b : List Nat} : ∀ {a : List Nat} {o : Nat}, pos c o (a ++ b) = pos c o a ++ pos c (o + a.length) b
  | [], o => rfl
  | x :: a, o => by
    have ih := pos_app (b := b) (a := a) (o := o + 1) (c := c)
    have e : o + (x :: a).length = o + 1 + a.length := by rw [List.length_cons]; omega
    rw [e]
    show (if x = c then o :: pos c (o + 1) (a ++ b) else pos c (o + 1) (a ++ b)) = (if x = c then o :: pos c (o + 1) a else pos c (o + 1) a) ++ _
    split
    · rw [ih]; rfl
    · rw [ih]
theorem pos_none {c : Nat} : ∀ {a : List Nat} {o : Nat}, c ∉ a → pos c o a = []
  | [], _, _ => rfl
  | x :: a, o, h => by
    show (if x = c then _ else _) = _
    rw [if_neg (fun e => h (by rw [e]; exact List.mem_cons_self)), pos_none fun m => h (List.mem_cons_of_mem _ m)]
theorem occ_go {s : Str} {c limit : Nat} : ∀ (r : List Nat) (o : Nat) (arr : Array Nat) (free : Nat), s.cps.toList.drop o = r → o + r.length = s.length → free ≤ o →
    (forIn (List.range' o (r.length + 1)) (arr, free) (PySem.StrLaws.occBody s ⟨#[c]⟩ s.length limit)).run.fst.toList = arr.toList ++ (pos c o r).take (limit - arr.size)
  | [], o, arr, free, h, hl, hf => by
    have g : ¬ (o + (⟨#[c]⟩ : Str).length ≤ s.length ∧ subAt s ⟨#[c]⟩ o = true) := fun h => by
      have := h.1
      have e : (⟨#[c]⟩ : Str).length = 1 := rfl
      rw [e] at this
      simp at hl
      omega
    rw [show List.range' o (([] : List Nat).length + 1) = [o] from rfl]
    rw [List.forIn_cons]
    unfold PySem.StrLaws.occBody
    rw [if_neg fun h => g ⟨h.1.2, h.2⟩]
    show arr.toList = arr.toList ++ ([] : List Nat).take _
    rw [List.take_nil, List.append_nil]
  | x :: r, o, arr, free, h, hl, hf => by
    have hx : s.cps.toList[o]? = some x := by
      have : (s.cps.toList.drop o)[0]? = some x := by rw [h]; rfl
      rw [List.getElem?_drop] at this
      exact this
    have hr : s.cps.toList.drop (o + 1) = r := by
      rw [← List.drop_drop, h]
      rfl
    rw [List.length_cons] at hl
    rw [show List.range' o ((x :: r).length + 1) = o :: List.range' (o + 1) (r.length + 1) from rfl]
    rw [List.forIn_cons]
    unfold PySem.StrLaws.occBody
    have sa := PySem.StrLaws.subAt_one s c o
    rw [hx] at sa
    by_cases hc : x = c
    · have q := sa.mpr (by rw [hc])
      by_cases hm : arr.size < limit
      · rw [if_pos ⟨⟨⟨hm, hf⟩, q.1⟩, q.2⟩]
        have ih := occ_go (c := c) (limit := limit) r (o + 1) (arr.push o) (o + (⟨#[c]⟩ : Str).length) hr (by omega) (Nat.le_refl _)
        refine Eq.trans ih ?_
        show _ = arr.toList ++ List.take (limit - arr.size) (if x = c then o :: pos c (o + 1) r else pos c (o + 1) r)
        rw [if_pos hc, Array.toList_push, Array.size_push, List.append_assoc, show limit - arr.size = (limit - (arr.size + 1)) + 1 by omega]
        rfl
      · rw [if_neg fun h => hm h.1.1.1]
        have ih := occ_go (c := c) (limit := limit) r (o + 1) arr free hr (by omega) (by omega)
        refine Eq.trans ih ?_
        rw [show limit - arr.size = 0 by omega, List.take_zero, List.take_zero]
    · rw [if_neg fun h => hc (Option.some.inj (sa.mp ⟨h.1.2, h.2⟩))]
      have ih := occ_go (c := c) (limit := limit) r (o + 1) arr free hr (by omega) (by omega)
      refine Eq.trans ih ?_
      show _ = arr.toList ++ List.take (limit - arr.size) (if x = c then o :: pos c (o + 1) r else pos c (o + 1) r)
      rw [if_neg hc]
theorem occ_pos {s : Str} {c o limit : Nat} (h : o ≤ s.length) : occC s ⟨#[c]⟩ o s.length limit = (pos c o (s.cps.toList.drop o)).take limit := by
  have hl : s.cps.toList.length = s.length := Array.length_toList
  have e : s.length + 1 - o = (s.cps.toList.drop o).length + 1 := by rw [List.length_drop, hl]; omega
  unfold occC
  rw [e, occ_go _ o #[] o rfl (by rw [List.length_drop, hl]; omega) (Nat.le_refl _)]
  rfl
theorem split_pos {z : Str} {c : Nat} (hc : c < 256) : splitC z ⟨#[c]⟩ 4 = partsBetween z ((pos c 0 z.cps.toList).take 4) 1 := by
  have one : partsBetween z [] 1 = [z] := PySem.W.parts_nil _ 1
  have kc : Builtin.Str.strKind ⟨#[c]⟩ = 1 := by
    unfold Builtin.Str.strKind
    rw [if_pos (by simp [hc])]
  have kz : ¬ Builtin.Str.strKind z < 1 := by
    unfold Builtin.Str.strKind
    split
    · omega
    · split <;> omega
  unfold splitC
  rw [kc, decide_eq_false kz, Bool.or_false, occ_pos (Nat.zero_le _), List.drop_zero]
  by_cases h : z.length < (⟨#[c]⟩ : Str).length
  · rw [if_pos (decide_eq_true h)]
    have h0 : z.length = 0 := by have : (⟨#[c]⟩ : Str).length = 1 := rfl; omega
    have : z.cps.toList = [] := List.eq_nil_of_length_eq_zero (by rw [Array.length_toList]; exact h0)
    rw [this]
    exact one.symm
  · rw [if_neg (by rw [decide_eq_true_iff]; exact h)]
    show (if ((pos c 0 z.cps.toList).take 4).isEmpty = true then [z] else partsBetween z ((pos c 0 z.cps.toList).take 4) 1) = _
    split
    · next e => rw [List.isEmpty_iff.mp e]; exact one.symm
    · rfl
theorem sub_mid {z : Str} {p q r : List Nat} (h : z.cps.toList = p ++ (q ++ r)) {i j : Nat} (hi : i = p.length) (hj : j = p.length + q.length) : strSub z i j = tx q := by
  refine tx_list ?_
  show (z.cps.extract i j).toList = q
  rw [Array.toList_extract, h, hi, hj]
  simp
theorem cut_mid {z : Str} {p q r : List Nat} (h : z.cps.toList = p ++ (q ++ r)) {i j : Int} (hi : i = p.length) (hj : j = p.length + q.length) : cutS z (some i) (some j) = tx q := by
  have hl : z.length = p.length + (q.length + r.length) := by rw [← List.length_append, ← List.length_append, ← h]; exact Array.length_toList.symm
  subst hi hj
  refine tx_list ?_
  show (z.cps.toList.drop (HT.sIx z.length 0 (some (p.length : Int)))).take (HT.sIx z.length z.length (some ((p.length : Int) + q.length)) - HT.sIx z.length 0 (some (p.length : Int))) = q
  rw [show ((p.length : Int) + q.length) = ((p.length + q.length : Nat) : Int) by omega, HT.sIx_nat, HT.sIx_nat, Nat.min_eq_left (by omega), Nat.min_eq_left (by omega), h]
  simp
theorem find_pos {z : Str} {c : Nat} {p r : List Nat} (h : z.cps.toList = p ++ r) {i : Int} (hi : i = p.length) : findC z ⟨#[c]⟩ i = match pos c p.length r with | k :: _ => (k : Int) | [] => -1 := by
  have hl : z.length = p.length + r.length := by rw [← List.length_append, ← h]; exact Array.length_toList.symm
  subst hi
  unfold findC
  rw [show fromIndex z.length (p.length : Int) = p.length by unfold fromIndex; rw [if_neg (by omega)]; omega, occ_pos (by omega), h, List.drop_left]
  cases pos c p.length r <;> rfl
theorem starts {z : Str} {c : Nat} : Txt.startswith z ⟨#[c]⟩ = decide (z.cps.toList[0]? = some c) := by
  have h := PySem.StrLaws.subAt_one z c 0
  unfold PySem.Txt.startswith
  rw [Bool.eq_iff_iff, Bool.and_eq_true, decide_eq_true_iff, decide_eq_true_iff]
  exact h
theorem parts5 {z : Str} {a0 a1 a2 a3 r : List Nat} (h : z.cps.toList = a0 ++ 32 :: (a1 ++ 32 :: (a2 ++ 32 :: (a3 ++ 32 :: r)))) (h0 : 32 ∉ a0) (h1 : 32 ∉ a1) (h2 : 32 ∉ a2) (h3 : 32 ∉ a3) : partsF z = [tx a0, tx a1, tx a2, tx a3, tx r] := by
  have e1 : ∀ (o : Nat) (l : List Nat), pos 32 o (32 :: l) = o :: pos 32 (o + 1) l := fun o l => if_pos rfl
  have hp : (pos 32 0 z.cps.toList).take 4 = [a0.length, a0.length + 1 + a1.length, a0.length + 1 + a1.length + 1 + a2.length, a0.length + 1 + a1.length + 1 + a2.length + 1 + a3.length] := by
    rw [h, pos_app, pos_none h0, e1, pos_app, pos_none h1, e1, pos_app, pos_none h2, e1, pos_app, pos_none h3, e1]
    simp
  have hl : z.length = a0.length + 1 + a1.length + 1 + a2.length + 1 + a3.length + 1 + r.length := by
    rw [show z.length = z.cps.toList.length from Array.length_toList.symm, h]
    simp
    omega
  unfold partsF
  rw [show (" " : Str) = ⟨#[32]⟩ from rfl, split_pos (by decide), hp]
  show [strSub z 0 a0.length, strSub z (a0.length + 1) (a0.length + 1 + a1.length), strSub z (a0.length + 1 + a1.length + 1) (a0.length + 1 + a1.length + 1 + a2.length), strSub z (a0.length + 1 + a1.length + 1 + a2.length + 1) (a0.length + 1 + a1.length + 1 + a2.length + 1 + a3.length), strSub z (a0.length + 1 + a1.length + 1 + a2.length + 1 + a3.length + 1) z.length] = _
  have q0 : strSub z 0 a0.length = tx a0 := sub_mid (p := []) (q := a0) h rfl (by simp)
  have q1 : strSub z (a0.length + 1) (a0.length + 1 + a1.length) = tx a1 := sub_mid (p := a0 ++ [32]) (q := a1) (r := 32 :: (a2 ++ 32 :: (a3 ++ 32 :: r))) (by rw [h]; simp) (by simp) (by simp)
  have q2 : strSub z (a0.length + 1 + a1.length + 1) (a0.length + 1 + a1.length + 1 + a2.length) = tx a2 := sub_mid (p := a0 ++ 32 :: (a1 ++ [32])) (q := a2) (r := 32 :: (a3 ++ 32 :: r)) (by rw [h]; simp) (by simp; omega) (by simp; omega)
  have q3 : strSub z (a0.length + 1 + a1.length + 1 + a2.length + 1) (a0.length + 1 + a1.length + 1 + a2.length + 1 + a3.length) = tx a3 := sub_mid (p := a0 ++ 32 :: (a1 ++ 32 :: (a2 ++ [32]))) (q := a3) (r := 32 :: r) (by rw [h]; simp) (by simp; omega) (by simp; omega)
  have q4 : strSub z (a0.length + 1 + a1.length + 1 + a2.length + 1 + a3.length + 1) z.length = tx r := sub_mid (p := a0 ++ 32 :: (a1 ++ 32 :: (a2 ++ 32 :: (a3 ++ [32])))) (q := r) (r := []) (by rw [h]; simp) (by simp; omega) (by rw [hl]; simp; omega)
  rw [q0, q1, q2, q3, q4]
theorem parts3 {z : Str} {a0 a1 a2 : List Nat} (h : z.cps.toList = a0 ++ 32 :: (a1 ++ 32 :: a2)) (h0 : 32 ∉ a0) (h1 : 32 ∉ a1) (h2 : 32 ∉ a2) : partsF z = [tx a0, tx a1, tx a2] := by
  have e1 : ∀ (o : Nat) (l : List Nat), pos 32 o (32 :: l) = o :: pos 32 (o + 1) l := fun o l => if_pos rfl
  have hp : (pos 32 0 z.cps.toList).take 4 = [a0.length, a0.length + 1 + a1.length] := by
    rw [h, pos_app, pos_none h0, e1, pos_app, pos_none h1, e1, pos_none h2]
    simp
  have hl : z.length = a0.length + 1 + a1.length + 1 + a2.length := by
    rw [show z.length = z.cps.toList.length from Array.length_toList.symm, h]
    simp
    omega
  unfold partsF
  rw [show (" " : Str) = ⟨#[32]⟩ from rfl, split_pos (by decide), hp]
  show [strSub z 0 a0.length, strSub z (a0.length + 1) (a0.length + 1 + a1.length), strSub z (a0.length + 1 + a1.length + 1) z.length] = _
  have q0 : strSub z 0 a0.length = tx a0 := sub_mid (p := []) (q := a0) h rfl (by simp)
  have q1 : strSub z (a0.length + 1) (a0.length + 1 + a1.length) = tx a1 := sub_mid (p := a0 ++ [32]) (q := a1) (r := 32 :: a2) (by rw [h]; simp) (by simp) (by simp)
  have q2 : strSub z (a0.length + 1 + a1.length + 1) z.length = tx a2 := sub_mid (p := a0 ++ 32 :: (a1 ++ [32])) (q := a2) (r := []) (by rw [h]; simp) (by simp; omega) (by rw [hl]; simp; omega)
  rw [q0, q1, q2]
end LN
end
section
/-! own exceptions whose __init__ begins with super().__init__(..) -/
namespace XS
open PySem PySem.Spec PyProof.Rows L2
/-- what the top says of such an __init__, at f; its cell at cc holds the class at D -/
structure SupP (K : PySem.W.Frag) (mg : Str → Option Value) (qual : Str) (st : Stmt) (ps : List Str) where
  f : Addr
  D : Addr
  cc : Addr
  cda : Addr
  file : Str
  fd : FuncData
  fn : ∃ (oc kV doc pm ct : Value) (od an : Option Addr) (osl : Array (Option Value)), fd = PySem.W.fnX "__init__" qual (defArgs st) (defBody st) (defScope st) [("__class__", cc)] .none kV doc pm an (.ref cda) ct ∧ K.lookup f = some ⟨oc, od, .func fd, osl⟩
  cd : PySem.W.codeIn K (.ref cda) qual = true
  fl : ∃ (ccl : Value) (cdd : Option Addr) (vs : Array Value) (ccs : Array (Option Value)) (tf : Tok), K.lookup cda = some ⟨ccl, cdd, .fields vs, ccs⟩ ∧ vs[2]? = some (.str file tf)
  cell : ∃ (cl : Value) (cld : Option Addr) (csl : Array (Option Value)), K.lookup cc = some ⟨cl, cld, .cell (some (.ref D)), csl⟩
  cls : ∃ cdD, PySem.W.clsIn K D = some cdD
  any : PySem.W.nsIn K cStatics "thirdparty.any" = some none
  ms : mg "super" = none
  b : Binds K fd ps []
/-- what the program's own text says, for super() -/
def Pr (P : Program) (file : Str) : Prop := ((P.main.file : Str) == file) = true ∧ (P.main.scope.names.lookup ("super" : Str)).isSome = false
/-- a class whose instances such an __init__ of the class at D makes -/
structure SupC (K : PySem.W.Frag) (C D : Addr) : Prop where
  T : OexC K C
  su : PySem.W.ks_superIn K C D "__init__" = some (some (.builtin "ValueError.__init__"))
  ve : PySem.W.subIn K (.ref C) (.type "ValueError") = some true
  mD : PySem.W.mroIn K C (.ref D) = some true
section
variable {K : PySem.W.Frag} {mg : Str → Option Value} {qual : Str} {st : Stmt} {ps : List Str}
/-- its words -/
def nf (S : SupP K mg qual st ps) : NdefX.NF := ⟨"__init__", qual, defArgs st, defBody st, defScope st, [("__class__", S.cc)], S.cda⟩
end
section
variable {X : Cx} {pins : List (Addr × Obj)} {σ : L2.St} {H : Hp} {s : Shared} {a C u : Addr} {us : List Value}
/-- the wrapper of ValueError.__init__, called -/
theorem call_up {Q : Value → Shared → Prop} (T : OexC X.K C) (I : Inv X pins σ H s) (e : H a = some (exo a C none)) (hu : s.heap.get? u = some (PySem.W.kxs_mw "ValueError.__init__" a)) (hl : us.length ≤ sizeLine) (h : ∀ s', Inv X pins σ H s' → Q .none s') :
    wpAny (model X.prog X.w) X.A (call (.ref u) us) Q X.xe s := by
  obtain ⟨n1, q1, N1, bs1, bm1, sn1, sub1, ab1, col1, dd1, j0, j1, j2, j3, j5, hC, hbm⟩ := T.cls
  obtain ⟨t1, ho⟩ := exo_at I.hok e
  have hC' := I.kIn _ _ hC
  obtain ⟨hp, g, d, t, os⟩ := s
  have VE := PySem.F.excBase_ValueError
  refine wpAny_call (codeAny_of_tree ?_)
  show wpAny (model X.prog X.w) X.A.in1 (callAny (.ref u) ⟨us, []⟩) _ _ _
  unfold callAny
  refine wpAny_bind (wpAny_load hu ?_)
  have e1 : (Value.type "method-wrapper" == Value.type "method" || Value.type "method-wrapper" == Value.type "builtin_function_or_method" || Value.type "method-wrapper" == Value.type "method-wrapper") = true := by decide
  simp only [PySem.W.kxs_mw, e1, if_true]
  refine PySem.W.KFB.if_so (by decide) (wpAny_bind (PySem.W.check_bound_init VE.toExcCallFacts hC' ho rfl (wpAny_bind (wpAny_pure (wpAny_pure ?_)))))
  refine ⟨plainId_quiet VE.init.plain _, codeAny_builtin VE.initEntry (PySem.W.exc_init_tree (cls := .ref C) (t0 := t1) (dv := none) (c2 := .none) (c3 := .none) (b4 := .bool false) ho hl fun h' k hx _ => ?_)⟩
  have J := I.write (t' := t) (x := a) (e := a) (o := exo a C none) (by rw [e]; exact True.intro) (.inl rfl) k ⟨_, hx⟩ (exo_ok hx)
  have eu : upd H a (exo a C none) = H := funext fun b => by
    by_cases hb : b = a
    · subst hb
      exact upd_same.trans e.symm
    · exact upd_ne hb
  rw [eu] at J
  exact h _ J
end
end XS
namespace XS
open PySem PySem.Spec PyProof.Rows L2
section
variable {CX : CXT} {P : Program} {w : World} {K : PySem.W.Frag} {mg : Str → Option Value} {base : Heap} {N ps : List Str} {A : Around} {outer : List Env} {s : Shared} {H : Hp} {E : XK} {qual : Str} {st : Stmt}
/-- the body's context -/
abbrev cxS (CX : CXT) (P : Program) (w : World) (base : Heap) (N : List Str) (S : SupP K mg qual st ps) (A : Around) (outer : List Env) (s : Shared) (H : Hp) (E : XK) : Cx := NdefX.ncx CX P w K mg base N (nf S) S.f A outer s H E
/-- super().__init__(..), the first statement -/
theorem sup_stmt (S : SupP K mg qual st ps) (hP : Pr P S.file) {pl : Sem Bool} {p0 p1 p2 p3 p4 : Pos} {e : Expr} {es : List Expr} {ta : TA} {a C : Addr} {σ : L2.St} {H1 : Hp} {s1 : Shared} {m : Str → Option Value} {R : List V → Hp → Prop} {Q : Flow → Shared → Prop} {body : List Stmt} {ar : Arg}
    (hm : s1.heap.Ns (cxS CX P w base N S A outer s H E).env.locals m) (hv : m "self" = some (.ref a)) (har : ((defArgs st).posonlyargs ++ (defArgs st).args).head? = some ar) (harn : ar.arg = "self")
    (ks : (defScope st).names.lookup ("super" : Str) = some .globalImplicit) (kc : (defScope st).names.lookup ("__class__" : Str) = some .free) (ka : (defScope st).names.lookup ("self" : Str) = some .local) (hk : (defScope st).kind = .function)
    (ha : PA (cxS CX P w base N S A outer s H E) (e :: es) ta) (I : Inv (cxS CX P w base N S A outer s H E) [] σ H1 s1) (eo : H1 a = some (exo a C none)) (SC : SupC K C S.D)
    (ht : ta σ H1 fun ws H2 => ws.length ≤ 1000 ∧ H2 a = some (exo a C none) ∧ R ws H2) (hQ : ∀ pn ws H2 s2, Inv (cxS CX P w base N S A outer s H E) pn σ H2 s2 → R ws H2 → Q .next s2)
    (hi : interactive (cxS CX P w base N S A outer s H E).env = false := by rfl) (hs : swapsWith (.Call (.Attribute (.Call (.Name "super" p0) [] [] p1) "__init__" p2) (e :: es) [] p3) none p4.line (cxS CX P w base N S A outer s H E).env = pure false := by rfl)
    (he : eval (.Call (.Attribute (.Call (.Name "super" p0) [] [] p1) "__init__" p2) (e :: es) [] p3) (cxS CX P w base N S A outer s H E).env = (do
      let ov ← attributeBase (.Call (.Name "super" p0) [] [] p1) "__init__" (cxS CX P w base N S A outer s H E).env (eval (.Call (.Name "super" p0) [] [] p1) (cxS CX P w base N S A outer s H E).env)
      standAt p2.atName
      let (f, first) ← holding [ov] (getMethod ov "__init__" pl)
      callWith p3 f first (backTo p3 (starEach (e :: es) (cxS CX P w base N S A outer s H E).env)) []) := by rfl)
    (h1 : starEach (e :: es) (cxS CX P w base N S A outer s H E).env = (false, eval e (cxS CX P w base N S A outer s H E).env) :: starEach es (cxS CX P w base N S A outer s H E).env := by rfl) (h2 : (backTo p3 (starEach es (cxS CX P w base N S A outer s H E).env)).any (·.1) = false := by rfl) :
    PySem.wpAt (model P w) (cxS CX P w base N S A outer s H E).A (.func body (cxS CX P w base N S A outer s H E).env) (exec (.Expr (.Call (.Attribute (.Call (.Name "super" p0) [] [] p1) "__init__" p2) (e :: es) [] p3) p4) (cxS CX P w base N S A outer s H E).env) Q (cxS CX P w base N S A outer s H E).xe s1 := by
  have XK := I.kIn
  obtain ⟨oc, kV, doc, pm, ct, od, an, osl, efd, lk⟩ := S.fn
  obtain ⟨ccl, cdd, vs, ccs, tf, lc, hv2⟩ := S.fl
  obtain ⟨cl, cld, csl, lcc⟩ := S.cell
  obtain ⟨cdD, hD⟩ := S.cls
  obtain ⟨t1, ho⟩ := exo_at I.hok eo
  obtain ⟨oD, hD1, hD2⟩ : ∃ oD, s1.heap.get? S.D = some oD ∧ oD.data = .cls cdD := by
    unfold PySem.W.clsIn at hD
    split at hD
    · next lo =>
      cases hD
      exact ⟨_, XK _ _ lo, rfl⟩
    · cases hD
  obtain ⟨cdC, hC⟩ : ∃ cdC, PySem.W.clsIn K C = some cdC := by
    cases z : PySem.W.clsIn K C with
    | some c => exact ⟨c, rfl⟩
    | none =>
      have y := SC.su
      unfold PySem.W.ks_superIn at y
      rw [z] at y
      cases y
  have su := SC.su
  unfold PySem.W.ks_superIn at su
  rw [hC, Option.bind_some] at su
  have aC : a ≠ C := PySem.W.ks_ne (odx := none) XK ⟨ho, rfl, rfl, trivial⟩ hC
  refine PySem.ks_wpAt_Expr_any (PySem.ks_wpAt_MethodCall (pl := pl) ?_ he) hi hs
  refine PySem.ks_wpAt_super_base (of := _) (fd := S.fd) (ar := ar) ks kc (by decide +kernel) rfl (XK _ _ lk) rfl (by rw [efd]; exact har) rfl (XK _ _ lc) rfl hv2 hP.1 hP.2 ?_
  obtain ⟨mb, hb1, hb2⟩ := I.mod.blt
  refine PySem.W.ks_loadName_global hk ks (Calls.loadGlobal_builtin (I.mod.glob.keeps I.bk) S.ms (hb1.keeps I.bk) (v := .type "super") ((hb2 _ (by decide +kernel)).trans (by decide +kernel)) ⟨rfl, ?_⟩)
  refine wpAny_loadName_free hk kc rfl ⟨_, XK _ _ lcc, rfl⟩ ?_
  rw [harn]
  refine wpAny_loadName_local hk ka hm hv ?_
  obtain ⟨hp, g, d, t, os⟩ := s1
  refine PySem.ks_wpAny_isType_cls hD1 hD2 ⟨rfl, PySem.ks_wpAny_call_super hD1 hD2 ho rfl (fun c z => by cases z) (PySem.W.looks_mroIn XK SC.mD) fun h' e1 k1 => ?_⟩
  have XK2 := XK.keeps k1
  have ho2 := k1 _ _ ho
  refine PySem.W.kxs_getMethod PySem.W.kxs_ValueError e1 (PySem.W.looks_opaque XK2 S.any) (l₀ := cdC.mro) (fun A' Q' E' s' k q => wpAny_bind ((PySem.W.looks_clsIn XK2 hC) A' _ E' s' k (wpAny_pure q))) rfl XK2 su
    (PySem.W.InstAt.type (od := none) ⟨ho2, rfl, rfl, trivial⟩ |>.andThen (PySem.W.looks_subIn XK2 SC.ve)) aC (by decide +kernel) ?_
  have k2 : ∀ b o, hp.get? b = some o → (h'.push (PySem.W.kxs_mw "ValueError.__init__" a)).get? b = some o := fun b o z => Heap.get?_push_of_some _ (k1 b o z)
  have gu : (h'.push (PySem.W.kxs_mw "ValueError.__init__" a)).get? h'.objs.size = some (PySem.W.kxs_mw "ValueError.__init__" a) := Heap.get?_push_size _ rfl
  have le1 : hp.objs.size ≤ h'.objs.size := Nat.le_of_lt (Heap.lt_size e1)
  have I2 := I.kept (t' := t + 1) k2
  have I3 := I2.pins_of (pins' := [(h'.objs.size, PySem.W.kxs_mw "ValueError.__init__" a)]) fun p hp' => by
    obtain rfl := List.mem_singleton.mp hp'
    exact ⟨gu, I.hok.fresh le1, fun z => by
      have y : h'.objs.size = (cxS CX P w base N S A outer s H E).env.locals := z
      have l := I.lt
      rw [← y] at l
      exact Nat.lt_irrefl _ (Nat.lt_of_lt_of_le l le1), I.nofs le1, fun v z => by cases z⟩
  rw [h1]
  refine PySem.W.kxs_callWith (i := "ValueError.__init__") (x := a) (by show (false || (backTo p3 (starEach es _)).any (·.1)) = false; rw [h2]; rfl) (Calls.evalArgs_plain ?_)
  have ha' := ha.run p3 _ _ σ H1 _ I3 ht
  rw [h1] at ha'
  refine thn ha' fun us s3 z => ?_
  obtain ⟨ws, H2, I4, r, hl, eo2, q⟩ := z
  have pu := (I4.pin (h'.objs.size, _) (List.mem_append_right _ (List.mem_singleton.mpr rfl))).1
  refine ⟨pu, call_up (X := cxS CX P w base N S A outer s H E) SC.T I4 eo2 pu (by rw [List.nil_append, ← r.length]; exact Nat.le_trans hl (by decide)) fun s4 I5 => hQ _ ws H2 s4 I5 q⟩
end
end XS
namespace XS
open PySem PySem.Spec PyProof.Rows L2
section
variable {CX : CXT} {P : Program} {w : World} {K : PySem.W.Frag} {mg : Str → Option Value} {base : Heap} {N ps : List Str} {qual : Str} {st : Stmt} {k : Nat} {sp : Sp}
/-- such an __init__ by its body -/
theorem sup_fn (S : SupP K mg qual st ("self" :: ps)) (hP : Pr P S.file) (NS : NdefX.NScope N ("self" :: ps) ["__class__"] (defScope st)) {p0 p1 p2 p3 p4 : Pos} {e : Expr} {es : List Expr} {rest : List Stmt} {ar : Arg}
    (hb : defBody st = .Expr (.Call (.Attribute (.Call (.Name "super" p0) [] [] p1) "__init__" p2) (e :: es) [] p3) p4 :: rest)
    (har : ((defArgs st).posonlyargs ++ (defArgs st).args).head? = some ar) (harn : ar.arg = "self") (ks : (defScope st).names.lookup ("super" : Str) = some .globalImplicit) (len : ∀ vs H Q E, sp vs H Q E → vs.length = ps.length + 1)
    (hbody : ∀ (A : Around) (outer : List Env) (s : Shared) (H : Hp) (vs : List V) (Q : VK) (E : XK), Room k (cxS CX P w base N S A outer s H E).A → sp vs H Q E → ∃ (ta : TA) (t : TS) (a C : Addr) (vs' : List V), PA (cxS CX P w base N S A outer s H E) (e :: es) ta ∧ PSs (cxS CX P w base N S A outer s H E) rest t ∧
      vs = .ref a :: vs' ∧ H a = some (exo a C none) ∧ SupC K C S.D ∧ ta (NdefX.startF N vs [none]) H fun ws H1 => ws.length ≤ 1000 ∧ H1 a = some (exo a C none) ∧ t { nx := fun _ H' => Q .non H', rt := Q } (NdefX.startF N vs [none]) H1)
    (g1 : ∀ A outer s H E, swapsWith (.Call (.Attribute (.Call (.Name "super" p0) [] [] p1) "__init__" p2) (e :: es) [] p3) none p4.line (cxS CX P w base N S A outer s H E).env = pure false := by exact fun _ _ _ _ _ => rfl)
    (g2 : ∀ A outer s H E, ∃ pl : Sem Bool, eval (.Call (.Attribute (.Call (.Name "super" p0) [] [] p1) "__init__" p2) (e :: es) [] p3) (cxS CX P w base N S A outer s H E).env = (do
      let ov ← attributeBase (.Call (.Name "super" p0) [] [] p1) "__init__" (cxS CX P w base N S A outer s H E).env (eval (.Call (.Name "super" p0) [] [] p1) (cxS CX P w base N S A outer s H E).env)
      standAt p2.atName
      let (f, first) ← holding [ov] (getMethod ov "__init__" pl)
      callWith p3 f first (backTo p3 (starEach (e :: es) (cxS CX P w base N S A outer s H E).env)) []) := by exact fun _ _ _ _ _ => ⟨_, rfl⟩)
    (g3 : ∀ A outer s H E, starEach (e :: es) (cxS CX P w base N S A outer s H E).env = (false, eval e (cxS CX P w base N S A outer s H E).env) :: starEach es (cxS CX P w base N S A outer s H E).env := by exact fun _ _ _ _ _ => rfl)
    (g4 : ∀ A outer s H E, (backTo p3 (starEach es (cxS CX P w base N S A outer s H E).env)).any (·.1) = false := by exact fun _ _ _ _ _ => rfl) : FnOk P w K mg base CX (k + 1) S.f S.fd ("self" :: ps) sp := by
  refine ⟨len, fun A outer s H args us vs Q E hr e0 hbind r hsp => ?_⟩
  have hl := len _ _ _ _ hsp
  obtain ⟨oc, kV, doc, pm, ct, od, an, osl, efd, lk⟩ := id S.fn
  obtain ⟨cl, cld, csl, lcc⟩ := S.cell
  have old : ∀ b o, base.get? b = some o → s.heap.get? b = some o := fun b o z => (e0.bs b o z).1
  have XK : K.In s.heap := e0.mod.kin.keeps old
  have lim : s.heap.NoLimit := e0.mod.nolimit.keeps old
  have so : S.fd.scope = defScope st := by rw [efd]
  have C0 : NdefX.CellsAt [("__class__", S.cc)] ["__class__"] [(none : Option V)] s.heap H := by
    have q : ∀ y c, ([(("__class__" : Str), S.cc)] : List (Str × Addr)).lookup y = some c → y = "__class__" ∧ c = S.cc := fun y c z => by
      rw [List.lookup_cons] at z
      split at z
      · next b =>
        cases z
        exact ⟨beq_iff_eq.mp b, rfl⟩
      · cases z
    refine ⟨rfl, fun y c z => ?_, fun x y c z1 z2 => by rw [(q _ _ z1).1, (q _ _ z2).1], fun i y z => ?_⟩
    · obtain ⟨_, rfl⟩ := q _ _ z
      exact ⟨(e0.bs _ _ (e0.mod.kin _ _ lcc)).2, _, _, XK _ _ lcc, rfl⟩
    · cases i with
      | zero =>
        cases z
        exact ⟨S.cc, rfl, fun v z => by cases z⟩
      | succ i => cases z
  refine PySem.ks_codeAny_call_defAt (fd := S.fd) (body := defBody st) (binds := (("self" : Str) :: ps).zip us) hr.depth (XK _ _ lk) rfl lim ?_ (by rw [efd]) hbind (by rw [so]; exact NS.nocell) (fun y hy => by rw [so]; exact NS.par y.1 (List.of_mem_zip hy).1) (fun h₁ hns kp => ?_) (by rw [so]; exact NS.co) (by rw [so]; exact NS.gen) (by rw [so]; exact NS.kind)
  · rw [efd]
    exact PySem.W.codeRec_of XK S.cd
  · have ce : callEnv S.fd s.heap.objs.size S.f = NdefX.envF (nf S) S.f s.heap.objs.size := by
      rw [efd]
      rfl
    rw [ce]
    obtain ⟨ta, t, a, C, vs', hta, hts, ev, eo, SC, q⟩ := hbody A outer s H vs Q E (hr.deeper _) hsp
    have I : Inv (cxS CX P w base N S A outer s H E) [] (NdefX.startF N vs [none]) H { s with heap := h₁, toks := s.toks + ((("self" : Str) :: ps).zip us).length } := NdefX.inv_startN NS hr.hd e0 (by rw [hl]; rfl) r C0 hns kp
    rw [hb]
    have hv : ((("self" : Str) :: ps).zip us).reverse.lookup ("self" : Str) = some (Value.ref a) := by
      subst ev
      cases r with
      | @cons _ u0 _ ur ra _ =>
        obtain rfl : u0 = Value.ref a := ra
        have nd : (("self" : Str) :: ps).Nodup := by
          have z := NS.nd.sublist (List.take_sublist ((("self" : Str) :: ps).length + [("__class__" : Str)].length) N)
          rw [NS.pre] at z
          exact (List.nodup_append.mp z).1
        exact NdefX.zip_look (i := 0) nd rfl rfl
    have fin : ∀ {σ' : L2.St} {H' : Hp} {v : V} {u : Value} {pn : List (Addr × Obj)} {s' : Shared}, Inv (cxS CX P w base N S A outer s H E) pn σ' H' s' → L2.RelV v u → Q v H' → CE outer P w H s Q u s' :=
      fun {σ' H' v u pn s'} J rv z => ⟨v, H', J.os, J.bare, J.base, J.hok, rv, z⟩
    obtain ⟨pl, g2'⟩ := g2 A outer s H E
    refine PySem.ks_wpAt_execs_cons (sup_stmt (CX := CX) (E := E) S hP hns hv har harn ks (NS.frk _ (List.mem_singleton.mpr rfl)) (NS.par _ List.mem_cons_self) NS.kind hta I eo SC q (fun pn ws H2 s2 J z => ?_) (by unfold interactive; show ((defScope st).kind == _ && _) = false; rw [NS.kind]; rfl) (g1 _ _ _ _ _) g2' (g3 _ _ _ _ _) (g4 _ _ _ _ _))
    refine wpAt_of_wpAny (wpAny_mono (hts.run pn s2 _ H2 _ J z) (fun fl s' hs => ?_) fun _ _ hs => hs)
    cases fl with
    | ret u =>
      obtain ⟨v, σ', H', J', rv, z⟩ := hs
      exact fin J' rv z
    | next =>
      obtain ⟨σ', H', J', z⟩ := hs
      exact fin (v := V.non) (u := Value.none) J' rfl z
    | brk =>
      obtain ⟨_, _, _, z⟩ := hs
      exact False.elim z
    | cont =>
      obtain ⟨_, _, _, z⟩ := hs
      exact False.elim z
end
end XS
end
section
/-! own exceptions with fields, caught by several clauses that name them -/
namespace XS
open PySem PySem.Spec PyProof.Rows L2
section
variable {prog : Program} {w : World} {A : Around} {E : Value → Shared → Prop} {s : Shared} {K : PySem.W.Frag} {x D : Addr} {ox od : Obj}
/-- the class of an instance that has a dict -/
theorem cls_attr {Q : Option Value → Shared → Prop} (c : ExcC K D) (X : K.In s.heap) (I : PySem.W.InstAt s.heap x ox D (some od)) (h : Q (some (.ref D)) { s with toks := s.toks + 1 }) : wpAny (model prog w) A (getAttr? (.ref x) "__class__") Q E s := by
  have ff : PySem.W.findObj K D (some od) "__class__" = some (.bind (.builtin "getset_descriptor.__get__") (.builtin "object.__class__")) := PySem.W.findObj_data (by obtain ⟨cd, hc, _⟩ := PySem.W.any_some c.hd; rw [hc]; rfl) c.ha c.hn c.ht
  have T0 : PySem.W.Looks (model prog w) s.heap (typeOf (.ref x)) (.ref D) := I.type
  have T3 := PySem.W.looks_find (M := model prog w) X I ff
  have T1 : PySem.W.Looks (model prog w) s.heap _ _ := PySem.W.looks_findIn X c.hg
  have T2 : PySem.W.Looks (model prog w) s.heap _ _ := PySem.W.looks_findIn X c.hk
  have up : PySem.W.Looks (model prog w) s.heap (isInstance (.ref x) (.type "BaseException")) true := T0.andThen (PySem.W.looks_subIn X c.hs)
  obtain ⟨hp, g, d, t, os⟩ := s
  have n0 : (Value.builtin "BaseException.__getattribute__" == Value.builtin "object.__getattribute__") = false := by decide +kernel
  unfold getAttr? getAttrBy? getAttrBy
  refine wpAny_bind (wpAny_mkText (wpAny_bind (wpAny_attempt (wpAny_holding (wpAny_bind (T0.at (wpAny_bind (T1.at ?_))))))))
  show wpAny _ _ (if (onTheHeap (Value.ref D) && Value.builtin "BaseException.__getattribute__" == Value.builtin "object.__getattribute__") = true then _ else _) _ _ _
  rw [n0, Bool.and_false, if_neg Bool.false_ne_true]
  unfold getAttrByItsOwn hookBefore
  refine wpAny_bind ?_
  rw [if_pos (show onTheHeap (Value.ref D) = true from rfl)]
  refine T2.at (wpAny_bind (wpAny_attempt (wpAny_holding ?_)))
  unfold callGetattribute
  rw [show (false && onTheHeap (Value.builtin "BaseException.__getattribute__")) = false from rfl, if_neg Bool.false_ne_true]
  unfold boundAndCalled
  rw [PySem.F.excAttr_ValueError.ga.bind (.ref x)]
  refine wpAny_bind (wpAny_pure ?_)
  show wpAny _ _ (call (.builtin "BaseException.__getattribute__") [.ref x, .str "__class__" t]) _ _ _
  refine wpAny_call (codeAny_call_builtin PySem.F.excAttr_ValueError.ga.plain PySem.F.entry_bexc_ga (@PySem.W.check_slot (model prog w) _ _ ⟨hp, g, d, t + 1, os⟩ "BaseException.__getattribute__" "BaseException" "__getattribute__" (.ref x) [.str "__class__" t] [] _ (by decide +kernel) (by decide +kernel) up (PySem.F.args_bexc_ga (.ref x) (.str "__class__" t)) ?_))
  unfold Builtin.«object.__getattribute__»
  refine wpAny_bind (wpAny_of_eq (a := ((Value.ref x : Value), [Value.str "__class__" t])) (by first | rfl | (simp only [slotArgs]; rfl)) (wpAny_bind (wpAny_pure (wpAny_bind (T0.at (wpAny_bind (T3.at ?_)))))))
  show wpAny _ _ (holding [Value.builtin "object.__class__"] (call (.builtin "getset_descriptor.__get__") [.builtin "object.__class__", .ref x, .ref D]) >>= ret) _ _ _
  refine wpAny_bind (wpAny_holding (wpAny_call (PySem.W.class_get (s := ⟨hp, g, d, t + 1, os⟩) (ox := ox) (od := some od) X I c.hm (wpAny_pure ?_))))
  show wpAny _ _ (handedOut (.ref D)) _ _ _
  rw [PySem.W.handedOut_of (v := .ref D) rfl]
  first
    | exact wpAny_pure (wpAny_pure h)
    | exact wpAny_pure h
    | exact wpAny_pure (wpAny_bind (wpAny_pure (wpAny_pure h)))
theorem cls_is (c : ExcC K D) : PySem.W.KitX K (.ref x) (.ref D) (fun h => ∃ ox od, PySem.W.InstAt h x ox D (some od)) where
  ty := fun _ _ _ ⟨_, _, I⟩ => I.type
  it := fun _ _ X _ A' Q' E' s' k q => by
    obtain ⟨cdD, hcD, _⟩ := PySem.W.any_some c.hd
    unfold PySem.W.clsIn at hcD
    split at hcD
    · next ho =>
      unfold isType loadHead
      exact wpAny_bind (wpAny_loadPart (k _ _ (X _ _ ho)) (wpAny_pure q))
    · cases hcD
  ne := fun h tp dd its n sl X htp => by
    obtain ⟨cdD, hcD, _⟩ := PySem.W.any_some c.hd
    refine Bool.eq_false_iff.mpr fun q => ?_
    obtain rfl : D = tp := Value.ref.inj (beq_iff_eq.mp q)
    unfold PySem.W.clsIn at hcD
    split at hcD
    · next ho => cases (X _ _ ho).symm.trans htp
    · cases hcD
  ca := fun X ⟨_, _, I⟩ k => cls_attr c X I k
end
section
variable {X : Cx} {a D dd : Addr} {oe : Obj} {pn : List (Addr × Obj)} {cls : Value} {d : Option Addr}
/-- isinstance(e, c) and isinstance(e, (c, ..)): e the exception that the suite holds, with fields -/
def rIsF (K : PySem.W.Frag) (D a : Addr) (cls : Value) (d : Option Addr) : List V → Hp → VK → Prop := fun xs H Q => cls = .ref D ∧ ∃ (dd : Addr) (fs : List (Str × V)) (b : Bool), d = some dd ∧ H dd = some (.xd fs) ∧
  ((∃ (c : V) (cv : Value), xs = [.ref a, c] ∧ ClsV c cv ∧ PySem.W.kitOne K (.ref D) cv = some b) ∨ ∃ (tp : Addr) (cs : List V) (us : List Value), xs = [.ref a, .ref tp] ∧ H tp = some (.tup cs) ∧ Paired ClsV cs us ∧ PySem.W.kitAny K (.ref D) us = some b) ∧ Q (.bl b) H
theorem call_isF {K0 : PySem.W.Frag} (hK : X.K = K0) (C : ExcC K0 D) (hz : Zc cls d oe) (hf : ∃ vs, oe.data = .fields vs) : CallR (X.suite a ((a, oe) :: pn)) (.builtin "isinstance") (rIsF K0 D a cls d) := by
  subst hK
  intro pins s σ H xs us Q I r h
  obtain ⟨rfl, dd, fs, b, rfl, ed, h, q⟩ := h
  obtain ⟨vs, hv⟩ := hf
  obtain ⟨hget, _⟩ := I.pin (a, oe) (List.mem_append.mpr (.inl List.mem_cons_self))
  have hx : ObjOk X.prog X.w H s.heap dd (.xd fs) := I.hok dd _ ed
  obtain ⟨mA, ⟨od, es, ep, eo, _⟩, _⟩ := hx
  have J : ∃ ox od, PySem.W.InstAt s.heap a ox D (some od) := ⟨oe, od, hget, hz.1, by unfold PySem.W.notCls; rw [hv] <;> rfl, by rw [hz.2]; exact eo⟩
  rcases h with ⟨c, cv, rfl, k, e⟩ | ⟨tp, cs, ws, rfl, hT, k, e⟩
  · obtain ⟨u1, u2, rfl, r1, r2⟩ := vals2 r
    obtain rfl : u1 = Value.ref a := r1
    have e2 := k.eq r2
    subst e2
    exact PySem.W.kia_one (cls_is C) I.kIn J e (fun z => nomatch z) fun tk => ⟨.bl b, H, I.tok tk, rfl, q⟩
  · obtain ⟨u1, u2, rfl, r1, r2⟩ := vals2 r
    obtain rfl : u1 = Value.ref a := r1
    obtain rfl : u2 = Value.ref tp := r2
    obtain ⟨_, its, rv, o, h1, h2, n, h3⟩ := (show ObjOk X.prog X.w H s.heap tp (.tup cs) from I.hok tp _ hT)
    obtain rfl := ClsV.all k rv
    obtain ⟨oc, odd, dt, sl⟩ := o
    obtain rfl : oc = .type "tuple" := h2
    obtain rfl : dt = .seq its.toArray n := h3
    exact PySem.W.kia_tup (cls_is C) I.kIn J h1 e (fun z => nomatch z) fun tk => ⟨.bl b, H, I.tok tk, rfl, q⟩
end
/-- what clauses 'except c as x' wish of an exception of the body, one after the other -/
def wMs (K : PySem.W.Frag) (Wout : WX) (D : Ends) : List (Value × Nat × (Addr → Value → Option Addr → TS)) → WX
  | [] => Wout
  | (c, i, ts) :: r => fun cls d σ H => ∃ b, PySem.W.exmOne K cls c = some b ∧ (b = true → ∀ a, H a = none → ts a cls d { nx := fun σ' H' => D.nx (σ'.set i none) H', rt := D.rt, bk := fun σ' H' => D.bk (σ'.set i none) H', ct := fun σ' H' => D.ct (σ'.set i none) H' } (σ.set i (some (.ref a))) H) ∧
      (b = false → wMs K Wout D r cls d σ H)
inductive Hds (X : Cx) : List ExceptHandler → List (Value × Nat × (Addr → Value → Option Addr → TS)) → Prop
  | nil : Hds X [] []
  | cons {x n : Str} {c : Value} {i : Nat} {ts : Addr → Value → Option Addr → TS} {b₀ : Stmt} {suite : List Stmt} {np pos' : Pos} {hds : List ExceptHandler} {l : List (Value × Nat × (Addr → Value → Option Addr → TS))} (hi : X.N[i]? = some n) (hln : X.env.kindOf n = some .local) (hc : Names X x c)
      (hsu : ∀ (a : Addr) (oe : Obj) (cls : Value) (d : Option Addr) (pn : List (Addr × Obj)), Zc cls d oe → (∃ vs, oe.data = .fields vs) → PSs (X.suite a ((a, oe) :: pn)) (b₀ :: suite) (ts a cls d)) (r : Hds X hds l) :
      Hds X (.ExceptHandler (some (.Name x np)) (some n) (b₀ :: suite) pos' :: hds) ((c, i, ts) :: l)
section
variable {X : Cx} {body : List Stmt} {h₀ : ExceptHandler} {hds : List ExceptHandler} {l : List (Value × Nat × (Addr → Value → Option Addr → TS))} {pos : Pos} {tb : WX → TS} {Wout : WX}
theorem ps_try_ms (stk : X.stack = X.env :: X.outer) (fr : X.env.frame = some X.env.locals) (hN : X.N.Nodup) (tk : Takes X Wout)
    (hb : ∀ (W : WX) (pn : List (Addr × Obj)) (xe : Value → Shared → Prop), Takes (X.tr pn xe) W → PassesOwn (model X.prog X.w) X.A X.env xe → PSs (X.tr pn xe) body (tb W)) (hh : Hds X (h₀ :: hds) l) :
    PS X (.Try body (h₀ :: hds) [] [] pos) (fun D σ H => tb (wMs X.K Wout D l) D σ H) := by
  refine ⟨fun pins s σ H D I h => ?_⟩
  have ok := I.ok
  have frs' : X.A.frames = some (X.env :: X.outer) := ok.frames.trans (congrArg some stk)
  refine wpAny_Try_except (wpAny_mono ((hb (wMs X.K Wout D l) (X.pn ++ pins) (fun e s₁ => wpAny (model X.prog X.w) X.A (noteFrame e X.env) (fun _ s₂ => wpAny (model X.prog X.w) X.A (setFlight e none) (fun _ s₃ =>
    wpAny (model X.prog X.w) X.A (handleBy e X.env (h₀ :: hds)) (SP X pins D) X.xe s₃) X.xe s₂) X.xe s₁) (fun u s' xx => ?_) PassesOwn.looking).run [] s σ H D (I.toTry _) h) (fun f s1 hsp => ?_) fun _ _ he => he)
  · obtain ⟨a, B, sI, pins', σ', H', cls, d, rfl, J', nb, up, sky, na, os, ag, wish⟩ := xx
    have J : Inv X pins σ' H' sI := J'.ofTry ok
    show wpAny (model X.prog X.w) X.A (noteFrame (.ref a) X.env) _ _ _
    refine Sky.land Zc.steady frs' fr (show Sky B (X.env :: X.outer) a (Zc cls d) X.env.locals s'.heap by rw [← stk]; exact sky) fun h3 fl3 up3 => ?_
    have J3 : Inv X pins σ' H' { s' with heap := h3 } := J.landed nb fl3.1 (up.trans up3) os ag
    obtain ⟨oe3, vs3, he3, hz3, hd3⟩ := fl3.there
    have nfr : a ∉ frs (X.env :: X.outer) := fun hm => by
      obtain ⟨_, o', e', hnf⟩ := fl3.2.2.1.mem hm
      rw [he3] at e'
      cases e'
      exact hnf _ hd3
    have nL : a ≠ X.env.locals := fun z => nfr (List.mem_filterMap.mpr ⟨X.env, List.mem_cons_self, fr.trans (congrArg some z.symm)⟩)
    have nF : a ∉ X.fs := fun hm => by
      obtain ⟨e, me, q⟩ := List.mem_filterMap.mp hm
      exact nfr (List.mem_filterMap.mpr ⟨e, List.mem_cons_of_mem _ me, q⟩)
    have S3 := J3.suite he3 hd3 na nL nF
    have go : ∀ {hs' : List ExceptHandler} {l' : List (Value × Nat × (Addr → Value → Option Addr → TS))}, Hds X hs' l' → wMs X.K Wout D l' cls d σ' H' → wpAny (model X.prog X.w) X.A (handleBy (.ref a) X.env hs') (SP X pins D) X.xe { s' with heap := h3 } := fun {hs' l'} hk => by
      induction hk with
      | nil =>
        intro wish
        refine wpAny_handleBy_nil ?_
        obtain ⟨_, _, _, oe, vs, T, oT, ts', he, hz, hd, h1, hr⟩ := id fl3
        unfold PySem.passOn
        refine wpAny_bind (wpAny_field he hd h1 ?_)
        rw [if_neg (show ¬ ((Value.ref T == Value.none) = true) by simp)]
        have on : wpAny (model X.prog X.w) X.A (setFlight (.ref a) X.env.frame) (fun _ s4 => wpAny (model X.prog X.w) X.A (throw (.ref a) : Sem Flow) (SP X pins D) X.xe s4) X.xe { s' with heap := h3 } := by
          rw [fr]
          exact HandSPX.setFlight_upZ fl3 fun h4 hh4 up4 => wpAny_throw (tk _ _ ⟨a, B, sI, pins, σ', H', cls, d, rfl, J, nb, (up.trans up3).trans up4, .inr (.inr (by rw [stk]; exact hh4)), na, os, ag, wish⟩)
        first | exact wpAny_bind (wpAny_pure (wpAny_bind on)) | exact wpAny_bind on
      | @cons x n c i ts b₀ suite np pos' hds2 l2 hi hln hc hsu r ih =>
        intro wish
        obtain ⟨b, hb1, yes, no⟩ := wish
        have T3 : PySem.W.Looks (model X.prog X.w) h3 (typeOf (.ref a)) cls := fun A Q E s k q => wpAny_typeOf_ref (k _ _ he3) (by rw [hz3.1]; exact q)
        have M3 := PySem.W.exm_one (M := model X.prog X.w) (J3.kIn) T3 hb1
        refine wpAny_handleBy_cons (codeAny_handlers_test ?_) (by intro q; cases q)
        have named : ∀ {Q : Value → Shared → Prop} {E : Value → Shared → Prop}, Q c { s' with heap := h3 } → wpAny (model X.prog X.w) (X.A.mark (some (.ref a))) (eval (.Name x np) X.env) Q E { s' with heap := h3 } := fun {Q E} q => by
          rcases hc with ⟨hg, hdbg, hm | ⟨hm, hv, hnn⟩⟩
          · exact ld_glob (X := X.suite a ((a, oe3) :: (X.pn ++ pins))) S3 hg hm q hdbg
          · exact ld_blt (X := X.suite a ((a, oe3) :: (X.pn ++ pins))) S3 hg hm hv q hnn hdbg
        refine named (M3.here ?_)
        cases b with
        | false => exact (show wpAny _ X.A (handleBy (.ref a) X.env hds2) _ _ _ from ih (no rfl))
        | true =>
          refine codeAny_handlers_suite_as (HandSPX.lands_againZ fl3 fun h4 fl4 up4 => ?_)
          have J4 : Inv X pins σ' H' { s' with heap := h4 } := J.landed nb fl4.1 ((up.trans up3).trans up4) os ag
          obtain ⟨oe4, vs4, he4, hz4, hd4⟩ := fl4.there
          have S4 := J4.suite he4 hd4 na nL nF
          refine store_ok (X := X.suite a ((a, oe4) :: (X.pn ++ pins))) (v := .ref a) S4 hN hi (.inl hln) rfl (fun s5 S5 => ?_) (.inr hln)
          have gone : ∀ {σ6 : L2.St} {H6 : Hp} {Q : Shared → Prop} {s6 : Shared}, Inv (X.suite a ((a, oe4) :: (X.pn ++ pins))) [] σ6 H6 s6 → (∀ s7, Inv X pins (σ6.set i none) H6 s7 → Q s7) →
              wpAny (model X.prog X.w) X.A (do bindName X.env n .none; unbindBehindTheSuite X.env n pos') (fun _ s7 => Q s7) X.xe s6 := fun S6 hq => gone_ok (S6.unsuite ok) hN hi hln hq
          refine wpAny_mono ((hsu a oe4 cls d (X.pn ++ pins) hz4 ⟨_, hd4⟩).run [] s5 _ H' _ S5 (yes rfl a na)) (fun f s6 hsp => ?_) fun _ _ z => False.elim z
          cases f with
          | next => exact let ⟨_, _, S6, q6⟩ := hsp; gone S6 fun s7 J7 => ⟨_, _, J7, q6⟩
          | brk => exact let ⟨_, _, S6, q6⟩ := hsp; gone S6 fun s7 J7 => ⟨_, _, J7, q6⟩
          | cont => exact let ⟨_, _, S6, q6⟩ := hsp; gone S6 fun s7 J7 => ⟨_, _, J7, q6⟩
          | ret u => exact let ⟨_, _, _, S6, r6, q6⟩ := hsp; gone S6 fun s7 J7 => ⟨_, _, _, J7, r6, q6⟩
    exact go hh wish
  · cases f with
    | next => exact let ⟨σ', H', J', q⟩ := hsp; wpAny_execs_nil ⟨σ', H', J'.ofTry ok, q⟩
    | brk => exact let ⟨σ', H', J', q⟩ := hsp; ⟨σ', H', J'.ofTry ok, q⟩
    | cont => exact let ⟨σ', H', J', q⟩ := hsp; ⟨σ', H', J'.ofTry ok, q⟩
    | ret u => exact let ⟨v, σ', H', J', r, q⟩ := hsp; ⟨v, σ', H', J'.ofTry ok, r, q⟩
end
end XS
namespace XS
open PySem PySem.Spec PyProof.Rows L2
/-- a class of exceptions that such an __init__ (at f, of the class at D) makes; fs: the fields that it lays -/
structure ExS (K : PySem.W.Frag) (mg : Str → Option Value) (x : Str) (f D : Addr) (fs : List Str) where
  a : Addr
  g : mg x = some (.ref a)
  sc : SupC K a D
  iC : PySem.W.findIn K (.ref a) "__init__" = some (some (.ref f))
  nf : ∀ n ∈ fs, PySem.W.findIn K (.ref a) n = some none
  xf : XfC K a
  ec : ExcC K a
theorem nf0 {K : PySem.W.Frag} {a : Addr} : ∀ n ∈ ([] : List Str), PySem.W.findIn K (.ref a) n = some none := fun _ h => nomatch h
theorem nf1 {K : PySem.W.Frag} {a : Addr} {x : Str} {fs : List Str} (h : PySem.W.findIn K (.ref a) x = some none) (r : ∀ n ∈ fs, PySem.W.findIn K (.ref a) n = some none) : ∀ n ∈ x :: fs, PySem.W.findIn K (.ref a) n = some none := fun n m => by
  rcases List.mem_cons.mp m with z | z
  · rw [z]
    exact h
  · exact r n z
/-- what is left of a made exception: its dict alone -/
theorem made_dict {H1 H2 : Hp} {a dx : Addr} {fs : List (Str × V)} (n : H1 a = none) (nd : H1 dx = none) (k : ∀ b, b ≠ a → b ≠ dx → H2 b = H1 b) (ne : dx ≠ a) : Same H1 (L2.upd (L2.del H2 a) dx (.xd fs)) ∧ L2.upd (L2.del H2 a) dx (.xd fs) dx = some (.xd fs) := by
  refine ⟨fun b o e => ?_, upd_same⟩
  have hb : b ≠ a := ne_of_none e n
  have hd : b ≠ dx := ne_of_none e nd
  rw [upd_ne hd, L2.del_ne hb, k b hb hd]
  exact e
/-- the promise of an __init__(self, row, column) that lays both numbers -/
def spRC (K : PySem.W.Frag) (D : Addr) : Sp := fun vs H Q _ => ∃ (a C : Addr) (r c : Int), vs = [.ref a, .int r, .int c] ∧ (0 ≤ r ∧ r ≤ 1000000) ∧ (0 ≤ c ∧ c ≤ 1000000) ∧ H a = some (exo a C none) ∧ SupC K C D ∧ (∀ n ∈ (["row", "column"] : List Str), PySem.W.findIn K (.ref C) n = some none) ∧
  ∀ dx H2, H dx = none → dx ≠ a → H2 a = some (exo a C (some dx)) → H2 dx = some (exd dx [("column", .int c), ("row", .int r)]) → (∀ b, b ≠ a → b ≠ dx → H2 b = H b) → Q .non H2
/-- .. of an __init__(self, row) -/
def spR1 (K : PySem.W.Frag) (D : Addr) : Sp := fun vs H Q _ => ∃ (a C : Addr) (r : Int), vs = [.ref a, .int r] ∧ (0 ≤ r ∧ r ≤ 1000000) ∧ H a = some (exo a C none) ∧ SupC K C D ∧ (∀ n ∈ (["row"] : List Str), PySem.W.findIn K (.ref C) n = some none) ∧
  ∀ dx H2, H dx = none → dx ≠ a → H2 a = some (exo a C (some dx)) → H2 dx = some (exd dx [("row", .int r)]) → (∀ b, b ≠ a → b ≠ dx → H2 b = H b) → Q .non H2
section
variable {K : PySem.W.Frag} {D C : Addr} {ta : TA} {σ : L2.St} {H H1 : Hp} {Q : XK} {sp : Sp} {dvs : List V}
theorem r_mk (h : ta σ H fun vs H1 => vs.length ≤ 1000 ∧ ∀ a, H1 a = none → sp (.ref a :: (vs ++ dvs)) (upd H1 a (exo a C none)) (fun v H2 => v = .non ∧ ∃ (d : Addr) (fs : List (Str × V)), H2 a = some (exo a C (some d)) ∧ H2 d = some (exd d fs) ∧ H1 d = none ∧ Q (.ref C) (some d) (upd (del H2 a) d (.xd fs))) fun _ _ _ => False) : tMkO C sp dvs ta σ H Q := h
theorem mkRC {r c : Int} (br : 0 ≤ r ∧ r ≤ 1000000) (bc : 0 ≤ c ∧ c ≤ 1000000) (sc : SupC K C D) (nf : ∀ n ∈ (["row", "column"] : List Str), PySem.W.findIn K (.ref C) n = some none) (q : ∀ d H', Same H1 H' → H' d = some (.xd [("column", .int c), ("row", .int r)]) → Q (.ref C) (some d) H') :
    [V.int r, V.int c].length ≤ 1000 ∧ ∀ a, H1 a = none → spRC K D (.ref a :: ([V.int r, V.int c] ++ [])) (upd H1 a (exo a C none)) (fun v H2 => v = .non ∧ ∃ (d : Addr) (fs : List (Str × V)), H2 a = some (exo a C (some d)) ∧ H2 d = some (exd d fs) ∧ H1 d = none ∧ Q (.ref C) (some d) (upd (del H2 a) d (.xd fs))) fun _ _ _ => False := by
  refine ⟨by show 2 ≤ 1000; decide, fun a ha => ⟨a, C, r, c, rfl, br, bc, upd_same, sc, nf, fun dx H2 nd ne e1 e2 k => ⟨rfl, dx, _, e1, e2, ?_, ?_⟩⟩⟩
  · rw [upd_ne ne] at nd
    exact nd
  · rw [upd_ne ne] at nd
    obtain ⟨s1, e3⟩ := made_dict (fs := [("column", .int c), ("row", .int r)]) ha nd (fun b h1 h2 => (k b h1 h2).trans (upd_ne h1)) ne
    exact q dx _ s1 e3
theorem mkR1 {r : Int} (br : 0 ≤ r ∧ r ≤ 1000000) (sc : SupC K C D) (nf : ∀ n ∈ (["row"] : List Str), PySem.W.findIn K (.ref C) n = some none) (q : ∀ d H', Same H1 H' → H' d = some (.xd [("row", .int r)]) → Q (.ref C) (some d) H') :
    [V.int r].length ≤ 1000 ∧ ∀ a, H1 a = none → spR1 K D (.ref a :: ([V.int r] ++ [])) (upd H1 a (exo a C none)) (fun v H2 => v = .non ∧ ∃ (d : Addr) (fs : List (Str × V)), H2 a = some (exo a C (some d)) ∧ H2 d = some (exd d fs) ∧ H1 d = none ∧ Q (.ref C) (some d) (upd (del H2 a) d (.xd fs))) fun _ _ _ => False := by
  refine ⟨by show 1 ≤ 1000; decide, fun a ha => ⟨a, C, r, rfl, br, upd_same, sc, nf, fun dx H2 nd ne e1 e2 k => ⟨rfl, dx, _, e1, e2, ?_, ?_⟩⟩⟩
  · rw [upd_ne ne] at nd
    exact nd
  · rw [upd_ne ne] at nd
    obtain ⟨s1, e3⟩ := made_dict (fs := [("row", .int r)]) ha nd (fun b h1 h2 => (k b h1 h2).trans (upd_ne h1)) ne
    exact q dx _ s1 e3
theorem num_len {i : Int} (h : 0 ≤ i ∧ i ≤ 1000000) : (Str.ofString (toString i)).length ≤ 7 := by
  obtain ⟨n, rfl⟩ : ∃ n : Nat, i = (n : Int) := ⟨i.toNat, by omega⟩
  have e : (Str.ofString (toString (n : Int))).cps.toList = TL.numL n := TL.tl_num n
  have l := TL.numL_len (n := n) (k := 7) (by decide) (by omega)
  rw [← e, Array.length_toList] at l
  exact l
theorem num_log {i : Int} (h : 0 ≤ i ∧ i ≤ 1000000) : i.natAbs.log2 < 1920 := Nat.lt_of_lt_of_le (PySem.Flt.log2_lt_of (k := 64) (by decide) (Nat.lt_of_le_of_lt (show i.natAbs ≤ 1000000 by omega) (by decide))) (by decide)
theorem j_i {i : Int} {k : Nat} {acc : Str} {ts : List TE} {Q : Str → Hp → Prop} (b : 0 ≤ i ∧ i ≤ 1000000) (hv : σ[k]? = some (some (.int i))) (hl : acc.length ≤ 1000) (h : (acc ++ Str.ofString (toString i)).length ≤ acc.length + 7 → tJs ts (acc ++ Str.ofString (toString i)) σ H Q) : tJs (tFmt (tVar k) :: ts) acc σ H Q := by
  have l : (acc ++ Str.ofString (toString i)).length ≤ acc.length + 7 := by
    rw [Str.length_append]
    have := num_len b
    omega
  exact ⟨.int i, hv, .inr ⟨i, rfl, num_log b, _, rfl, Nat.le_trans l (Nat.le_trans (show acc.length + 7 ≤ 2000 by omega) (by decide)), h l⟩⟩
theorem j_t {z acc : Str} {ts : List TE} {Q : Str → Hp → Prop} (hz : z.length ≤ 100) (hl : acc.length ≤ 800) (h : (acc ++ z).length ≤ acc.length + 100 → tJs ts (acc ++ z) σ H Q) : tJs (tC (.str z) :: ts) acc σ H Q := by
  have l : (acc ++ z).length ≤ acc.length + 100 := by
    rw [Str.length_append]
    omega
  exact ⟨z, rfl, Nat.le_trans l (Nat.le_trans (show acc.length + 100 ≤ 2000 by omega) (by decide)), h l⟩
/-- the fields laid, one after the other -/
theorem r_ost1 {f : Str} {to te : TE} {nx bk ct : L2.St → Hp → Prop} {rt : V → Hp → Prop} (h : te σ H fun y H1 => to σ H1 fun x H2 => ∃ a C : Addr, x = .ref a ∧ OexC K C ∧ PySem.W.findIn K (.ref C) f = some none ∧
      ((H2 a = some (exo a C none) ∧ ∀ dx, H2 dx = none → dx ≠ a → nx σ (upd (upd H2 dx (exd dx [(f, y)])) a (exo a C (some dx)))) ∨
        ∃ (dx : Addr) (fs : List (Str × V)), H2 a = some (exo a C (some dx)) ∧ H2 dx = some (exd dx fs) ∧ fs.length ≤ 900 ∧ nx σ (upd H2 dx (exd dx ((f, y) :: fs))))) : tOst K f to te ⟨nx, rt, bk, ct⟩ σ H := h
end
end XS
end
section
/-! numbers as texts: written, read back -/
namespace WT
open PySem PySem.Spec PyProof.Rows L2
open TL (numL tl)
def dT (n : Int) : Str := Str.ofString (toString n)
theorem dT_nat (n : Nat) : (dT (n : Int)).cps.toList = numL n := TL.tl_num n
theorem dT_neg {n : Nat} (h : 0 < n) : (dT (-(n : Int))).cps.toList = 45 :: numL n := by
  obtain ⟨m, rfl⟩ : ∃ m, n = m + 1 := ⟨n - 1, by omega⟩
  have e : toString (-((m + 1 : Nat) : Int)) = "-" ++ toString (((m + 1 : Nat) : Int)) := rfl
  have e2 : tl (Str.ofString (toString (((m + 1 : Nat) : Int)))) = numL (m + 1) := TL.tl_num (m + 1)
  unfold dT
  rw [e]
  rw [Str.ofString_eq_toList] at e2 ⊢
  unfold tl at e2
  rw [String.toList_append, List.map_append]
  exact congrArg (45 :: ·) e2
/-- lo as k digits -/
def padk : Nat → Nat → List Nat
  | 0, _ => []
  | k + 1, lo => padk k (lo / 10) ++ [48 + lo % 10]
theorem num_pad {hi : Nat} (h : 0 < hi) : ∀ (k : Nat) {lo : Nat}, lo < 10 ^ k → numL (hi * 10 ^ k + lo) = numL hi ++ padk k lo
  | 0, lo, hl => by
    have : lo = 0 := by simp at hl; omega
    subst this
    simp [padk]
  | k + 1, lo, hl => by
    have p10 : 0 < 10 ^ k := Nat.pow_pos (by decide)
    have e : hi * 10 ^ (k + 1) = hi * 10 ^ k * 10 := by rw [Nat.pow_succ, Nat.mul_assoc]
    have big : 10 ≤ hi * 10 ^ (k + 1) + lo := by
      have : 1 * 1 ≤ hi * 10 ^ k := Nat.mul_le_mul h p10
      omega
    rw [TL.numL_step big, e, show (hi * 10 ^ k * 10 + lo) / 10 = hi * 10 ^ k + lo / 10 by omega, show (hi * 10 ^ k * 10 + lo) % 10 = lo % 10 by omega, num_pad h k (by rw [Nat.pow_succ] at hl; omega), List.append_assoc]
    rfl
theorem pad_zero : ∀ k, padk k 0 = List.replicate k 48
  | 0 => rfl
  | k + 1 => by
    show padk k (0 / 10) ++ [48 + 0 % 10] = _
    rw [show 0 / 10 = 0 from rfl, pad_zero k, List.replicate_succ', show 48 + 0 % 10 = 48 from rfl]
theorem pad_num : ∀ (k : Nat) {lo : Nat}, lo < 10 ^ k → 0 < k → padk k lo = List.replicate (k - (numL lo).length) 48 ++ numL lo
  | 0, _, _, h => absurd h (by omega)
  | k + 1, lo, hl, _ => by
    show padk k (lo / 10) ++ [48 + lo % 10] = _
    by_cases c : lo < 10
    · rw [show lo / 10 = 0 by omega, pad_zero, TL.numL_lt c, show lo % 10 = lo by omega]
      rfl
    · have hk : 0 < k := by
        rcases Nat.eq_zero_or_pos k with rfl | h
        · simp at hl; omega
        · exact h
      rw [pad_num k (by rw [Nat.pow_succ] at hl; omega) hk, TL.numL_step (n := lo) (by omega), List.length_append, List.append_assoc]
      show List.replicate (k - (numL (lo / 10)).length) 48 ++ _ = List.replicate (k + 1 - ((numL (lo / 10)).length + 1)) 48 ++ _
      rw [Nat.add_sub_add_right]
theorem numL_le {n k : Nat} (hk : 0 < k) (h : n < 10 ^ k) : (numL n).length ≤ k := TL.numL_len hk h
theorem num_head : ∀ {n : Nat}, 0 < n → ∃ c v, numL n = c :: v ∧ c ≠ 48 := fun {n} => by
  induction n using Nat.strongRecOn with
  | ind n ih =>
    intro h
    by_cases c : n < 10
    · exact ⟨48 + n, [], TL.numL_lt c, by omega⟩
    · obtain ⟨c, v, e, nc⟩ := ih (n / 10) (by omega) (by omega)
      exact ⟨c, v ++ [48 + n % 10], by rw [TL.numL_step (by omega), e]; rfl, nc⟩
theorem zfill_num {n : Nat} (h : n < 10 ^ 18) : (Txt.zfill (dT (n : Int)) 18).cps.toList = padk 18 n := by
  have hl : (numL n).length ≤ 18 := numL_le (by decide) h
  have len : (dT (n : Int)).length = (numL n).length := by rw [← dT_nat]; exact Array.length_toList.symm
  rw [pad_num 18 h (by decide)]
  unfold Txt.zfill
  by_cases c : (18 : Int) ≤ (dT (n : Int)).length
  · rw [if_pos c, dT_nat, show 18 - (numL n).length = 0 by omega]
    rfl
  · rw [if_neg c]
    have first : ∃ d, (dT (n : Int)).cps[0]? = some d ∧ 48 ≤ d ∧ d ≤ 57 := by
      have e : (dT (n : Int)).cps[0]? = (numL n)[0]? := by rw [← dT_nat, Array.getElem?_toList]
      cases hn : numL n with
      | nil => exact absurd hn (TL.numL_ne n)
      | cons d v =>
        have := TL.numL_digits n d (by rw [hn]; exact List.mem_cons_self)
        exact ⟨d, by rw [e, hn]; rfl, this⟩
    obtain ⟨d, e, d1, d2⟩ := first
    have ez : PySem.zfilled (dT (n : Int)) ((18 : Int).toNat - (dT (n : Int)).length) = Builtin.Str.padded (dT (n : Int)) ((18 : Int).toNat - (dT (n : Int)).length) 0 48 := by
      unfold PySem.zfilled
      rw [e]
      split
      · next h => cases h; omega
      · next h => cases h; omega
      · rfl
    rw [ez, len]
    unfold Builtin.Str.padded
    show (Array.replicate ((18 : Int).toNat - (numL n).length) 48 ++ (dT (n : Int)).cps ++ Array.replicate 0 48).toList = _
    rw [Array.toList_append, Array.toList_append, dT_nat]
    simp
def decF (n : Int) : Str := if n < 1000000000000000000 then dT n else dT (n / 1000000000000000000) ++ Txt.zfill (dT (n % 1000000000000000000)) 18
theorem decF_eq {n : Int} (h : 0 ≤ n) : decF n = dT n := by
  obtain ⟨m, rfl⟩ := Int.eq_ofNat_of_zero_le h
  unfold decF
  split
  · rfl
  · next c =>
    refine TL.ext_tl ?_
    have e1 : (m : Int) / 1000000000000000000 = ((m / 10 ^ 18 : Nat) : Int) := rfl
    have e2 : (m : Int) % 1000000000000000000 = ((m % 10 ^ 18 : Nat) : Int) := rfl
    rw [TL.tl_append, e1, e2, show tl (dT ((m / 10 ^ 18 : Nat) : Int)) = numL (m / 10 ^ 18) from dT_nat _, show tl (Txt.zfill (dT ((m % 10 ^ 18 : Nat) : Int)) 18) = padk 18 (m % 10 ^ 18) from zfill_num (Nat.mod_lt _ (by decide)), show tl (dT (m : Int)) = numL m from dT_nat m]
    rw [← num_pad (hi := m / 10 ^ 18) (by omega) 18 (Nat.mod_lt _ (by decide)), Nat.div_add_mod' m (10 ^ 18)]
theorem zfill_len {n : Int} (h : 0 ≤ n) : (Txt.zfill (dT (n % 1000000000000000000)) 18).length ≤ 18 := by
  obtain ⟨m, rfl⟩ := Int.eq_ofNat_of_zero_le h
  have e2 : (m : Int) % 1000000000000000000 = ((m % 10 ^ 18 : Nat) : Int) := rfl
  have e : (Txt.zfill (dT ((m : Int) % 1000000000000000000)) 18).cps.toList.length = 18 := by
    rw [e2, zfill_num (Nat.mod_lt _ (by decide))]
    have : ∀ k lo, (padk k lo).length = k := fun k => by
      induction k with
      | zero => exact fun _ => rfl
      | succ k ih => exact fun lo => by show (padk k (lo / 10) ++ [_]).length = _; rw [List.length_append, ih]; rfl
    exact this _ _
  rw [Array.length_toList] at e
  exact Nat.le_of_eq e
theorem neg_eq {n : Nat} (h : 0 < n) : ("-" : Str) ++ dT (n : Int) = dT (-(n : Int)) := by
  refine TL.ext_tl ?_
  rw [TL.tl_append, show tl (dT (n : Int)) = numL n from dT_nat n, show tl (dT (-(n : Int))) = 45 :: numL n from dT_neg h]
  rfl
theorem dT_len {n : Int} (h0 : -9223372036854775808 ≤ n) (h1 : n ≤ 9223372036854775808) : (dT n).length ≤ 20 := by
  have e : (dT n).length = (dT n).cps.toList.length := Array.length_toList.symm
  rcases Int.le_total 0 n with h | h
  · obtain ⟨m, rfl⟩ := Int.eq_ofNat_of_zero_le h
    rw [e, dT_nat]
    exact Nat.le_trans (numL_le (k := 19) (by decide) (by omega)) (by decide)
  · obtain ⟨m, hm⟩ := Int.eq_ofNat_of_zero_le (show 0 ≤ -n by omega)
    have hn : n = -(m : Int) := by omega
    subst hn
    by_cases z : m = 0
    · subst z
      decide +kernel
    · rw [e, dT_neg (by omega), List.length_cons]
      exact Nat.succ_le_succ (numL_le (k := 19) (by decide) (by omega))
/-! read back -/
theorem digs_snoc {d : Nat} : ∀ {l : List Nat} {a : Int}, LN.digs a (l ++ [d]) = match LN.digs a l with | some m => if LN.isDig d = true then some (10 * m + ((d : Int) - 48)) else none | none => none
  | [], a => by
    show (if LN.isDig d = true then LN.digs (10 * a + ((d : Int) - 48)) [] else none) = (if LN.isDig d = true then some (10 * a + ((d : Int) - 48)) else none)
    rfl
  | c :: l, a => by
    show (if LN.isDig c = true then LN.digs (10 * a + ((c : Int) - 48)) (l ++ [d]) else none) = match (if LN.isDig c = true then LN.digs (10 * a + ((c : Int) - 48)) l else none) with | some m => if LN.isDig d = true then some (10 * m + ((d : Int) - 48)) else none | none => none
    by_cases h : LN.isDig c = true
    · rw [if_pos h, if_pos h]
      exact digs_snoc
    · rw [if_neg h, if_neg h]
theorem isDig_of {d : Nat} (h : d < 10) : LN.isDig (48 + d) = true := by
  unfold LN.isDig
  rw [decide_eq_true (by omega), decide_eq_true (by omega)]
  rfl
theorem digs_num : ∀ (n : Nat), LN.digs 0 (numL n) = some (n : Int) := fun n => by
  induction n using Nat.strongRecOn with
  | ind n ih =>
    by_cases c : n < 10
    · rw [TL.numL_lt c]
      show (if LN.isDig (48 + n) = true then some (10 * (0 : Int) + (((48 + n : Nat) : Int) - 48)) else none) = _
      rw [if_pos (isDig_of c)]
      congr 1
      omega
    · rw [TL.numL_step (by omega), digs_snoc, ih (n / 10) (by omega)]
      show (if LN.isDig (48 + n % 10) = true then some (10 * ((n / 10 : Nat) : Int) + (((48 + n % 10 : Nat) : Int) - 48)) else none) = _
      rw [if_pos (isDig_of (by omega))]
      congr 1
      omega
theorem natF_dT (n : Nat) : LN.natF (dT (n : Int)) = some (n : Int) := by
  unfold LN.natF
  have e := dT_nat n
  have ne : ¬ (dT (n : Int) = "" ∨ (1 < (dT (n : Int)).length ∧ (dT (n : Int)).cps.toList[0]? = some 48)) := by
    rintro (h | ⟨h1, h2⟩)
    · rw [h] at e
      exact TL.numL_ne n e.symm
    · rw [e] at h2
      have l1 : (numL n).length = (dT (n : Int)).length := by rw [← e]; exact Array.length_toList
      rcases Nat.eq_zero_or_pos n with rfl | hp
      · rw [TL.numL_lt (by decide)] at l1
        rw [← l1] at h1
        exact absurd h1 (by decide)
      · obtain ⟨c, v, e3, nc⟩ := num_head hp
        rw [e3] at h2
        exact nc (Option.some.inj h2)
  rw [if_neg ne, e, digs_num]
theorem starts_one {z : Str} {c : Nat} : Txt.startswith z ⟨#[c]⟩ = decide (z.cps.toList[0]? = some c) := by
  have q := PySem.StrLaws.subAt_one z c 0
  unfold PySem.Txt.startswith
  rw [Bool.eq_iff_iff, Bool.and_eq_true, decide_eq_true_iff, decide_eq_true_iff]
  exact q
theorem cut_one {z : Str} {c : Nat} {v : List Nat} (h : z.cps.toList = c :: v) : (cutS z (some 1) none).cps.toList = v := by
  have hl : z.length = v.length + 1 := by rw [show z.length = z.cps.toList.length from Array.length_toList.symm, h]; rfl
  show ((z.cps.toList.drop (HT.sIx z.length 0 (some 1))).take (HT.sIx z.length z.length none - HT.sIx z.length 0 (some 1))) = v
  rw [show HT.sIx z.length 0 (some 1) = 1 by
    have := HT.sIx_nat (n := z.length) (d := 0) (k := 1)
    rw [show ((1 : Nat) : Int) = 1 from rfl] at this
    rw [this]
    omega, HT.sIx_none, h, hl]
  simp
theorem wholeF_dT (n : Int) : LN.wholeF (dT n) = some n := by
  rcases Int.le_total 0 n with h | h
  · obtain ⟨m, rfl⟩ := Int.eq_ofNat_of_zero_le h
    unfold LN.wholeF
    rw [show ("-" : Str) = ⟨#[45]⟩ from rfl, starts_one, dT_nat]
    have no : ¬ (numL m)[0]? = some 45 := fun e => by
      have := TL.numL_digits m 45 (List.mem_of_getElem? e)
      omega
    rw [decide_eq_false no, if_neg Bool.false_ne_true, natF_dT]
  · obtain ⟨m, hm⟩ := Int.eq_ofNat_of_zero_le (show 0 ≤ -n by omega)
    have hn : n = -(m : Int) := by omega
    subst hn
    by_cases z : m = 0
    · subst z
      decide +kernel
    · have e := dT_neg (n := m) (by omega)
      unfold LN.wholeF
      rw [show ("-" : Str) = ⟨#[45]⟩ from rfl, starts_one, e]
      have ec : cutS (dT (-(m : Int))) (some 1) none = dT (m : Int) := by
        refine TL.ext_tl ?_
        rw [show tl (cutS (dT (-(m : Int))) (some 1) none) = numL m from cut_one e, show tl (dT (m : Int)) = numL m from dT_nat m]
      rw [if_pos (by simp), ec, natF_dT]
      show (if (m : Int) = 0 then none else some (-(m : Int))) = _
      rw [if_neg (by omega)]
/-- a number's text has no blank in it, and is a good text -/
theorem dT_free {n : Int} {c : Nat} (h : c = 32 ∨ c = 10) : c ∉ (dT n).cps.toList := by
  rcases Int.le_total 0 n with h0 | h0
  · obtain ⟨m, rfl⟩ := Int.eq_ofNat_of_zero_le h0
    rw [dT_nat]
    exact TL.numL_free (by omega)
  · obtain ⟨m, hm⟩ := Int.eq_ofNat_of_zero_le (show 0 ≤ -n by omega)
    have hn : n = -(m : Int) := by omega
    subst hn
    by_cases z : m = 0
    · subst z
      rcases h with rfl | rfl <;> decide +kernel
    · rw [dT_neg (by omega)]
      intro hc
      rcases List.mem_cons.mp hc with hc | hc
      · omega
      · exact TL.numL_free (by omega) hc
end WT
end
section
/-! rows of code as words: written, read back -/
namespace WT
open PySem PySem.Spec PyProof.Rows L2
open TL (tl)
open CK (cnt prt val txt wrd gd FitD)
abbrev blank : Str := ⟨#[32]⟩
def jn (ws : List Str) : Str := Txt.join blank ws
def sp (z : Str) : List Str := Txt.split z blank
theorem jn_eq (ws : List Str) : jn ws = Str.join blank ws := TL.join_eq _ _
theorem jn_cons {x : Str} {ws : List Str} (h : ws ≠ []) : jn (x :: ws) = x ++ blank ++ jn ws := by
  rw [jn_eq, jn_eq]
  cases ws with
  | nil => exact absurd rfl h
  | cons y ws => rfl
theorem jn_one {x : Str} : jn [x] = x := by rw [jn_eq]; rfl
theorem app_assoc {a b c : Str} : a ++ b ++ c = a ++ (b ++ c) := TL.ext_tl (by rw [TL.tl_append, TL.tl_append, TL.tl_append, TL.tl_append, List.append_assoc])
theorem jn_app : ∀ {a b : List Str}, a ≠ [] → b ≠ [] → jn (a ++ b) = jn a ++ blank ++ jn b
  | [], _, h, _ => absurd rfl h
  | [x], b, _, h => by rw [List.cons_append, List.nil_append, jn_cons h, jn_one]
  | x :: y :: a, b, _, h => by
    rw [List.cons_append, jn_cons (by simp), jn_app (a := y :: a) (by simp) h, jn_cons (ws := y :: a) (by simp), app_assoc, app_assoc, app_assoc, app_assoc, app_assoc]
theorem jn_flat : ∀ {l : List (List Str)}, (∀ a ∈ l, a ≠ []) → jn (l.map jn) = jn l.flatten
  | [], _ => rfl
  | [a], _ => by rw [List.map_cons, List.map_nil, jn_one, List.flatten_cons, List.flatten_nil, List.append_nil]
  | a :: b :: l, h => by
    have hb : b ≠ [] := h b (by simp)
    have ih := jn_flat (l := b :: l) fun c m => h c (List.mem_cons_of_mem _ m)
    rw [List.map_cons, jn_cons (by simp), ih, List.flatten_cons (l := a), jn_app (h a (by simp)) (by rw [List.flatten_cons]; simp [hb])]
theorem sp_jn {ws : List Str} (h : ws ≠ []) (f : ∀ w ∈ ws, 32 ∉ w.cps.toList) : sp (jn ws) = ws := TL.split_join (s := 32) (S := []) rfl (by decide +kernel) h f
theorem jn_sp (z : Str) : jn (sp z) = z := by rw [jn_eq]; exact PySem.StrLaws.join_split z blank
theorem sp_free (z : Str) : ∀ w ∈ sp z, 32 ∉ w.cps.toList := PySem.StrLaws.split_free z 32
theorem sp_ne (z : Str) : sp z ≠ [] := fun h => by
  unfold sp at h
  unfold Txt.split at h
  split at h
  · cases h
  · split at h
    · cases h
    · unfold Builtin.Str.partsBetween at h
      have := congrArg List.length h
      simp at this
/-! written -/
def intW : PyData → Str
  | .int n => dT n
  | _ => ""
def valW : PyData → List Str
  | .tuple [.str _, .int n] => ["int", dT n]
  | .tuple [.str _, .str h] => "str" :: dT (h.length : Int) :: sp (("'" : Str) ++ h)
  | _ => []
def partW (k : CR.Kd) (d : PyData) : List Str := match k with
  | .value => valW d
  | .keys => (match d with | .tuple ds => dT (ds.length : Int) :: ds.map intW | _ => [])
  | .places => (match d with | .tuple ds => dT (ds.length : Int) :: ds.map intW | _ => [])
  | .view => (match d with | .str s => [s] | _ => [])
  | .sign => (match d with | .str s => [s] | _ => [])
  | .order => (match d with | .str s => [s] | _ => [])
  | .sort => (match d with | .str s => [s] | _ => [])
  | _ => [intW d]
def rowW (w : CR.Wd) (ds : List PyData) : List Str := w.nm :: ((w.ks.zip ds).map fun x => partW x.1 x.2).flatten
def rowT (w : CR.Wd) (ds : List PyData) : Str := jn (rowW w ds)
/-! read -/
def tk1 : List Str → Str × List Str
  | [] => ("", [])
  | w :: r => (w, r)
def whl (z : Str) : PyData := match LN.wholeF z with
  | some n => .int n
  | none => .none
def plF : List Str → Nat → Option (List Int) × List Str
  | r, 0 => (some [], r)
  | [], _ + 1 => (none, [])
  | w :: r, m + 1 => match LN.natF w with
    | none => (none, r)
    | some n => ((plF r m).1.map (n :: ·), (plF r m).2)
def heldF (r : List Str) : PyData := match LN.natF (tk1 r).1 with
  | none => .none
  | some m => if Txt.startswith (jn (tk1 r).2) "'" = true ∧ ((jn (tk1 r).2).length : Int) = m + 1 then .str (cutS (jn (tk1 r).2) (some 1) none) else .none
def chF (r : List Str) : PyData × List Str := (.str (tk1 r).1, (tk1 r).2)
def lsF (r : List Str) : PyData × List Str := match LN.natF (tk1 r).1 with
  | none => (.none, (tk1 r).2)
  | some m => match (plF (tk1 r).2 m.toNat).1 with
    | some l => (.tuple (l.map PyData.int), (plF (tk1 r).2 m.toNat).2)
    | none => (.none, (plF (tk1 r).2 m.toNat).2)
def vlF (r : List Str) : PyData × List Str := if (tk1 r).1 = "int" then (.tuple [.str (tk1 r).1, whl (tk1 (tk1 r).2).1], (tk1 (tk1 r).2).2) else (.tuple [.str (tk1 r).1, heldF (tk1 r).2], [])
def rdP (k : CR.Kd) (r : List Str) : PyData × List Str := match k with
  | .view => chF r | .sign => chF r | .order => chF r | .sort => chF r | .value => vlF r | .keys => lsF r | .places => lsF r
  | _ => (whl (tk1 r).1, (tk1 r).2)
def nat0 : PyData → Bool
  | .int n => decide (0 ≤ n)
  | _ => false
def nats : PyData → Bool
  | .tuple xs => xs.all nat0
  | _ => false
def fitF (k : CR.Kd) (d : PyData) : Bool := match k with
  | .into => cnt 0 7 d | .from' => cnt 0 7 d | .opt => cnt (-1) 7 d | .member => cnt 0 3 d | .value => val d
  | .view => wrd ["now", "cpu", "pid", "tid", "at", "name"] d | .sign => wrd ["+", "-", "*", "/", "mod"] d | .order => wrd ["==", "!=", "<", "<=", ">", ">="] d | .sort => wrd ["trace", "say"] d
  | .keys => nats d | .places => nats d | _ => nat0 d
def partsF : List CR.Kd → List Str → Option (List PyData) × List Str
  | [], r => (some [], r)
  | k :: ks, r => if fitF k (rdP k r).1 = true then ((partsF ks (rdP k r).2).1.map ((rdP k r).1 :: ·), (partsF ks (rdP k r).2).2) else (none, (rdP k r).2)
def rowF (r : List Str) : Option PyData := match CR.Wd.all.find? fun w => decide (w.nm = (tk1 r).1) with
  | none => none
  | some w => match partsF w.ks (tk1 r).2 with
    | (some ds, []) => some (.tuple (.str w.nm :: ds))
    | _ => none
def lineF (z : Str) : Option PyData := rowF (sp z)
/-! what is written is read -/
theorem cnt_int {lo hi : Int} {d : PyData} (h : cnt lo hi d = true) : ∃ n, d = .int n ∧ lo ≤ n ∧ n ≤ hi := by
  cases d with
  | int n => exact ⟨n, rfl, of_decide_eq_true h⟩
  | _ => cases h
theorem wrd_str {ws : List Str} {d : PyData} (h : wrd ws d = true) : ∃ s, d = .str s ∧ s ∈ ws := by
  cases d with
  | str s => exact ⟨s, rfl, of_decide_eq_true h⟩
  | _ => cases h
theorem val_cases {d : PyData} (h : val d = true) : (∃ n, d = .tuple [.str "int", .int n] ∧ -9223372036854775808 ≤ n ∧ n ≤ 9223372036854775807) ∨ ∃ s, d = .tuple [.str "str", .str s] ∧ s.length ≤ 32 ∧ s.cps.toList.all CK.chT = true := by
  match d, h with
  | .tuple [.str k, x], h =>
    unfold val at h
    dsimp only at h
    split at h
    · next e =>
      subst e
      obtain ⟨n, rfl, a, b⟩ := cnt_int h
      exact .inl ⟨n, rfl, a, b⟩
    · rw [Bool.and_eq_true] at h
      have e := of_decide_eq_true h.1
      subst e
      have h2 := h.2
      cases x with
      | str s =>
        have h2 : (decide (s.length ≤ 32) && s.cps.toList.all CK.chT) = true := h2
        rw [Bool.and_eq_true] at h2
        exact .inr ⟨s, rfl, of_decide_eq_true h2.1, h2.2⟩
      | _ => cases h2
theorem plcs_ints : ∀ {ds : List PyData}, ds.all (cnt 0 10000) = true → ∃ ns : List Int, ds = ns.map PyData.int ∧ ∀ n ∈ ns, 0 ≤ n ∧ n ≤ 10000
  | [], _ => ⟨[], rfl, fun _ h => nomatch h⟩
  | d :: ds, h => by
    rw [List.all_cons, Bool.and_eq_true] at h
    obtain ⟨n, rfl, a⟩ := cnt_int h.1
    obtain ⟨ns, rfl, b⟩ := plcs_ints h.2
    exact ⟨n :: ns, rfl, fun m hm => by
      rcases List.mem_cons.mp hm with e | e
      · rw [e]; exact a
      · exact b m e⟩
theorem plF_ints {rest : List Str} : ∀ {ns : List Int}, (∀ n ∈ ns, 0 ≤ n) → plF ((ns.map PyData.int).map intW ++ rest) ns.length = (some ns, rest)
  | [], _ => by cases rest <;> rfl
  | n :: ns, h => by
    obtain ⟨m, hm⟩ := Int.eq_ofNat_of_zero_le (h n List.mem_cons_self)
    have ih := plF_ints (rest := rest) (ns := ns) fun k hk => h k (List.mem_cons_of_mem _ hk)
    show (match LN.natF (dT n) with | none => (none, _) | some x => ((plF (((ns.map PyData.int).map intW) ++ rest) ns.length).1.map (x :: ·), (plF (((ns.map PyData.int).map intW) ++ rest) ns.length).2)) = _
    rw [hm, natF_dT, ih]
    rfl
theorem tk1_cons {w : Str} {r : List Str} : tk1 (w :: r) = (w, r) := rfl
theorem lsF_ints {rest : List Str} {ns : List Int} (h : ∀ n ∈ ns, 0 ≤ n) : lsF (dT ((ns.map PyData.int).length : Int) :: (ns.map PyData.int).map intW ++ rest) = (.tuple (ns.map PyData.int), rest) := by
  unfold lsF
  rw [List.cons_append, tk1_cons, natF_dT, List.length_map]
  dsimp only
  rw [Int.toNat_natCast, plF_ints h]
theorem held_ok {s : Str} (n : Nat) (hn : n = s.length) : heldF (dT (n : Int) :: sp (("'" : Str) ++ s)) = .str s := by
  have e : (("'" : Str) ++ s).cps.toList = 39 :: s.cps.toList := by
    show tl (("'" : Str) ++ s) = _
    rw [TL.tl_append]
    rfl
  unfold heldF
  rw [tk1_cons, natF_dT]
  dsimp only
  rw [jn_sp, show ("'" : Str) = ⟨#[39]⟩ from rfl] at *
  rw [starts_one, e, if_pos ⟨by simp, by rw [Str.length_append, hn]; show ((1 + s.length : Nat) : Int) = (s.length : Int) + 1; omega⟩]
  congr 1
  refine TL.ext_tl ?_
  exact cut_one e
theorem rd_part {k : CR.Kd} {d : PyData} {rest : List Str} (hp : prt k d = true) (hv : k = .value → rest = []) : rdP k (partW k d ++ rest) = (d, rest) := by
  have one : ∀ {n : Int}, (whl (tk1 ([intW (.int n)] ++ rest)).1, (tk1 ([intW (.int n)] ++ rest)).2) = (PyData.int n, rest) := fun {n} => by
    show (whl (dT n), rest) = _
    unfold whl
    rw [wholeF_dT]
  have lst : ∀ {ds : List PyData}, ds.all (cnt 0 10000) = true → lsF (dT (ds.length : Int) :: ds.map intW ++ rest) = (.tuple ds, rest) := fun {ds} h => by
    obtain ⟨ns, rfl, b⟩ := plcs_ints h
    exact lsF_ints fun n hn => (b n hn).1
  have num : ∀ {lo hi : Int}, cnt lo hi d = true → (whl (tk1 ([intW d] ++ rest)).1, (tk1 ([intW d] ++ rest)).2) = (d, rest) := fun h => by
    obtain ⟨n, rfl, _⟩ := cnt_int h
    exact one
  have plc : CK.plcs d = true → ∃ ds, d = .tuple ds ∧ ds.all (cnt 0 10000) = true := fun h => by
    cases d with
    | tuple ds => exact ⟨ds, rfl, h⟩
    | _ => cases h
  cases k with
  | value =>
    obtain rfl := hv rfl
    rcases val_cases hp with ⟨n, rfl, _⟩ | ⟨s, rfl, _⟩
    · show vlF ([("int" : Str), dT n] ++ []) = _
      unfold vlF
      rw [if_pos (by rfl)]
      show (PyData.tuple [.str "int", whl (dT n)], ([] : List Str)) = _
      unfold whl
      rw [wholeF_dT]
    · show vlF (("str" : Str) :: dT (s.length : Int) :: sp (("'" : Str) ++ s) ++ []) = _
      rw [List.append_nil]
      unfold vlF
      rw [tk1_cons, if_neg (show ¬ ("str" : Str) = "int" by decide +kernel)]
      dsimp only
      rw [held_ok _ rfl]
  | keys =>
    have hp : (CK.plcs d && CK.few 3 d) = true := hp
    rw [Bool.and_eq_true] at hp
    obtain ⟨ds, rfl, h⟩ := plc hp.1
    exact lst h
  | places =>
    obtain ⟨ds, rfl, h⟩ := plc hp
    exact lst h
  | view => obtain ⟨s, rfl, _⟩ := wrd_str hp; rfl
  | sign => obtain ⟨s, rfl, _⟩ := wrd_str hp; rfl
  | order => obtain ⟨s, rfl, _⟩ := wrd_str hp; rfl
  | sort => obtain ⟨s, rfl, _⟩ := wrd_str hp; rfl
  | into => exact num hp
  | from' => exact num hp
  | opt => exact num hp
  | member => exact num hp
  | place => exact num hp
  | slot => exact num hp
  | glob => exact num hp
  | thr => exact num hp
  | arr => exact num hp
  | target => exact num hp
  | table => exact num hp
theorem fit_part {k : CR.Kd} {d : PyData} (hp : prt k d = true) : fitF k d = true := by
  have n0 : cnt 0 10000 d = true → nat0 d = true := fun h => by
    obtain ⟨n, rfl, a, _⟩ := cnt_int h
    exact decide_eq_true a
  have ns : CK.plcs d = true → nats d = true := fun h => by
    cases d with
    | tuple ds =>
      have h : ds.all (cnt 0 10000) = true := h
      show ds.all nat0 = true
      rw [List.all_eq_true] at h ⊢
      intro x hx
      obtain ⟨n, rfl, a, _⟩ := cnt_int (h x hx)
      exact decide_eq_true a
    | _ => cases h
  cases k with
  | keys =>
    have hp : (CK.plcs d && CK.few 3 d) = true := hp
    rw [Bool.and_eq_true] at hp
    exact ns hp.1
  | places => exact ns hp
  | place => exact n0 hp
  | slot => exact n0 hp
  | glob => exact n0 hp
  | thr => exact n0 hp
  | arr => exact n0 hp
  | target => exact n0 hp
  | table => exact n0 hp
  | _ => exact hp
theorem parts_ok : ∀ {ks : List CR.Kd} {ds : List PyData}, FitD ks ds → (∀ k ∈ ks.dropLast, k ≠ .value) → partsF ks ((ks.zip ds).map fun x => partW x.1 x.2).flatten = (some ds, [])
  | _, _, .nil, _ => rfl
  | _, _, .cons (k := k) (ks := ks) (d := d) (ds := ds) hp g f, hv => by
    have e : rdP k (partW k d ++ ((ks.zip ds).map fun x => partW x.1 x.2).flatten) = (d, ((ks.zip ds).map fun x => partW x.1 x.2).flatten) := rd_part hp fun z => by
      cases ks with
      | nil => rfl
      | cons k2 ks => exact absurd z (hv k (by simp))
    have ih := parts_ok f fun k2 h2 => hv k2 (by
      cases ks with
      | nil => cases h2
      | cons k3 ks => rw [List.dropLast_cons_cons]; exact List.mem_cons_of_mem _ h2)
    show (if fitF k (rdP k (partW k d ++ ((ks.zip ds).map fun x => partW x.1 x.2).flatten)).1 = true then ((partsF ks (rdP k (partW k d ++ ((ks.zip ds).map fun x => partW x.1 x.2).flatten)).2).1.map ((rdP k (partW k d ++ ((ks.zip ds).map fun x => partW x.1 x.2).flatten)).1 :: ·), (partsF ks (rdP k (partW k d ++ ((ks.zip ds).map fun x => partW x.1 x.2).flatten)).2).2) else (none, (rdP k (partW k d ++ ((ks.zip ds).map fun x => partW x.1 x.2).flatten)).2)) = _
    rw [e]
    dsimp only
    rw [if_pos (fit_part hp), ih]
    rfl
theorem last_val (w : CR.Wd) : ∀ k ∈ w.ks.dropLast, k ≠ .value := by cases w <;> decide
theorem find_wd (w : CR.Wd) : CR.Wd.all.find? (fun r => decide (r.nm = w.nm)) = some w := by cases w <;> rfl
theorem rowF_row {w : CR.Wd} {ds : List PyData} (f : FitD w.ks ds) : rowF (rowW w ds) = some (.tuple (.str w.nm :: ds)) := by
  unfold rowF rowW
  rw [tk1_cons, find_wd]
  dsimp only
  rw [parts_ok f (last_val w)]
theorem word_free {w : CR.Wd} : 32 ∉ w.nm.cps.toList ∧ 10 ∉ w.nm.cps.toList := by cases w <;> decide +kernel
theorem no_empty {c : Nat} : c ∉ ("" : Str).cps.toList := fun m => by
  rw [show ("" : Str).cps.toList = [] from rfl] at m
  cases m
theorem int_free {d : PyData} {c : Nat} (h : c = 32 ∨ c = 10) : c ∉ (intW d).cps.toList := by
  cases d with
  | int n => exact dT_free h
  | _ => exact no_empty
end WT
end
section
/-! texts of code: lines; what stands while they are read -/
namespace WT
open PySem PySem.Spec PyProof.Rows L2
open TL (tl)
open CK (cnt prt val txt wrd FitD)
theorem sz {n : Nat} (h : n ≤ 2000000) : n ≤ sizeLine := Nat.le_trans h (by decide)
/-! written dicts of texts -/
def Ds (K : PySem.W.Frag) (w : World) (a : PySem.Addr) : List (Str × Str) → Prop
  | [] => True
  | e :: r => L2.KDct K w a e.1 (.str e.2) ∧ Ds K w a r
theorem ds0 {K : PySem.W.Frag} {w : World} {a : PySem.Addr} : Ds K w a [] := trivial
theorem ds1 {K : PySem.W.Frag} {w : World} {a : PySem.Addr} {e : Str × Str} {r : List (Str × Str)} (h : L2.KDct K w a e.1 (.str e.2)) (t : Ds K w a r) : Ds K w a (e :: r) := ⟨h, t⟩
theorem Ds.get {K : PySem.W.Frag} {w : World} {a : PySem.Addr} {k : Str} {v : Str} : ∀ {l : List (Str × Str)}, Ds K w a l → l.lookup k = some v → L2.KDct K w a k (.str v)
  | [], _, h => nomatch h
  | (k', v') :: r, e, h => by
    rw [List.lookup_cons] at h
    by_cases z : k = k'
    · subst z
      rw [beq_self_eq_true] at h
      obtain rfl := Option.some.inj h
      exact e.1
    · rw [show (k == k') = false from beq_eq_false_iff_ne.mpr z] at h
      exact Ds.get e.2 h
structure DsP (K : PySem.W.Frag) (w : World) (mg : Str → Option Value) (x : Str) (tb : List (Str × Str)) where
  a : PySem.Addr
  g : mg x = some (.ref a)
  es : Ds K w a tb
/-! things, wide -/
def gw : Nat → PyData → Prop
  | _, .none => True
  | _, .bool _ => True
  | _, .int _ => True
  | _, .str s => s.length ≤ 50000 ∧ PyData.strOk s = true
  | 0, .tuple xs => xs = []
  | k + 1, .tuple xs => xs.length ≤ 50000 ∧ ∀ x ∈ xs, gw k x
  | _, _ => False
theorem isi_w {K : PySem.W.Frag} {H : Hp} {v : V} {d : PyData} {k : Nat} {c : String} (hd : Dp K H v d) (g : gw k d) (hc : CK.four c) : R.CIsi K H v (.ty c) (CK.isD c d) := by
  cases hd with
  | non => exact CK.isi_d (k := 0) .non trivial hc
  | bl b => exact CK.isi_d (k := 0) (.bl b) trivial hc
  | int b => exact CK.isi_d (k := 0) (.int b) trivial hc
  | str b => rcases hc with rfl | rfl | rfl | rfl <;> exact ⟨_, _, .ty _, .base (.str b), kit_ty (by first | (show kitB _ _ = some true; decide +kernel) | (show kitB _ _ = some false; decide +kernel))⟩
  | lst a b => cases k <;> exact g.elim
  | tup a b => rcases hc with rfl | rfl | rfl | rfl <;> exact ⟨_, _, .ty _, CK.ty_tup a, kit_ty (by first | (show kitB _ _ = some true; decide +kernel) | (show kitB _ _ = some false; decide +kernel))⟩
theorem gw_lay : ∀ (k : Nat) (d : PyData), gw k d → d.canLay0 = true ∧ d.depth ≤ k + 1
  | k, .none, _ => ⟨rfl, Nat.zero_le _⟩
  | k, .bool _, _ => ⟨rfl, Nat.zero_le _⟩
  | k, .int _, _ => ⟨rfl, Nat.zero_le _⟩
  | k, .str z, h => ⟨by rw [PyData.canLay0]; cases k <;> exact h.2, Nat.zero_le _⟩
  | 0, .tuple xs, h => by
    obtain rfl : xs = [] := h
    exact ⟨rfl, Nat.le_of_ble_eq_true rfl⟩
  | k + 1, .tuple xs, h => ⟨by rw [PyData.canLay0]; exact _root_.D.lay_of fun x hx => (gw_lay k x (h.2 x hx)).1, by rw [PyData.depth]; exact Nat.succ_le_succ (_root_.D.depth_of fun x hx => (gw_lay k x (h.2 x hx)).2)⟩
  | 0, .list _, h => h.elim
  | k + 1, .list _, h => h.elim
  | 0, .dict _, h => h.elim
  | k + 1, .dict _, h => h.elim
theorem gw.sh {k : Nat} {d : PyData} (g : gw k d) (hk : k ≤ 20) : SeqAt.shaped d = true := by
  obtain ⟨a, b⟩ := gw_lay k d g
  unfold SeqAt.shaped
  rw [a, decide_eq_true (by omega)]
  rfl
theorem r_eqW {K : PySem.W.Frag} {H : Hp} {Q : VK} {v : V} {d : PyData} {k : Nat} {s : Str} (hd : Dp K H v d) (g : gw k d) (hk : k ≤ 20) (hs : PyData.strOk s = true) (q : Q (.bl (CK.isS s d)) H) : rEqD K v (.str s) H Q :=
  ⟨d, .str s, hd, .str s, g.sh hk, (_root_.D.Sh.str (k := 0) hs).shaped (by decide), by rw [CK.eqv_str]; exact q⟩
theorem gw.mem {k : Nat} {xs : List PyData} (g : gw k (.tuple xs)) : xs.length ≤ 50000 ∧ ∀ x ∈ xs, ∃ j, j ≤ k ∧ gw j x := by
  cases k with
  | zero =>
    obtain rfl : xs = [] := g
    exact ⟨Nat.zero_le _, fun _ h => nomatch h⟩
  | succ k => exact ⟨g.1, fun x hx => ⟨k, Nat.le_succ k, g.2 x hx⟩⟩
theorem gw_of : ∀ (k : Nat) (d : PyData), CK.gd k d → gw k d
  | k, .none, _ => by cases k <;> trivial
  | k, .bool _, _ => by cases k <;> trivial
  | k, .int _, _ => by cases k <;> trivial
  | k, .str z, h => by
    have h : z.length ≤ 1000 ∧ PyData.strOk z = true := by cases k <;> exact h
    have : z.length ≤ 50000 ∧ PyData.strOk z = true := ⟨by omega, h.2⟩
    cases k <;> exact this
  | 0, .tuple xs, h => h
  | k + 1, .tuple xs, h => ⟨Nat.le_trans h.1 (by decide), fun x hx => gw_of k x (h.2 x hx)⟩
  | 0, .list _, h => h.elim
  | k + 1, .list _, h => h.elim
  | 0, .dict _, h => h.elim
  | k + 1, .dict _, h => h.elim
theorem tr_step {bs : List Bool} {H H1 H2 : Hp} {D : PySem.Addr} {i : Nat} {b : Bool} (hD : H D = none) (t : CK.Tr bs H D i H1) (s : Same H1 H2) (e : bs[i]? = some b) (hl : bs.length ≤ 50000) : ∃ acc, H2 D = some (.lst acc) ∧ acc.length < sizeLine ∧ CK.Tr bs H D (i + 1) (upd H2 D (.lst (acc ++ [.bl b]))) := by
  refine ⟨_, s _ _ t.2, R.size_lt (by rw [List.length_map, List.length_take]; omega), CR.same_acc hD (t.1.trans s), ?_⟩
  rw [upd_same, MM.take_snoc e, List.map_append]
  rfl
theorem val_len {ds : List PyData} (h : ds.length ≠ 2) : val (.tuple ds) = false := CK.val_len h
def cntO (lo : Int) : Option Int → PyData → Bool
  | some n, d => cnt lo n d
  | none, .int x => decide (lo ≤ x)
  | none, _ => false
theorem cntO_0 {d : PyData} : cntO 0 none d = nat0 d := by cases d <;> rfl
theorem fit_else {kd : CR.Kd} {d : PyData} (c1 : ¬ kd.nm ∈ CK.chs.map Prod.fst) (c2 : ¬ (kd = .into ∨ kd = .from')) (c3 : kd ≠ .opt) (c4 : kd ≠ .member) (c5 : kd ≠ .value) (c6 : ¬ (kd = .keys ∨ kd = .places)) : fitF kd d = nat0 d := by
  cases kd <;> first | rfl | exact absurd (by decide +kernel) c1 | (refine absurd ?_ c2; decide) | exact absurd rfl c3 | exact absurd rfl c4 | exact absurd rfl c5 | (refine absurd ?_ c6; decide)
/-- int from lo, and to hi where it is given -/
def spFromO (K : PySem.W.Frag) : Sp := fun vs H Q _ => ∃ (v : V) (d : PyData) (k : Nat) (lo : Int) (hi : Option Int), vs = [v, .int lo, match hi with | none => .non | some n => .int n] ∧ Dp K H v d ∧ gw k d ∧ k ≤ 20 ∧ ∀ H', Same H H' → Q (.bl (cntO lo hi d)) H'
def spW (K : PySem.W.Frag) (f : PyData → Bool) : Sp := fun vs H Q _ => ∃ (v : V) (d : PyData) (k : Nat), vs = [v] ∧ Dp K H v d ∧ gw k d ∧ k ≤ 20 ∧ ∀ H', Same H H' → Q (.bl (f d)) H'
def spW0 (K : PySem.W.Frag) (f : PyData → Bool) : Sp := fun vs H Q _ => ∃ (v : V) (d : PyData) (k : Nat), vs = [v, .non] ∧ Dp K H v d ∧ gw k d ∧ k ≤ 20 ∧ ∀ H', Same H H' → Q (.bl (f d)) H'
def spFitsW (K : PySem.W.Frag) : Sp := fun vs H Q _ => ∃ (kd : CR.Kd) (v : V) (d : PyData) (k : Nat), vs = [.str kd.nm, v, .non] ∧ Dp K H v d ∧ gw k d ∧ k ≤ 20 ∧ ∀ H', Same H H' → Q (.bl (fitF kd d)) H'
/-- the choices of a part -/
theorem ch_get {kd : CR.Kd} (h : kd.nm ∈ CK.chs.map Prod.fst) : ∃ ws, CK.chs.lookup kd.nm = some ws ∧ ∀ d, fitF kd d = wrd ws d := by
  obtain ⟨ws, e, p⟩ := CK.ch_get h
  refine ⟨ws, e, fun d => ?_⟩
  rw [← p d]
  revert h
  cases kd <;> first | (intro _; rfl) | (intro h; exact absurd h (by decide +kernel))
theorem ch_no {kd : CR.Kd} : kd.nm ∈ CK.chs.map Prod.fst ↔ kd = .view ∨ kd = .sign ∨ kd = .order ∨ kd = .sort := by cases kd <;> decide +kernel
/-! lines -/
abbrev nl : Str := ⟨#[10]⟩
def lnT (ls : List Str) : Str := Txt.join "" (ls.map (· ++ nl))
theorem join_nil (ps : List Str) : tl (Txt.join "" ps) = (ps.map tl).flatten := by
  rw [TL.join_eq]
  induction ps with
  | nil => rfl
  | cons p ps ih =>
    cases ps with
    | nil =>
      show tl p = _
      simp
    | cons q ps =>
      show tl (p ++ "" ++ Str.join "" (q :: ps)) = _
      rw [TL.tl_append, TL.tl_append, ih, show tl ("" : Str) = [] from rfl]
      simp
theorem lnT_nil : lnT [] = "" := rfl
theorem lnT_tl (ls : List Str) : tl (lnT ls) = (ls.map fun l => tl l ++ [10]).flatten := by
  unfold lnT
  rw [join_nil, List.map_map]
  congr 1
  refine List.map_congr_left fun l _ => ?_
  show tl (l ++ nl) = _
  rw [TL.tl_append]
theorem lnT_snoc (ls : List Str) (z : Str) : lnT (ls ++ [z]) = lnT ls ++ z ++ nl := TL.ext_tl (by
  rw [lnT_tl, TL.tl_append, TL.tl_append, lnT_tl, List.map_append, List.flatten_append]
  simp)
theorem lnT_join (ls : List Str) (u : Str) : lnT ls ++ u = Txt.join nl (ls ++ [u]) := by
  refine TL.ext_tl ?_
  rw [TL.tl_append, lnT_tl, TL.join_eq]
  induction ls with
  | nil => rfl
  | cons l ls ih =>
    have e : tl (Str.join nl (l :: ls ++ [u])) = tl l ++ [10] ++ tl (Str.join nl (ls ++ [u])) := by
      cases ls with
      | nil =>
        show tl (l ++ nl ++ Str.join nl [u]) = _
        rw [TL.tl_append, TL.tl_append]
        try rfl
      | cons m ls =>
        show tl (l ++ nl ++ Str.join nl (m :: ls ++ [u])) = _
        rw [TL.tl_append, TL.tl_append]
        try rfl
    rw [e, ← ih, List.map_cons, List.flatten_cons, List.append_assoc]
theorem lnT_split {ls : List Str} {u : Str} (h : ∀ l ∈ ls, 10 ∉ l.cps.toList) (hu : 10 ∉ u.cps.toList) : Txt.split (lnT ls ++ u) nl = ls ++ [u] := by
  rw [lnT_join]
  refine TL.split_join (s := 10) (S := []) rfl (by decide +kernel) (by simp) fun p m => ?_
  rcases List.mem_append.mp m with z | z
  · exact h p z
  · rw [List.mem_singleton.mp z]
    exact hu
theorem lnT_split0 {ls : List Str} (h : ∀ l ∈ ls, 10 ∉ l.cps.toList) : Txt.split (lnT ls) nl = ls ++ [("" : Str)] := by
  have e : lnT ls = lnT ls ++ "" := TL.ext_tl (by rw [TL.tl_append, show tl ("" : Str) = [] from rfl, List.append_nil])
  rw [e]
  exact lnT_split h no_empty
theorem lnT_len (ls : List Str) : (lnT ls).length = (ls.map (·.length + 1)).sum := by
  show (lnT ls).cps.size = _
  rw [← Array.length_toList]
  show (tl (lnT ls)).length = _
  rw [lnT_tl]
  induction ls with
  | nil => rfl
  | cons l ls ih =>
    rw [List.map_cons, List.flatten_cons, List.length_append, ih, List.map_cons, List.sum_cons, List.length_append]
    congr 1
/-! the reader -/
inductive Rd
  | ok (ks : List Str) (rs : List PyData)
  | bad (n : Nat)
def plc? (z : Str) : Option Str := ([("place int", "int"), ("place str", "str")] : List (Str × Str)).lookup z
def goL (k : Nat) (ks : List Str) (rs : List PyData) : List Str → Rd
  | [] => .ok ks rs
  | z :: l => match (if rs = [] then plc? z else none) with
    | some x => goL (k + 1) (ks ++ [x]) rs l
    | none => match lineF z with
      | none => .bad (k + 1)
      | some d => goL (k + 1) ks (rs ++ [d]) l
def endL (u : Str) (n : Nat) : Rd → Rd
  | .ok ks rs => if u = "" then .ok ks rs else .bad n
  | .bad m => .bad m
theorem goL_app {a b : List Str} : ∀ {k : Nat} {ks : List Str} {rs : List PyData} {ks' : List Str} {rs' : List PyData}, goL k ks rs a = .ok ks' rs' → goL k ks rs (a ++ b) = goL (k + a.length) ks' rs' b := by
  induction a with
  | nil =>
    intro k ks rs ks' rs' h
    unfold goL at h
    injection h with h1 h2
    rw [h1, h2]
    rfl
  | cons z a ih =>
    intro k ks rs ks' rs' h
    rw [List.cons_append]
    rw [goL] at h ⊢
    rw [List.length_cons, show k + (a.length + 1) = k + 1 + a.length by omega]
    split at h
    · next x e => exact ih h
    · next e =>
      split at h
      · cases h
      · next d e2 => exact ih h
theorem goL_kinds {kl : List Str} (h : ∀ k ∈ kl, k = "int" ∨ k = "str") : ∀ {k : Nat} {ks : List Str}, goL k ks [] (kl.map fun x => ("place " : Str) ++ x) = .ok (ks ++ kl) [] := by
  induction kl with
  | nil => intro k ks; rw [List.append_nil]; rfl
  | cons x kl ih =>
    intro k ks
    rw [List.map_cons, goL, if_pos rfl]
    have e : plc? (("place " : Str) ++ x) = some x := by rcases h x List.mem_cons_self with rfl | rfl <;> decide +kernel
    rw [e]
    dsimp only
    rw [ih (fun k m => h k (List.mem_cons_of_mem _ m)), List.append_assoc]
    rfl
theorem plc_nm {z : Str} {x : Str} (h : plc? z = some x) : z = "place int" ∨ z = "place str" := by
  unfold plc? at h
  rw [List.lookup_cons] at h
  split at h
  · next e => exact .inl (eq_of_beq e)
  · rw [List.lookup_cons] at h
    split at h
    · next e => exact .inr (eq_of_beq e)
    · cases h
theorem mem_jn {ws : List Str} {c : Nat} : ∀ {w : Str}, w ∈ ws → c ∈ w.cps.toList → c ∈ (jn ws).cps.toList := by
  induction ws with
  | nil => intro w m; cases m
  | cons x ws ih =>
    intro w m h
    by_cases z : ws = []
    · subst z
      rw [List.mem_singleton.mp m] at h
      rw [jn_one]
      exact h
    · rw [jn_cons z]
      show c ∈ tl (x ++ blank ++ jn ws)
      rw [TL.tl_append, TL.tl_append]
      rcases List.mem_cons.mp m with e | e
      · rw [e] at h
        exact List.mem_append_left _ (List.mem_append_left _ h)
      · exact List.mem_append_right _ (ih e h)
theorem jn_mem {ws : List Str} {c : Nat} : c ∈ (jn ws).cps.toList → c = 32 ∨ ∃ w ∈ ws, c ∈ w.cps.toList := by
  induction ws with
  | nil => intro h; exact absurd h no_empty
  | cons x ws ih =>
    intro h
    by_cases z : ws = []
    · subst z
      rw [jn_one] at h
      exact .inr ⟨x, List.mem_cons_self, h⟩
    · rw [jn_cons z] at h
      have h : c ∈ tl (x ++ blank ++ jn ws) := h
      rw [TL.tl_append, TL.tl_append] at h
      rcases List.mem_append.mp h with h | h
      · rcases List.mem_append.mp h with h | h
        · exact .inr ⟨x, List.mem_cons_self, h⟩
        · exact .inl (List.mem_singleton.mp h)
      · rcases ih h with e | ⟨w, m, h⟩
        · exact .inl e
        · exact .inr ⟨w, List.mem_cons_of_mem _ m, h⟩
theorem sp_sub {z p : Str} {c : Nat} (m : p ∈ sp z) (h : c ∈ p.cps.toList) : c ∈ z.cps.toList := by
  have := mem_jn m h
  rw [jn_sp] at this
  exact this
theorem row_ne {w : CR.Wd} {ds : List PyData} : rowW w ds ≠ [] := by unfold rowW; simp
theorem partW_free {k : CR.Kd} {d : PyData} (hp : prt k d = true) {c : Nat} (hc : c = 10 ∨ c = 32) (hv : k = .value → c = 10) : ∀ z ∈ partW k d, c ∉ z.cps.toList := by
  have hc' : c = 32 ∨ c = 10 := hc.symm
  have one : ∀ {ws : List Str}, (∀ w ∈ ws, 10 ∉ w.cps.toList ∧ 32 ∉ w.cps.toList) → wrd ws d = true → ∀ z ∈ (match d with | .str s => [s] | _ => []), c ∉ z.cps.toList := fun {ws} h1 h z m => by
    obtain ⟨s, rfl, hs⟩ := wrd_str h
    obtain rfl := List.mem_singleton.mp m
    rcases hc with rfl | rfl
    · exact (h1 _ hs).1
    · exact (h1 _ hs).2
  have int1 : ∀ z ∈ [intW d], c ∉ z.cps.toList := fun z m => by
    rw [List.mem_singleton.mp m]
    exact int_free hc'
  have lst : ∀ z ∈ (match d with | .tuple ds => dT (ds.length : Int) :: ds.map intW | _ => []), c ∉ z.cps.toList := fun z m => by
    cases d with
    | tuple ds =>
      rcases List.mem_cons.mp m with e | e
      · rw [e]; exact dT_free hc'
      · obtain ⟨x, _, rfl⟩ := List.mem_map.mp e
        exact int_free hc'
    | _ => cases m
  cases k with
  | value =>
    obtain rfl := hv rfl
    rcases val_cases hp with ⟨n, rfl, _⟩ | ⟨s, rfl, _, hs⟩
    · intro z m
      have m : z ∈ [("int" : Str), dT n] := m
      rcases List.mem_cons.mp m with e | e
      · rw [e]; decide +kernel
      · rw [List.mem_singleton.mp e]; exact dT_free hc'
    · intro z m
      have m : z ∈ ("str" : Str) :: dT (s.length : Int) :: sp (("'" : Str) ++ s) := m
      rcases List.mem_cons.mp m with e | e
      · rw [e]; decide +kernel
      · rcases List.mem_cons.mp e with e | e
        · rw [e]; exact dT_free hc'
        · intro hx
          have := sp_sub e hx
          have this : 10 ∈ tl (("'" : Str) ++ s) := this
          rw [TL.tl_append] at this
          rcases List.mem_append.mp this with h | h
          · exact absurd h (by decide +kernel)
          · rw [List.all_eq_true] at hs
            exact absurd (hs 10 h) (by decide)
  | view => exact one (by decide +kernel) hp
  | sign => exact one (by decide +kernel) hp
  | order => exact one (by decide +kernel) hp
  | sort => exact one (by decide +kernel) hp
  | keys => exact lst
  | places => exact lst
  | into => exact int1
  | from' => exact int1
  | opt => exact int1
  | member => exact int1
  | place => exact int1
  | slot => exact int1
  | glob => exact int1
  | thr => exact int1
  | arr => exact int1
  | target => exact int1
  | table => exact int1
end WT
end
section
/-! the reader of a row: what stands -/
namespace WT
open PySem PySem.Spec PyProof.Rows L2
/-- the words of a line -/
def LOk (ws : List Str) : Prop := ∃ z : Str, z.length ≤ 30000 ∧ PyData.strOk z = true ∧ ws = sp z
/-- the reader at o, of whose words r are left -/
def Rdr (C : PySem.Addr) (H : Hp) (o l : PySem.Addr) (r : List Str) : Prop := ∃ (dx : PySem.Addr) (ws : List Str) (p : Nat), H o = some (.ins C dx [("words", .ref l), ("place", .int p)]) ∧ H l = some (.lst (ws.map V.str)) ∧ p ≤ ws.length ∧ r = ws.drop p ∧ LOk ws
def spIni (C : PySem.Addr) : Sp := fun vs H Q _ => ∃ (o dx : PySem.Addr) (z : Str), vs = [.ref o, .str z] ∧ H o = some (.ins C dx []) ∧ (z.length ≤ 30000 ∧ PyData.strOk z = true) ∧ ∀ l H', R.Mv o H H' → H l = none → Rdr C H' o l (sp z) → Q .non H'
def spTake (C : PySem.Addr) : Sp := fun vs H Q _ => ∃ (o l : PySem.Addr) (r : List Str), vs = [.ref o] ∧ Rdr C H o l r ∧ ∀ H', R.Mv o H H' → Rdr C H' o l (tk1 r).2 → ((tk1 r).1.length ≤ 30000 ∧ PyData.strOk (tk1 r).1 = true) → Q (.str (tk1 r).1) H'
def spRead (C : PySem.Addr) (f : List Str → PyData × List Str) : Sp := fun vs H Q _ => ∃ (o l : PySem.Addr) (r : List Str), vs = [.ref o] ∧ Rdr C H o l r ∧ ∀ H' v, R.Mv o H H' → Rdr C H' o l (f r).2 → CK.Td H' v (f r).1 → gw 1 (f r).1 → Q v H'
def spPart (C : PySem.Addr) : Sp := fun vs H Q _ => ∃ (o l : PySem.Addr) (kd : CR.Kd) (r : List Str), vs = [.ref o, .str kd.nm] ∧ Rdr C H o l r ∧ ∀ H' v, R.Mv o H H' → Rdr C H' o l (rdP kd r).2 → CK.Td H' v (rdP kd r).1 → gw 1 (rdP kd r).1 → Q v H'
def opD (H : Hp) : V → Option PyData → Prop
  | v, none => v = .non
  | v, some d => CK.Td H v d ∧ gw 2 d ∧ v ≠ .non
def spRow (C : PySem.Addr) : Sp := fun vs H Q _ => ∃ (o l : PySem.Addr) (r : List Str), vs = [.ref o] ∧ Rdr C H o l r ∧ ∀ H' v, R.Mv o H H' → opD H' v (rowF r) → Q v H'

/-! lengths -/
def msr (ws : List Str) : Nat := (ws.map (·.length + 1)).sum
theorem msr_cons {w : Str} {ws : List Str} : msr (w :: ws) = w.length + 1 + msr ws := rfl
theorem msr_app {a b : List Str} : msr (a ++ b) = msr a + msr b := by
  unfold msr
  rw [List.map_append, List.sum_append]
theorem len_app {a b : Str} : (a ++ b).length = a.length + b.length := Str.length_append a b
theorem len_jn : ∀ {ws : List Str}, ws ≠ [] → (jn ws).length + 1 = msr ws
  | [], h => absurd rfl h
  | [x], _ => by rw [jn_one]; rfl
  | x :: y :: ws, _ => by
    rw [jn_cons (by simp), len_app, len_app, msr_cons, ← len_jn (ws := y :: ws) (by simp)]
    show x.length + 1 + _ + 1 = _
    omega
theorem len_jn' {ws : List Str} : (jn ws).length ≤ msr ws := by
  by_cases z : ws = []
  · subst z; exact Nat.zero_le _
  · have := len_jn z
    omega
theorem msr_sp {z : Str} : msr (sp z) = z.length + 1 := by
  rw [← len_jn (sp_ne z), jn_sp]
theorem len_msr {ws : List Str} : ws.length ≤ msr ws := by
  induction ws with
  | nil => exact Nat.zero_le _
  | cons w ws ih =>
    rw [msr_cons, List.length_cons]
    omega
theorem mem_msr {ws : List Str} : ∀ {w : Str}, w ∈ ws → w.length + 1 ≤ msr ws := by
  induction ws with
  | nil => intro w m; cases m
  | cons x ws ih =>
    intro w m
    rw [msr_cons]
    rcases List.mem_cons.mp m with e | e
    · rw [e]; omega
    · have := ih e
      omega
theorem msr_drop {ws : List Str} : ∀ {p : Nat}, msr (ws.drop p) ≤ msr ws := by
  induction ws with
  | nil => intro p; rw [List.drop_nil]; exact Nat.le_refl _
  | cons x ws ih =>
    intro p
    cases p with
    | zero => exact Nat.le_refl _
    | succ p =>
      rw [List.drop_succ_cons, msr_cons]
      have := ih (p := p)
      omega
theorem LOk.msr {ws : List Str} (h : LOk ws) : WT.msr ws ≤ 30001 := by
  obtain ⟨z, l, _, rfl⟩ := h
  rw [msr_sp]
  omega
theorem LOk.len {ws : List Str} (h : LOk ws) : ws.length ≤ 30001 := Nat.le_trans len_msr h.msr
theorem LOk.word {ws : List Str} (h : LOk ws) {w : Str} (m : w ∈ ws) : w.length ≤ 30000 ∧ PyData.strOk w = true := by
  have l := mem_msr m
  have := h.msr
  obtain ⟨z, _, o, rfl⟩ := h
  rw [LN.ok_iff] at o
  refine ⟨by omega, LN.ok_iff.mpr fun c hc => o c (sp_sub m hc)⟩
theorem LOk.rest {ws : List Str} (h : LOk ws) {p : Nat} : (jn (ws.drop p)).length ≤ 30001 ∧ PyData.strOk (jn (ws.drop p)) = true := by
  refine ⟨Nat.le_trans len_jn' (Nat.le_trans msr_drop h.msr), LN.ok_iff.mpr fun c hc => ?_⟩
  rcases jn_mem hc with rfl | ⟨w, m, hw⟩
  · decide
  · exact LN.ok_iff.mp (h.word (List.mem_of_mem_drop m)).2 c hw
theorem Rdr.same {C : PySem.Addr} {H H' : Hp} {o l : PySem.Addr} {r : List Str} (h : Rdr C H o l r) (s : Same H H') : Rdr C H' o l r := by
  obtain ⟨dx, ws, p, e1, e2, x⟩ := h
  exact ⟨dx, ws, p, s _ _ e1, s _ _ e2, x⟩
theorem Rdr.ins {C : PySem.Addr} {H : Hp} {o l : PySem.Addr} {r : List Str} (h : Rdr C H o l r) : ∃ (dx : PySem.Addr) (p : Int), H o = some (.ins C dx [("words", .ref l), ("place", .int p)]) := by
  obtain ⟨dx, ws, p, e1, _⟩ := h
  exact ⟨dx, p, e1⟩
theorem Rdr.ne {C : PySem.Addr} {H : Hp} {o l p : PySem.Addr} {r : List Str} (h : Rdr C H o l r) (hp : H p = none) : o ≠ p ∧ l ≠ p := by
  obtain ⟨dx, ws, k, e1, e2, _⟩ := h
  exact ⟨ne_of_none e1 hp, ne_of_none e2 hp⟩
theorem Rdr.put {C : PySem.Addr} {H : Hp} {o l p : PySem.Addr} {r : List Str} {x : HO} (h : Rdr C H o l r) (n : o ≠ p ∧ l ≠ p) : Rdr C (upd H p x) o l r := by
  obtain ⟨dx, ws, k, e1, e2, y⟩ := h
  exact ⟨dx, ws, k, by rw [upd_ne n.1]; exact e1, by rw [upd_ne n.2]; exact e2, y⟩
theorem Rdr.keepT {C : PySem.Addr} {H H' : Hp} {o l : PySem.Addr} {r : List Str} (h : Rdr C H o l r) (m : R.Mv o H H') : MM.KeepT H H' := fun b xs e => m b _ e fun z => by
  obtain ⟨dx, ws, k, e1, _⟩ := h
  rw [z, e1] at e
  cases e
theorem Rdr.len {C : PySem.Addr} {H : Hp} {o l : PySem.Addr} {r : List Str} (h : Rdr C H o l r) : r.length ≤ 30001 := by
  obtain ⟨dx, ws, k, e1, e2, hp, rfl, ok⟩ := h
  have := ok.len
  rw [List.length_drop]
  omega
theorem tk1_drop {ws : List Str} {p : Nat} {w : Str} (h : ws[p]? = some w) : tk1 (ws.drop p) = (w, ws.drop (p + 1)) := by
  have hp := List.getElem?_eq_some_iff.mp h
  obtain ⟨hl, e⟩ := hp
  rw [List.drop_eq_getElem_cons hl, e]
  rfl
theorem keep_td {H H' : Hp} {v : V} {d : PyData} (s : Same H H') (h : CK.Td H v d) : CK.Td H' v d := h.keep (MM.KeepT.of s)
theorem digs_nn : ∀ {cs : List Nat} {a n : Int}, 0 ≤ a → LN.digs a cs = some n → 0 ≤ n
  | [], a, n, h, e => by
    unfold LN.digs at e
    rw [← Option.some.inj e]
    exact h
  | c :: r, a, n, h, e => by
    unfold LN.digs at e
    split at e
    · next hd =>
      refine digs_nn ?_ e
      unfold LN.isDig at hd
      rw [Bool.and_eq_true, decide_eq_true_iff, decide_eq_true_iff] at hd
      omega
    · cases e
theorem natF_nn {z : Str} {n : Int} (h : LN.natF z = some n) : 0 ≤ n := by
  unfold LN.natF at h
  split at h
  · cases h
  · exact digs_nn (Int.le_refl 0) h
theorem natF_e : LN.natF "" = none := rfl
theorem lsF_none {r : List Str} (h : LN.natF (tk1 r).1 = none) : lsF r = (.none, (tk1 r).2) := by unfold lsF; rw [h]
theorem lsF_some {r : List Str} {m : Int} {l : List Int} {r' : List Str} (h : LN.natF (tk1 r).1 = some m) (e : plF (tk1 r).2 m.toNat = (some l, r')) : lsF r = (.tuple (l.map PyData.int), r') := by
  unfold lsF
  rw [h]
  dsimp only
  rw [e]
theorem lsF_bad {r : List Str} {m : Int} {r' : List Str} (h : LN.natF (tk1 r).1 = some m) (e : plF (tk1 r).2 m.toNat = (none, r')) : lsF r = (.none, r') := by
  unfold lsF
  rw [h]
  dsimp only
  rw [e]
/-- while places are read: ns are, j are to be, r stand before -/
def PlI (F : Option (List Int) × List Str) (ns : List Int) (r : List Str) (j : Nat) : Prop := F = ((plF r j).1.map (ns ++ ·), (plF r j).2)
theorem PlI.start {r : List Str} {k : Nat} : PlI (plF r k) [] r k := by
  unfold PlI
  cases e : (plF r k).1 with
  | none => rw [show plF r k = ((plF r k).1, (plF r k).2) from rfl, e]; rfl
  | some l => rw [show plF r k = ((plF r k).1, (plF r k).2) from rfl, e]; rfl
theorem PlI.done {F : Option (List Int) × List Str} {ns : List Int} {r : List Str} (h : PlI F ns r 0) : F = (some ns, r) := by
  unfold PlI at h
  rw [h]
  cases r <;> (unfold plF; show (some (ns ++ []), _) = _; rw [List.append_nil])
theorem PlI.bad {F : Option (List Int) × List Str} {ns : List Int} {r : List Str} {j : Nat} (h : PlI F ns r (j + 1)) (e : LN.natF (tk1 r).1 = none) : F = (none, (tk1 r).2) := by
  unfold PlI at h
  rw [h]
  cases r with
  | nil => rfl
  | cons w r =>
    have e : LN.natF w = none := e
    unfold plF
    rw [e]
    rfl
theorem PlI.step {F : Option (List Int) × List Str} {ns : List Int} {r : List Str} {j : Nat} {n : Int} (h : PlI F ns r (j + 1)) (e : LN.natF (tk1 r).1 = some n) : PlI F (ns ++ [n]) (tk1 r).2 j ∧ r.length = (tk1 r).2.length + 1 := by
  unfold PlI at h ⊢
  cases r with
  | nil => cases e
  | cons w r =>
    have e : LN.natF w = some n := e
    unfold plF at h
    rw [e] at h
    refine ⟨?_, rfl⟩
    rw [h]
    show (((plF r j).1.map (n :: ·)).map (ns ++ ·), _) = _
    rw [Option.map_map]
    show _ = ((plF r j).1.map _, (plF r j).2)
    congr 2
    funext l
    show ns ++ n :: l = ns ++ [n] ++ l
    rw [List.append_assoc]
    rfl
theorem mv_acc {H H1 : Hp} {o p : PySem.Addr} {x : HO} (m : R.Mv o H H1) (hp : H p = none) : R.Mv o H (upd H1 p x) := fun b u e nb => by
  rw [upd_ne (ne_of_none e hp)]
  exact m b u e nb
theorem sum_msr {ws : List Str} : (ws.map fun x => x.length).sum ≤ msr ws := by
  induction ws with
  | nil => exact Nat.zero_le _
  | cons w ws ih =>
    rw [msr_cons, List.map_cons, List.sum_cons]
    omega
theorem whl_td {H : Hp} {z : Str} {v : V} (h : v = match LN.wholeF z with | some n => V.int n | none => V.non) : CK.Td H v (whl z) := by
  subst h
  unfold whl
  cases LN.wholeF z with
  | none => exact .non
  | some n => exact .int n
theorem whl_gw {z : Str} {k : Nat} : gw k (whl z) := by
  unfold whl
  cases LN.wholeF z <;> cases k <;> trivial
theorem held_gw {r : List Str} (h : gw 1 (heldF r)) : gw 0 (heldF r) := by
  unfold heldF at h ⊢
  split
  · trivial
  · next e =>
    rw [e] at h
    dsimp only at h
    split
    · next c => rw [if_pos c] at h; exact h
    · trivial
theorem rd_ch {kd : CR.Kd} {r : List Str} (h : kd = .view ∨ kd = .sign ∨ kd = .order ∨ kd = .sort) : rdP kd r = (.str (tk1 r).1, (tk1 r).2) := by rcases h with rfl | rfl | rfl | rfl <;> rfl
theorem rd_ls {kd : CR.Kd} {r : List Str} (h : kd = .keys ∨ kd = .places) : rdP kd r = lsF r := by rcases h with rfl | rfl <;> rfl
theorem rd_else {kd : CR.Kd} {r : List Str} (c1 : ¬ kd.nm ∈ CK.chs.map Prod.fst) (c5 : kd ≠ .value) (c6 : ¬ (kd = .keys ∨ kd = .places)) : rdP kd r = (whl (tk1 r).1, (tk1 r).2) := by
  cases kd <;> first | rfl | exact absurd (by decide +kernel) c1 | exact absurd rfl c5 | (refine absurd ?_ c6; decide)
def textF (z : Str) : Rd := endL ((Txt.split z nl).getLastD "") (Txt.split z nl).length (goL 0 [] [] (Txt.split z nl).dropLast)
theorem textF_ln {ls : List Str} {u : Str} (h : ∀ l ∈ ls, 10 ∉ l.cps.toList) (hu : 10 ∉ u.cps.toList) : textF (lnT ls ++ u) = endL u (ls.length + 1) (goL 0 [] [] ls) := by
  unfold textF
  rw [lnT_split h hu, List.dropLast_concat, List.length_append]
  congr 1
  simp
theorem lnT_app0 (ls : List Str) : lnT ls = lnT ls ++ "" := TL.ext_tl (by rw [TL.tl_append, show TL.tl ("" : Str) = [] from rfl, List.append_nil])
theorem goL_plc {k : Nat} {ks : List Str} {z x : Str} {l : List Str} (h : plc? z = some x) : goL k ks [] (z :: l) = goL (k + 1) (ks ++ [x]) [] l := by
  rw [goL, if_pos rfl, h]
theorem goL_row {k : Nat} {ks : List Str} {rs : List PyData} {z : Str} {l : List Str} {d : PyData} (h : ¬ (plc? z ≠ none ∧ rs = [])) (e : lineF z = some d) : goL k ks rs (z :: l) = goL (k + 1) ks (rs ++ [d]) l := by
  rw [goL, show (if rs = [] then plc? z else none) = none by
    split
    · next c => exact Decidable.byContradiction fun g => h ⟨g, c⟩
    · rfl, e]
theorem goL_bad {k : Nat} {ks : List Str} {rs : List PyData} {z : Str} {l : List Str} (h : ¬ (plc? z ≠ none ∧ rs = [])) (e : lineF z = none) : goL k ks rs (z :: l) = .bad (k + 1) := by
  rw [goL, show (if rs = [] then plc? z else none) = none by
    split
    · next c => exact Decidable.byContradiction fun g => h ⟨g, c⟩
    · rfl, e]
theorem plc_mem {z : Str} : z ∈ (["place int", "place str"] : List Str) ↔ plc? z ≠ none := by
  unfold plc?
  rw [List.lookup_cons, List.lookup_cons]
  constructor
  · intro h
    rcases List.mem_cons.mp h with rfl | h
    · decide +kernel
    · obtain rfl := List.mem_singleton.mp h
      decide +kernel
  · intro h
    by_cases a : z = "place int"
    · subst a; decide +kernel
    · by_cases b : z = "place str"
      · subst b; decide +kernel
      · rw [beq_eq_false_iff_ne.mpr a, beq_eq_false_iff_ne.mpr b] at h
        exact absurd rfl h
theorem cut_last {xs : List V} (h : xs ≠ []) : cutV xs none (some (-1)) = xs.dropLast := by
  have h1 : 0 < xs.length := List.length_pos_iff.mpr h
  unfold cutV HT.sIx
  simp
  rw [List.dropLast_eq_take]
  congr 1
  omega
section
variable {K : PySem.W.Frag} {tb : TS} {g : TG} {nx bk ct : L2.St → Hp → Prop} {rt : V → Hp → Prop} {σ : L2.St} {H : Hp} {tr : TA}
theorem r_forEnL (h : tr σ H fun vs H1 => ∃ a xs, vs = [.ref a] ∧ SqL K H1 a xs ∧ MM.FW (Ite K a) g tb nx rt σ H1) : tFor (iEnum K tr) g tb ⟨nx, rt, bk, ct⟩ σ H := h
theorem for_enL {a : PySem.Addr} {xs : List V} (Pv : Nat → L2.St → Hp → Prop) (h0 : Pv 0 σ H) (hG : ∀ i σ H, Pv i σ H → SqL K H a xs)
    (hs : ∀ i x T σ H H', xs[i]? = some x → Pv i σ H → Same H H' → H' T = some (.tup [.int (i : Nat), x]) → g (.ref T) σ H' fun σ2 H2 => tb ⟨Pv (i + 1), rt, nx, Pv (i + 1)⟩ σ2 H2) (hd : ∀ σ H, Pv xs.length σ H → nx σ H) : MM.FW (Ite K a) g tb nx rt σ H := by
  refine for_it (D := ⟨nx, rt, fun _ _ => False, fun _ _ => False⟩) (walk_enum (xs := xs)) Pv h0 (fun i σ H _ p => hG i σ H p) (fun i x σ H H' hi p y => ?_) hd
  obtain ⟨T, x', y', rfl, hT, rfl, ex, ey⟩ := y
  cases ex
  exact hs i y' T σ H _ ey p (R.same_new hT) upd_same
end
theorem split_ne {z : Str} : Txt.split z nl ≠ [] := fun h => by
  have e := PySem.StrLaws.join_split z nl
  unfold Txt.split at h
  split at h
  · cases h
  · split at h
    · cases h
    · unfold Builtin.Str.partsBetween at h
      have := congrArg List.length h
      simp at this
theorem join_len : ∀ {ws : List Str}, ws.length ≤ (Str.join nl ws).length + 1
  | [] => Nat.zero_le _
  | [x] => Nat.le_add_left _ _
  | x :: y :: ws => by
    have ih := join_len (ws := y :: ws)
    show _ ≤ (x ++ nl ++ Str.join nl (y :: ws)).length + 1
    rw [len_app, len_app]
    show (y :: ws).length + 1 ≤ x.length + 1 + _ + 1
    omega
theorem split_len {z : Str} : (Txt.split z nl).length ≤ z.length + 1 := by
  have := join_len (ws := Txt.split z nl)
  rw [PySem.StrLaws.join_split] at this
  exact this
theorem at_last {α : Type} {xs : List α} {v : α} (h : xs[xs.length - 1]? = some v) : atI xs (-1) = some v := by
  have hl := (List.getElem?_eq_some_iff.mp h).1
  have e : ixN xs.length (-1) = some (xs.length - 1) := by
    unfold ixN
    first | (simp; omega) | (split <;> first | omega | (congr 1; omega)) | (simp only []; omega)
  unfold atI
  rw [e]
  exact h
theorem plc_ok {z x : Str} (h : plc? z = some x) : x.length ≤ 100 ∧ PyData.strOk x = true := by
  rcases plc_nm h with rfl | rfl
  · rw [show plc? "place int" = some "int" by decide +kernel] at h
    rw [← Option.some.inj h]
    decide +kernel
  · rw [show plc? "place str" = some "str" by decide +kernel] at h
    rw [← Option.some.inj h]
    decide +kernel
/-! a row -/
def fin (w : CR.Wd) : Option (List PyData) × List Str → Option PyData
  | (some ds, []) => some (.tuple (.str w.nm :: ds))
  | _ => none
def rowG (z : Str) (r : List Str) : Option PyData := match CR.Wd.all.find? fun w => decide (w.nm = z) with
  | none => none
  | some w => fin w (partsF w.ks r)
theorem rowF_G {r : List Str} : rowF r = rowG (tk1 r).1 (tk1 r).2 := by
  unfold rowF rowG
  cases CR.Wd.all.find? fun w => decide (w.nm = (tk1 r).1) with
  | none => rfl
  | some w =>
    dsimp only
    generalize partsF w.ks (tk1 r).2 = x
    obtain ⟨o, l⟩ := x
    cases o <;> cases l <;> rfl
theorem rowG_no {z : Str} {r : List Str} (h : ¬ z ∈ CR.tab.map Prod.fst) : rowG z r = none := by
  unfold rowG
  rw [show CR.Wd.all.find? (fun w => decide (w.nm = z)) = none from List.find?_eq_none.mpr fun w m => by
    rw [decide_eq_true_iff]
    intro e
    apply h
    rw [← e, show CR.tab.map Prod.fst = CR.Wd.all.map CR.Wd.nm by decide +kernel]
    exact List.mem_map.mpr ⟨w, m, rfl⟩]
theorem rowG_w {w : CR.Wd} {r : List Str} : rowG w.nm r = fin w (partsF w.ks r) := by
  unfold rowG
  rw [find_wd]
theorem fin_no {w : CR.Wd} {ds : List PyData} {r : List Str} (h : r ≠ []) : fin w (some ds, r) = none := by
  cases r with
  | nil => exact absurd rfl h
  | cons x r => rfl
def PtI (F : Option (List PyData) × List Str) (ds : List PyData) (r : List Str) (ks : List CR.Kd) : Prop := F = ((partsF ks r).1.map (ds ++ ·), (partsF ks r).2)
theorem PtI.start {r : List Str} {ks : List CR.Kd} : PtI (partsF ks r) [] r ks := by
  unfold PtI
  cases e : (partsF ks r).1 with
  | none => rw [show partsF ks r = ((partsF ks r).1, (partsF ks r).2) from rfl, e]; rfl
  | some l => rw [show partsF ks r = ((partsF ks r).1, (partsF ks r).2) from rfl, e]; rfl
theorem PtI.done {F : Option (List PyData) × List Str} {ds : List PyData} {r : List Str} (h : PtI F ds r []) : F = (some ds, r) := by
  unfold PtI at h
  rw [h]
  unfold partsF
  show (some (ds ++ []), _) = _
  rw [List.append_nil]
theorem PtI.bad {F : Option (List PyData) × List Str} {ds : List PyData} {r : List Str} {k : CR.Kd} {ks : List CR.Kd} (h : PtI F ds r (k :: ks)) (e : fitF k (rdP k r).1 = false) : F = (none, (rdP k r).2) := by
  unfold PtI at h
  rw [h]
  unfold partsF
  rw [e]
  rfl
theorem PtI.step {F : Option (List PyData) × List Str} {ds : List PyData} {r : List Str} {k : CR.Kd} {ks : List CR.Kd} (h : PtI F ds r (k :: ks)) (e : fitF k (rdP k r).1 = true) : PtI F (ds ++ [(rdP k r).1]) (rdP k r).2 ks := by
  unfold PtI at h ⊢
  rw [h]
  conv => lhs; unfold partsF
  rw [if_pos e]
  show (((partsF ks (rdP k r).2).1.map ((rdP k r).1 :: ·)).map (ds ++ ·), _) = _
  rw [Option.map_map]
  show _ = ((partsF ks (rdP k r).2).1.map _, (partsF ks (rdP k r).2).2)
  congr 2
  funext l
  show ds ++ (rdP k r).1 :: l = ds ++ [(rdP k r).1] ++ l
  rw [List.append_assoc]
  rfl
theorem kt_lst {H : Hp} {p : PySem.Addr} {xs ys : List V} (e : H p = some (.lst xs)) : MM.KeepT H (upd H p (.lst ys)) := fun b zs h => by
  rw [upd_ne (fun z => by rw [z, e] at h; cases h)]
  exact h
theorem gw_row {w : CR.Wd} {ds : List PyData} (l : ds.length ≤ 40000) (g : ∀ d ∈ ds, gw 1 d) : gw 2 (.tuple (.str w.nm :: ds)) := ⟨by rw [List.length_cons]; omega, fun x hx => by
  rcases List.mem_cons.mp hx with rfl | h
  · exact ⟨Nat.le_trans (CK.nm_ok w).1 (by decide), (CK.nm_ok w).2⟩
  · exact g x h⟩
end WT
namespace CK
theorem TdAll.snoc {H : L2.Hp} {v : L2.V} {d : PySem.PyData} : ∀ {vs : List L2.V} {ds : List PySem.PyData}, TdAll H vs ds → Td H v d → TdAll H (vs ++ [v]) (ds ++ [d])
  | _, _, .nil, h => .cons h .nil
  | _, _, .cons a b, h => .cons a (TdAll.snoc b h)
end CK
end
section
/-! the written text: its rows, its length; the laws' lines -/
namespace WT
open PySem PySem.Spec PyProof.Rows L2
open TL (tl)
open CK (cnt prt val txt wrd FitD gd)
/-- a row of code, as data -/
def RowD (d : PyData) : Prop := ∃ (w : CR.Wd) (ds : List PyData), d = .tuple (.str w.nm :: ds) ∧ FitD w.ks ds
theorem fit_of : ∀ {ks : List CR.Kd} {ds : List PyData}, ks.length = ds.length → ((ks.zip ds).map fun x => prt x.1 x.2).all id = true → (∀ d ∈ ds, gd 1 d) → FitD ks ds
  | [], [], _, _, _ => .nil
  | [], _ :: _, h, _, _ => nomatch h
  | _ :: _, [], h, _, _ => nomatch h
  | k :: ks, d :: ds, h, p, g => by
    rw [List.zip_cons_cons, List.map_cons, List.all_cons, Bool.and_eq_true] at p
    exact .cons p.1 (g d List.mem_cons_self) (fit_of (by simpa using h) p.2 fun x m => g x (List.mem_cons_of_mem _ m))
theorem row_fit {d : PyData} (h : CK.row d = true) (g : gd 2 d) : RowD d := by
  unfold CK.row at h
  split at h
  · next z xs =>
    split at h
    · next r e =>
      have er := List.find?_some e
      have er := of_decide_eq_true er
      obtain ⟨_, gm⟩ := g
      subst er
      rw [Bool.and_eq_true, decide_eq_true_iff] at h
      refine ⟨r, xs, rfl, fit_of h.1 ?_ fun x m => gm x (List.mem_cons_of_mem _ m)⟩
      rw [List.all_map]
      exact h.2
    · cases h
  · cases h
theorem partW_ne {k : CR.Kd} {d : PyData} (hp : prt k d = true) : partW k d ≠ [] := by
  have plc : CK.plcs d = true → ∃ ds, d = .tuple ds := fun h => by
    cases d with
    | tuple ds => exact ⟨ds, rfl⟩
    | _ => cases h
  cases k with
  | value => rcases val_cases hp with ⟨n, rfl, _⟩ | ⟨s, rfl, _⟩ <;> (show _ :: _ ≠ []; simp)
  | keys =>
    have hp : (CK.plcs d && CK.few 3 d) = true := hp
    rw [Bool.and_eq_true] at hp
    obtain ⟨ds, rfl⟩ := plc hp.1
    show _ :: _ ≠ []
    simp
  | places =>
    obtain ⟨ds, rfl⟩ := plc hp
    show _ :: _ ≠ []
    simp
  | view => obtain ⟨s, rfl, _⟩ := wrd_str hp; (show _ :: _ ≠ []; simp)
  | sign => obtain ⟨s, rfl, _⟩ := wrd_str hp; (show _ :: _ ≠ []; simp)
  | order => obtain ⟨s, rfl, _⟩ := wrd_str hp; (show _ :: _ ≠ []; simp)
  | sort => obtain ⟨s, rfl, _⟩ := wrd_str hp; (show _ :: _ ≠ []; simp)
  | _ => show _ :: _ ≠ []; simp
/-- a row's text, part by part -/
theorem rowT_eq {w : CR.Wd} {ds : List PyData} (f : FitD w.ks ds) : rowT w ds = jn (w.nm :: (w.ks.zip ds).map fun x => jn (partW x.1 x.2)) := by
  have e : w.nm :: (w.ks.zip ds).map (fun x => jn (partW x.1 x.2)) = ([w.nm] :: (w.ks.zip ds).map fun x => partW x.1 x.2).map jn := by
    rw [List.map_cons, List.map_map, jn_one]
    rfl
  rw [e, jn_flat ?_]
  · rfl
  · intro a m
    rcases List.mem_cons.mp m with rfl | m
    · simp
    · obtain ⟨x, mx, rfl⟩ := List.mem_map.mp m
      obtain ⟨i, hi, ei⟩ := List.getElem_of_mem mx
      obtain ⟨hk, hd⟩ := List.getElem?_zip_eq_some.mp (show (w.ks.zip ds)[i]? = some (x.1, x.2) from by rw [List.getElem?_eq_getElem hi, ei])
      exact partW_ne (f.get i _ _ hk hd)
/-! lengths of what is written -/
theorem cnt_len {lo hi : Int} {d : PyData} (h : cnt lo hi d = true) (h0 : -9223372036854775808 ≤ lo) (h1 : hi ≤ 9223372036854775807) : (intW d).length ≤ 20 := by
  obtain ⟨n, rfl, a, b⟩ := cnt_int h
  exact dT_len (by omega) (by omega)
def bk : CR.Kd → Nat
  | .keys => 21100 | .places => 21100 | _ => 100
theorem msr_map {ds : List PyData} (h : ∀ d ∈ ds, (intW d).length ≤ 20) : msr (ds.map intW) ≤ 21 * ds.length := by
  induction ds with
  | nil => exact Nat.zero_le _
  | cons d ds ih =>
    rw [List.map_cons, msr_cons, List.length_cons]
    have := h d List.mem_cons_self
    have := ih fun x m => h x (List.mem_cons_of_mem _ m)
    omega
theorem msr_part {k : CR.Kd} {d : PyData} (hp : prt k d = true) (g : gd 1 d) : msr (partW k d) ≤ bk k := by
  have one : ∀ {lo hi : Int}, -9223372036854775808 ≤ lo → hi ≤ 9223372036854775807 → cnt lo hi d = true → msr [intW d] ≤ 100 := fun h0 h1 h => by
    have := cnt_len h h0 h1
    show _ + 1 + 0 ≤ 100
    omega
  have wd : ∀ {ws : List Str}, (∀ w ∈ ws, w.length ≤ 20) → wrd ws d = true → msr (partW .view d) ≤ 100 := fun {ws} h1 h => by
    obtain ⟨s, rfl, hs⟩ := wrd_str h
    have := h1 s hs
    show _ + 1 + 0 ≤ 100
    omega
  have lst : CK.plcs d = true → msr (partW .keys d) ≤ 21100 := fun h => by
    cases d with
    | tuple ds =>
      have h : ds.all (cnt 0 10000) = true := h
      rw [List.all_eq_true] at h
      have g : ds.length ≤ 1000 := g.1
      have a := msr_map (ds := ds) fun d m => cnt_len (h d m) (by decide) (by decide)
      have b : (dT (ds.length : Int)).length ≤ 20 := dT_len (by omega) (by omega)
      show msr (_ :: _) ≤ _
      rw [msr_cons]
      omega
    | _ => cases h
  cases k with
  | value =>
    rcases val_cases hp with ⟨n, rfl, a, b⟩ | ⟨s, rfl, hl, _⟩
    · have := dT_len (n := n) (by omega) (by omega)
      show msr ["int", dT n] ≤ 100
      rw [msr_cons, msr_cons]
      show 3 + 1 + (_ + 1 + 0) ≤ 100
      omega
    · have b : (dT (s.length : Int)).length ≤ 20 := dT_len (by omega) (by omega)
      show msr ("str" :: dT (s.length : Int) :: sp (("'" : Str) ++ s)) ≤ 100
      rw [msr_cons, msr_cons, msr_sp, len_app]
      show 3 + 1 + (_ + 1 + (1 + _ + 1)) ≤ 100
      omega
  | keys =>
    have hp : (CK.plcs d && CK.few 3 d) = true := hp
    rw [Bool.and_eq_true] at hp
    exact lst hp.1
  | places => exact lst hp
  | view => exact wd (by decide +kernel) hp
  | sign => exact wd (by decide +kernel) hp
  | order => exact wd (by decide +kernel) hp
  | sort => exact wd (by decide +kernel) hp
  | into => exact one (by decide) (by decide) hp
  | from' => exact one (by decide) (by decide) hp
  | opt => exact one (by decide) (by decide) hp
  | member => exact one (by decide) (by decide) hp
  | place => exact one (by decide) (by decide) hp
  | slot => exact one (by decide) (by decide) hp
  | glob => exact one (by decide) (by decide) hp
  | thr => exact one (by decide) (by decide) hp
  | arr => exact one (by decide) (by decide) hp
  | target => exact one (by decide) (by decide) hp
  | table => exact one (by decide) (by decide) hp
theorem msr_parts {ks : List CR.Kd} {ds : List PyData} (f : FitD ks ds) : msr ((ks.zip ds).map fun x => partW x.1 x.2).flatten ≤ (ks.map bk).sum := by
  induction f with
  | nil => exact Nat.zero_le _
  | cons hp g f ih =>
    rw [List.zip_cons_cons, List.map_cons, List.flatten_cons, msr_app, List.map_cons, List.sum_cons]
    have h1 := msr_part hp g
    dsimp only at h1 ⊢
    omega
theorem bk_sum (w : CR.Wd) : (w.ks.map bk).sum ≤ 21400 := by cases w <;> decide
theorem nm_len (w : CR.Wd) : w.nm.length ≤ 20 ∧ 0 < w.nm.length := by cases w <;> decide +kernel
theorem rowT_len {w : CR.Wd} {ds : List PyData} (f : FitD w.ks ds) : (rowT w ds).length ≤ 21500 := by
  have a := len_jn' (ws := rowW w ds)
  have b := msr_parts f
  have c := bk_sum w
  have d := nm_len w
  unfold rowW at a
  rw [msr_cons] at a
  show (jn (rowW w ds)).length ≤ 21500
  unfold rowW
  omega
theorem part_len {k : CR.Kd} {d : PyData} (hp : prt k d = true) (g : gd 1 d) : (jn (partW k d)).length ≤ 21500 := by
  have a := len_jn' (ws := partW k d)
  have b := msr_part hp g
  have : bk k ≤ 21100 := by cases k <;> decide
  omega
/-- a row's text holds no line feed, is not empty -/
theorem rowT_free {w : CR.Wd} {ds : List PyData} (f : FitD w.ks ds) : 10 ∉ (rowT w ds).cps.toList := fun h => by
  rcases jn_mem h with e | ⟨x, m, hx⟩
  · exact absurd e (by decide)
  · unfold rowW at m
    rcases List.mem_cons.mp m with rfl | m
    · exact word_free.2 hx
    · obtain ⟨y, my, mx⟩ := List.mem_flatten.mp m
      obtain ⟨z, mz, rfl⟩ := List.mem_map.mp my
      obtain ⟨i, hi, ei⟩ := List.getElem_of_mem mz
      obtain ⟨hk, hd⟩ := List.getElem?_zip_eq_some.mp (show (w.ks.zip ds)[i]? = some (z.1, z.2) from by rw [List.getElem?_eq_getElem hi, ei])
      exact partW_free (f.get i _ _ hk hd) (.inl rfl) (fun _ => rfl) _ mx hx
theorem dT_ok (n : Int) : ∀ c ∈ (dT n).cps.toList, c < 0x110000 := by
  intro c hc
  have h : ∀ k : Nat, ∀ c ∈ TL.numL k, c < 0x110000 := fun k c hc => by
    by_cases z : c < 0x110000
    · exact z
    · exact absurd hc (TL.numL_free (by omega))
  by_cases hn : n < 0
  · obtain ⟨m, rfl⟩ : ∃ m : Nat, n = -(m : Int) := ⟨n.natAbs, by omega⟩
    rw [dT_neg (by omega)] at hc
    rcases List.mem_cons.mp hc with rfl | hc
    · decide
    · exact h _ c hc
  · obtain ⟨m, rfl⟩ : ∃ m : Nat, n = (m : Int) := ⟨n.toNat, by omega⟩
    rw [dT_nat] at hc
    exact h _ c hc
theorem partW_bl {k : CR.Kd} {d : PyData} (hp : prt k d = true) : ∀ z ∈ partW k d, 32 ∉ z.cps.toList := by
  by_cases hv : k = .value
  · subst hv
    rcases val_cases hp with ⟨n, rfl, _⟩ | ⟨s, rfl, _, hs⟩
    · intro z m
      have m : z ∈ [("int" : Str), dT n] := m
      rcases List.mem_cons.mp m with e | e
      · rw [e]; decide +kernel
      · rw [List.mem_singleton.mp e]; exact dT_free (.inl rfl)
    · intro z m
      have m : z ∈ ("str" : Str) :: dT (s.length : Int) :: sp (("'" : Str) ++ s) := m
      rcases List.mem_cons.mp m with e | e
      · rw [e]; decide +kernel
      · rcases List.mem_cons.mp e with e | e
        · rw [e]; exact dT_free (.inl rfl)
        · exact sp_free _ z e
  · exact partW_free hp (.inr rfl) (fun z => absurd z hv)
theorem intW_ok {d : PyData} : ∀ c ∈ (intW d).cps.toList, c < 0x110000 := by
  cases d with
  | int n => exact dT_ok n
  | _ => exact fun c hc => absurd hc no_empty
theorem partW_ok {k : CR.Kd} {d : PyData} (hp : prt k d = true) : ∀ z ∈ partW k d, ∀ c ∈ z.cps.toList, c < 0x110000 := by
  have wd : ∀ {ws : List Str}, (∀ w ∈ ws, ∀ c ∈ w.cps.toList, c < 0x110000) → wrd ws d = true → ∀ z ∈ partW .view d, ∀ c ∈ z.cps.toList, c < 0x110000 := fun {ws} h1 h z m => by
    obtain ⟨s, rfl, hs⟩ := wrd_str h
    obtain rfl := List.mem_singleton.mp (show z ∈ [s] from m)
    exact h1 _ hs
  have int1 : ∀ z ∈ [intW d], ∀ c ∈ z.cps.toList, c < 0x110000 := fun z m => by
    rw [List.mem_singleton.mp m]
    exact intW_ok
  have lst : ∀ z ∈ partW .keys d, ∀ c ∈ z.cps.toList, c < 0x110000 := fun z m => by
    cases d with
    | tuple ds =>
      rcases List.mem_cons.mp (show z ∈ dT (ds.length : Int) :: ds.map intW from m) with e | e
      · rw [e]; exact dT_ok _
      · obtain ⟨x, _, rfl⟩ := List.mem_map.mp e
        exact intW_ok
    | _ => cases m
  cases k with
  | value =>
    rcases val_cases hp with ⟨n, rfl, _⟩ | ⟨s, rfl, _, hs⟩
    · intro z m
      have m : z ∈ [("int" : Str), dT n] := m
      rcases List.mem_cons.mp m with e | e
      · rw [e]; decide +kernel
      · rw [List.mem_singleton.mp e]; exact dT_ok _
    · intro z m
      have m : z ∈ ("str" : Str) :: dT (s.length : Int) :: sp (("'" : Str) ++ s) := m
      rcases List.mem_cons.mp m with e | e
      · rw [e]; decide +kernel
      · rcases List.mem_cons.mp e with e | e
        · rw [e]; exact dT_ok _
        · intro c hx
          have this : c ∈ tl (("'" : Str) ++ s) := sp_sub e hx
          rw [TL.tl_append] at this
          rcases List.mem_append.mp this with h | h
          · rw [List.mem_singleton.mp (show c ∈ [39] from h)]; decide
          · rw [List.all_eq_true] at hs
            have hc := hs c h
            unfold CK.chT CK.chS at hc
            rw [Bool.and_eq_true, decide_eq_true_iff] at hc
            omega
  | view => exact wd (by decide +kernel) hp
  | sign => exact wd (by decide +kernel) hp
  | order => exact wd (by decide +kernel) hp
  | sort => exact wd (by decide +kernel) hp
  | keys => exact lst
  | places => exact lst
  | into => exact int1
  | from' => exact int1
  | opt => exact int1
  | member => exact int1
  | place => exact int1
  | slot => exact int1
  | glob => exact int1
  | thr => exact int1
  | arr => exact int1
  | target => exact int1
  | table => exact int1
theorem nm_chr (w : CR.Wd) : ∀ c ∈ w.nm.cps.toList, c < 0x110000 := LN.ok_iff.mp (CK.nm_ok w).2
theorem rowT_ok {w : CR.Wd} {ds : List PyData} (f : FitD w.ks ds) : PyData.strOk (rowT w ds) = true := by
  refine LN.ok_iff.mpr fun c h => ?_
  rcases jn_mem h with rfl | ⟨x, m, hx⟩
  · decide
  · unfold rowW at m
    rcases List.mem_cons.mp m with rfl | m
    · exact nm_chr w c hx
    · obtain ⟨y, my, mx⟩ := List.mem_flatten.mp m
      obtain ⟨z, mz, rfl⟩ := List.mem_map.mp my
      obtain ⟨i, hi, ei⟩ := List.getElem_of_mem mz
      obtain ⟨hk, hd⟩ := List.getElem?_zip_eq_some.mp (show (w.ks.zip ds)[i]? = some (z.1, z.2) from by rw [List.getElem?_eq_getElem hi, ei])
      exact partW_ok (f.get i _ _ hk hd) _ mx c hx
theorem rowT_ne {w : CR.Wd} {ds : List PyData} : rowT w ds ≠ "" := fun h => by
  have e : rowT w ds = jn (rowW w ds) := rfl
  obtain ⟨c, v, hc⟩ : ∃ c v, w.nm.cps.toList = c :: v := by
    cases h : w.nm.cps.toList with
    | nil =>
      have := (nm_len w).2
      rw [show w.nm.length = w.nm.cps.toList.length from Array.length_toList.symm, h] at this
      cases this
    | cons c v => exact ⟨c, v, rfl⟩
  have m := mem_jn (ws := rowW w ds) (w := w.nm) (c := c) List.mem_cons_self (by rw [hc]; exact List.mem_cons_self)
  rw [← e, h] at m
  exact no_empty m
/-- a row's text is read as the row -/
theorem lineF_row {w : CR.Wd} {ds : List PyData} (f : FitD w.ks ds) : lineF (rowT w ds) = some (.tuple (.str w.nm :: ds)) := by
  have e : rowW w ds = w.nm :: ((w.ks.zip ds).map fun x => partW x.1 x.2).flatten := rfl
  rw [← rowF_row f]
  unfold lineF
  -- words of a value may hold blanks no more
  congr 1
  exact sp_jn row_ne fun z m => by
    unfold rowW at m
    rcases List.mem_cons.mp m with rfl | m
    · exact word_free.1
    · obtain ⟨y, my, mx⟩ := List.mem_flatten.mp m
      obtain ⟨x, mz, rfl⟩ := List.mem_map.mp my
      obtain ⟨i, hi, ei⟩ := List.getElem_of_mem mz
      obtain ⟨hk, hd⟩ := List.getElem?_zip_eq_some.mp (show (w.ks.zip ds)[i]? = some (x.1, x.2) from by rw [List.getElem?_eq_getElem hi, ei])
      exact partW_bl (f.get i _ _ hk hd) _ mx
theorem td_two {H : Hp} {v : V} {d0 d1 : PyData} (h : CK.Td H v (.tuple [d0, d1])) : ∃ a, v = .ref a ∧ ∃ v0 v1, H a = some (.tup [v0, v1]) ∧ CK.Td H v0 d0 ∧ CK.Td H v1 d1 := by
  cases h with
  | tup e al =>
    cases al with
    | cons a al =>
      cases al with
      | cons b al =>
        cases al
        exact ⟨_, rfl, _, _, e, a, b⟩
theorem ch_str {k : CR.Kd} {d : PyData} (h : k = .view ∨ k = .sign ∨ k = .order ∨ k = .sort) (hp : prt k d = true) : ∃ s, d = .str s ∧ partW k d = [s] := by
  rcases h with rfl | rfl | rfl | rfl <;> (obtain ⟨s, rfl, _⟩ := wrd_str hp; exact ⟨s, rfl, rfl⟩)
theorem int_part {k : CR.Kd} {d : PyData} (c1 : ¬ k.nm ∈ CK.chs.map Prod.fst) (c5 : k ≠ .value) (c6 : ¬ (k = .keys ∨ k = .places)) (hp : prt k d = true) : ∃ n, d = .int n ∧ partW k d = [dT n] ∧ -9223372036854775808 ≤ n ∧ n ≤ 9223372036854775807 := by
  have go : ∀ {lo hi : Int}, -9223372036854775808 ≤ lo → hi ≤ 9223372036854775807 → cnt lo hi d = true → ∃ n, d = .int n ∧ [intW d] = [dT n] ∧ -9223372036854775808 ≤ n ∧ n ≤ 9223372036854775807 := fun h0 h1 h => by
    obtain ⟨n, rfl, a, b⟩ := cnt_int h
    exact ⟨n, rfl, rfl, by omega, by omega⟩
  cases k with
  | value => exact absurd rfl c5
  | keys => exact absurd (.inl rfl) c6
  | places => exact absurd (.inr rfl) c6
  | view => exact absurd (by decide +kernel) c1
  | sign => exact absurd (by decide +kernel) c1
  | order => exact absurd (by decide +kernel) c1
  | sort => exact absurd (by decide +kernel) c1
  | into => exact go (by decide) (by decide) hp
  | from' => exact go (by decide) (by decide) hp
  | opt => exact go (by decide) (by decide) hp
  | member => exact go (by decide) (by decide) hp
  | place => exact go (by decide) (by decide) hp
  | slot => exact go (by decide) (by decide) hp
  | glob => exact go (by decide) (by decide) hp
  | thr => exact go (by decide) (by decide) hp
  | arr => exact go (by decide) (by decide) hp
  | target => exact go (by decide) (by decide) hp
  | table => exact go (by decide) (by decide) hp
theorem jn_valI {n : Int} : Str.empty ++ Str.ofString "int " ++ dT n = jn (valW (.tuple [.str "int", .int n])) := by
  show _ = jn [("int" : Str), dT n]
  rw [jn_cons (by simp), jn_one]
  rfl
theorem jn_valS {s : Str} : Str.empty ++ Str.ofString "str " ++ dT (s.length : Int) ++ Str.ofString " '" ++ s = jn (valW (.tuple [.str "str", .str s])) := by
  show _ = jn (("str" : Str) :: dT (s.length : Int) :: sp (("'" : Str) ++ s))
  rw [jn_cons (by simp), jn_cons (sp_ne _), jn_sp]
  refine TL.ext_tl ?_
  simp only [TL.tl_append, List.append_assoc]
  rfl
def Trv (us : List V) (H : Hp) (D : PySem.Addr) (i : Nat) (H' : Hp) : Prop := Same H H' ∧ H' D = some (.lst (us.take i))
theorem Trv.start {us : List V} {H : Hp} {D : PySem.Addr} (hD : H D = none) : Trv us H D 0 (upd H D (.lst [])) := ⟨R.same_new hD, upd_same⟩
theorem Trv.step {us : List V} {H H1 H2 : Hp} {D : PySem.Addr} {i : Nat} {v : V} (hD : H D = none) (t : Trv us H D i H1) (s : Same H1 H2) (e : us[i]? = some v) (hl : us.length ≤ 50000) : ∃ acc, H2 D = some (.lst acc) ∧ acc.length < sizeLine ∧ Trv us H D (i + 1) (upd H2 D (.lst (acc ++ [v]))) := by
  refine ⟨_, s _ _ t.2, R.size_lt (by rw [List.length_take]; omega), CR.same_acc hD (t.1.trans s), ?_⟩
  rw [upd_same, MM.take_snoc e]
theorem Trv.all {us : List V} {H H' : Hp} {D : PySem.Addr} {n : Nat} (t : Trv us H D n H') (h : us.length ≤ n) : Same H H' ∧ H' D = some (.lst us) := by
  obtain ⟨s, e⟩ := t
  rw [List.take_of_length_le h] at e
  exact ⟨s, e⟩
theorem td_ints {H : Hp} : ∀ {ns : List Int} {vs : List V}, CK.TdAll H vs (ns.map PyData.int) → vs = ns.map V.int
  | [], _, h => by cases h; rfl
  | n :: ns, _, h => by
    cases h with
    | cons a b =>
      cases a
      rw [td_ints b]
      rfl
theorem ls_part {k : CR.Kd} {d : PyData} (h : k = .keys ∨ k = .places) (hp : prt k d = true) (g : gd 1 d) : ∃ ns : List Int, d = .tuple (ns.map PyData.int) ∧ ns.length ≤ 1000 ∧ (∀ n ∈ ns, 0 ≤ n ∧ n ≤ 10000) ∧ partW k d = (((ns.length : Nat) : Int) :: ns).map dT := by
  have go : CK.plcs d = true → ∃ ns : List Int, d = .tuple (ns.map PyData.int) ∧ ns.length ≤ 1000 ∧ (∀ n ∈ ns, 0 ≤ n ∧ n ≤ 10000) ∧ partW .keys d = (((ns.length : Nat) : Int) :: ns).map dT := fun h => by
    cases d with
    | tuple ds =>
      obtain ⟨ns, rfl, b⟩ := plcs_ints h
      have gl : (ns.map PyData.int).length ≤ 1000 := g.1
      rw [List.length_map] at gl
      refine ⟨ns, rfl, gl, b, ?_⟩
      show dT ((ns.map PyData.int).length : Int) :: (ns.map PyData.int).map intW = _
      rw [List.length_map, List.map_map]
      rfl
    | _ => cases h
  rcases h with rfl | rfl
  · have hp : (CK.plcs d && CK.few 3 d) = true := hp
    rw [Bool.and_eq_true] at hp
    exact go hp.1
  · exact go hp
/-- a row's text, by the data of the row -/
def rowTd : PyData → Str
  | .tuple (.str z :: ds) => match CR.Wd.all.find? fun w => decide (w.nm = z) with
    | some w => rowT w ds
    | none => ""
  | _ => ""
theorem rowTd_w {w : CR.Wd} {ds : List PyData} : rowTd (.tuple (.str w.nm :: ds)) = rowT w ds := by
  unfold rowTd
  dsimp only
  rw [find_wd]
def codeL (ks : List Str) (rs : List PyData) : List Str := (ks.map fun k => ("place " : Str) ++ k) ++ rs.map rowTd
theorem td_get {H : Hp} {vs : List V} {ds : List PyData} {i : Nat} {v : V} (h : CK.TdAll H vs ds) (e : vs[i]? = some v) : ∃ d, ds[i]? = some d ∧ CK.Td H v d := by
  induction i generalizing vs ds with
  | zero =>
    cases h with
    | nil => cases e
    | cons a b =>
      obtain rfl := Option.some.inj e
      exact ⟨_, rfl, a⟩
  | succ i ih =>
    cases h with
    | nil => cases e
    | cons a b => exact ih b e
theorem td_strs {H : Hp} : ∀ {ns : List Str} {vs : List V}, CK.TdAll H vs (ns.map PyData.str) → vs = ns.map V.str
  | [], _, h => by cases h; rfl
  | n :: ns, _, h => by
    cases h with
    | cons a b =>
      cases a
      rw [td_strs b]
      rfl
theorem sum_le {n : Nat} {ws : List Str} (h : ∀ w ∈ ws, w.length ≤ n) : (ws.map fun x => x.length).sum ≤ ws.length * n := by
  induction ws with
  | nil => exact Nat.zero_le _
  | cons w ws ih =>
    rw [List.map_cons, List.sum_cons, List.length_cons, Nat.succ_mul]
    have := h w List.mem_cons_self
    have := ih fun x m => h x (List.mem_cons_of_mem _ m)
    omega
theorem kinds_of : ∀ {ds : List PyData}, (∀ d ∈ ds, CK.kind d = true) → ∃ ks : List Str, ds = ks.map PyData.str ∧ ∀ k ∈ ks, k = "int" ∨ k = "str"
  | [], _ => ⟨[], rfl, fun _ h => nomatch h⟩
  | d :: ds, h => by
    have hd := h d List.mem_cons_self
    obtain ⟨ks, rfl, hk⟩ := kinds_of fun x m => h x (List.mem_cons_of_mem _ m)
    cases d with
    | str s =>
      have hd : s = "int" ∨ s = "str" := of_decide_eq_true hd
      exact ⟨s :: ks, rfl, fun k m => by
        rcases List.mem_cons.mp m with rfl | m
        · exact hd
        · exact hk k m⟩
    | _ => cases hd
/-- what a line of the written code is -/
def LnOk (l : Str) : Prop := l.length ≤ 21500 ∧ PyData.strOk l = true ∧ 10 ∉ l.cps.toList ∧ l ≠ ""
theorem code_ok {ks : List Str} {rs : List PyData} (hk : ∀ k ∈ ks, k = "int" ∨ k = "str") (hr : ∀ d ∈ rs, RowD d) : ∀ l ∈ codeL ks rs, LnOk l := by
  intro l m
  rcases List.mem_append.mp m with m | m
  · obtain ⟨k, mk, rfl⟩ := List.mem_map.mp m
    rcases hk k mk with rfl | rfl <;> exact ⟨by decide +kernel, by decide +kernel, by decide +kernel, by decide +kernel⟩
  · obtain ⟨d, mk, rfl⟩ := List.mem_map.mp m
    obtain ⟨w', ds, rfl, f⟩ := hr d mk
    rw [rowTd_w]
    exact ⟨rowT_len f, rowT_ok f, rowT_free f, rowT_ne⟩
theorem code_lines {ks : List Str} {rs : List PyData} (hk : ∀ k ∈ ks, k = "int" ∨ k = "str") (hr : ∀ d ∈ rs, RowD d) (lk : ks.length ≤ 4) (l0 : 1 ≤ rs.length) (l1 : rs.length ≤ 14) : (∀ l ∈ codeL ks rs, LnOk l) ∧ 1 ≤ (codeL ks rs).length ∧ (codeL ks rs).length ≤ 18 := by
  refine ⟨code_ok hk hr, ?_, ?_⟩
  · unfold codeL
    rw [List.length_append, List.length_map, List.length_map]
    omega
  · unfold codeL
    rw [List.length_append, List.length_map, List.length_map]
    omega
/-! the reader on what is written -/
theorem row_line {d : PyData} (h : RowD d) : lineF (rowTd d) = some d := by
  obtain ⟨w, ds, rfl, f⟩ := h
  rw [rowTd_w]
  exact lineF_row f
theorem row_plc {d : PyData} (h : RowD d) : plc? (rowTd d) = none := by
  cases e : plc? (rowTd d) with
  | none => rfl
  | some x =>
    have := row_line h
    have li : lineF "place int" = none := by
      unfold lineF
      rw [show ("place int" : Str) = jn ["place", "int"] by decide +kernel, sp_jn (by simp) (by decide +kernel)]
      decide +kernel
    have ls : lineF "place str" = none := by
      unfold lineF
      rw [show ("place str" : Str) = jn ["place", "str"] by decide +kernel, sp_jn (by simp) (by decide +kernel)]
      decide +kernel
    rcases plc_nm e with z | z
    · rw [z, li] at this
      cases this
    · rw [z, ls] at this
      cases this
theorem goL_rows {rs : List PyData} (h : ∀ d ∈ rs, RowD d) : ∀ {k : Nat} {ks : List Str} {rs0 : List PyData}, goL k ks rs0 (rs.map rowTd) = .ok ks (rs0 ++ rs) := by
  induction rs with
  | nil => intro k ks rs0; rw [List.append_nil]; rfl
  | cons d rs ih =>
    intro k ks rs0
    have hd := h d List.mem_cons_self
    rw [List.map_cons, goL_row (fun z => z.1 (row_plc hd)) (row_line hd), ih (fun x m => h x (List.mem_cons_of_mem _ m)), List.append_assoc]
    rfl
theorem goL_code {ks : List Str} {rs : List PyData} (hk : ∀ k ∈ ks, k = "int" ∨ k = "str") (hr : ∀ d ∈ rs, RowD d) : goL 0 [] [] (codeL ks rs) = .ok ks rs := by
  unfold codeL
  rw [goL_app (goL_kinds hk), goL_rows hr]
  rfl
/-- the first lines -/
theorem goL_take {ks : List Str} {rs : List PyData} (hk : ∀ k ∈ ks, k = "int" ∨ k = "str") (hr : ∀ d ∈ rs, RowD d) (i : Nat) : ∃ ks' rs', goL 0 [] [] ((codeL ks rs).take i) = .ok ks' rs' := by
  unfold codeL
  rw [List.take_append, ← List.map_take, ← List.map_take]
  rw [goL_app (goL_kinds fun k m => hk k (List.mem_of_mem_take m)), goL_rows fun d m => hr d (List.mem_of_mem_take m)]
  exact ⟨_, _, rfl⟩
/-- a bad line behind the first lines -/
theorem goL_at {ks : List Str} {rs : List PyData} (hk : ∀ k ∈ ks, k = "int" ∨ k = "str") (hr : ∀ d ∈ rs, RowD d) {i : Nat} (hi : i ≤ (codeL ks rs).length) {b : Str} {l : List Str} (p : plc? b = none) (e : lineF b = none) : goL 0 [] [] ((codeL ks rs).take i ++ b :: l) = .bad (i + 1) := by
  obtain ⟨ks', rs', h⟩ := goL_take hk hr i
  rw [goL_app h, goL_bad (fun z => z.1 p) e, List.length_take, Nat.min_eq_left hi, Nat.zero_add]
/-- a place behind the rows -/
theorem goL_late {ks : List Str} {rs : List PyData} (hk : ∀ k ∈ ks, k = "int" ∨ k = "str") (hr : ∀ d ∈ rs, RowD d) (l0 : 1 ≤ rs.length) : goL 0 [] [] (codeL ks rs ++ [("place int" : Str)]) = .bad ((codeL ks rs).length + 1) := by
  rw [goL_app (goL_code hk hr), goL_bad (fun z => by rw [z.2] at l0; cases l0) (by
    unfold lineF
    rw [show ("place int" : Str) = jn ["place", "int"] by decide +kernel, sp_jn (by simp) (by decide +kernel)]
    decide +kernel), Nat.zero_add]
end WT
end
section
/-! texts that are no code -/
namespace WT
open PySem PySem.Spec PyProof.Rows L2
def bads : List Str := [Str.ofString "const 0 int 01", Str.ofString "const 8 int 1", Str.ofString "const 0 int", Str.ofString "const 0 int 9223372036854775808", Str.ofString "const 0 str 2 'a", Str.ofString "const 0 str 1 ab"] ++ [Str.ofString "const 0 str 01 'a", Str.ofString "const 0 real 1", Str.ofString "const 0 int -0", Str.ofString "const 0 int +1", Str.ofString "const  0 int 1", Str.ofString "const 0 int 1 ", Str.ofString " end", Str.ofString "end "] ++ [Str.ofString "view 0 here", Str.ofString "view 0", Str.ofString "arg 0 4", Str.ofString "reg -1 0", Str.ofString "get 0 x", Str.ofString "get 0 -1", Str.ofString "keep 0", Str.ofString "array 0 0 1", Str.ofString "array 0 0 4 1 1 1"] ++ [Str.ofString "array 0 0 0 1", Str.ofString "op 0 ** 1 1", Str.ofString "op 0 + 1", Str.ofString "compare 0 = 1 1", Str.ofString "minus 0 0 0", Str.ofString "sub 0 0 0", Str.ofString "jump", Str.ofString "jump x", Str.ofString "zero 0"] ++ [Str.ofString "record told 0", Str.ofString "record say", Str.ofString "record say 2 1", Str.ofString "put 0 0 -2", Str.ofString "put 0 0 8", Str.ofString "put 0 0", Str.ofString "speculate", Str.ofString "stop 0", Str.ofString "End", Str.ofString "", Str.ofString "place"] ++ [Str.ofString "place real", Str.ofString "place int ", Str.ofString "skip skip", cutS (Str.ofString "const 0 str 2 'a\tb") none (some 16) ++ Str.ofString "\t", Str.ofString "setglobal 0 9", Str.ofString "global 0 1 1", Str.ofString "setarray 0 0"]
def badsW : List (List Str) := ([["const", "0", "int", "01"], ["const", "8", "int", "1"], ["const", "0", "int"], ["const", "0", "int", "9223372036854775808"], ["const", "0", "str", "2", "'a"], ["const", "0", "str", "1", "ab"], ["const", "0", "str", "01", "'a"], ["const", "0", "real", "1"], ["const", "0", "int", "-0"], ["const", "0", "int", "+1"], ["const", "", "0", "int", "1"], ["const", "0", "int", "1", ""], ["", "end"], ["end", ""], ["view", "0", "here"], ["view", "0"], ["arg", "0", "4"], ["reg", "-1", "0"], ["get", "0", "x"], ["get", "0", "-1"], ["keep", "0"], ["array", "0", "0", "1"], ["array", "0", "0", "4", "1", "1", "1"], ["array", "0", "0", "0", "1"], ["op", "0", "**", "1", "1"], ["op", "0", "+", "1"], ["compare", "0", "=", "1", "1"], ["minus", "0", "0", "0"], ["sub", "0", "0", "0"], ["jump"], ["jump", "x"], ["zero", "0"], ["record", "told", "0"], ["record", "say"], ["record", "say", "2", "1"], ["put", "0", "0", "-2"], ["put", "0", "0", "8"], ["put", "0", "0"], ["speculate"], ["stop", "0"], ["End"], [""], ["place"], ["place", "real"], ["place", "int", ""], ["skip", "skip"], ["const", "0", "str", "2", "'a\t"], ["setglobal", "0", "9"], ["global", "0", "1", "1"], ["setarray", "0", "0"]] : List (List String)).map fun l => l.map Str.ofString
theorem bads_w : bads = badsW.map jn := by decide +kernel
theorem badsW_ok : ∀ ws ∈ badsW, ws ≠ [] ∧ (∀ w ∈ ws, 32 ∉ w.cps.toList) ∧ rowF ws = none := by decide +kernel
theorem bads_ok : ∀ z ∈ bads, plc? z = none ∧ z.length ≤ 60 ∧ PyData.strOk z = true ∧ 10 ∉ z.cps.toList := by decide +kernel
theorem bad_line {z : Str} (h : z ∈ bads) : lineF z = none := by
  rw [bads_w] at h
  obtain ⟨ws, m, rfl⟩ := List.mem_map.mp h
  obtain ⟨a, b, c⟩ := badsW_ok ws m
  unfold lineF
  rw [sp_jn a b]
  exact c
/-! the laws' texts -/
def LnB (l : Str) : Prop := l.length ≤ 21500 ∧ PyData.strOk l = true ∧ 10 ∉ l.cps.toList
theorem LnOk.b {l : Str} (h : LnOk l) : LnB l := ⟨h.1, h.2.1, h.2.2.1⟩
theorem bads_b {z : Str} (h : z ∈ bads) : LnB z := by
  obtain ⟨_, a, b, c⟩ := bads_ok z h
  exact ⟨by omega, b, c⟩
theorem sum_one {ls : List Str} (h : ∀ l ∈ ls, l.length ≤ 21500) : (ls.map (·.length + 1)).sum ≤ ls.length * 21501 := by
  induction ls with
  | nil => exact Nat.zero_le _
  | cons l ls ih =>
    rw [List.map_cons, List.sum_cons, List.length_cons, Nat.succ_mul]
    have := h l List.mem_cons_self
    have := ih fun x m => h x (List.mem_cons_of_mem _ m)
    omega
theorem pre_ok {L : List Str} {u : Str} (h : ∀ l ∈ L, LnB l) (hl : L.length ≤ 40) (hu : LnB u) : (lnT L ++ u).length ≤ 900000 ∧ (Txt.split (lnT L ++ u) nl).length ≤ 40000 ∧ ∀ l ∈ Txt.split (lnT L ++ u) nl, l.length ≤ 30000 ∧ PyData.strOk l = true := by
  refine ⟨?_, ?_⟩
  · rw [len_app, lnT_len]
    have := sum_one fun l m => (h l m).1
    have := hu.1
    omega
  · rw [lnT_split (fun l m => (h l m).2.2) hu.2.2]
    refine ⟨by rw [List.length_append]; show _ + 1 ≤ _; omega, fun l m => ?_⟩
    rcases List.mem_append.mp m with m | m
    · have := h l m
      exact ⟨by have := this.1; omega, this.2.1⟩
    · rw [List.mem_singleton.mp m]
      exact ⟨by have := hu.1; omega, hu.2.1⟩
theorem nil_b : LnB "" := ⟨Nat.zero_le _, by decide +kernel, no_empty⟩
theorem pre_ok0 {L : List Str} (h : ∀ l ∈ L, LnB l) (hl : L.length ≤ 40) : (lnT L).length ≤ 900000 ∧ (Txt.split (lnT L) nl).length ≤ 40000 ∧ ∀ l ∈ Txt.split (lnT L) nl, l.length ≤ 30000 ∧ PyData.strOk l = true := by
  rw [lnT_app0]
  exact pre_ok h hl nil_b
theorem textF_0 {L : List Str} (h : ∀ l ∈ L, LnB l) : textF (lnT L) = goL 0 [] [] L := by
  rw [lnT_app0, textF_ln (fun l m => (h l m).2.2) no_empty]
  cases goL 0 [] [] L <;> rfl
theorem textF_u {L : List Str} {u : Str} {ks : List Str} {rs : List PyData} (h : ∀ l ∈ L, LnB l) (hu : LnB u) (ne : u ≠ "") (g : goL 0 [] [] L = .ok ks rs) : textF (lnT L ++ u) = .bad (L.length + 1) := by
  rw [textF_ln (fun l m => (h l m).2.2) hu.2.2, g]
  show (if u = "" then _ else _) = _
  rw [if_neg ne]
theorem tl_cut_last {z : Str} (h : 0 < z.length) : TL.tl (cutS z none (some (-1))) = (TL.tl z).dropLast := by
  have el : (TL.tl z).length = z.length := Array.length_toList
  show ((TL.tl z).drop (HT.sIx z.length 0 none)).take (HT.sIx z.length z.length (some (-1)) - HT.sIx z.length 0 none) = _
  rw [HT.sIx_none, List.drop_zero, List.dropLast_eq_take, el, show HT.sIx z.length z.length (some (-1)) = z.length - 1 by
    unfold HT.sIx
    simp
    omega]
  rfl
theorem cut_end {L : List Str} {u : Str} : cutS (lnT (L ++ [u])) none (some (-1)) = lnT L ++ u := by
  refine TL.ext_tl ?_
  have e : TL.tl (lnT (L ++ [u])) = TL.tl (lnT L ++ u) ++ [10] := by
    rw [lnT_snoc, TL.tl_append]
    try rfl
  have : TL.tl (cutS (lnT (L ++ [u])) none (some (-1))) = (TL.tl (lnT (L ++ [u]))).dropLast := tl_cut_last (by
    rw [show (lnT (L ++ [u])).length = (TL.tl (lnT (L ++ [u]))).length from Array.length_toList.symm, e, List.length_append]
    show 0 < _ + 1
    omega)
  rw [this, e, List.dropLast_concat]
theorem eqv_gw : ∀ (k : Nat) (d : PyData), gw k d → PyData.eqv d d = true
  | k, .none, _ => by simp [PyData.eqv]
  | k, .bool _, _ => by simp [PyData.eqv]
  | k, .int _, _ => by simp [PyData.eqv]
  | k, .str z, _ => by simp [PyData.eqv]
  | 0, .tuple xs, h => by
    obtain rfl : xs = [] := h
    simp [PyData.eqv, PyData.eqvAll]
  | k + 1, .tuple xs, h => by
    have go : ∀ (ys : List PyData), (∀ y ∈ ys, gw k y) → PyData.eqvAll ys ys = true := fun ys => by
      induction ys with
      | nil => intro _; simp [PyData.eqvAll]
      | cons y ys ih =>
        intro h
        rw [PyData.eqvAll, eqv_gw k y (h y List.mem_cons_self), ih fun x m => h x (List.mem_cons_of_mem _ m)]
        rfl
    rw [PyData.eqv]
    exact go xs h.2
  | 0, .list _, h => h.elim
  | k + 1, .list _, h => h.elim
  | 0, .dict _, h => h.elim
  | k + 1, .dict _, h => h.elim
theorem ne_d {K : PySem.W.Frag} {H : Hp} {Q : VK} {v v' : V} {d : PyData} {k : Nat} (h : CK.Td H v d) (h' : CK.Td H v' d) (g : gw k d) (hk : k ≤ 20) (q : Q (.bl false) H) : rNeD K v v' H Q := by
  refine ⟨d, d, h.dp, h'.dp, g.sh hk, g.sh hk, ?_⟩
  rw [eqv_gw k d g]
  exact q
theorem eq_d {K : PySem.W.Frag} {H : Hp} {Q : VK} {v v' : V} {d : PyData} {k : Nat} (h : CK.Td H v d) (h' : CK.Td H v' d) (g : gw k d) (hk : k ≤ 20) (q : Q (.bl true) H) : rEqD K v v' H Q := by
  refine ⟨d, d, h.dp, h'.dp, g.sh hk, g.sh hk, ?_⟩
  rw [eqv_gw k d g]
  exact q
theorem size_ok {L : List Str} (h : ∀ l ∈ L, LnB l) (hl : L.length ≤ 40) : ((L.map fun l => l ++ nl).map fun x => x.length).sum + (L.map fun l => l ++ nl).length * (Str.ofString "").length ≤ 16777216 := by
  have := sum_le (n := 21501) (ws := L.map fun l => l ++ nl) fun z m => by
    obtain ⟨l, ml, rfl⟩ := List.mem_map.mp m
    have := (h l ml).1
    rw [len_app]
    show _ + 1 ≤ _
    omega
  rw [List.length_map] at this ⊢
  show _ + L.length * 0 ≤ _
  omega
theorem gw_code {ks : List Str} {rs : List PyData} (hk : ∀ k ∈ ks, k = "int" ∨ k = "str") (lk : ks.length ≤ 1000) (lr : rs.length ≤ 1000) (hr : ∀ d ∈ rs, CK.gd 2 d) : gw 4 (.tuple [.tuple (ks.map PyData.str), .tuple rs]) := by
  refine ⟨Nat.le_of_ble_eq_true rfl, fun x hx => ?_⟩
  rcases List.mem_cons.mp hx with rfl | hx
  · refine ⟨by rw [List.length_map]; omega, fun y hy => ?_⟩
    obtain ⟨k, mk, rfl⟩ := List.mem_map.mp hy
    rcases hk k mk with rfl | rfl <;> exact ⟨by decide +kernel, by decide +kernel⟩
  · rw [List.mem_singleton.mp hx]
    exact ⟨by omega, fun y hy => gw_of 2 y (hr y hy)⟩
theorem late_eq {ls : List Str} : lnT ls ++ Str.ofString "place int\n" = lnT (ls ++ [("place int" : Str)]) := by
  rw [lnT_snoc, app_assoc]
  congr 1
theorem log_ok {i : Int} (h0 : -9223372036854775808 ≤ i) (h1 : i ≤ 9223372036854775808) : i.natAbs.log2 < 1920 := Nat.lt_of_lt_of_le (PySem.Flt.log2_lt_of (k := 64) (by decide) (Nat.lt_of_le_of_lt (show i.natAbs ≤ 9223372036854775808 by omega) (by decide))) (by decide)
theorem msr_take {ws : List Str} : ∀ {p : Nat}, msr (ws.take p) ≤ msr ws := by
  induction ws with
  | nil => intro p; rw [List.take_nil]; exact Nat.le_refl _
  | cons x ws ih =>
    intro p
    cases p with
    | zero => exact Nat.zero_le _
    | succ p =>
      rw [List.take_succ_cons, msr_cons, msr_cons]
      have := ih (p := p)
      omega
theorem jn_valS3 {s : Str} : jn [("str" : Str), dT (s.length : Int), ("'" : Str) ++ s] = jn (valW (.tuple [.str "str", .str s])) := by
  show _ = jn (("str" : Str) :: dT (s.length : Int) :: sp (("'" : Str) ++ s))
  rw [jn_cons (by simp), jn_cons (by simp), jn_one, jn_cons (by simp), jn_cons (sp_ne _), jn_sp]
theorem part_cases {k : CR.Kd} {d : PyData} (hp : CK.prt k d = true) (g : CK.gd 1 d) : (∃ n, k = .value ∧ d = .tuple [.str "int", .int n] ∧ -9223372036854775808 ≤ n ∧ n ≤ 9223372036854775807) ∨ (∃ s, k = .value ∧ d = .tuple [.str "str", .str s] ∧ s.length ≤ 32) ∨
    (∃ ns : List Int, d = .tuple (ns.map PyData.int) ∧ ns.length ≤ 1000 ∧ (∀ n ∈ ns, 0 ≤ n ∧ n ≤ 10000) ∧ partW k d = (((ns.length : Nat) : Int) :: ns).map dT) ∨ (∃ n, d = .int n ∧ partW k d = [dT n] ∧ -9223372036854775808 ≤ n ∧ n ≤ 9223372036854775807) ∨ ∃ s, d = .str s ∧ partW k d = [s] := by
  by_cases c5 : k = .value
  · subst c5
    rcases val_cases hp with ⟨n, e, a, b⟩ | ⟨s, e, l, _⟩
    · exact .inl ⟨n, rfl, e, a, b⟩
    · exact .inr (.inl ⟨s, rfl, e, l⟩)
  · by_cases c6 : k = .keys ∨ k = .places
    · exact .inr (.inr (.inl (ls_part c6 hp g)))
    · by_cases c1 : k.nm ∈ CK.chs.map Prod.fst
      · exact .inr (.inr (.inr (.inr (ch_str (ch_no.mp c1) hp))))
      · exact .inr (.inr (.inr (.inl (int_part c1 c5 c6 hp))))
theorem ne_nil {K : PySem.W.Frag} {H : Hp} {Q : VK} {v : V} {xs : List PyData} {k : Nat} {p : PySem.Addr} (h : Dp K H v (.tuple xs)) (g : CK.gd k (.tuple xs)) (hk : k ≤ 20) (e : H p = some (.tup [])) (q : Q (.bl (!xs.isEmpty)) H) : rNeD K v (.ref p) H Q := by
  refine ⟨.tuple xs, .tuple [], h, .tup (R.sqT e) .nil, g.sh hk, (show SeqAt.shaped (.tuple []) = true by decide), ?_⟩
  rw [show PyData.eqv (.tuple xs) (.tuple []) = xs.isEmpty by cases xs <;> simp [PyData.eqv, PyData.eqvAll]]
  exact q
theorem jn_snoc {ws : List Str} {z : Str} (h : ws ≠ []) : jn (ws ++ [z]) = jn ws ++ blank ++ jn [z] := jn_app h (by simp)
/-- the law's words of a row, so far -/
def WdI (nm : Str) (ps : List Str) (i : Nat) (W : List Str) : Prop := W ≠ [] ∧ jn W = jn (nm :: ps.take i)
theorem WdI.start {nm : Str} {ps : List Str} : WdI nm ps 0 [nm] := ⟨by simp, rfl⟩
theorem WdI.step {nm z : Str} {ps : List Str} {i : Nat} {W us : List Str} (h : WdI nm ps i W) (e : ps[i]? = some z) (hu : us ≠ []) (ez : jn us = z) : WdI nm ps (i + 1) (W ++ us) := by
  refine ⟨by simp [h.1], ?_⟩
  rw [jn_app h.1 hu, h.2, ez, MM.take_snoc e, ← List.cons_append, jn_snoc (by simp), jn_one]
theorem WdI.len {nm : Str} {ps : List Str} {i : Nat} {W : List Str} (h : WdI nm ps i W) : W.length ≤ msr (nm :: ps) ∧ msr W ≤ msr (nm :: ps) := by
  have a := len_jn h.1
  have b := len_jn (ws := nm :: ps.take i) (by simp)
  rw [h.2] at a
  have c : msr (nm :: ps.take i) ≤ msr (nm :: ps) := by
    rw [msr_cons, msr_cons]
    have := msr_take (ws := ps) (p := i)
    omega
  have d := len_msr (ws := W)
  omega
theorem lnT_put {ls : List Str} {a b : Str} : lnT ls ++ a ++ b ++ nl = lnT (ls ++ [a ++ b]) := by
  rw [lnT_snoc, app_assoc (a := lnT ls)]
theorem lnT_le {ls : List Str} (h : ∀ l ∈ ls, l.length ≤ 21500) (hl : ls.length ≤ 40) : (lnT ls).length ≤ 900000 := by
  rw [lnT_len]
  have := sum_one h
  omega
end WT
end
section
namespace K52
open PySem PySem.Spec PyProof.Rows L2
def topS (i : Nat) : Stmt := PySem.Challenge.pw_tapline_k52_texts_that_are_no_code.main.body.getD i (.Pass ⟨0, 0, 0, 0⟩)
abbrev s_in_script : Stmt := topS 2
abbrev N_in_script : List Str := ["character"]
theorem sc_in_script : FnScope N_in_script ["character"] (defScope s_in_script) := ⟨rfl, rfl, rfl, by decide +kernel, rfl, by decide +kernel, by decide +kernel⟩
abbrev s_is_digit : Stmt := topS 3
abbrev N_is_digit : List Str := ["character"]
theorem sc_is_digit : FnScope N_is_digit ["character"] (defScope s_is_digit) := ⟨rfl, rfl, rfl, by decide +kernel, rfl, by decide +kernel, by decide +kernel⟩
abbrev s_in_text : Stmt := topS 4
abbrev N_in_text : List Str := ["character"]
theorem sc_in_text : FnScope N_in_text ["character"] (defScope s_in_text) := ⟨rfl, rfl, rfl, by decide +kernel, rfl, by decide +kernel, by decide +kernel⟩
abbrev s_decimal : Stmt := topS 8
abbrev N_decimal : List Str := ["n", "pieces", "low"]
theorem sc_decimal : FnScope N_decimal ["n"] (defScope s_decimal) := ⟨rfl, rfl, rfl, by decide +kernel, rfl, by decide +kernel, by decide +kernel⟩
abbrev s_natural_in : Stmt := topS 9
abbrev N_natural_in : List Str := ["text", "n", "character"]
theorem sc_natural_in : FnScope N_natural_in ["text"] (defScope s_natural_in) := ⟨rfl, rfl, rfl, by decide +kernel, rfl, by decide +kernel, by decide +kernel⟩
abbrev s_whole_in : Stmt := topS 10
abbrev N_whole_in : List Str := ["text", "n"]
theorem sc_whole_in : FnScope N_whole_in ["text"] (defScope s_whole_in) := ⟨rfl, rfl, rfl, by decide +kernel, rfl, by decide +kernel, by decide +kernel⟩
abbrev s_BadText___init__ : Stmt := inClass (topS 14) 0
abbrev N_BadText___init__ : List Str := ["self", "row", "__class__"]
theorem ns_BadText___init__ : NdefX.NScope N_BadText___init__ ["self", "row"] ["__class__"] (defScope s_BadText___init__) := NdefX.nscope_by (by decide +kernel)
abbrev s_parts_of : Stmt := topS 27
abbrev N_parts_of : List Str := ["row"]
theorem sc_parts_of : FnScope N_parts_of ["row"] (defScope s_parts_of) := ⟨rfl, rfl, rfl, by decide +kernel, rfl, by decide +kernel, by decide +kernel⟩
abbrev s_is_whole : Stmt := topS 29
abbrev N_is_whole : List Str := ["thing"]
theorem sc_is_whole : FnScope N_is_whole ["thing"] (defScope s_is_whole) := ⟨rfl, rfl, rfl, by decide +kernel, rfl, by decide +kernel, by decide +kernel⟩
abbrev s_is_from : Stmt := topS 30
abbrev N_is_from : List Str := ["thing", "least", "most"]
theorem sc_is_from : FnScope N_is_from ["thing", "least", "most"] (defScope s_is_from) := ⟨rfl, rfl, rfl, by decide +kernel, rfl, by decide +kernel, by decide +kernel⟩
abbrev s_is_register : Stmt := topS 31
abbrev N_is_register : List Str := ["thing"]
theorem sc_is_register : FnScope N_is_register ["thing"] (defScope s_is_register) := ⟨rfl, rfl, rfl, by decide +kernel, rfl, by decide +kernel, by decide +kernel⟩
abbrev s_is_value : Stmt := topS 32
abbrev N_is_value : List Str := ["thing", "kind", "held"]
theorem sc_is_value : FnScope N_is_value ["thing"] (defScope s_is_value) := ⟨rfl, rfl, rfl, by decide +kernel, rfl, by decide +kernel, by decide +kernel⟩
abbrev s_is_short_text : Stmt := topS 33
abbrev N_is_short_text : List Str := ["thing", "character"]
theorem sc_is_short_text : FnScope N_is_short_text ["thing"] (defScope s_is_short_text) := ⟨rfl, rfl, rfl, by decide +kernel, rfl, by decide +kernel, by decide +kernel⟩
abbrev s_fits : Stmt := topS 34
abbrev N_fits : List Str := ["part", "thing", "most"]
theorem sc_fits : FnScope N_fits ["part", "thing", "most"] (defScope s_fits) := ⟨rfl, rfl, rfl, by decide +kernel, rfl, by decide +kernel, by decide +kernel⟩
abbrev s_is_row_of_places : Stmt := topS 35
abbrev N_is_row_of_places : List Str := ["thing", "most", "place"]
theorem sc_is_row_of_places : FnScope N_is_row_of_places ["thing", "most"] (defScope s_is_row_of_places) := ⟨rfl, rfl, rfl, by decide +kernel, rfl, by decide +kernel, by decide +kernel⟩
abbrev s_write_text : Stmt := topS 38
abbrev N_write_text : List Str := ["code", "kinds", "rows", "written", "kind", "row"]
theorem sc_write_text : FnScope N_write_text ["code"] (defScope s_write_text) := ⟨rfl, rfl, rfl, by decide +kernel, rfl, by decide +kernel, by decide +kernel⟩
abbrev s_written_row : Stmt := topS 39
abbrev N_written_row : List Str := ["row", "part", "thing"]
theorem sc_written_row : FnScope N_written_row ["row"] (defScope s_written_row) := ⟨rfl, rfl, rfl, by decide +kernel, rfl, by decide +kernel, by decide +kernel⟩
abbrev s_written_part : Stmt := topS 40
abbrev N_written_part : List Str := ["part", "thing", "number"]
theorem sc_written_part : FnScope N_written_part ["part", "thing"] (defScope s_written_part) := ⟨rfl, rfl, rfl, by decide +kernel, rfl, by decide +kernel, by decide +kernel⟩
abbrev s_written_value : Stmt := topS 41
abbrev N_written_value : List Str := ["value", "kind", "held"]
theorem sc_written_value : FnScope N_written_value ["value"] (defScope s_written_value) := ⟨rfl, rfl, rfl, by decide +kernel, rfl, by decide +kernel, by decide +kernel⟩
abbrev s_read_text : Stmt := topS 42
abbrev N_read_text : List Str := ["text", "written", "kinds", "rows", "k", "line", "row"]
theorem sc_read_text : FnScope N_read_text ["text"] (defScope s_read_text) := ⟨rfl, rfl, rfl, by decide +kernel, rfl, by decide +kernel, by decide +kernel⟩
abbrev s_RowReader___init__ : Stmt := inClass (topS 43) 0
abbrev N_RowReader___init__ : List Str := ["self", "line"]
theorem sc_RowReader___init__ : FnScope N_RowReader___init__ ["self", "line"] (defScope s_RowReader___init__) := ⟨rfl, rfl, rfl, by decide +kernel, rfl, by decide +kernel, by decide +kernel⟩
abbrev s_RowReader_take : Stmt := inClass (topS 43) 1
abbrev N_RowReader_take : List Str := ["self"]
theorem sc_RowReader_take : FnScope N_RowReader_take ["self"] (defScope s_RowReader_take) := ⟨rfl, rfl, rfl, by decide +kernel, rfl, by decide +kernel, by decide +kernel⟩
abbrev s_RowReader_read_row : Stmt := inClass (topS 43) 2
abbrev N_RowReader_read_row : List Str := ["self", "word", "row", "part", "thing"]
theorem sc_RowReader_read_row : FnScope N_RowReader_read_row ["self"] (defScope s_RowReader_read_row) := ⟨rfl, rfl, rfl, by decide +kernel, rfl, by decide +kernel, by decide +kernel⟩
abbrev s_RowReader_read_part : Stmt := inClass (topS 43) 3
abbrev N_RowReader_read_part : List Str := ["self", "part"]
theorem sc_RowReader_read_part : FnScope N_RowReader_read_part ["self", "part"] (defScope s_RowReader_read_part) := ⟨rfl, rfl, rfl, by decide +kernel, rfl, by decide +kernel, by decide +kernel⟩
abbrev s_RowReader_read_places : Stmt := inClass (topS 43) 4
abbrev N_RowReader_read_places : List Str := ["self", "many", "places", "place"]
theorem sc_RowReader_read_places : FnScope N_RowReader_read_places ["self"] (defScope s_RowReader_read_places) := ⟨rfl, rfl, rfl, by decide +kernel, rfl, by decide +kernel, by decide +kernel⟩
abbrev s_RowReader_read_value : Stmt := inClass (topS 43) 5
abbrev N_RowReader_read_value : List Str := ["self", "kind"]
theorem sc_RowReader_read_value : FnScope N_RowReader_read_value ["self"] (defScope s_RowReader_read_value) := ⟨rfl, rfl, rfl, by decide +kernel, rfl, by decide +kernel, by decide +kernel⟩
abbrev s_RowReader_read_held : Stmt := inClass (topS 43) 6
abbrev N_RowReader_read_held : List Str := ["self", "many", "rest"]
theorem sc_RowReader_read_held : FnScope N_RowReader_read_held ["self"] (defScope s_RowReader_read_held) := ⟨rfl, rfl, rfl, by decide +kernel, rfl, by decide +kernel, by decide +kernel⟩
abbrev s_law_draws : Stmt := topS 45
abbrev N_law_draws : List Str := ["script", "many", "draws", "mixed", "k", "cell", "rest", "turn"]
theorem sc_law_draws : FnScope N_law_draws ["script", "many"] (defScope s_law_draws) := ⟨rfl, rfl, rfl, by decide +kernel, rfl, by decide +kernel, by decide +kernel⟩
abbrev s_law_take : Stmt := topS 46
abbrev N_law_take : List Str := ["d", "at"]
theorem sc_law_take : FnScope N_law_take ["d"] (defScope s_law_take) := ⟨rfl, rfl, rfl, by decide +kernel, rfl, by decide +kernel, by decide +kernel⟩
abbrev s_law_start : Stmt := topS 47
abbrev N_law_start : List Str := ["script"]
theorem sc_law_start : FnScope N_law_start ["script"] (defScope s_law_start) := ⟨rfl, rfl, rfl, by decide +kernel, rfl, by decide +kernel, by decide +kernel⟩
abbrev s_law_place : Stmt := topS 48
abbrev N_law_place : List Str := ["d"]
theorem sc_law_place : FnScope N_law_place ["d"] (defScope s_law_place) := ⟨rfl, rfl, rfl, by decide +kernel, rfl, by decide +kernel, by decide +kernel⟩
abbrev s_law_places : Stmt := topS 49
abbrev N_law_places : List Str := ["d", "most", "k"]
theorem sc_law_places : FnScope N_law_places ["d", "most"] (defScope s_law_places) := ⟨rfl, rfl, rfl, by decide +kernel, rfl, by decide +kernel, by decide +kernel⟩
abbrev s_law_value : Stmt := topS 50
abbrev N_law_value : List Str := ["d"]
theorem sc_law_value : FnScope N_law_value ["d"] (defScope s_law_value) := ⟨rfl, rfl, rfl, by decide +kernel, rfl, by decide +kernel, by decide +kernel⟩
abbrev s_law_row : Stmt := topS 51
abbrev N_law_row : List Str := ["d", "many", "one", "two", "turn", "at", "three", "words", "rows"]
theorem sc_law_row : FnScope N_law_row ["d", "many"] (defScope s_law_row) := ⟨rfl, rfl, rfl, by decide +kernel, rfl, by decide +kernel, by decide +kernel⟩
abbrev s_law_code : Stmt := topS 52
abbrev N_law_code : List Str := ["d", "kinds", "k", "many"]
theorem sc_law_code : FnScope N_law_code ["d"] (defScope s_law_code) := ⟨rfl, rfl, rfl, by decide +kernel, rfl, by decide +kernel, by decide +kernel⟩
abbrev s_law_bad : Stmt := topS 53
abbrev N_law_bad : List Str := ["d", "rows"]
theorem sc_law_bad : FnScope N_law_bad ["d"] (defScope s_law_bad) := ⟨rfl, rfl, rfl, by decide +kernel, rfl, by decide +kernel, by decide +kernel⟩
abbrev s_law_told : Stmt := topS 54
abbrev N_law_told : List Str := ["text", "e"]
theorem sc_law_told : FnScope N_law_told ["text"] (defScope s_law_told) := ⟨rfl, rfl, rfl, by decide +kernel, rfl, by decide +kernel, by decide +kernel⟩
abbrev s_law : Stmt := topS 55
abbrev N_law : List Str := ["script", "d", "code", "lines", "turn", "at", "rest", "text", "line"]
theorem sc_law : FnScope N_law ["script"] (defScope s_law) := ⟨rfl, rfl, rfl, by decide +kernel, rfl, by decide +kernel, by decide +kernel⟩
structure Na_RowReader (K : PySem.W.Frag) (C : Addr) : Prop where
  words : NoAttr K C "words"
  place : NoAttr K C "place"
structure Txt (w : World) (K : PySem.W.Frag) (mg : Str → Option Value) where
  p_BadText___init__ : XS.SupP K mg "BadText.__init__" s_BadText___init__ ["self", "row"]
  ti_BadText___init__ : PySem.W.typeIn K (.ref p_BadText___init__.f) = some (.type "function")
  x_BadText : XS.ExS K mg "BadText" p_BadText___init__.f p_BadText___init__.D ["row"]
  te_BadText_BadText : PySem.W.exmOne K (.ref x_BadText.a) (.ref x_BadText.a) = some true
  t_BadBytes : Addr
  gt_BadBytes : mg "BadBytes" = some (.ref t_BadBytes)
  ki_BadText_BadBytes : PySem.W.kitOne K (.ref x_BadText.a) (.ref t_BadBytes) = some false
  t_CodeError : Addr
  gt_CodeError : mg "CodeError" = some (.ref t_CodeError)
  ki_BadText_CodeError : PySem.W.kitOne K (.ref x_BadText.a) (.ref t_CodeError) = some true
  c_RowReader : R.ClP K mg "RowReader"
  n_RowReader : Na_RowReader K c_RowReader.a
  p_in_script : R.FnP K mg "in_script" "in_script" s_in_script ["character"]
  p_is_digit : R.FnP K mg "is_digit" "is_digit" s_is_digit ["character"]
  p_in_text : R.FnP K mg "in_text" "in_text" s_in_text ["character"]
  p_decimal : R.FnP K mg "decimal" "decimal" s_decimal ["n"]
  p_natural_in : R.FnP K mg "natural_in" "natural_in" s_natural_in ["text"]
  p_whole_in : R.FnP K mg "whole_in" "whole_in" s_whole_in ["text"]
  p_parts_of : R.FnP K mg "parts_of" "parts_of" s_parts_of ["row"]
  p_is_whole : R.FnP K mg "is_whole" "is_whole" s_is_whole ["thing"]
  p_is_from : R.FnP K mg "is_from" "is_from" s_is_from ["thing", "least", "most"]
  p_is_register : R.FnP K mg "is_register" "is_register" s_is_register ["thing"]
  p_is_value : R.FnP K mg "is_value" "is_value" s_is_value ["thing"]
  p_is_short_text : R.FnP K mg "is_short_text" "is_short_text" s_is_short_text ["thing"]
  p_fits : R.FnP K mg "fits" "fits" s_fits ["part", "thing", "most"]
  p_is_row_of_places : R.FnP K mg "is_row_of_places" "is_row_of_places" s_is_row_of_places ["thing", "most"]
  p_write_text : R.FnP K mg "write_text" "write_text" s_write_text ["code"]
  p_written_row : R.FnP K mg "written_row" "written_row" s_written_row ["row"]
  p_written_part : R.FnP K mg "written_part" "written_part" s_written_part ["part", "thing"]
  p_written_value : R.FnP K mg "written_value" "written_value" s_written_value ["value"]
  p_read_text : R.FnP K mg "read_text" "read_text" s_read_text ["text"]
  p_RowReader___init__ : R.InP K "__init__" "RowReader.__init__" s_RowReader___init__ ["self", "line"] c_RowReader.a
  p_RowReader_take : R.MtP K "take" "RowReader.take" s_RowReader_take ["self"] c_RowReader.a
  p_RowReader_read_row : R.MtP K "read_row" "RowReader.read_row" s_RowReader_read_row ["self"] c_RowReader.a
  p_RowReader_read_part : R.MtP K "read_part" "RowReader.read_part" s_RowReader_read_part ["self", "part"] c_RowReader.a
  p_RowReader_read_places : R.MtP K "read_places" "RowReader.read_places" s_RowReader_read_places ["self"] c_RowReader.a
  p_RowReader_read_value : R.MtP K "read_value" "RowReader.read_value" s_RowReader_read_value ["self"] c_RowReader.a
  p_RowReader_read_held : R.MtP K "read_held" "RowReader.read_held" s_RowReader_read_held ["self"] c_RowReader.a
  p_law_draws : R.FnP K mg "_law_draws" "_law_draws" s_law_draws ["script", "many"]
  p_law_take : R.FnP K mg "_law_take" "_law_take" s_law_take ["d"]
  p_law_start : R.FnP K mg "_law_start" "_law_start" s_law_start ["script"]
  p_law_place : R.FnP K mg "_law_place" "_law_place" s_law_place ["d"]
  p_law_places : R.FnP K mg "_law_places" "_law_places" s_law_places ["d", "most"]
  p_law_value : R.FnP K mg "_law_value" "_law_value" s_law_value ["d"]
  p_law_row : R.FnP K mg "_law_row" "_law_row" s_law_row ["d", "many"]
  p_law_code : R.FnP K mg "_law_code" "_law_code" s_law_code ["d"]
  p_law_bad : R.FnP K mg "_law_bad" "_law_bad" s_law_bad ["d"]
  p_law_told : R.FnP K mg "_law_told" "_law_told" s_law_told ["text"]
  p_law : R.FnP K mg "law" "law" s_law ["script"]
  m_abs : mg "abs" = none
  m_all : mg "all" = none
  m_bool : mg "bool" = none
  m_divmod : mg "divmod" = none
  m_enumerate : mg "enumerate" = none
  m_int : mg "int" = none
  m_isinstance : mg "isinstance" = none
  m_len : mg "len" = none
  m_list : mg "list" = none
  m_ord : mg "ord" = none
  m_range : mg "range" = none
  m_reversed : mg "reversed" = none
  m_str : mg "str" = none
  m_tuple : mg "tuple" = none
  m_zip : mg "zip" = none
  d_PARTS : CR.DcP K w mg "PARTS" CR.tab
  i_PARTS : CK.DcIn K w d_PARTS.a (CR.tab.map Prod.fst)
  d_CHOICES : CR.DcP K w mg "CHOICES" CK.chs
  i_CHOICES : CK.DcIn K w d_CHOICES.a (CK.chs.map Prod.fst)
  d_PLACE_ROWS : WT.DsP K w mg "PLACE_ROWS" [("place int", "int"), ("place str", "str")]
  i_PLACE_ROWS : CK.DcIn K w d_PLACE_ROWS.a ["place int", "place str"]
  a_LISTED : Addr
  c_LISTED : mg "LISTED" = some (.ref a_LISTED)
  t_LISTED : ∀ H, SqT K H a_LISTED ([V.str "keys", V.str "places"])
  v_PERCENT : Value
  c_PERCENT : mg "PERCENT" = some v_PERCENT
  r_PERCENT : RelV (V.int 37) v_PERCENT
  v_PIECE : Value
  c_PIECE : mg "PIECE" = some v_PIECE
  r_PIECE : RelV (V.int 18) v_PIECE
  v_PIECES : Value
  c_PIECES : mg "PIECES" = some v_PIECES
  r_PIECES : RelV (V.int 1000000000000000000) v_PIECES
  v_INT : Value
  c_INT : mg "INT" = some v_INT
  r_INT : RelV (V.str "int") v_INT
  v_STR : Value
  c_STR : mg "STR" = some v_STR
  r_STR : RelV (V.str "str") v_STR
  v_LEAST : Value
  c_LEAST : mg "LEAST" = some v_LEAST
  r_LEAST : RelV (V.int (-9223372036854775808)) v_LEAST
  v_GREATEST : Value
  c_GREATEST : mg "GREATEST" = some v_GREATEST
  r_GREATEST : RelV (V.int 9223372036854775807) v_GREATEST
  v_LONGEST : Value
  c_LONGEST : mg "LONGEST" = some v_LONGEST
  r_LONGEST : RelV (V.int 32) v_LONGEST
  v_MOST_KEYS : Value
  c_MOST_KEYS : mg "MOST_KEYS" = some v_MOST_KEYS
  r_MOST_KEYS : RelV (V.int 3) v_MOST_KEYS
  v_LAST_REGISTER : Value
  c_LAST_REGISTER : mg "LAST_REGISTER" = some v_LAST_REGISTER
  r_LAST_REGISTER : RelV (V.int 7) v_LAST_REGISTER
end K52
end
section
local macro_rules | `(tactic| walk_at "s1") => `(tactic| first
  | ((with_reducible apply R.r_var); · rfl)
  | with_reducible apply R.r_c
  | with_reducible apply R.r_op
  | with_reducible apply R.r_I0
  | with_reducible apply R.r_cb
  | with_reducible apply R.r_cons
  | with_reducible apply R.r_nil
  | with_reducible apply R.r_seq
  | with_reducible apply R.r_asg
  | with_reducible apply R.r_ret
  | with_reducible apply R.r_ifS
  | with_reducible apply R.r_test
  | with_reducible apply R.r_t
  | with_reducible apply R.r_f
  | with_reducible apply R.r_nt
  | with_reducible apply R.r_nf
  | with_reducible apply R.r_bl
  | with_reducible apply R.r_U
  | with_reducible apply R.r_un
  | with_reducible apply R.r_eqI
  | with_reducible apply R.r_eqS
  | with_reducible apply R.r_neI
  | with_reducible apply R.r_neS
  | with_reducible apply R.r_and
  | with_reducible apply R.r_or
  | with_reducible apply R.r_not
  | with_reducible apply R.r_andV
  | with_reducible apply R.r_orV
  | with_reducible apply R.r_notV
  | with_reducible apply R.r_blV
  | with_reducible apply R.r_B
  | with_reducible apply R.r_ifE
  | with_reducible apply R.r_tup
  | with_reducible apply R.r_lst
  | with_reducible apply R.r_call
  | with_reducible apply R.r_drop
  | with_reducible apply R.r_next
  | with_reducible apply R.r_abs
  | with_reducible apply R.r_int1
  | with_reducible apply R.r_int1b
  | with_reducible apply R.r_min2
  | with_reducible apply R.r_bm
  | with_reducible apply R.r_bm0
  | with_reducible apply R.r_dget
  | with_reducible apply R.r_dput
  | with_reducible apply R.r_disp
  | with_reducible apply R.r_pnil
  | with_reducible apply R.r_pcons
  | with_reducible apply R.r_fld
  | with_reducible apply R.r_slice
  | with_reducible apply R.r_nopart
  | with_reducible apply R.r_part
  | with_reducible apply R.r_int
  | with_reducible apply R.r_yes
  | with_reducible apply R.r_retN
  | with_reducible apply R.r_asgG
  | with_reducible apply R.r_gname
  | with_reducible apply R.r_rng1
  | with_reducible apply R.r_brk
  | with_reducible apply R.r_cnt
  | with_reducible apply R.r_m1
  | with_reducible apply R.r_lcr
  | with_reducible apply R.r_p2_63
  | with_reducible apply R.r_p2_64
  | with_reducible apply R.r_p2_32
  | with_reducible apply R.r_p2_31
  | with_reducible apply R.r_p10_18
  | with_reducible apply R.r_p10_30
  | with_reducible refine R.r_mod (by omega) ?_
  | with_reducible refine R.r_div (by omega) ?_
  | with_reducible refine R.r_mulR (by omega) ?_
  | with_reducible refine R.r_mulL (by omega) ?_
  | with_reducible refine R.r_iteY (by decide +kernel) ?_
  | with_reducible refine R.r_iteF (by decide +kernel) ?_
  | with_reducible refine R.r_isi R.isi_int ?_
  | with_reducible refine R.r_isi R.isi_intB ?_)
local macro_rules | `(tactic| walk_at "go") => `(tactic| repeat (walk_at "s1"))

local macro_rules | `(tactic| walk_at "c1") => `(tactic| first
  | walk_at "s1"
  | with_reducible apply MM.r_chain
  | with_reducible apply CR.r_zl
  | with_reducible apply MM.r_daug
  | with_reducible apply MM.r_add)
local macro_rules | `(tactic| walk_at "cgo") => `(tactic| repeat (walk_at "c1"))

namespace K52
open PySem PySem.Spec PyProof.Rows L2
section
variable {P : Program} {w : World} {K : PySem.W.Frag} {mg : Str → Option Value} {base : Heap}
theorem hu65 {A : Around} {k : Nat} (hr : Room k A) : A.units + 65 < cLine := by
  have := hr.un
  omega
theorem ok_in_script (T : Txt w K mg) : FnOk P w K mg base CX0 1 T.p_in_script.f T.p_in_script.fd ["character"] (CK.spCh CK.chS) := by
  refine T.p_in_script.F.ok sc_in_script (fun vs H Q E h => ?_) (fun cdv A outer s H vs Q E hr h => ?_)
  · obtain ⟨c, rfl, _⟩ := h
    rfl
  · obtain ⟨c, rfl, q⟩ := h
    refine ⟨_, (pss_one (ps_ret (pe_and (pe_chain op_le_str op_le_str pe_str (pv 0) pe_str) (pe_and (pe_cmpR op_ne (pv 0) pe_str (nomark _)) (pe_one (pe_cmpR op_ne (pe_callB call_ord (by rfl) T.m_ord (by decide +kernel) (pa_cons (pv 0) pa_nil)) (pe_glob (by rfl) T.c_PERCENT T.r_PERCENT) (nomark _))))))), ?_⟩
    walk_at "cgo"
    refine ⟨_, _, rfl, rfl, _, rfl, ?_⟩
    rw [show (Str.ofString " ") = ⟨#[32]⟩ from rfl, CK.lt1]
    refine R.r_iteN (fun c1 => ?_) (fun c1 => ?_)
    · walk_at "cgo"
      refine ⟨_, _, rfl, rfl, _, rfl, ?_⟩
      rw [show (Str.ofString "~") = ⟨#[126]⟩ from rfl, CK.lt1]
      refine R.r_iteN (fun c2 => ?_) (fun c2 => ?_)
      · walk_at "cgo"
        rw [show (Str.ofString "\\") = ⟨#[92]⟩ from rfl, CK.eq1]
        refine R.r_iteN (fun c3 => ?_) (fun c3 => ?_)
        · walk_at "cgo"
          refine ⟨_, rfl, rfl, ?_⟩
          walk_at "cgo"
          rw [show CK.chS c = !decide (((#[c] : Array Nat).getD 0 0 : Int) = 37) by
            show decide _ = !decide ((c : Int) = 37)
            by_cases z : c = 37
            · rw [decide_eq_false (by omega), decide_eq_true (by omega)]; rfl
            · rw [decide_eq_true (by omega), decide_eq_false (by omega)]; rfl] at q
          exact q
        · rw [show CK.chS c = false from decide_eq_false (by omega)] at q
          exact q
      · walk_at "cgo"
        rw [show CK.chS c = false from decide_eq_false (by omega)] at q
        exact q
    · walk_at "cgo"
      rw [show CK.chS c = false from decide_eq_false (by omega)] at q
      exact q
theorem ok_in_text (T : Txt w K mg) : FnOk P w K mg base CX0 2 T.p_in_text.f T.p_in_text.fd ["character"] (CK.spCh CK.chT) := by
  refine T.p_in_text.F.ok sc_in_text (fun vs H Q E h => ?_) (fun cdv A outer s H vs Q E hr h => ?_)
  · obtain ⟨c, rfl, _⟩ := h
    rfl
  · obtain ⟨c, rfl, q⟩ := h
    refine ⟨_, (pss_one (ps_ret (pe_and (pe_call (ok_in_script T) (hr.mono (by decide)) (by rfl) T.p_in_script.g T.p_in_script.F.kp T.p_in_script.b .nil pass0 (pa_cons (pv 0) pa_nil)) (pe_one (pe_cmpR op_ne (pv 0) pe_str (nomark _)))))), ?_⟩
    walk_at "cgo"
    refine ⟨c, rfl, ?_⟩
    walk_at "cgo"
    cases h : CK.chS c with
    | true =>
      walk_at "cgo"
      rw [show (Str.ofString "\"") = ⟨#[34]⟩ from rfl, CK.eq1]
      rw [show CK.chT c = !decide (c = 34) by unfold CK.chT; rw [h]; simp] at q
      exact q
    | false =>
      walk_at "cgo"
      rw [show CK.chT c = false by unfold CK.chT; rw [h]; rfl] at q
      exact q
theorem ok_is_whole (T : Txt w K mg) : FnOk P w K mg base CX0 1 T.p_is_whole.f T.p_is_whole.fd ["thing"] (WT.spW K fun d => CK.isD "int" d && !CK.isD "bool" d) := by
  refine T.p_is_whole.F.ok sc_is_whole (fun vs H Q E h => ?_) (fun cdv A outer s H vs Q E hr h => ?_)
  · obtain ⟨v, d, k, rfl, _⟩ := h
    rfl
  · obtain ⟨v, d, k, rfl, hd, g, hk, q⟩ := h
    refine ⟨_, (pss_one (ps_ret (pe_and (pe_callB call_isi (by rfl) T.m_isinstance (by decide +kernel) (pa_cons (pv 0) (pa_cons (pe_bltn (v := .ty "int") (u := .type "int") (by rfl) T.m_int (by decide +kernel) rfl) pa_nil))) (pe_one (pe_not (pe_callB call_isi (by rfl) T.m_isinstance (by decide +kernel) (pa_cons (pv 0) (pa_cons (pe_bltn (v := .ty "bool") (u := .type "bool") (by rfl) T.m_bool (by decide +kernel) rfl) pa_nil)))))))), ?_⟩
    walk_at "cgo"
    refine R.r_isi (WT.isi_w hd g (.inl rfl)) ?_
    have z := q H (Same.refl H)
    walk_at "cgo"
    cases h : CK.isD "int" d with
    | true =>
      walk_at "cgo"
      refine R.r_isi (WT.isi_w hd g (.inr (.inl rfl))) ?_
      walk_at "cgo"
      simp only [h, Bool.true_and] at z
      exact z
    | false =>
      walk_at "cgo"
      simp only [h, Bool.false_and] at z
      exact z
theorem ok_is_from (T : Txt w K mg) : FnOk P w K mg base CX0 2 T.p_is_from.f T.p_is_from.fd ["thing", "least", "most"] (WT.spFromO K) := by
  refine T.p_is_from.F.ok sc_is_from (fun vs H Q E h => ?_) (fun cdv A outer s H vs Q E hr h => ?_)
  · obtain ⟨v, d, k, lo, hi, rfl, _⟩ := h
    rfl
  · obtain ⟨v, d, k, lo, hi, rfl, hd, g, hk, q⟩ := h
    refine ⟨_, (pss_one (ps_ret (pe_and (pe_call (ok_is_whole T) (hr.mono (by decide)) (by rfl) T.p_is_whole.g T.p_is_whole.F.kp T.p_is_whole.b .nil pass0 (pa_cons (pv 0) pa_nil)) (pe_and (pe_cmpR op_ge (pv 0) (pv 1) (nomark _)) (pe_one (pe_or (pe_cmpR op_isN (pv 2) pe_non (nomark _)) (pe_one (pe_cmpR op_le (pv 0) (pv 2) (nomark _))))))))), ?_⟩
    walk_at "cgo"
    refine ⟨v, d, k, rfl, hd, g, hk, fun H1 s1 => ?_⟩
    walk_at "cgo"
    cases hd with
    | int n =>
      show if true = true then _ else _
      walk_at "cgo"
      have z := q H1 s1
      refine R.r_ite (fun c1 => ?_) (fun c1 => ?_)
      · walk_at "cgo"
        cases hi with
        | none =>
          refine ⟨rfl, _, rfl, ?_⟩
          rw [show decide (V.non = V.non) = true from rfl]
          walk_at "cgo"
          have z : Q (.bl (decide (lo ≤ n))) H1 := z
          rw [decide_eq_true (by omega)] at z
          exact z
        | some hi =>
          have z : Q (.bl (CK.cnt lo hi (.int n))) H1 := z
          refine ⟨rfl, _, rfl, ?_⟩
          rw [show decide (V.int hi = V.non) = false from decide_eq_false (by nofun)]
          walk_at "cgo"
          rw [show CK.cnt lo hi (.int n) = decide (n ≤ hi) by show decide (lo ≤ n ∧ n ≤ hi) = _; congr 1; simp [c1]] at z
          exact z
      · walk_at "cgo"
        cases hi with
        | none =>
          have z : Q (.bl (decide (lo ≤ n))) H1 := z
          rw [decide_eq_false (by omega)] at z
          exact z
        | some hi =>
          have z : Q (.bl (CK.cnt lo hi (.int n))) H1 := z
          rw [show CK.cnt lo hi (.int n) = false from decide_eq_false fun h => c1 h.1] at z
          exact z
    | lst a b => cases k <;> exact g.elim
    | _ =>
      have z := q H1 s1
      cases hi <;> exact z
theorem ok_is_register (T : Txt w K mg) : FnOk P w K mg base CX0 3 T.p_is_register.f T.p_is_register.fd ["thing"] (WT.spW K (CK.cnt 0 7)) := by
  refine T.p_is_register.F.ok sc_is_register (fun vs H Q E h => ?_) (fun cdv A outer s H vs Q E hr h => ?_)
  · obtain ⟨v, d, k, rfl, _⟩ := h
    rfl
  · obtain ⟨v, d, k, rfl, hd, g, hk, q⟩ := h
    refine ⟨_, (pss_one (ps_ret (pe_call (ok_is_from T) (hr.mono (by decide)) (by rfl) T.p_is_from.g T.p_is_from.F.kp T.p_is_from.b .nil pass0 (pa_cons (pv 0) (pa_cons pe_int (pa_cons (pe_glob (by rfl) T.c_LAST_REGISTER T.r_LAST_REGISTER) pa_nil)))))), ?_⟩
    walk_at "cgo"
    exact ⟨v, d, k, 0, some 7, rfl, hd, g, hk, q⟩
theorem ok_is_short_text (T : Txt w K mg) : FnOk P w K mg base CX0 3 T.p_is_short_text.f T.p_is_short_text.fd ["thing"] (WT.spW K CK.txt) := by
  refine T.p_is_short_text.F.ok sc_is_short_text (fun vs H Q E h => ?_) (fun cdv A outer s H vs Q E hr h => ?_)
  · obtain ⟨v, d, k, rfl, _⟩ := h
    rfl
  · obtain ⟨v, d, k, rfl, hd, g, hk, q⟩ := h
    refine ⟨_, (pss_cons (ps_if ((pw_or (pt_not (pt_val (pe_callB call_isi (by rfl) T.m_isinstance (by decide +kernel) (pa_cons (pv 0) (pa_cons (pe_bltn (v := .ty "str") (u := .type "str") (by rfl) T.m_str (by decide +kernel) rfl) pa_nil))))) (pw_or1 (pt_cmpR op_gt (pe_callB call_len (by rfl) T.m_len (by decide +kernel) (pa_cons (pv 0) pa_nil)) (pe_glob (by rfl) T.c_LONGEST T.r_LONGEST) (nomark _))))).pt
 (pss_one (ps_ret pe_bl))
 pss_nil)
(pss_one (ps_ret (pe_callB (cr_all rfl) (by rfl) T.m_all (by decide +kernel) (pa_cons (pe_lc (own := [("character", 1)]) (g := gName 1) (tt := tYes) rfl sc_is_short_text.nd (pi_str (pv 0)) (blkOk_by (own := [("character", 1)]) (N := N_is_short_text) (sc := defScope s_is_short_text) (by decide +kernel)) (fun _ _ _ _ _ => (pg_name (i := 1) sc_is_short_text.nd rfl (.inl rfl))) (fun _ _ _ _ _ => pts_nil) (fun _ _ _ _ _ => (pe_call (ok_in_text T) (hr.mono (by decide)) (by rfl) T.p_in_text.g T.p_in_text.F.kp T.p_in_text.b .nil pass0 (pa_cons (pv 1) pa_nil)))) pa_nil))))), ?_⟩
    walk_at "cgo"
    refine R.r_isi (WT.isi_w hd g (.inr (.inr (.inl rfl)))) ?_
    cases hd with
    | str z =>
      have gz : z.length ≤ 50000 := by cases k <;> exact g.1
      refine ⟨true, rfl, ?_⟩
      walk_at "cgo"
      refine ⟨_, z.length, rfl, ⟨R.size_of (by omega), rfl⟩, ?_⟩
      walk_at "cgo"
      refine R.r_ite (fun c => ?_) (fun c => ?_)
      · walk_at "cgo"
        have q := q H (Same.refl H)
        rw [show CK.txt (.str z) = false by show (decide (z.length ≤ 32) && _) = false; rw [decide_eq_false (by omega)]; rfl] at q
        exact q
      · walk_at "cgo"
        refine CK.r_lcS ?_
        walk_at "cgo"
        refine ⟨z, rfl, ?_⟩
        have hl : (z.cps.toList.map CK.chT).length = z.length := by rw [List.length_map, Array.length_toList]; rfl
        refine MM.lc_go walk_str (fun D i H' => CK.Tr (z.cps.toList.map CK.chT) H D i H') ?_ (fun _ _ _ _ _ => trivial) ?_ ?_
        · intro D hD
          exact CK.Tr.start hD
        · rintro D i x H2 H2' hD hi t ⟨rfl, c, ec, rfl⟩
          refine ⟨rfl, ?_⟩
          walk_at "cgo"
          refine ⟨c, rfl, ?_⟩
          exact t.step hD (Same.refl _) (by rw [List.getElem?_map, Array.getElem?_toList, ec]; rfl) (by omega)
        · intro D H2 hD t
          walk_at "cgo"
          refine t.all (by rw [hl]; exact Nat.le_refl _) fun H3 s3 => ?_
          have q := q H3 s3
          rw [show CK.txt (.str z) = (z.cps.toList.map CK.chT).all id by show (decide (z.length ≤ 32) && _) = _; rw [decide_eq_true (by omega), Bool.true_and, List.all_map]; rfl] at q
          exact q
    | lst a b => cases k <;> exact g.elim
    | _ =>
      refine ⟨false, rfl, ?_⟩
      walk_at "cgo"
      exact q H (Same.refl H)
theorem ok_is_value (T : Txt w K mg) : FnOk P w K mg base CX0 4 T.p_is_value.f T.p_is_value.fd ["thing"] (WT.spW K CK.val) := by
  refine T.p_is_value.F.ok sc_is_value (fun vs H Q E h => ?_) (fun cdv A outer s H vs Q E hr h => ?_)
  · obtain ⟨v, d, k, rfl, _⟩ := h
    rfl
  · obtain ⟨v, d, k, rfl, hd, g, hk, q⟩ := h
    refine ⟨_, (pss_cons (ps_if ((pw_or (pt_not (pt_val (pe_callB call_isi (by rfl) T.m_isinstance (by decide +kernel) (pa_cons (pv 0) (pa_cons (pe_bltn (v := .ty "tuple") (u := .type "tuple") (by rfl) T.m_tuple (by decide +kernel) rfl) pa_nil))))) (pw_or1 (pt_cmpR op_ne (pe_callB R.cLenS (by rfl) T.m_len (by decide +kernel) (pa_cons (pv 0) pa_nil)) pe_int (nomark _))))).pt
 (pss_one (ps_ret pe_bl))
 pss_nil)
(pss_cons (ps_asg (pv 0) (pg_tup rfl (pgs_cons (pg_name (i := 1) sc_is_value.nd rfl (.inl rfl)) (pgs_cons (pg_name (i := 2) sc_is_value.nd rfl (.inl rfl)) pgs_nil))))
(pss_cons (ps_if (pt_cmpR (op_eqD hr.units) (pv 1) (pe_glob (by rfl) T.c_INT T.r_INT) (nomark _))
 (pss_one (ps_ret (pe_call (ok_is_from T) (hr.mono (by decide)) (by rfl) T.p_is_from.g T.p_is_from.F.kp T.p_is_from.b .nil pass0 (pa_cons (pv 2) (pa_cons (pe_glob (by rfl) T.c_LEAST T.r_LEAST) (pa_cons (pe_glob (by rfl) T.c_GREATEST T.r_GREATEST) pa_nil))))))
 pss_nil)
(pss_one (ps_ret (pe_and (pe_cmpR (op_eqD hr.units) (pv 1) (pe_glob (by rfl) T.c_STR T.r_STR) (nomark _)) (pe_one (pe_call (ok_is_short_text T) (hr.mono (by decide)) (by rfl) T.p_is_short_text.g T.p_is_short_text.F.kp T.p_is_short_text.b .nil pass0 (pa_cons (pv 2) pa_nil))))))))), ?_⟩
    walk_at "cgo"
    refine R.r_isi (WT.isi_w hd g (.inr (.inr (.inr rfl)))) ?_
    cases hd with
    | tup a b =>
      refine ⟨true, rfl, ?_⟩
      walk_at "cgo"
      refine R.r_lenT a ?_
      walk_at "cgo"
      have hl := CK.dp_len b
      rw [hl]
      refine R.r_iteN (fun c => ?_) (fun c => ?_)
      · walk_at "cgo"
        have q := q H (Same.refl H)
        rw [CK.val_len (by omega)] at q
        exact q
      · obtain ⟨v0, v1, d0, d1, rfl, rfl, h0, h1⟩ := CK.dp_two b (by omega)
        obtain ⟨_, gm⟩ := g.mem
        obtain ⟨j0, hj0, g0⟩ := gm d0 (by simp)
        obtain ⟨j1, hj1, g1⟩ := gm d1 (by simp)
        rw [CK.val_two] at q
        walk_at "cgo"
        refine ⟨_, _, rfl, a, rfl, _, _, rfl, _, _, rfl, rfl, ?_⟩
        walk_at "cgo"
        refine WT.r_eqW h0 g0 (by omega) (by decide +kernel) ?_
        cases e : CK.isS "int" d0 with
        | true =>
          walk_at "cgo"
          rw [e] at q
          exact ⟨v1, d1, j1, _, some _, rfl, h1, g1, by omega, q⟩
        | false =>
          walk_at "cgo"
          rw [e] at q
          refine WT.r_eqW h0 g0 (by omega) (by decide +kernel) ?_
          cases e2 : CK.isS "str" d0 with
          | true =>
            walk_at "cgo"
            rw [e2] at q
            exact ⟨v1, d1, j1, rfl, h1, g1, by omega, fun H' s => by have z := q H' s; simpa using z⟩
          | false =>
            walk_at "cgo"
            rw [e2] at q
            have z := q H (Same.refl H)
            simpa using z
    | lst a b => cases k <;> exact g.elim
    | _ =>
      refine ⟨false, rfl, ?_⟩
      walk_at "cgo"
      exact q H (Same.refl H)
theorem ok_is_row_of_places (T : Txt w K mg) : FnOk P w K mg base CX0 4 T.p_is_row_of_places.f T.p_is_row_of_places.fd ["thing", "most"] (WT.spW0 K WT.nats) := by
  refine T.p_is_row_of_places.F.ok sc_is_row_of_places (fun vs H Q E h => ?_) (fun cdv A outer s H vs Q E hr h => ?_)
  · obtain ⟨v, d, k, rfl, _⟩ := h
    rfl
  · obtain ⟨v, d, k, rfl, hd, g, hk, q⟩ := h
    refine ⟨_, (pss_one (ps_ret (pe_and (pe_callB call_isi (by rfl) T.m_isinstance (by decide +kernel) (pa_cons (pv 0) (pa_cons (pe_bltn (v := .ty "tuple") (u := .type "tuple") (by rfl) T.m_tuple (by decide +kernel) rfl) pa_nil))) (pe_one (pe_callB (cr_all rfl) (by rfl) T.m_all (by decide +kernel) (pa_cons (pe_lc (own := [("place", 2)]) (g := gName 2) (tt := tYes) rfl sc_is_row_of_places.nd (pi_tup (pv 0)) (blkOk_by (own := [("place", 2)]) (N := N_is_row_of_places) (sc := defScope s_is_row_of_places) (by decide +kernel)) (fun _ _ _ _ _ => (pg_name (i := 2) sc_is_row_of_places.nd rfl (.inl rfl))) (fun _ _ _ _ _ => pts_nil) (fun _ _ _ _ _ => (pe_call (ok_is_from T) (hr.mono (by decide)) (by rfl) T.p_is_from.g T.p_is_from.F.kp T.p_is_from.b .nil pass0 (pa_cons (pv 2) (pa_cons pe_int (pa_cons (pv 1) pa_nil)))))) pa_nil)))))), ?_⟩
    walk_at "cgo"
    refine R.r_isi (WT.isi_w hd g (.inr (.inr (.inr rfl)))) ?_
    cases hd with
    | tup a b =>
      rename_i p xs ds
      refine ⟨true, rfl, ?_⟩
      walk_at "cgo"
      obtain ⟨gl, gm⟩ := g.mem
      have hl := CK.dp_len b
      walk_at "cgo"
      refine MM.r_lcT ?_
      walk_at "cgo"
      refine ⟨_, rfl, ⟨_, a⟩, ?_⟩
      have hz := hl
      refine MM.lc_go (walk_tup) (fun D i H' => CK.Tr (List.map (WT.nat0) ds) H D i H') ?_ (fun D i H' hD t => R.Same.sqt t.1 a) ?_ ?_
      · intro D hD
        exact CK.Tr.start hD
      · rintro D i x H2 H2' hD hi t ⟨rfl, ex⟩
        obtain ⟨d, ed, hd⟩ := CK.dp_get b ex
        obtain ⟨j, hj, gj⟩ := gm d (List.mem_of_getElem? ed)
        refine ⟨rfl, ?_⟩
        walk_at "cgo"
        refine ⟨x, d, j, 0, none, rfl, _root_.D.dp_same t.1 _ _ hd, gj, by omega, fun H3 s3 => ?_⟩
        rw [WT.cntO_0]
        exact WT.tr_step hD t s3 (by rw [List.getElem?_map, ed]; rfl) (by rw [List.length_map]; exact gl)
      · intro D H2 hD t
        walk_at "cgo"
        refine t.all (by rw [List.length_map, hl]; exact Nat.le_refl _) fun H3 s3 => ?_
        have q := q H3 s3
        rw [show WT.nats (.tuple ds) = (List.map (WT.nat0) ds).all id by rw [List.all_map]; rfl] at q
        exact q
    | lst a b => cases k <;> exact g.elim
    | _ =>
      refine ⟨false, rfl, ?_⟩
      walk_at "cgo"
      exact q H (Same.refl H)
theorem ok_fits (T : Txt w K mg) : FnOk P w K mg base CX0 5 T.p_fits.f T.p_fits.fd ["part", "thing", "most"] (WT.spFitsW K) := by
  refine T.p_fits.F.ok sc_fits (fun vs H Q E h => ?_) (fun cdv A outer s H vs Q E hr h => ?_)
  · obtain ⟨kd, v, d, k, rfl, _⟩ := h
    rfl
  · obtain ⟨kd, v, d, k, rfl, hd, g, hk, q⟩ := h
    refine ⟨_, (pss_cons (ps_if (pt_cmpR (op_in_kd T.i_CHOICES.kd) (pv 0) (pe_glob (v := .ref T.d_CHOICES.a) (by rfl) T.d_CHOICES.g rfl) rfl)
 (pss_one (ps_ret (pe_and (pe_callB call_isi (by rfl) T.m_isinstance (by decide +kernel) (pa_cons (pv 1) (pa_cons (pe_bltn (v := .ty "str") (u := .type "str") (by rfl) T.m_str (by decide +kernel) rfl) pa_nil))) (pe_one (pe_cmpR op_in_seq (pv 1) (pe_ix ix_kdict (pe_glob (v := .ref T.d_CHOICES.a) (by rfl) T.d_CHOICES.g rfl) (pv 0) (fun _ _ => rfl)) rfl)))))
 pss_nil)
(pss_cons (ps_if (pt_cmpR op_in_seq (pv 0) (pe_tup (pa_cons pe_str (pa_cons pe_str pa_nil))) rfl)
 (pss_one (ps_ret (pe_call (ok_is_register T) (hr.mono (by decide)) (by rfl) T.p_is_register.g T.p_is_register.F.kp T.p_is_register.b .nil pass0 (pa_cons (pv 1) pa_nil))))
 pss_nil)
(pss_cons (ps_if (pt_cmpR op_eq (pv 0) pe_str (nomark _))
 (pss_one (ps_ret (pe_call (ok_is_from T) (hr.mono (by decide)) (by rfl) T.p_is_from.g T.p_is_from.F.kp T.p_is_from.b .nil pass0 (pa_cons (pv 1) (pa_cons (pe_un un_neg pe_int) (pa_cons (pe_glob (by rfl) T.c_LAST_REGISTER T.r_LAST_REGISTER) pa_nil))))))
 pss_nil)
(pss_cons (ps_if (pt_cmpR op_eq (pv 0) pe_str (nomark _))
 (pss_one (ps_ret (pe_call (ok_is_from T) (hr.mono (by decide)) (by rfl) T.p_is_from.g T.p_is_from.F.kp T.p_is_from.b .nil pass0 (pa_cons (pv 1) (pa_cons pe_int (pa_cons pe_int pa_nil))))))
 pss_nil)
(pss_cons (ps_if (pt_cmpR op_eq (pv 0) pe_str (nomark _))
 (pss_one (ps_ret (pe_call (ok_is_value T) (hr.mono (by decide)) (by rfl) T.p_is_value.g T.p_is_value.F.kp T.p_is_value.b .nil pass0 (pa_cons (pv 1) pa_nil))))
 pss_nil)
(pss_cons (ps_if (pt_cmpR op_in_seq (pv 0) (pe_glob (v := .ref T.a_LISTED) (by rfl) T.c_LISTED rfl) rfl)
 (pss_one (ps_ret (pe_and (pe_call (ok_is_row_of_places T) (hr.mono (by decide)) (by rfl) T.p_is_row_of_places.g T.p_is_row_of_places.F.kp T.p_is_row_of_places.b .nil pass0 (pa_cons (pv 1) (pa_cons (pv 2) pa_nil))) (pe_one (pe_or (pe_cmpR op_ne (pv 0) pe_str (nomark _)) (pe_or (pe_cmpR op_isN (pv 2) pe_non (nomark _)) (pe_one (pe_cmpR op_le (pe_callB R.cLenS (by rfl) T.m_len (by decide +kernel) (pa_cons (pv 1) pa_nil)) (pe_glob (by rfl) T.c_MOST_KEYS T.r_MOST_KEYS) (nomark _)))))))))
 pss_nil)
(pss_one (ps_ret (pe_call (ok_is_from T) (hr.mono (by decide)) (by rfl) T.p_is_from.g T.p_is_from.F.kp T.p_is_from.b .nil pass0 (pa_cons (pv 1) (pa_cons pe_int (pa_cons (pv 2) pa_nil)))))))))))), ?_⟩
    walk_at "cgo"
    obtain ⟨r, er, es⟩ := T.i_CHOICES.m kd.nm
    refine ⟨_, r, rfl, rfl, er, r.isSome, rfl, ?_⟩
    rw [es]
    refine R.r_ite (fun c1 => ?_) (fun c1 => ?_)
    · obtain ⟨ws, ew, ep⟩ := WT.ch_get c1
      rw [ep] at q
      walk_at "cgo"
      refine R.r_isi (WT.isi_w hd g (.inr (.inr (.inl rfl)))) ?_
      cases hd with
      | str z =>
        refine ⟨true, rfl, ?_⟩
        walk_at "cgo"
        obtain ⟨t, hk, ht⟩ := T.d_CHOICES.es.get ew
        refine ⟨_, _, _, rfl, rfl, hk, ?_⟩
        exact CR.r_inK (ht H) rfl CK.flat_strs CK.in_strs (q H (Same.refl H))
      | lst a b => cases k <;> exact g.elim
      | _ =>
        refine ⟨false, rfl, ?_⟩
        walk_at "cgo"
        exact q H (Same.refl H)
    walk_at "cgo"
    refine CR.r_inNew (Nat.le_of_ble_eq_true rfl) rfl rfl CK.nm_if fun H1 s1 => ?_
    have hd1 := _root_.D.dp_same s1 _ _ hd
    walk_at "cgo"
    refine R.r_ite (fun c2 => ?_) (fun c2 => ?_)
    · walk_at "cgo"
      refine ⟨v, d, k, rfl, hd1, g, hk, fun H' s => ?_⟩
      have z := q H' (s1.trans s)
      rcases c2 with rfl | rfl <;> exact z
    walk_at "cgo"
    refine R.r_ite (fun c3 => ?_) (fun c3 => ?_)
    · obtain rfl := CR.nm_opt.mp c3
      walk_at "cgo"
      exact ⟨v, d, k, _, some _, rfl, hd1, g, hk, fun H' s => q H' (s1.trans s)⟩
    walk_at "cgo"
    refine R.r_ite (fun c4 => ?_) (fun c4 => ?_)
    · obtain rfl := CK.nm_member.mp c4
      walk_at "cgo"
      exact ⟨v, d, k, _, some _, rfl, hd1, g, hk, fun H' s => q H' (s1.trans s)⟩
    walk_at "cgo"
    refine R.r_ite (fun c5 => ?_) (fun c5 => ?_)
    · obtain rfl := CK.nm_value.mp c5
      walk_at "cgo"
      exact ⟨v, d, k, rfl, hd1, g, hk, fun H' s => q H' (s1.trans s)⟩
    walk_at "cgo"
    refine CR.r_inK (T.t_LISTED _) rfl rfl CR.nm_listed ?_
    walk_at "cgo"
    refine R.r_ite (fun c6 => ?_) (fun c6 => ?_)
    · walk_at "cgo"
      refine ⟨v, d, k, rfl, hd1, g, hk, fun H2 s2 => ?_⟩
      have s12 := s1.trans s2
      have z := q H2 s12
      rw [show WT.fitF kd d = WT.nats d by rcases c6 with rfl | rfl <;> rfl] at z
      cases e : WT.nats d with
      | false =>
        rw [e] at z
        walk_at "cgo"
        exact z
      | true =>
        rw [e] at z
        walk_at "cgo"
        refine R.r_iteN (fun c7 => ?_) (fun c7 => ?_)
        · walk_at "cgo"
          exact z
        · walk_at "cgo"
          refine ⟨rfl, _, rfl, ?_⟩
          rw [show decide (V.non = V.non) = true from rfl]
          walk_at "cgo"
          exact z
    · walk_at "cgo"
      rw [WT.fit_else c1 c2 (fun z => c3 (by rw [z]; rfl)) (fun z => c4 (by rw [z]; rfl)) (fun z => c5 (by rw [z]; rfl)) c6] at q
      refine ⟨v, d, k, 0, none, rfl, hd1, g, hk, fun H' s => ?_⟩
      rw [WT.cntO_0]
      exact q H' (s1.trans s)
end
end K52
end
section
local macro_rules | `(tactic| walk_at "s1") => `(tactic| first
  | ((with_reducible apply R.r_var); · rfl)
  | with_reducible apply R.r_c
  | with_reducible apply R.r_op
  | with_reducible apply R.r_I0
  | with_reducible apply R.r_cb
  | with_reducible apply R.r_cons
  | with_reducible apply R.r_nil
  | with_reducible apply R.r_seq
  | with_reducible apply R.r_asg
  | with_reducible apply R.r_ret
  | with_reducible apply R.r_ifS
  | with_reducible apply R.r_test
  | with_reducible apply R.r_t
  | with_reducible apply R.r_f
  | with_reducible apply R.r_nt
  | with_reducible apply R.r_nf
  | with_reducible apply R.r_bl
  | with_reducible apply R.r_U
  | with_reducible apply R.r_un
  | with_reducible apply R.r_eqI
  | with_reducible apply R.r_eqS
  | with_reducible apply R.r_neI
  | with_reducible apply R.r_neS
  | with_reducible apply R.r_and
  | with_reducible apply R.r_or
  | with_reducible apply R.r_not
  | with_reducible apply R.r_andV
  | with_reducible apply R.r_orV
  | with_reducible apply R.r_notV
  | with_reducible apply R.r_blV
  | with_reducible apply R.r_B
  | with_reducible apply R.r_ifE
  | with_reducible apply R.r_tup
  | with_reducible apply R.r_lst
  | with_reducible apply R.r_call
  | with_reducible apply R.r_drop
  | with_reducible apply R.r_next
  | with_reducible apply R.r_abs
  | with_reducible apply R.r_int1
  | with_reducible apply R.r_int1b
  | with_reducible apply R.r_min2
  | with_reducible apply R.r_bm
  | with_reducible apply R.r_bm0
  | with_reducible apply R.r_dget
  | with_reducible apply R.r_dput
  | with_reducible apply R.r_disp
  | with_reducible apply R.r_pnil
  | with_reducible apply R.r_pcons
  | with_reducible apply R.r_fld
  | with_reducible apply R.r_slice
  | with_reducible apply R.r_nopart
  | with_reducible apply R.r_part
  | with_reducible apply R.r_int
  | with_reducible apply R.r_yes
  | with_reducible apply R.r_retN
  | with_reducible apply R.r_asgG
  | with_reducible apply R.r_gname
  | with_reducible apply R.r_rng1
  | with_reducible apply R.r_brk
  | with_reducible apply R.r_cnt
  | with_reducible apply R.r_m1
  | with_reducible apply R.r_lcr
  | with_reducible apply R.r_p2_63
  | with_reducible apply R.r_p2_64
  | with_reducible apply R.r_p2_32
  | with_reducible apply R.r_p2_31
  | with_reducible apply R.r_p10_18
  | with_reducible apply R.r_p10_30
  | with_reducible refine R.r_mod (by omega) ?_
  | with_reducible refine R.r_div (by omega) ?_
  | with_reducible refine R.r_mulR (by omega) ?_
  | with_reducible refine R.r_mulL (by omega) ?_
  | with_reducible refine R.r_iteY (by decide +kernel) ?_
  | with_reducible refine R.r_iteF (by decide +kernel) ?_
  | with_reducible refine R.r_isi R.isi_int ?_
  | with_reducible refine R.r_isi R.isi_intB ?_)
local macro_rules | `(tactic| walk_at "go") => `(tactic| repeat (walk_at "s1"))

local macro_rules | `(tactic| walk_at "c1") => `(tactic| first
  | walk_at "s1"
  | with_reducible apply MM.r_chain
  | with_reducible apply CR.r_zl
  | with_reducible apply MM.r_daug
  | with_reducible apply MM.r_add)
local macro_rules | `(tactic| walk_at "cgo") => `(tactic| repeat (walk_at "c1"))

namespace K52
open PySem PySem.Spec PyProof.Rows L2
open BF (Vl VlAt)
section
variable {σ : L2.St} {H : Hp} {nx bk ct : L2.St → Hp → Prop} {rt : V → Hp → Prop} {j : Nat} {td : TE} {tb : TS}
theorem r_forS {g : TG} (h : td σ H fun v H1 => ∃ x, v = .str x ∧ MM.FW (Its x) g tb nx rt σ H1) : tFor (iStr td) g tb ⟨nx, rt, bk, ct⟩ σ H := h
theorem for_str {z : Str} (Pv : Nat → L2.St → Hp → Prop) (h0 : Pv 0 σ H)
    (hs : ∀ i c σ H, z.cps.toList[i]? = some c → Pv i σ H → tb ⟨Pv (i + 1), rt, nx, Pv (i + 1)⟩ (σ.set j (some (.str ⟨#[c]⟩))) H) (hd : ∀ σ H, Pv z.cps.toList.length σ H → nx σ H) :
    MM.FW (Its z) (gName j) tb nx rt σ H := by
  refine for_it (D := ⟨nx, rt, fun _ _ => False, fun _ _ => False⟩) (walk_str (z := z)) Pv h0 (fun i σ H _ p => trivial) (fun i x σ H H' hi p y => ?_) hd
  obtain ⟨rfl, c, e, rfl⟩ := y
  exact hs i c σ _ (by rw [Array.getElem?_toList]; exact e) p
end
theorem dig_int {c : Nat} (h : LN.isDig c = true) : PySem.intText? ⟨#[c]⟩ = some ((c : Int) - 48) := by
  unfold LN.isDig at h
  rw [Bool.and_eq_true, decide_eq_true_iff, decide_eq_true_iff] at h
  have : c = 48 ∨ c = 49 ∨ c = 50 ∨ c = 51 ∨ c = 52 ∨ c = 53 ∨ c = 54 ∨ c = 55 ∨ c = 56 ∨ c = 57 := by omega
  rcases this with rfl | rfl | rfl | rfl | rfl | rfl | rfl | rfl | rfl | rfl <;> decide +kernel
def opt : Option Int → V
  | none => .non
  | some n => .int n
/-- what a def of texts tells -/
def spTx (f : Str → V) : Sp := fun vs H Q _ => ∃ z : Str, vs = [.str z] ∧ z.length ≤ 50000 ∧ Q (f z) H
def natV (z : Str) : V := opt (LN.natF z)
def wholeV (z : Str) : V := opt (LN.wholeF z)
section
variable {P : Program} {w : World} {K : PySem.W.Frag} {mg : Str → Option Value} {base : Heap}
theorem ok_is_digit (T : Txt w K mg) : FnOk P w K mg base CX0 1 T.p_is_digit.f T.p_is_digit.fd ["character"] (CK.spCh LN.isDig) := by
  refine T.p_is_digit.F.ok sc_is_digit (fun vs H Q E h => ?_) (fun cdv A outer s H vs Q E hr h => ?_)
  · obtain ⟨c, rfl, _⟩ := h
    rfl
  · obtain ⟨c, rfl, q⟩ := h
    refine ⟨_, (pss_one (ps_ret (pe_chain op_le_str op_le_str pe_str (pv 0) pe_str))), ?_⟩
    walk_at "cgo"
    refine ⟨_, _, rfl, rfl, _, rfl, ?_⟩
    rw [show (Str.ofString "0") = ⟨#[48]⟩ from rfl, CK.lt1]
    refine R.r_iteN (fun c1 => ?_) (fun c1 => ?_)
    · walk_at "cgo"
      refine ⟨_, _, rfl, rfl, ?_⟩
      rw [show (Str.ofString "9") = ⟨#[57]⟩ from rfl, CK.lt1]
      rw [show LN.isDig c = !decide (57 < c) by
        unfold LN.isDig
        rw [decide_eq_true (show 48 ≤ c by omega), Bool.true_and]
        by_cases z : c ≤ 57
        · rw [decide_eq_true z, decide_eq_false (by omega)]; rfl
        · rw [decide_eq_false z, decide_eq_true (by omega)]; rfl] at q
      exact q
    · rw [show LN.isDig c = false by
        unfold LN.isDig
        rw [decide_eq_false (show ¬ 48 ≤ c by omega), Bool.false_and]] at q
      exact q
theorem digs_take {n : Int} : ∀ {cs : List Nat} {i : Nat} {a : Nat}, cs[i]? = some a → LN.digs n (cs.take (i + 1)) = match LN.digs n (cs.take i) with | none => none | some m => if LN.isDig a = true then some (10 * m + ((a : Int) - 48)) else none
  | [], _, _, h => nomatch h
  | c :: r, 0, a, h => by
    obtain rfl : c = a := Option.some.inj h
    show LN.digs n [c] = _
    unfold LN.digs
    rfl
  | c :: r, i + 1, a, h => by
    show LN.digs n (c :: r.take (i + 1)) = match LN.digs n (c :: r.take i) with | none => none | some m => _
    unfold LN.digs
    split
    · exact digs_take (i := i) h
    · rfl
theorem digs_stop {n : Int} {cs : List Nat} {i : Nat} (h : LN.digs n (cs.take i) = none) : LN.digs n cs = none := by
  induction cs generalizing n i with
  | nil => simp [LN.digs] at h
  | cons c r ih =>
    cases i with
    | zero => simp [LN.digs] at h
    | succ i =>
      rw [List.take_succ_cons] at h
      unfold LN.digs at h ⊢
      split
      · next e => rw [if_pos e] at h; exact ih h
      · rfl
theorem nat_no {z : Str} (h : z = "" ∨ (1 < z.length ∧ z.cps.toList[0]? = some 48)) : LN.natF z = none := by
  unfold LN.natF
  rw [if_pos h]
theorem nat_digs {z : Str} (h : ¬ (z = "" ∨ (1 < z.length ∧ z.cps.toList[0]? = some 48))) : LN.natF z = LN.digs 0 z.cps.toList := by
  unfold LN.natF
  rw [if_neg h]
theorem ok_natural_in (T : Txt w K mg) : FnOk P w K mg base CX0 2 T.p_natural_in.f T.p_natural_in.fd ["text"] (spTx natV) := by
  refine T.p_natural_in.F.ok sc_natural_in (fun vs H Q E h => ?_) (fun cdv A outer s H vs Q E hr h => ?_)
  · obtain ⟨z, rfl, _⟩ := h
    rfl
  · obtain ⟨z, rfl, hl, q⟩ := h
    have q : Q (opt (LN.natF z)) H := q
    refine ⟨_, (C8.pss_cut (ps_if ((pw_or (pt_cmpR op_eq (pv 0) pe_str (nomark _)) (pw_or1 ((pw_and (pt_cmpR op_gt (pe_callB call_len (by rfl) T.m_len (by decide +kernel) (pa_cons (pv 0) pa_nil)) pe_int (nomark _)) (pw_and1 (pt_cmpR op_eq (pe_ix ix_str (pv 0) pe_int (fun _ _ => rfl)) pe_str (nomark _))))).pt))).pt
 (pss_one (ps_ret pe_non))
 pss_nil)
(pss_cons (ps_set (i := 1) sc_natural_in.nd rfl (.inl rfl) pe_int)
(pss_cons (ps_for PassesOwn.never rfl (pi_str (pv 0)) (pg_name (i := 2) sc_natural_in.nd rfl (.inl rfl))
 (pss_cons (ps_if (pt_not (pt_val (pe_call (ok_is_digit T) (hr.mono (by decide)) (by rfl) T.p_is_digit.g T.p_is_digit.F.kp T.p_is_digit.b .nil pass0 (pa_cons (pv 2) pa_nil))))
 (pss_one (ps_ret pe_non))
 pss_nil)
(pss_one (ps_set (i := 1) sc_natural_in.nd rfl (.inl rfl) (pe_op op_add (pe_op op_mul pe_int (pv 1)) (pe_callTy call_int_str (by rfl) T.m_int (by decide +kernel) (pa_cons (pv 2) pa_nil)))))))
(pss_one (ps_ret (pv 1)))))), ?_⟩
    walk_at "cgo"
    refine R.r_cut (fun σ' H' => σ' = L2.start N_natural_in [V.str z] ∧ H' = H ∧ LN.natF z = LN.digs 0 z.cps.toList) ?_ ?_
    · walk_at "cgo"
      refine R.r_ite (fun c => ?_) (fun c => ?_)
      · walk_at "cgo"
        rw [show opt (LN.natF z) = .non by rw [nat_no (.inl c)]; rfl] at q
        exact q
      · walk_at "cgo"
        refine ⟨_, z.length, rfl, ⟨R.size_of (by omega), rfl⟩, ?_⟩
        walk_at "cgo"
        refine R.r_ite (fun c2 => ?_) (fun c2 => ?_)
        · walk_at "cgo"
          have h1 : z.cps.toList.length = z.length := Array.length_toList
          obtain ⟨k, hk⟩ : ∃ k, z.cps.toList[0]? = some k := ⟨_, List.getElem?_eq_getElem (by omega)⟩
          refine R.r_ixS (R.size_of (by omega)) (R.at_nat (by decide) hk) ?_
          walk_at "cgo"
          rw [show (Str.ofString "0") = ⟨#[48]⟩ from rfl, CK.eq1]
          refine R.r_ite (fun c3 => ?_) (fun c3 => ?_)
          · walk_at "cgo"
            rw [show opt (LN.natF z) = .non by rw [nat_no (.inr ⟨by omega, by rw [hk, c3]⟩)]; rfl] at q
            exact q
          · walk_at "cgo"
            exact ⟨rfl, rfl, nat_digs fun e => e.elim c fun e => c3 (by rw [hk] at e; exact Option.some.inj e.2)⟩
        · walk_at "cgo"
          exact ⟨rfl, rfl, nat_digs fun e => e.elim c fun e => c2 (by omega)⟩
    · rintro _ H1 ⟨rfl, rfl, en⟩
      rw [en] at q
      walk_at "cgo"
      refine r_forS ?_
      walk_at "cgo"
      refine ⟨z, rfl, ?_⟩
      refine for_str (fun i σ H' => ∃ m y, LN.digs 0 (z.cps.toList.take i) = some m ∧ σ = [some (.str z), some (.int m), y] ∧ H' = H1) ⟨0, none, rfl, rfl, rfl⟩ ?_ ?_
      · rintro i c _ _ hc ⟨m, y, em, rfl, rfl⟩
        have st := digs_take (n := 0) hc
        rw [em] at st
        walk_at "cgo"
        refine ⟨c, rfl, ?_⟩
        cases hd : LN.isDig c with
        | true =>
          rw [hd] at st
          walk_at "cgo"
          refine ⟨_, _, rfl, dig_int hd, Nat.le_of_ble_eq_true rfl, ?_⟩
          walk_at "cgo"
          exact ⟨_, _, st, rfl, rfl⟩
        | false =>
          rw [hd] at st
          walk_at "cgo"
          rw [digs_stop st] at q
          exact q
      · rintro _ _ ⟨m, y, em, rfl, rfl⟩
        rw [List.take_length] at em
        walk_at "cgo"
        rw [em] at q
        exact q
theorem ok_whole_in (T : Txt w K mg) : FnOk P w K mg base CX0 3 T.p_whole_in.f T.p_whole_in.fd ["text"] (spTx wholeV) := by
  refine T.p_whole_in.F.ok sc_whole_in (fun vs H Q E h => ?_) (fun cdv A outer s H vs Q E hr h => ?_)
  · obtain ⟨z, rfl, _⟩ := h
    rfl
  · obtain ⟨z, rfl, hl, q⟩ := h
    refine ⟨_, (pss_cons (ps_if (pt_not (pt_truth (pe_m1 PySem.F.slot_str_startswith PySem.F.type_str_startswith mt_startswith (pv 0) pe_str) (fun _ => rfl)))
 (pss_one (ps_ret (pe_call (ok_natural_in T) (hr.mono (by decide)) (by rfl) T.p_natural_in.g T.p_natural_in.F.kp T.p_natural_in.b .nil pass0 (pa_cons (pv 0) pa_nil))))
 pss_nil)
(pss_cons (ps_set (i := 1) sc_whole_in.nd rfl (.inl rfl) (pe_call (ok_natural_in T) (hr.mono (by decide)) (by rfl) T.p_natural_in.g T.p_natural_in.F.kp T.p_natural_in.b .nil pass0 (pa_cons (pe_slice sl_str (pv 0) (po_some pe_int) po_none) pa_nil)))
(pss_cons (ps_if ((pw_or (pt_cmpR op_isN (pv 1) pe_non (nomark _)) (pw_or1 (pt_cmpR op_eq (pv 1) pe_int (nomark _))))).pt
 (pss_one (ps_ret pe_non))
 pss_nil)
(pss_one (ps_ret (pe_un un_neg (pv 1))))))), ?_⟩
    walk_at "cgo"
    refine ⟨⟨z, rfl⟩, ?_⟩
    walk_at "cgo"
    refine ⟨_, _, rfl, rfl, ?_⟩
    have q : Q (opt (LN.wholeF z)) H := q
    unfold LN.wholeF at q
    cases hs : Txt.startswith z "-" with
    | false =>
      rw [hs] at q
      refine ⟨false, rfl, ?_⟩
      walk_at "cgo"
      exact ⟨z, rfl, hl, q⟩
    | true =>
      rw [hs] at q
      refine ⟨true, rfl, ?_⟩
      walk_at "cgo"
      refine ⟨z, rfl, R.size_of (by omega), ?_⟩
      walk_at "cgo"
      refine ⟨_, rfl, Nat.le_trans (cutS_length _ _ _) hl, ?_⟩
      walk_at "cgo"
      cases hn : LN.natF (cutS z (some 1) none) with
      | none =>
        rw [hn] at q
        refine ⟨rfl, ?_⟩
        rw [show natV (cutS z (some 1) none) = .non by unfold natV; rw [hn]; rfl]
        walk_at "cgo"
        exact q
      | some n =>
        rw [hn] at q
        refine ⟨rfl, ?_⟩
        rw [show natV (cutS z (some 1) none) = .int n by unfold natV; rw [hn]; rfl]
        rw [show decide (V.int n = V.non) = false from decide_eq_false (by nofun)]
        walk_at "cgo"
        have q : Q (opt (if n = 0 then none else some (-n))) H := q
        refine R.r_ite (fun c => ?_) (fun c => ?_)
        · walk_at "cgo"
          rw [if_pos c] at q
          exact q
        · walk_at "cgo"
          rw [if_neg c] at q
          exact q
end
end K52
end
section
local macro_rules | `(tactic| walk_at "s1") => `(tactic| first
  | ((with_reducible apply R.r_var); · rfl)
  | with_reducible apply R.r_c
  | with_reducible apply R.r_op
  | with_reducible apply R.r_I0
  | with_reducible apply R.r_cb
  | with_reducible apply R.r_cons
  | with_reducible apply R.r_nil
  | with_reducible apply R.r_seq
  | with_reducible apply R.r_asg
  | with_reducible apply R.r_ret
  | with_reducible apply R.r_ifS
  | with_reducible apply R.r_test
  | with_reducible apply R.r_t
  | with_reducible apply R.r_f
  | with_reducible apply R.r_nt
  | with_reducible apply R.r_nf
  | with_reducible apply R.r_bl
  | with_reducible apply R.r_U
  | with_reducible apply R.r_un
  | with_reducible apply R.r_eqI
  | with_reducible apply R.r_eqS
  | with_reducible apply R.r_neI
  | with_reducible apply R.r_neS
  | with_reducible apply R.r_and
  | with_reducible apply R.r_or
  | with_reducible apply R.r_not
  | with_reducible apply R.r_andV
  | with_reducible apply R.r_orV
  | with_reducible apply R.r_notV
  | with_reducible apply R.r_blV
  | with_reducible apply R.r_B
  | with_reducible apply R.r_ifE
  | with_reducible apply R.r_tup
  | with_reducible apply R.r_lst
  | with_reducible apply R.r_call
  | with_reducible apply R.r_drop
  | with_reducible apply R.r_next
  | with_reducible apply R.r_abs
  | with_reducible apply R.r_int1
  | with_reducible apply R.r_int1b
  | with_reducible apply R.r_min2
  | with_reducible apply R.r_bm
  | with_reducible apply R.r_bm0
  | with_reducible apply R.r_dget
  | with_reducible apply R.r_dput
  | with_reducible apply R.r_disp
  | with_reducible apply R.r_pnil
  | with_reducible apply R.r_pcons
  | with_reducible apply R.r_fld
  | with_reducible apply R.r_slice
  | with_reducible apply R.r_nopart
  | with_reducible apply R.r_part
  | with_reducible apply R.r_int
  | with_reducible apply R.r_yes
  | with_reducible apply R.r_retN
  | with_reducible apply R.r_asgG
  | with_reducible apply R.r_gname
  | with_reducible apply R.r_rng1
  | with_reducible apply R.r_brk
  | with_reducible apply R.r_cnt
  | with_reducible apply R.r_m1
  | with_reducible apply R.r_lcr
  | with_reducible apply R.r_p2_63
  | with_reducible apply R.r_p2_64
  | with_reducible apply R.r_p2_32
  | with_reducible apply R.r_p2_31
  | with_reducible apply R.r_p10_18
  | with_reducible apply R.r_p10_30
  | with_reducible refine R.r_mod (by omega) ?_
  | with_reducible refine R.r_div (by omega) ?_
  | with_reducible refine R.r_mulR (by omega) ?_
  | with_reducible refine R.r_mulL (by omega) ?_
  | with_reducible refine R.r_iteY (by decide +kernel) ?_
  | with_reducible refine R.r_iteF (by decide +kernel) ?_
  | with_reducible refine R.r_isi R.isi_int ?_
  | with_reducible refine R.r_isi R.isi_intB ?_)
local macro_rules | `(tactic| walk_at "go") => `(tactic| repeat (walk_at "s1"))

local macro_rules | `(tactic| walk_at "b1") => `(tactic| first
  | walk_at "s1"
  | with_reducible apply MM.r_meth
  | with_reducible apply MM.r_make
  | with_reducible apply MM.r_sfld
  | with_reducible apply MM.r_gsub
  | with_reducible apply MM.r_chain
  | with_reducible apply MM.r_daug
  | with_reducible apply MM.r_add
  | with_reducible apply MM.r_ip
  | with_reducible apply MM.r_din
  | with_reducible apply MM.r_dnotin
  | with_reducible apply BF.r_faug
  | with_reducible apply BF.r_sub)
local macro_rules | `(tactic| walk_at "bgo") => `(tactic| repeat (walk_at "b1"))

namespace K52
open PySem PySem.Spec PyProof.Rows L2
open BF (Vl VlAt)
open WT (dT decF)
def spDecimal : Sp := fun vs H Q _ => ∃ n : Int, vs = [.int n] ∧ 0 ≤ n ∧ n ≤ 9223372036854775808 ∧ ∀ H', Same H H' → Q (.str (decF n)) H'
def spDec : Sp := fun vs H Q _ => ∃ n : Int, vs = [.int n] ∧ -9223372036854775808 ≤ n ∧ n ≤ 9223372036854775807 ∧ ∀ H', Same H H' → Q (.str (dT n)) H'
def spDecN : Sp := fun vs H Q _ => ∃ n : Int, vs = [.int n] ∧ n < 0 ∧ -9223372036854775808 ≤ n ∧ ∀ H', Same H H' → Q (.str (dT n)) H'
section
variable {P : Program} {w : World} {K : PySem.W.Frag} {mg : Str → Option Value} {base : Heap}
theorem ok_decimal0 (T : Txt w K mg) : FnOk P w K mg base CX0 1 T.p_decimal.f T.p_decimal.fd ["n"] (fun _ _ _ _ => False) := by
  refine T.p_decimal.F.ok sc_decimal (fun vs H Q E h => h.elim) (fun cdv A outer s H vs Q E hr h => h.elim)
theorem ok_decimal (T : Txt w K mg) : FnOk P w K mg base CX0 2 T.p_decimal.f T.p_decimal.fd ["n"] spDecimal := by
  refine T.p_decimal.F.ok sc_decimal (fun vs H Q E h => ?_) (fun cdv A outer s H vs Q E hr h => ?_)
  · obtain ⟨n, rfl, _⟩ := h
    rfl
  · obtain ⟨n, rfl, h0, h1, q⟩ := h
    have hz : (Txt.zfill (dT (n % 1000000000000000000)) 18).length ≤ 20 := Nat.le_trans (WT.zfill_len h0) (by decide)
    refine ⟨_, (pss_cons (ps_if (pt_cmpR op_lt (pv 0) pe_int (nomark _))
 (pss_one (ps_ret (pe_op op_add_str pe_str (pe_call (ok_decimal0 T) (hr.mono (by decide)) (by rfl) T.p_decimal.g T.p_decimal.F.kp T.p_decimal.b .nil pass0 (pa_cons (pe_un un_neg (pv 0)) pa_nil)))))
 pss_nil)
(pss_cons (ps_set (i := 1) sc_decimal.nd rfl (.inl rfl) (pe_lst pa_nil))
(pss_cons (ps_while PassesOwn.never (pt_cmpR op_ge (pv 0) (pe_glob (by rfl) T.c_PIECES T.r_PIECES) (nomark _))
 (pss_cons (ps_asg (pe_callB call_divmodW (by rfl) T.m_divmod (by decide +kernel) (pa_cons (pv 0) (pa_cons (pe_glob (by rfl) T.c_PIECES T.r_PIECES) pa_nil))) (pg_tup rfl (pgs_cons (pg_name (i := 0) sc_decimal.nd rfl (.inl rfl)) (pgs_cons (pg_name (i := 2) sc_decimal.nd rfl (.inl rfl)) pgs_nil))))
(pss_one (ps_expr (pe_bm PySem.F.plainAttrs_list PySem.F.slot_list_append PySem.F.type_list_append mt_append (pv 1) (pa_cons (pe_bm PySem.F.plainAttrs_str PySem.F.slot_str_zfill PySem.F.type_str_zfill mt_zfill (pe_callTy BF.cStrZ (by rfl) T.m_str (by decide +kernel) (pa_cons (pv 2) pa_nil)) (pa_cons (pe_glob (by rfl) T.c_PIECE T.r_PIECE) pa_nil)) pa_nil))))))
(pss_cons (ps_expr (pe_bm PySem.F.plainAttrs_list PySem.F.slot_list_append PySem.F.type_list_append mt_append (pv 1) (pa_cons (pe_callTy BF.cStrZ (by rfl) T.m_str (by decide +kernel) (pa_cons (pv 0) pa_nil)) pa_nil)))
(pss_one (ps_ret (pe_join pe_str (TR.pe_listRev rfl (by rfl) T.m_list (by rfl) T.m_reversed (pv 1))))))))), ?_⟩
    walk_at "bgo"
    refine R.r_iteF (by omega) ?_
    walk_at "bgo"
    refine ⟨Nat.zero_le _, fun p hp => ?_⟩
    generalize hu : upd _ p _ = H1
    obtain ⟨s1, e1⟩ := MM.new2 hu hp
    clear hu
    walk_at "bgo"
    refine ⟨fun m σ H' => ∃ (k : Int) (zs : List Str) (y : Option V), σ = [some (.int k), some (.ref p), y] ∧ Same H H' ∧ H' p = some (.lst (zs.map V.str)) ∧ m = (if k < 1000000000000000000 then 0 else 1) ∧ (k = n ∧ zs = [] ∨ ¬ n < 1000000000000000000 ∧ k = n / 1000000000000000000 ∧ zs = [Txt.zfill (dT (n % 1000000000000000000)) 18]), ⟨_, n, [], none, rfl, s1, e1, rfl, .inl ⟨rfl, rfl⟩⟩, ?_⟩
    rintro m _ H2 ⟨k, zs, y, rfl, s2, e2, rfl, hk⟩
    walk_at "bgo"
    refine R.r_ite (fun c => ?_) (fun c => ?_)
    · have hkn : k = n ∧ zs = [] := hk.elim id fun h => absurd c (by omega)
      obtain ⟨rfl, rfl⟩ := hkn
      refine ⟨fun σ' H' => σ' = [some (.int (k / 1000000000000000000)), some (.ref p), some (.int (k % 1000000000000000000))] ∧ Same H H' ∧ H' p = some (.lst ([Txt.zfill (dT (k % 1000000000000000000)) 18].map V.str)), fun σ' H' h => ⟨0, ?_, k / 1000000000000000000, _, _, h.1, h.2.1, h.2.2, ?_, .inr ⟨?_, rfl, rfl⟩⟩, ?_⟩
      · rw [if_neg (by omega)]
        exact Nat.zero_lt_one
      · rw [if_pos (by omega)]
      · omega
      walk_at "bgo"
      refine ⟨_, _, rfl, ⟨by omega, PyProof.noPylong_of_log2 (by decide +kernel)⟩, fun t ht => ?_⟩
      generalize hu : upd H2 t _ = H3
      obtain ⟨s3, e3⟩ := MM.new2 hu ht
      clear hu
      walk_at "bgo"
      refine ⟨t, _, rfl, R.sqT e3, rfl, _, _, rfl, _, _, rfl, rfl, ?_⟩
      walk_at "bgo"
      have e2' : H3 p = some (.lst []) := s3 _ _ e2
      refine ⟨.inl ⟨rfl, _, R.sqL e2'⟩, ?_⟩
      walk_at "bgo"
      refine .inl ⟨_, rfl, RD.log_small (by omega) (by omega), ?_⟩
      refine ⟨rfl, ?_⟩
      walk_at "bgo"
      refine ⟨_, _, rfl, rfl, by decide +kernel, ?_⟩
      walk_at "bgo"
      refine ⟨_, _, _, rfl, rfl, e2', by decide, ?_⟩
      exact ⟨rfl, CR.same_acc hp (s2.trans s3), upd_same⟩
    · walk_at "bgo"
      refine ⟨.inl ⟨rfl, _, R.sqL e2⟩, ?_⟩
      walk_at "bgo"
      have k0 : 0 ≤ k ∧ k < 1000000000000000000 := by
        rcases hk with ⟨rfl, rfl⟩ | ⟨_, rfl, _⟩ <;> omega
      refine .inl ⟨k, rfl, RD.log_small k0.1 k0.2, ?_⟩
      have zl : zs.length ≤ 1 ∧ (zs.map (·.length)).sum ≤ 20 := by
        rcases hk with ⟨rfl, rfl⟩ | ⟨_, rfl, rfl⟩
        · exact ⟨Nat.zero_le _, Nat.zero_le _⟩
        · refine ⟨Nat.le_refl _, ?_⟩
          show (Txt.zfill (dT (n % 1000000000000000000)) 18).length + 0 ≤ 20
          omega
      refine ⟨_, _, _, rfl, rfl, e2, R.size_lt (by rw [List.length_map]; omega), ?_⟩
      generalize hu : upd _ p _ = H3
      have s3 : Same H H3 := hu ▸ CR.same_acc hp s2
      have e3 : H3 p = some (.lst ((zs ++ [dT k]).map V.str)) := by rw [← hu, List.map_append]; exact upd_same
      clear hu
      walk_at "bgo"
      refine ⟨⟨_, rfl⟩, ?_⟩
      refine TR.r_lr ?_
      walk_at "bgo"
      refine ⟨_, _, rfl, R.sqL e3, fun r hr' => ?_⟩
      generalize hu : upd _ r _ = H4
      obtain ⟨s4, e4⟩ := MM.new2 hu hr'
      clear hu
      rw [← List.map_reverse, List.reverse_append] at e4
      refine ⟨_, r, _, rfl, rfl, .inl (R.sqL e4), ?_, ?_⟩
      · have := RD.decT_len k0.1 k0.2
        have this : (dT k).length ≤ 20 := Nat.le_trans this (by decide)
        have e : (([dT k].reverse ++ zs.reverse).map (·.length)).sum = (dT k).length + (zs.map (·.length)).sum := by
          rw [List.map_append, List.sum_append, List.map_reverse, List.map_reverse, List.sum_reverse, List.sum_reverse]
          simp
        rw [e]
        show (dT k).length + (zs.map (·.length)).sum + ([dT k].reverse ++ zs.reverse).length * 0 ≤ _
        omega
      · have e : Txt.join "" ([dT k].reverse ++ zs.reverse) = decF n := by
          rcases hk with ⟨rfl, rfl⟩ | ⟨h2, rfl, rfl⟩
          · unfold decF
            rw [if_pos (by omega)]
            rfl
          · unfold decF
            rw [if_neg h2]
            rfl
        rw [e]
        exact q H4 (s3.trans s4)
theorem ok_decimalN (T : Txt w K mg) : FnOk P w K mg base CX0 3 T.p_decimal.f T.p_decimal.fd ["n"] spDecN := by
  refine T.p_decimal.F.ok sc_decimal (fun vs H Q E h => ?_) (fun cdv A outer s H vs Q E hr h => ?_)
  · obtain ⟨n, rfl, _⟩ := h
    rfl
  · obtain ⟨n, rfl, h0, h1, q⟩ := h
    refine ⟨_, (pss_cons (ps_if (pt_cmpR op_lt (pv 0) pe_int (nomark _))
 (pss_one (ps_ret (pe_op op_add_str pe_str (pe_call (ok_decimal T) (hr.mono (by decide)) (by rfl) T.p_decimal.g T.p_decimal.F.kp T.p_decimal.b .nil pass0 (pa_cons (pe_un un_neg (pv 0)) pa_nil)))))
 pss_nil)
(pss_cons (ps_set (i := 1) sc_decimal.nd rfl (.inl rfl) (pe_lst pa_nil))
(pss_cons (ps_while PassesOwn.never (pt_cmpR op_ge (pv 0) (pe_glob (by rfl) T.c_PIECES T.r_PIECES) (nomark _))
 (pss_cons (ps_asg (pe_callB call_divmodW (by rfl) T.m_divmod (by decide +kernel) (pa_cons (pv 0) (pa_cons (pe_glob (by rfl) T.c_PIECES T.r_PIECES) pa_nil))) (pg_tup rfl (pgs_cons (pg_name (i := 0) sc_decimal.nd rfl (.inl rfl)) (pgs_cons (pg_name (i := 2) sc_decimal.nd rfl (.inl rfl)) pgs_nil))))
(pss_one (ps_expr (pe_bm PySem.F.plainAttrs_list PySem.F.slot_list_append PySem.F.type_list_append mt_append (pv 1) (pa_cons (pe_bm PySem.F.plainAttrs_str PySem.F.slot_str_zfill PySem.F.type_str_zfill mt_zfill (pe_callTy BF.cStrZ (by rfl) T.m_str (by decide +kernel) (pa_cons (pv 2) pa_nil)) (pa_cons (pe_glob (by rfl) T.c_PIECE T.r_PIECE) pa_nil)) pa_nil))))))
(pss_cons (ps_expr (pe_bm PySem.F.plainAttrs_list PySem.F.slot_list_append PySem.F.type_list_append mt_append (pv 1) (pa_cons (pe_callTy BF.cStrZ (by rfl) T.m_str (by decide +kernel) (pa_cons (pv 0) pa_nil)) pa_nil)))
(pss_one (ps_ret (pe_join pe_str (TR.pe_listRev rfl (by rfl) T.m_list (by rfl) T.m_reversed (pv 1))))))))), ?_⟩
    walk_at "bgo"
    refine R.r_ite (fun _ => ?_) (fun c => absurd h0 c)
    walk_at "bgo"
    refine ⟨-n, rfl, by omega, by omega, fun H' s => ?_⟩
    walk_at "bgo"
    obtain ⟨m, rfl⟩ : ∃ m : Nat, n = -(m : Int) := ⟨n.natAbs, by omega⟩
    have e : decF (-(-(m : Int))) = dT (m : Int) := by
      rw [Int.neg_neg]
      exact WT.decF_eq (by omega)
    have ln : (dT (m : Int)).length ≤ 20 := WT.dT_len (by omega) (by omega)
    refine ⟨_, _, rfl, rfl, R.size_of (by rw [e]; show 1 + _ ≤ _; omega), ?_⟩
    rw [e, show (Str.ofString "-") ++ dT (m : Int) = dT (-(m : Int)) from WT.neg_eq (by omega)]
    exact q H' s
theorem ok_dec (T : Txt w K mg) : FnOk P w K mg base CX0 3 T.p_decimal.f T.p_decimal.fd ["n"] spDec := by
  have F1 := (ok_decimal (P := P) (w := w) (base := base) T).mono (show 2 ≤ 3 by decide)
  have F2 := ok_decimalN (P := P) (w := w) (base := base) T
  have pick : ∀ vs H Q E, spDec vs H Q E → spDecimal vs H Q E ∨ spDecN vs H Q E := by
    rintro vs H Q E ⟨n, rfl, h1, h2, q⟩
    by_cases h : n < 0
    · exact .inr ⟨n, rfl, h, h1, q⟩
    · exact .inl ⟨n, rfl, by omega, by omega, by rw [WT.decF_eq (by omega)]; exact q⟩
  exact ⟨fun vs H Q E h => (pick vs H Q E h).elim (F1.len vs H Q E) (F2.len vs H Q E), fun A outer s H args us vs Q E hr he hb hv hs => (pick vs H Q E hs).elim (F1.run A outer s H args us vs Q E hr he hb hv) (F2.run A outer s H args us vs Q E hr he hb hv)⟩
end
end K52
end
section
local macro_rules | `(tactic| walk_at "s1") => `(tactic| first
  | ((with_reducible apply R.r_var); · rfl)
  | with_reducible apply R.r_c
  | with_reducible apply R.r_op
  | with_reducible apply R.r_I0
  | with_reducible apply R.r_cb
  | with_reducible apply R.r_cons
  | with_reducible apply R.r_nil
  | with_reducible apply R.r_seq
  | with_reducible apply R.r_asg
  | with_reducible apply R.r_ret
  | with_reducible apply R.r_ifS
  | with_reducible apply R.r_test
  | with_reducible apply R.r_t
  | with_reducible apply R.r_f
  | with_reducible apply R.r_nt
  | with_reducible apply R.r_nf
  | with_reducible apply R.r_bl
  | with_reducible apply R.r_U
  | with_reducible apply R.r_un
  | with_reducible apply R.r_eqI
  | with_reducible apply R.r_eqS
  | with_reducible apply R.r_neI
  | with_reducible apply R.r_neS
  | with_reducible apply R.r_and
  | with_reducible apply R.r_or
  | with_reducible apply R.r_not
  | with_reducible apply R.r_andV
  | with_reducible apply R.r_orV
  | with_reducible apply R.r_notV
  | with_reducible apply R.r_blV
  | with_reducible apply R.r_B
  | with_reducible apply R.r_ifE
  | with_reducible apply R.r_tup
  | with_reducible apply R.r_lst
  | with_reducible apply R.r_call
  | with_reducible apply R.r_drop
  | with_reducible apply R.r_next
  | with_reducible apply R.r_abs
  | with_reducible apply R.r_int1
  | with_reducible apply R.r_int1b
  | with_reducible apply R.r_min2
  | with_reducible apply R.r_bm
  | with_reducible apply R.r_bm0
  | with_reducible apply R.r_dget
  | with_reducible apply R.r_dput
  | with_reducible apply R.r_disp
  | with_reducible apply R.r_pnil
  | with_reducible apply R.r_pcons
  | with_reducible apply R.r_fld
  | with_reducible apply R.r_slice
  | with_reducible apply R.r_nopart
  | with_reducible apply R.r_part
  | with_reducible apply R.r_int
  | with_reducible apply R.r_yes
  | with_reducible apply R.r_retN
  | with_reducible apply R.r_asgG
  | with_reducible apply R.r_gname
  | with_reducible apply R.r_rng1
  | with_reducible apply R.r_brk
  | with_reducible apply R.r_cnt
  | with_reducible apply R.r_m1
  | with_reducible apply R.r_lcr
  | with_reducible apply R.r_p2_63
  | with_reducible apply R.r_p2_64
  | with_reducible apply R.r_p2_32
  | with_reducible apply R.r_p2_31
  | with_reducible apply R.r_p10_18
  | with_reducible apply R.r_p10_30
  | with_reducible refine R.r_mod (by omega) ?_
  | with_reducible refine R.r_div (by omega) ?_
  | with_reducible refine R.r_mulR (by omega) ?_
  | with_reducible refine R.r_mulL (by omega) ?_
  | with_reducible refine R.r_iteY (by decide +kernel) ?_
  | with_reducible refine R.r_iteF (by decide +kernel) ?_
  | with_reducible refine R.r_isi R.isi_int ?_
  | with_reducible refine R.r_isi R.isi_intB ?_)
local macro_rules | `(tactic| walk_at "go") => `(tactic| repeat (walk_at "s1"))

local macro_rules | `(tactic| walk_at "b1") => `(tactic| first
  | walk_at "s1"
  | with_reducible apply MM.r_meth
  | with_reducible apply MM.r_make
  | with_reducible apply MM.r_sfld
  | with_reducible apply MM.r_gsub
  | with_reducible apply MM.r_chain
  | with_reducible apply MM.r_daug
  | with_reducible apply MM.r_add
  | with_reducible apply MM.r_ip
  | with_reducible apply MM.r_din
  | with_reducible apply MM.r_dnotin
  | with_reducible apply BF.r_faug
  | with_reducible apply BF.r_sub)
local macro_rules | `(tactic| walk_at "bgo") => `(tactic| repeat (walk_at "b1"))

namespace K52
open PySem PySem.Spec PyProof.Rows L2
theorem opt_eq (z : Str) : wholeV z = match LN.wholeF z with | some n => V.int n | none => V.non := by
  unfold wholeV
  cases LN.wholeF z <;> rfl
section
variable {P : Program} {w : World} {K : PySem.W.Frag} {mg : Str → Option Value} {base : Heap}
theorem ok_RowReader___init__ (T : Txt w K mg) : FnOk P w K mg base CX0 1 T.p_RowReader___init__.f T.p_RowReader___init__.fd ["self", "line"] (WT.spIni T.c_RowReader.a) := by
  refine T.p_RowReader___init__.F.ok sc_RowReader___init__ (fun vs H Q E h => ?_) (fun cdv A outer s H vs Q E hr h => ?_)
  · obtain ⟨o, dx, z, rfl, _⟩ := h
    rfl
  · obtain ⟨o, dx, z, rfl, e, hz, q⟩ := h
    refine ⟨_, (pss_cons (ps_fld (pv 0) (pe_split (pv 1) pe_str) rfl)
(pss_one (ps_fld (pv 0) pe_int rfl))), ?_⟩
    walk_at "bgo"
    refine ⟨⟨_, rfl⟩, ?_⟩
    walk_at "bgo"
    refine ⟨_, _, rfl, rfl, rfl, R.size_of (by omega), fun l hl => ?_⟩
    generalize hu : upd _ l _ = H1
    obtain ⟨s1, e1⟩ := MM.new2 hu hl
    clear hu
    walk_at "bgo"
    have e0 := s1 _ _ e
    have nl : l ≠ o := fun z => by rw [z, e] at hl; cases hl
    refine ⟨_, _, _, _, rfl, e0, T.c_RowReader.cl, T.n_RowReader.words, Nat.le_of_ble_eq_true rfl, ?_⟩
    generalize hu2 : upd H1 o _ = H2
    have e2 := upd_same.symm.trans (congrFun hu2 o) |>.symm
    have m2 : R.Mv o H1 H2 := hu2 ▸ R.Mv.upd
    clear hu2
    walk_at "bgo"
    refine ⟨_, _, _, _, rfl, e2, T.c_RowReader.cl, T.n_RowReader.place, Nat.le_of_ble_eq_true rfl, ?_⟩
    generalize hu3 : upd H2 o _ = H3
    have e3 := upd_same.symm.trans (congrFun hu3 o) |>.symm
    have m3 : R.Mv o H1 H3 := m2.trans (hu3 ▸ R.Mv.upd)
    clear hu3
    walk_at "bgo"
    exact q l H3 ((R.Mv.of s1).trans m3) hl ⟨dx, WT.sp z, 0, e3, m3 _ _ e1 nl, Nat.zero_le _, rfl, z, hz.1, hz.2, rfl⟩
theorem ok_RowReader_take (T : Txt w K mg) : FnOk P w K mg base CX0 1 T.p_RowReader_take.f T.p_RowReader_take.fd ["self"] (WT.spTake T.c_RowReader.a) := by
  refine T.p_RowReader_take.F.ok sc_RowReader_take (fun vs H Q E h => ?_) (fun cdv A outer s H vs Q E hr h => ?_)
  · obtain ⟨o, l, r, rfl, _⟩ := h
    rfl
  · obtain ⟨o, l, r, rfl, R0, q⟩ := h
    obtain ⟨dx, ws, p, e, el, hp, rfl, ok⟩ := id R0
    have hl := ok.len
    refine ⟨_, (pss_cons (ps_if (pt_cmpR op_eq (pe_fld (pv 0) rfl) (pe_callB R.cLenS (by rfl) T.m_len (by decide +kernel) (pa_cons (pe_fld (pv 0) rfl) pa_nil)) (nomark _))
 (pss_one (ps_ret pe_str))
 pss_nil)
(pss_cons (ps_fldaug (pv 0) pe_int in_add)
(pss_one (ps_ret (pe_ix ix_list (pe_fld (pv 0) rfl) (pe_op op_sub (pe_fld (pv 0) rfl) pe_int) (fun _ _ => rfl)))))), ?_⟩
    walk_at "bgo"
    refine ⟨_, _, _, _, _, rfl, e, T.c_RowReader.cl, T.n_RowReader.place, rfl, ?_⟩
    walk_at "bgo"
    refine ⟨_, _, _, _, _, rfl, e, T.c_RowReader.cl, T.n_RowReader.words, rfl, ?_⟩
    walk_at "bgo"
    refine R.r_lenL (R.sqL el) ?_
    walk_at "bgo"
    rw [List.length_map]
    refine R.r_ite (fun c => ?_) (fun c => ?_)
    · walk_at "bgo"
      have e0 : ws.drop p = [] := List.drop_eq_nil_of_le (by omega)
      rw [e0] at q R0
      exact q H R.Mv.refl R0 ⟨Nat.zero_le _, by decide +kernel⟩
    · walk_at "bgo"
      refine ⟨_, _, _, _, _, rfl, e, T.c_RowReader.cl, T.n_RowReader.place, rfl, ?_⟩
      walk_at "bgo"
      refine ⟨dx, _, e, Nat.le_of_ble_eq_true rfl, ?_⟩
      generalize hu : upd H o _ = H1
      have e1 := upd_same.symm.trans (congrFun hu o) |>.symm
      have m1 : R.Mv o H H1 := hu ▸ R.Mv.upd
      clear hu
      have el1 := m1 _ _ el (fun z => by rw [z, e] at el; cases el)
      walk_at "bgo"
      refine ⟨_, _, _, _, _, rfl, e1, T.c_RowReader.cl, T.n_RowReader.words, rfl, ?_⟩
      walk_at "bgo"
      refine ⟨_, _, _, _, _, rfl, e1, T.c_RowReader.cl, T.n_RowReader.place, rfl, ?_⟩
      walk_at "bgo"
      have hlt : p < ws.length := by omega
      have ew : ws[p]? = some ws[p] := List.getElem?_eq_getElem hlt
      have et := WT.tk1_drop ew
      rw [et] at q
      refine R.r_ixL (v := .str ws[p]) (R.sqL el1) (R.at_nat (by omega) (by rw [show ((p : Int) + 1 - 1).toNat = p by omega, List.getElem?_map, ew]; rfl)) ?_
      exact q H1 m1 ⟨dx, ws, p + 1, e1, el1, hlt, rfl, ok⟩ (ok.word (List.getElem_mem hlt))
theorem ok_RowReader_read_places (T : Txt w K mg) : FnOk P w K mg base CX0 3 T.p_RowReader_read_places.f T.p_RowReader_read_places.fd ["self"] (WT.spRead T.c_RowReader.a WT.lsF) := by
  refine T.p_RowReader_read_places.F.ok sc_RowReader_read_places (fun vs H Q E h => ?_) (fun cdv A outer s H vs Q E hr h => ?_)
  · obtain ⟨o, l, r, rfl, _⟩ := h
    rfl
  · obtain ⟨o, l, r, rfl, R0, q⟩ := h
    obtain ⟨_, _, e0⟩ := R0.ins
    refine ⟨_, (pss_cons (ps_set (i := 1) sc_RowReader_read_places.nd rfl (.inl rfl) (pe_call (ok_natural_in T) (hr.mono (by decide)) (by rfl) T.p_natural_in.g T.p_natural_in.F.kp T.p_natural_in.b .nil pass0 (pa_cons (pe_meth0 (pv 0) T.c_RowReader.cl T.p_RowReader_take.me (ok_RowReader_take T) (hr.mono (by decide)) T.p_RowReader_take.b .nil pass0) pa_nil)))
(pss_cons (ps_if (pt_cmpR op_isN (pv 1) pe_non (nomark _))
 (pss_one (ps_ret pe_non))
 pss_nil)
(pss_cons (ps_set (i := 2) sc_RowReader_read_places.nd rfl (.inl rfl) (pe_lst pa_nil))
(pss_cons (ps_while PassesOwn.never (pt_cmpR op_lt (pe_callB R.cLenS (by rfl) T.m_len (by decide +kernel) (pa_cons (pv 2) pa_nil)) (pv 1) (nomark _))
 (pss_cons (ps_set (i := 3) sc_RowReader_read_places.nd rfl (.inl rfl) (pe_call (ok_natural_in T) (hr.mono (by decide)) (by rfl) T.p_natural_in.g T.p_natural_in.F.kp T.p_natural_in.b .nil pass0 (pa_cons (pe_meth0 (pv 0) T.c_RowReader.cl T.p_RowReader_take.me (ok_RowReader_take T) (hr.mono (by decide)) T.p_RowReader_take.b .nil pass0) pa_nil)))
(pss_cons (ps_if (pt_cmpR op_isN (pv 3) pe_non (nomark _))
 (pss_one (ps_ret pe_non))
 pss_nil)
(pss_one (ps_expr (pe_bm PySem.F.plainAttrs_list PySem.F.slot_list_append PySem.F.type_list_append mt_append (pv 2) (pa_cons (pv 3) pa_nil)))))))
(pss_one (ps_ret (pe_callTy MM.cTupOf (by rfl) T.m_tuple (by decide +kernel) (pa_cons (pv 2) pa_nil)))))))), ?_⟩
    walk_at "bgo"
    refine ⟨_, _, _, rfl, e0, rfl, ?_⟩
    refine ⟨o, l, r, rfl, R0, fun H1 m1 R1 t1 => ?_⟩
    refine ⟨_, rfl, by omega, ?_⟩
    cases hn : LN.natF (WT.tk1 r).1 with
    | none =>
      rw [show natV (WT.tk1 r).1 = .non by unfold natV; rw [hn]; rfl]
      walk_at "bgo"
      refine ⟨rfl, ?_⟩
      walk_at "bgo"
      rw [WT.lsF_none hn] at q
      exact q H1 _ m1 R1 .non trivial
    | some n =>
      rw [show natV (WT.tk1 r).1 = .int n by unfold natV; rw [hn]; rfl]
      have n0 := WT.natF_nn hn
      walk_at "bgo"
      refine ⟨rfl, ?_⟩
      rw [show decide (V.int n = V.non) = false from decide_eq_false (by nofun)]
      walk_at "bgo"
      refine ⟨Nat.le_of_ble_eq_true rfl, fun p hp => ?_⟩
      generalize hu : upd _ p _ = H2
      obtain ⟨s2, e2⟩ := MM.new2 hu hp
      clear hu
      have np := R1.ne hp
      have l1 := R1.len
      walk_at "bgo"
      refine ⟨fun m σ H' => ∃ (ns : List Int) (r' : List Str) (y : Option V), σ = [some (.ref o), some (.int n), some (.ref p), y] ∧ R.Mv o H1 H' ∧ H' p = some (.lst (ns.map V.int)) ∧ WT.Rdr T.c_RowReader.a H' o l r' ∧ WT.PlI (WT.plF (WT.tk1 r).2 n.toNat) ns r' (n.toNat - ns.length) ∧ ns.length ≤ n.toNat ∧ ns.length + r'.length = (WT.tk1 r).2.length ∧ m = n.toNat - ns.length, ⟨_, [], (WT.tk1 r).2, none, rfl, R.Mv.of s2, e2, R1.same s2, WT.PlI.start, Nat.zero_le _, Nat.zero_add _, rfl⟩, ?_⟩
      rintro m _ H3 ⟨ns, r', y, rfl, m3, e3, R3, pl, hle, hlen, rfl⟩
      walk_at "bgo"
      refine R.r_lenL (R.sqL e3) ?_
      walk_at "bgo"
      rw [List.length_map]
      refine R.r_ite (fun c => ?_) (fun c => ?_)
      · obtain ⟨j, hj⟩ : ∃ j, n.toNat - ns.length = j + 1 := ⟨n.toNat - ns.length - 1, by omega⟩
        rw [hj] at pl ⊢
        refine ⟨fun σ' H' => ∃ (ns' : List Int) (r' : List Str) (y : Option V), σ' = [some (.ref o), some (.int n), some (.ref p), y] ∧ R.Mv o H1 H' ∧ H' p = some (.lst (ns'.map V.int)) ∧ WT.Rdr T.c_RowReader.a H' o l r' ∧ WT.PlI (WT.plF (WT.tk1 r).2 n.toNat) ns' r' j ∧ ns'.length = ns.length + 1 ∧ ns'.length + r'.length = (WT.tk1 r).2.length, fun σ' H' h => ?_, ?_⟩
        · obtain ⟨ns', r2, y2, hs, h1, h2, h3, h4, h5, h6⟩ := h
          refine ⟨j, Nat.lt_succ_self j, ns', r2, y2, hs, h1, h2, h3, ?_, by omega, h6, by omega⟩
          rw [show n.toNat - ns'.length = j by omega]
          exact h4
        walk_at "bgo"
        obtain ⟨_, _, e4⟩ := R3.ins
        refine ⟨_, _, _, rfl, e4, rfl, ?_⟩
        refine ⟨o, l, r', rfl, R3, fun H4 m4 R4 t4 => ?_⟩
        refine ⟨_, rfl, by omega, ?_⟩
        have m14 := m3.trans m4
        have e5 := m4 _ _ e3 np.1.symm
        cases hn2 : LN.natF (WT.tk1 r').1 with
        | none =>
          rw [show natV (WT.tk1 r').1 = .non by unfold natV; rw [hn2]; rfl]
          walk_at "bgo"
          refine ⟨rfl, ?_⟩
          walk_at "bgo"
          rw [WT.lsF_bad hn (pl.bad hn2)] at q
          exact q H4 _ (m1.trans m14) R4 .non trivial
        | some x =>
          rw [show natV (WT.tk1 r').1 = .int x by unfold natV; rw [hn2]; rfl]
          obtain ⟨pl2, lr⟩ := pl.step hn2
          walk_at "bgo"
          refine ⟨rfl, ?_⟩
          rw [show decide (V.int x = V.non) = false from decide_eq_false (by nofun)]
          walk_at "bgo"
          refine ⟨.inl ⟨rfl, _, R.sqL e5⟩, ?_⟩
          walk_at "bgo"
          refine ⟨_, _, _, rfl, rfl, e5, R.size_lt (by rw [List.length_map]; omega), ?_⟩
          refine ⟨ns ++ [x], _, _, rfl, WT.mv_acc m14 hp, ?_, R4.put np, pl2, by rw [List.length_append]; rfl, by rw [List.length_append]; show ns.length + 1 + _ = _; omega⟩
          rw [upd_same, List.map_append]
          rfl
      · have hj : n.toNat - ns.length = 0 := by omega
        rw [hj] at pl
        rw [WT.lsF_some hn pl.done] at q
        walk_at "bgo"
        refine ⟨p, _, rfl, .inl ⟨R.sqL e3, fun t ht => ?_⟩⟩
        have s5 := R.same_new (o := .tup (ns.map V.int)) ht
        exact q _ _ ((m1.trans m3).trans (R.Mv.of s5)) (R3.same s5) (.tup upd_same CK.TdAll.ints) ⟨by rw [List.length_map]; omega, fun x hx => by
          obtain ⟨n', _, rfl⟩ := List.mem_map.mp hx
          exact trivial⟩
theorem ok_RowReader_read_held (T : Txt w K mg) : FnOk P w K mg base CX0 3 T.p_RowReader_read_held.f T.p_RowReader_read_held.fd ["self"] (WT.spRead T.c_RowReader.a fun r => (WT.heldF r, [])) := by
  refine T.p_RowReader_read_held.F.ok sc_RowReader_read_held (fun vs H Q E h => ?_) (fun cdv A outer s H vs Q E hr h => ?_)
  · obtain ⟨o, l, r, rfl, _⟩ := h
    rfl
  · obtain ⟨o, l, r, rfl, R0, q⟩ := h
    obtain ⟨_, _, e0⟩ := R0.ins
    have q : ∀ (H' : Hp) (v : V), R.Mv o H H' → WT.Rdr T.c_RowReader.a H' o l [] → CK.Td H' v (WT.heldF r) → WT.gw 1 (WT.heldF r) → Q v H' := q
    refine ⟨_, (pss_cons (ps_set (i := 1) sc_RowReader_read_held.nd rfl (.inl rfl) (pe_call (ok_natural_in T) (hr.mono (by decide)) (by rfl) T.p_natural_in.g T.p_natural_in.F.kp T.p_natural_in.b .nil pass0 (pa_cons (pe_meth0 (pv 0) T.c_RowReader.cl T.p_RowReader_take.me (ok_RowReader_take T) (hr.mono (by decide)) T.p_RowReader_take.b .nil pass0) pa_nil)))
(pss_cons (ps_set (i := 2) sc_RowReader_read_held.nd rfl (.inl rfl) (pe_join pe_str (pe_slice sl_list (pe_fld (pv 0) rfl) (po_some (pe_fld (pv 0) rfl)) po_none)))
(pss_cons (ps_fld (pv 0) (pe_callB R.cLenS (by rfl) T.m_len (by decide +kernel) (pa_cons (pe_fld (pv 0) rfl) pa_nil)) rfl)
(pss_cons (ps_if ((pw_or (pt_cmpR op_isN (pv 1) pe_non (nomark _)) (pw_or (pt_not (pt_truth (pe_m1 PySem.F.slot_str_startswith PySem.F.type_str_startswith mt_startswith (pv 2) pe_str) (fun _ => rfl))) (pw_or1 (pt_cmpR op_ne (pe_callB call_len (by rfl) T.m_len (by decide +kernel) (pa_cons (pv 2) pa_nil)) (pe_op op_add (pv 1) pe_int) (nomark _)))))).pt
 (pss_one (ps_ret pe_non))
 pss_nil)
(pss_one (ps_ret (pe_slice sl_str (pv 2) (po_some pe_int) po_none))))))), ?_⟩
    walk_at "bgo"
    refine ⟨_, _, _, rfl, e0, rfl, ?_⟩
    refine ⟨o, l, r, rfl, R0, fun H1 m1 R1 t1 => ?_⟩
    refine ⟨_, rfl, by omega, ?_⟩
    walk_at "bgo"
    obtain ⟨dx, ws, p, e, el, hp, er, ok⟩ := id R1
    have lr := R1.len
    obtain ⟨j1, j2⟩ := ok.rest (p := p)
    rw [← er] at j1 j2
    refine ⟨⟨_, rfl⟩, ?_⟩
    walk_at "bgo"
    refine ⟨_, _, _, _, _, rfl, e, T.c_RowReader.cl, T.n_RowReader.words, rfl, ?_⟩
    walk_at "bgo"
    refine ⟨_, _, _, _, _, rfl, e, T.c_RowReader.cl, T.n_RowReader.place, rfl, ?_⟩
    walk_at "bgo"
    refine ⟨l, _, rfl, R.sqL el, fun y hy => ?_⟩
    rw [CR.cut_from, ← List.map_drop, ← er]
    generalize hu : upd H1 y _ = H2
    obtain ⟨s2, e2⟩ := MM.new2 hu hy
    clear hu
    refine ⟨_, y, _, rfl, rfl, .inl (R.sqL e2), ?_, ?_⟩
    · have a1 : ((WT.tk1 r).2.map fun x => x.length).sum ≤ WT.msr (WT.tk1 r).2 := WT.sum_msr
      have a2 : WT.msr (WT.tk1 r).2 ≤ 30001 := by rw [er]; exact Nat.le_trans WT.msr_drop ok.msr
      show _ + (WT.tk1 r).2.length * 1 ≤ _
      omega
    show tSeq _ _ _ _ _
    have e2w := s2 _ _ e
    have el2 := s2 _ _ el
    walk_at "bgo"
    refine ⟨_, _, _, _, _, rfl, e2w, T.c_RowReader.cl, T.n_RowReader.words, rfl, ?_⟩
    walk_at "bgo"
    refine R.r_lenL (R.sqL el2) ?_
    walk_at "bgo"
    refine ⟨_, _, _, _, rfl, e2w, T.c_RowReader.cl, T.n_RowReader.place, Nat.le_of_ble_eq_true rfl, ?_⟩
    generalize hu : upd H2 o _ = H3
    have e3 := upd_same.symm.trans (congrFun hu o) |>.symm
    have m3 : R.Mv o H2 H3 := hu ▸ R.Mv.upd
    clear hu
    have el3 := m3 _ _ el2 (fun z => by rw [z, e2w] at el2; cases el2)
    have mv : R.Mv o H H3 := (m1.trans (R.Mv.of s2)).trans m3
    rw [List.length_map] at e3
    have R3 : WT.Rdr T.c_RowReader.a H3 o l [] := ⟨dx, ws, ws.length, e3, el3, Nat.le_refl _, by rw [List.drop_length], ok⟩
    show tSeq _ _ _ _ _
    have q2 := q H3
    clear q
    unfold WT.heldF at q2
    rw [show Txt.join (Str.ofString " ") (WT.tk1 r).2 = WT.jn (WT.tk1 r).2 from rfl]
    generalize WT.jn (WT.tk1 r).2 = z at j1 j2 q2 ⊢
    cases hn : LN.natF (WT.tk1 r).1 with
    | none =>
      rw [hn] at q2
      rw [show natV (WT.tk1 r).1 = .non by unfold natV; rw [hn]; rfl]
      walk_at "bgo"
      refine ⟨rfl, ?_⟩
      walk_at "bgo"
      exact q2 _ mv R3 .non trivial
    | some n =>
      rw [hn] at q2
      have q2 : ∀ v, R.Mv o H H3 → WT.Rdr T.c_RowReader.a H3 o l [] → CK.Td H3 v (if Txt.startswith z "'" = true ∧ (z.length : Int) = n + 1 then PyData.str (cutS z (some 1) none) else .none) → WT.gw 1 (if Txt.startswith z "'" = true ∧ (z.length : Int) = n + 1 then PyData.str (cutS z (some 1) none) else .none) → Q v H3 := q2
      rw [show natV (WT.tk1 r).1 = .int n by unfold natV; rw [hn]; rfl]
      walk_at "bgo"
      refine ⟨rfl, ?_⟩
      rw [show decide (V.int n = V.non) = false from decide_eq_false (by nofun)]
      walk_at "bgo"
      refine ⟨⟨_, rfl⟩, ?_⟩
      walk_at "bgo"
      refine ⟨_, _, rfl, rfl, ?_⟩
      cases hs : Txt.startswith z "'" with
      | false =>
        rw [hs, if_neg (by simp)] at q2
        refine ⟨false, rfl, ?_⟩
        walk_at "bgo"
        exact q2 _ mv R3 .non trivial
      | true =>
        refine ⟨true, rfl, ?_⟩
        walk_at "bgo"
        refine ⟨_, z.length, rfl, ⟨R.size_of (by omega), rfl⟩, ?_⟩
        walk_at "bgo"
        refine R.r_iteN (fun c => ?_) (fun c => ?_)
        · rw [if_neg (fun h => c h.2)] at q2
          walk_at "bgo"
          exact q2 _ mv R3 .non trivial
        · rw [hs, if_pos ⟨rfl, c⟩] at q2
          walk_at "bgo"
          refine ⟨z, rfl, R.size_of (by omega), ?_⟩
          exact q2 _ mv R3 (.str _) ⟨Nat.le_trans (cutS_length _ _ _) (by omega), LN.cut_ok j2⟩
theorem ok_RowReader_read_value (T : Txt w K mg) : FnOk P w K mg base CX0 4 T.p_RowReader_read_value.f T.p_RowReader_read_value.fd ["self"] (WT.spRead T.c_RowReader.a WT.vlF) := by
  refine T.p_RowReader_read_value.F.ok sc_RowReader_read_value (fun vs H Q E h => ?_) (fun cdv A outer s H vs Q E hr h => ?_)
  · obtain ⟨o, l, r, rfl, _⟩ := h
    rfl
  · obtain ⟨o, l, r, rfl, R0, q⟩ := h
    obtain ⟨_, _, e0⟩ := R0.ins
    refine ⟨_, (pss_cons (ps_set (i := 1) sc_RowReader_read_value.nd rfl (.inl rfl) (pe_meth0 (pv 0) T.c_RowReader.cl T.p_RowReader_take.me (ok_RowReader_take T) (hr.mono (by decide)) T.p_RowReader_take.b .nil pass0))
(pss_cons (ps_if (pt_cmpR op_eq (pv 1) pe_str (nomark _))
 (pss_one (ps_ret (pe_tup (pa_cons (pv 1) (pa_cons (pe_call (ok_whole_in T) (hr.mono (by decide)) (by rfl) T.p_whole_in.g T.p_whole_in.F.kp T.p_whole_in.b .nil pass0 (pa_cons (pe_meth0 (pv 0) T.c_RowReader.cl T.p_RowReader_take.me (ok_RowReader_take T) (hr.mono (by decide)) T.p_RowReader_take.b .nil pass0) pa_nil)) pa_nil)))))
 pss_nil)
(pss_one (ps_ret (pe_tup (pa_cons (pv 1) (pa_cons (pe_meth0 (pv 0) T.c_RowReader.cl T.p_RowReader_read_held.me (ok_RowReader_read_held T) (hr.mono (by decide)) T.p_RowReader_read_held.b .nil pass0) pa_nil))))))), ?_⟩
    walk_at "bgo"
    refine ⟨_, _, _, rfl, e0, rfl, ?_⟩
    refine ⟨o, l, r, rfl, R0, fun H1 m1 R1 t1 => ?_⟩
    obtain ⟨_, _, e1⟩ := R1.ins
    walk_at "bgo"
    unfold WT.vlF at q
    refine R.r_ite (fun c => ?_) (fun c => ?_)
    · rw [if_pos c] at q
      walk_at "bgo"
      refine ⟨_, _, _, rfl, e1, rfl, ?_⟩
      refine ⟨o, l, _, rfl, R1, fun H2 m2 R2 t2 => ?_⟩
      refine ⟨_, rfl, by omega, ?_⟩
      walk_at "bgo"
      refine ⟨Nat.le_of_ble_eq_true rfl, fun a ha => ?_⟩
      have s3 := R.same_new (o := .tup [.str (WT.tk1 r).1, wholeV (WT.tk1 (WT.tk1 r).2).1]) ha
      exact q _ _ ((m1.trans m2).trans (R.Mv.of s3)) (R2.same s3) (.tup upd_same (.cons (.str _) (.cons (WT.whl_td (opt_eq _)) .nil))) ⟨Nat.le_of_ble_eq_true rfl, fun x hx => by
        rcases List.mem_cons.mp hx with rfl | hx
        · exact ⟨by omega, t1.2⟩
        · rw [List.mem_singleton.mp hx]; exact WT.whl_gw⟩
    · rw [if_neg c] at q
      walk_at "bgo"
      refine ⟨_, _, _, rfl, e1, rfl, ?_⟩
      refine ⟨o, l, _, rfl, R1, fun H2 v m2 R2 td gd => ?_⟩
      walk_at "bgo"
      refine ⟨Nat.le_of_ble_eq_true rfl, fun a ha => ?_⟩
      have s3 := R.same_new (o := .tup [.str (WT.tk1 r).1, v]) ha
      exact q _ _ ((m1.trans m2).trans (R.Mv.of s3)) (R2.same s3) (.tup upd_same (.cons (.str _) (.cons (WT.keep_td s3 td) .nil))) ⟨Nat.le_of_ble_eq_true rfl, fun x hx => by
        rcases List.mem_cons.mp hx with rfl | hx
        · exact ⟨by omega, t1.2⟩
        · rw [List.mem_singleton.mp hx]; exact WT.held_gw gd⟩
theorem ok_RowReader_read_part (T : Txt w K mg) : FnOk P w K mg base CX0 5 T.p_RowReader_read_part.f T.p_RowReader_read_part.fd ["self", "part"] (WT.spPart T.c_RowReader.a) := by
  refine T.p_RowReader_read_part.F.ok sc_RowReader_read_part (fun vs H Q E h => ?_) (fun cdv A outer s H vs Q E hr h => ?_)
  · obtain ⟨o, l, kd, r, rfl, _⟩ := h
    rfl
  · obtain ⟨o, l, kd, r, rfl, R0, q⟩ := h
    obtain ⟨_, _, e0⟩ := R0.ins
    refine ⟨_, (pss_cons (ps_if (pt_cmpR (op_in_kd T.i_CHOICES.kd) (pv 1) (pe_glob (v := .ref T.d_CHOICES.a) (by rfl) T.d_CHOICES.g rfl) rfl)
 (pss_one (ps_ret (pe_meth0 (pv 0) T.c_RowReader.cl T.p_RowReader_take.me (ok_RowReader_take T) (hr.mono (by decide)) T.p_RowReader_take.b .nil pass0)))
 pss_nil)
(pss_cons (ps_if (pt_cmpR op_eq (pv 1) pe_str (nomark _))
 (pss_one (ps_ret (pe_meth0 (pv 0) T.c_RowReader.cl T.p_RowReader_read_value.me (ok_RowReader_read_value T) (hr.mono (by decide)) T.p_RowReader_read_value.b .nil pass0)))
 pss_nil)
(pss_cons (ps_if (pt_cmpR op_in_seq (pv 1) (pe_glob (v := .ref T.a_LISTED) (by rfl) T.c_LISTED rfl) rfl)
 (pss_one (ps_ret (pe_meth0 (pv 0) T.c_RowReader.cl T.p_RowReader_read_places.me (ok_RowReader_read_places T) (hr.mono (by decide)) T.p_RowReader_read_places.b .nil pass0)))
 pss_nil)
(pss_one (ps_ret (pe_call (ok_whole_in T) (hr.mono (by decide)) (by rfl) T.p_whole_in.g T.p_whole_in.F.kp T.p_whole_in.b .nil pass0 (pa_cons (pe_meth0 (pv 0) T.c_RowReader.cl T.p_RowReader_take.me (ok_RowReader_take T) (hr.mono (by decide)) T.p_RowReader_take.b .nil pass0) pa_nil))))))), ?_⟩
    walk_at "bgo"
    obtain ⟨z, er, es⟩ := T.i_CHOICES.m kd.nm
    refine ⟨_, z, rfl, rfl, er, z.isSome, rfl, ?_⟩
    rw [es]
    refine R.r_ite (fun c1 => ?_) (fun c1 => ?_)
    · rw [WT.rd_ch (WT.ch_no.mp c1)] at q
      walk_at "bgo"
      refine ⟨_, _, _, rfl, e0, rfl, ?_⟩
      refine ⟨o, l, r, rfl, R0, fun H1 m1 R1 t1 => ?_⟩
      exact q H1 _ m1 R1 (.str _) ⟨by omega, t1.2⟩
    walk_at "bgo"
    refine R.r_ite (fun c5 => ?_) (fun c5 => ?_)
    · obtain rfl := CK.nm_value.mp c5
      walk_at "bgo"
      refine ⟨_, _, _, rfl, e0, rfl, ?_⟩
      exact ⟨o, l, r, rfl, R0, q⟩
    walk_at "bgo"
    refine CR.r_inK (T.t_LISTED _) rfl rfl CR.nm_listed ?_
    walk_at "bgo"
    refine R.r_ite (fun c6 => ?_) (fun c6 => ?_)
    · rw [WT.rd_ls c6] at q
      walk_at "bgo"
      refine ⟨_, _, _, rfl, e0, rfl, ?_⟩
      exact ⟨o, l, r, rfl, R0, q⟩
    · rw [WT.rd_else c1 (fun z => c5 (by rw [z]; rfl)) c6] at q
      walk_at "bgo"
      refine ⟨_, _, _, rfl, e0, rfl, ?_⟩
      refine ⟨o, l, r, rfl, R0, fun H1 m1 R1 t1 => ?_⟩
      refine ⟨_, rfl, by omega, ?_⟩
      exact q H1 _ m1 R1 (WT.whl_td (opt_eq _)) WT.whl_gw
theorem ok_RowReader_read_row (T : Txt w K mg) : FnOk P w K mg base CX0 6 T.p_RowReader_read_row.f T.p_RowReader_read_row.fd ["self"] (WT.spRow T.c_RowReader.a) := by
  refine T.p_RowReader_read_row.F.ok sc_RowReader_read_row (fun vs H Q E h => ?_) (fun cdv A outer s H vs Q E hr h => ?_)
  · obtain ⟨o, l, r, rfl, _⟩ := h
    rfl
  · obtain ⟨o, l, r, rfl, R0, q⟩ := h
    obtain ⟨_, _, e0⟩ := R0.ins
    refine ⟨_, (pss_cons (ps_set (i := 1) sc_RowReader_read_row.nd rfl (.inl rfl) (pe_meth0 (pv 0) T.c_RowReader.cl T.p_RowReader_take.me (ok_RowReader_take T) (hr.mono (by decide)) T.p_RowReader_take.b .nil pass0))
(pss_cons (ps_if (pt_cmpR (op_notIn_kd T.i_PARTS.kd) (pv 1) (pe_glob (v := .ref T.d_PARTS.a) (by rfl) T.d_PARTS.g rfl) rfl)
 (pss_one (ps_ret pe_non))
 pss_nil)
(pss_cons (ps_set (i := 2) sc_RowReader_read_row.nd rfl (.inl rfl) (pe_lst (pa_cons (pv 1) pa_nil)))
(pss_cons (ps_for PassesOwn.never rfl (pi_tup (pe_ix ix_kdict (pe_glob (v := .ref T.d_PARTS.a) (by rfl) T.d_PARTS.g rfl) (pv 1) (fun _ _ => rfl))) (pg_name (i := 3) sc_RowReader_read_row.nd rfl (.inl rfl))
 (pss_cons (ps_set (i := 4) sc_RowReader_read_row.nd rfl (.inl rfl) (pe_meth (pv 0) T.c_RowReader.cl T.p_RowReader_read_part.me (ok_RowReader_read_part T) (hr.mono (by decide)) T.p_RowReader_read_part.b .nil pass0 (pa_cons (pv 3) pa_nil)))
(pss_cons (ps_if (pt_not (pt_val (pe_call (ok_fits T) (hr.mono (by decide)) (by rfl) T.p_fits.g T.p_fits.F.kp T.p_fits.b .nil pass0 (pa_cons (pv 3) (pa_cons (pv 4) (pa_cons pe_non pa_nil))))))
 (pss_one (ps_ret pe_non))
 pss_nil)
(pss_one (ps_expr (pe_bm PySem.F.plainAttrs_list PySem.F.slot_list_append PySem.F.type_list_append mt_append (pv 2) (pa_cons (pv 4) pa_nil)))))))
(pss_cons (ps_if (pt_cmpR op_lt (pe_fld (pv 0) rfl) (pe_callB R.cLenS (by rfl) T.m_len (by decide +kernel) (pa_cons (pe_fld (pv 0) rfl) pa_nil)) (nomark _))
 (pss_one (ps_ret pe_non))
 pss_nil)
(pss_one (ps_ret (pe_callTy MM.cTupOf (by rfl) T.m_tuple (by decide +kernel) (pa_cons (pv 2) pa_nil))))))))), ?_⟩
    walk_at "bgo"
    refine ⟨_, _, _, rfl, e0, rfl, ?_⟩
    refine ⟨o, l, r, rfl, R0, fun H1 m1 R1 t1 => ?_⟩
    rw [WT.rowF_G] at q
    generalize (WT.tk1 r).1 = z at q t1 ⊢
    generalize (WT.tk1 r).2 = r1 at q R1 ⊢
    walk_at "bgo"
    obtain ⟨x, er, es⟩ := T.i_PARTS.m z
    refine ⟨_, x, rfl, rfl, er, !x.isSome, rfl, ?_⟩
    rw [es]
    refine R.r_iteN (fun c => ?_) (fun c => ?_)
    · walk_at "bgo"
      rw [WT.rowG_no c] at q
      exact q H1 _ m1 rfl
    · obtain ⟨w', rfl⟩ := CK.tab_some c
      rw [WT.rowG_w] at q
      walk_at "bgo"
      refine ⟨Nat.le_of_ble_eq_true rfl, fun p hp => ?_⟩
      generalize hu : upd _ p _ = H2
      obtain ⟨s2, e2⟩ := MM.new2 hu hp
      clear hu
      have np := R1.ne hp
      walk_at "bgo"
      obtain ⟨t, hk2, ht⟩ := T.d_PARTS.es.get (CR.tab_get w')
      refine CK.r_forT ?_
      walk_at "bgo"
      refine ⟨_, _, _, rfl, rfl, hk2, ?_⟩
      refine ⟨t, rfl, ⟨_, ht _⟩, ?_⟩
      have l4 := CR.ks_len w'
      refine CK.for_tupG (xs := (w'.ks.map CR.Kd.nm).map V.str) (fun i σ H' => ∃ (ds : List PyData) (vs : List V) (r' : List Str) (y y2 : Option V), σ = [some (.ref o), some (.str w'.nm), some (.ref p), y, y2] ∧ R.Mv o H1 H' ∧ WT.Rdr T.c_RowReader.a H' o l r' ∧ H' p = some (.lst (.str w'.nm :: vs)) ∧ CK.TdAll H' vs ds ∧ (∀ d ∈ ds, WT.gw 1 d) ∧ WT.PtI (WT.partsF w'.ks r1) ds r' (w'.ks.drop i) ∧ vs.length = i) ?_ (fun i σ H' _ => ht H') ?_ ?_
      · exact ⟨[], [], r1, none, none, rfl, R.Mv.of s2, R1.same s2, e2, .nil, (fun _ h => nomatch h), WT.PtI.start, rfl⟩
      · rintro i v _ H3 hv ⟨ds, vs, r', y, y2, rfl, m3, R3, e3, td, gd, pt, lv⟩
        rw [List.getElem?_map, List.getElem?_map] at hv
        cases ekk : w'.ks[i]? with
        | none => rw [ekk] at hv; cases hv
        | some kd =>
          rw [ekk] at hv
          obtain rfl := Option.some.inj hv
          rw [List.drop_eq_getElem?_toList_append, ekk] at pt
          have pt : WT.PtI (WT.partsF w'.ks r1) ds r' (kd :: w'.ks.drop (i + 1)) := pt
          have li : i < w'.ks.length := (List.getElem?_eq_some_iff.mp ekk).1
          walk_at "bgo"
          obtain ⟨_, _, e4⟩ := R3.ins
          refine ⟨_, _, _, rfl, e4, rfl, ?_⟩
          walk_at "bgo"
          refine ⟨o, l, kd, r', rfl, R3, fun H4 v m4 R4 td4 gd4 => ?_⟩
          have kt := R3.keepT m4
          have e5 := m4 _ _ e3 np.1.symm
          walk_at "bgo"
          refine ⟨kd, v, _, 1, rfl, td4.dp, gd4, by decide, fun H5 s5 => ?_⟩
          refine ⟨_, rfl, ?_⟩
          cases ef : WT.fitF kd (WT.rdP kd r').1 with
          | false =>
            walk_at "bgo"
            rw [pt.bad ef] at q
            exact q H5 _ ((m1.trans (m3.trans m4)).trans (R.Mv.of s5)) rfl
          | true =>
            walk_at "bgo"
            have e6 := s5 _ _ e5
            refine ⟨.inl ⟨rfl, _, R.sqL e6⟩, ?_⟩
            walk_at "bgo"
            refine ⟨_, _, _, rfl, rfl, e6, R.size_lt (by rw [List.length_cons]; omega), ?_⟩
            have kt5 : MM.KeepT H3 (upd H5 p (.lst (V.str w'.nm :: vs ++ [v]))) := (kt.trans (MM.KeepT.of s5)).trans (WT.kt_lst e6)
            refine ⟨ds ++ [(WT.rdP kd r').1], vs ++ [v], _, _, _, rfl, WT.mv_acc ((m3.trans m4).trans (R.Mv.of s5)) hp, (R4.same s5).put np, upd_same, CK.TdAll.snoc (td.keep kt5) (td4.keep ((MM.KeepT.of s5).trans (WT.kt_lst e6))), ?_, pt.step ef, by rw [List.length_append, lv]; rfl⟩
            intro d hd
            rcases List.mem_append.mp hd with h | h
            · exact gd d h
            · rw [List.mem_singleton.mp h]; exact gd4
      · rintro _ H3 ⟨ds, vs, r', y, y2, rfl, m3, R3, e3, td, gd, pt, lv⟩
        rw [List.length_map, List.length_map] at pt lv
        rw [List.drop_length] at pt
        rw [pt.done] at q
        obtain ⟨dx, ws, k, e4, el4, hk, er4, ok⟩ := id R3
        walk_at "bgo"
        refine ⟨_, _, _, _, _, rfl, e4, T.c_RowReader.cl, T.n_RowReader.place, rfl, ?_⟩
        walk_at "bgo"
        refine ⟨_, _, _, _, _, rfl, e4, T.c_RowReader.cl, T.n_RowReader.words, rfl, ?_⟩
        walk_at "bgo"
        refine R.r_lenL (R.sqL el4) ?_
        walk_at "bgo"
        rw [List.length_map]
        refine R.r_ite (fun c => ?_) (fun c => ?_)
        · walk_at "bgo"
          have : r' ≠ [] := fun z => by
            rw [z] at er4
            have := List.drop_eq_nil_iff.mp er4.symm
            omega
          rw [WT.fin_no this] at q
          exact q H3 _ (m1.trans m3) rfl
        · have : r' = [] := by rw [er4]; exact List.drop_eq_nil_of_le (by omega)
          rw [this] at q
          walk_at "bgo"
          refine ⟨p, _, rfl, .inl ⟨R.sqL e3, fun t2 ht2 => ?_⟩⟩
          have s5 := R.same_new (o := .tup (V.str w'.nm :: vs)) ht2
          exact q _ _ ((m1.trans m3).trans (R.Mv.of s5)) ⟨.tup upd_same (.cons (.str _) (td.keep (MM.KeepT.of s5))), WT.gw_row (by have := td.len; omega) gd, nofun⟩
end
end K52
end
section
local macro_rules | `(tactic| walk_at "s1") => `(tactic| first
  | ((with_reducible apply R.r_var); · rfl)
  | with_reducible apply R.r_c
  | with_reducible apply R.r_op
  | with_reducible apply R.r_I0
  | with_reducible apply R.r_cb
  | with_reducible apply R.r_cons
  | with_reducible apply R.r_nil
  | with_reducible apply R.r_seq
  | with_reducible apply R.r_asg
  | with_reducible apply R.r_ret
  | with_reducible apply R.r_ifS
  | with_reducible apply R.r_test
  | with_reducible apply R.r_t
  | with_reducible apply R.r_f
  | with_reducible apply R.r_nt
  | with_reducible apply R.r_nf
  | with_reducible apply R.r_bl
  | with_reducible apply R.r_U
  | with_reducible apply R.r_un
  | with_reducible apply R.r_eqI
  | with_reducible apply R.r_eqS
  | with_reducible apply R.r_neI
  | with_reducible apply R.r_neS
  | with_reducible apply R.r_and
  | with_reducible apply R.r_or
  | with_reducible apply R.r_not
  | with_reducible apply R.r_andV
  | with_reducible apply R.r_orV
  | with_reducible apply R.r_notV
  | with_reducible apply R.r_blV
  | with_reducible apply R.r_B
  | with_reducible apply R.r_ifE
  | with_reducible apply R.r_tup
  | with_reducible apply R.r_lst
  | with_reducible apply R.r_call
  | with_reducible apply R.r_drop
  | with_reducible apply R.r_next
  | with_reducible apply R.r_abs
  | with_reducible apply R.r_int1
  | with_reducible apply R.r_int1b
  | with_reducible apply R.r_min2
  | with_reducible apply R.r_bm
  | with_reducible apply R.r_bm0
  | with_reducible apply R.r_dget
  | with_reducible apply R.r_dput
  | with_reducible apply R.r_disp
  | with_reducible apply R.r_pnil
  | with_reducible apply R.r_pcons
  | with_reducible apply R.r_fld
  | with_reducible apply R.r_slice
  | with_reducible apply R.r_nopart
  | with_reducible apply R.r_part
  | with_reducible apply R.r_int
  | with_reducible apply R.r_yes
  | with_reducible apply R.r_retN
  | with_reducible apply R.r_asgG
  | with_reducible apply R.r_gname
  | with_reducible apply R.r_rng1
  | with_reducible apply R.r_brk
  | with_reducible apply R.r_cnt
  | with_reducible apply R.r_m1
  | with_reducible apply R.r_lcr
  | with_reducible apply R.r_p2_63
  | with_reducible apply R.r_p2_64
  | with_reducible apply R.r_p2_32
  | with_reducible apply R.r_p2_31
  | with_reducible apply R.r_p10_18
  | with_reducible apply R.r_p10_30
  | with_reducible refine R.r_mod (by omega) ?_
  | with_reducible refine R.r_div (by omega) ?_
  | with_reducible refine R.r_mulR (by omega) ?_
  | with_reducible refine R.r_mulL (by omega) ?_
  | with_reducible refine R.r_iteY (by decide +kernel) ?_
  | with_reducible refine R.r_iteF (by decide +kernel) ?_
  | with_reducible refine R.r_isi R.isi_int ?_
  | with_reducible refine R.r_isi R.isi_intB ?_)
local macro_rules | `(tactic| walk_at "go") => `(tactic| repeat (walk_at "s1"))

local macro_rules | `(tactic| walk_at "c1") => `(tactic| first
  | walk_at "s1"
  | with_reducible apply MM.r_chain
  | with_reducible apply CR.r_zl
  | with_reducible apply MM.r_daug
  | with_reducible apply MM.r_add)
local macro_rules | `(tactic| walk_at "cgo") => `(tactic| repeat (walk_at "c1"))

namespace K52
open PySem PySem.Spec PyProof.Rows L2
section
variable {P : Program} {w : World} {K : PySem.W.Frag} {mg : Str → Option Value} {base : Heap}
theorem ok_BadText___init__ (T : Txt w K mg) (hP : XS.Pr P T.p_BadText___init__.file) : FnOk P w K mg base CX0 3 T.p_BadText___init__.f T.p_BadText___init__.fd ["self", "row"] (XS.spR1 K T.p_BadText___init__.D) := by
  refine XS.sup_fn T.p_BadText___init__ hP ns_BadText___init__ rfl rfl rfl rfl (fun vs H Q E h => ?_) (fun A outer s H vs Q E hr h => ?_)
  · obtain ⟨a, C, r, rfl, _⟩ := h
    rfl
  · obtain ⟨a, C, r, rfl, br, eo, SC, nf, q⟩ := h
    refine ⟨_, _, a, C, [.int r], (pa_cons (pe_joined (.cons pe_str (.cons (pe_fmt (pv 1)) .nil))) pa_nil), (pss_one (ps_ost (pv 0) (pv 1))), rfl, eo, SC, ?_⟩
    have l1 := XS.num_len br
    walk_at "cgo"
    refine XS.j_t (by decide +kernel) (by decide +kernel) fun m1 => ?_
    refine XS.j_i br rfl (Nat.le_trans m1 (by decide +kernel)) fun m2 => ?_
    refine ⟨Nat.le_of_ble_eq_true rfl, eo, ?_⟩
    refine XS.r_ost1 ?_
    walk_at "cgo"
    refine ⟨a, C, rfl, SC.T, nf _ (by decide +kernel), .inl ⟨eo, fun dx hdx ne => ?_⟩⟩
    refine q dx _ hdx ne upd_same ((upd_ne ne).trans upd_same) fun b h1 h2 => ?_
    rw [upd_ne h1, upd_ne h2]
end
end K52
end
section
local macro_rules | `(tactic| walk_at "s1") => `(tactic| first
  | ((with_reducible apply R.r_var); · rfl)
  | with_reducible apply R.r_c
  | with_reducible apply R.r_op
  | with_reducible apply R.r_I0
  | with_reducible apply R.r_cb
  | with_reducible apply R.r_cons
  | with_reducible apply R.r_nil
  | with_reducible apply R.r_seq
  | with_reducible apply R.r_asg
  | with_reducible apply R.r_ret
  | with_reducible apply R.r_ifS
  | with_reducible apply R.r_test
  | with_reducible apply R.r_t
  | with_reducible apply R.r_f
  | with_reducible apply R.r_nt
  | with_reducible apply R.r_nf
  | with_reducible apply R.r_bl
  | with_reducible apply R.r_U
  | with_reducible apply R.r_un
  | with_reducible apply R.r_eqI
  | with_reducible apply R.r_eqS
  | with_reducible apply R.r_neI
  | with_reducible apply R.r_neS
  | with_reducible apply R.r_and
  | with_reducible apply R.r_or
  | with_reducible apply R.r_not
  | with_reducible apply R.r_andV
  | with_reducible apply R.r_orV
  | with_reducible apply R.r_notV
  | with_reducible apply R.r_blV
  | with_reducible apply R.r_B
  | with_reducible apply R.r_ifE
  | with_reducible apply R.r_tup
  | with_reducible apply R.r_lst
  | with_reducible apply R.r_call
  | with_reducible apply R.r_drop
  | with_reducible apply R.r_next
  | with_reducible apply R.r_abs
  | with_reducible apply R.r_int1
  | with_reducible apply R.r_int1b
  | with_reducible apply R.r_min2
  | with_reducible apply R.r_bm
  | with_reducible apply R.r_bm0
  | with_reducible apply R.r_dget
  | with_reducible apply R.r_dput
  | with_reducible apply R.r_disp
  | with_reducible apply R.r_pnil
  | with_reducible apply R.r_pcons
  | with_reducible apply R.r_fld
  | with_reducible apply R.r_slice
  | with_reducible apply R.r_nopart
  | with_reducible apply R.r_part
  | with_reducible apply R.r_int
  | with_reducible apply R.r_yes
  | with_reducible apply R.r_retN
  | with_reducible apply R.r_asgG
  | with_reducible apply R.r_gname
  | with_reducible apply R.r_rng1
  | with_reducible apply R.r_brk
  | with_reducible apply R.r_cnt
  | with_reducible apply R.r_m1
  | with_reducible apply R.r_lcr
  | with_reducible apply R.r_p2_63
  | with_reducible apply R.r_p2_64
  | with_reducible apply R.r_p2_32
  | with_reducible apply R.r_p2_31
  | with_reducible apply R.r_p10_18
  | with_reducible apply R.r_p10_30
  | with_reducible refine R.r_mod (by omega) ?_
  | with_reducible refine R.r_div (by omega) ?_
  | with_reducible refine R.r_mulR (by omega) ?_
  | with_reducible refine R.r_mulL (by omega) ?_
  | with_reducible refine R.r_iteY (by decide +kernel) ?_
  | with_reducible refine R.r_iteF (by decide +kernel) ?_
  | with_reducible refine R.r_isi R.isi_int ?_
  | with_reducible refine R.r_isi R.isi_intB ?_)
local macro_rules | `(tactic| walk_at "go") => `(tactic| repeat (walk_at "s1"))

local macro_rules | `(tactic| walk_at "b1") => `(tactic| first
  | walk_at "s1"
  | with_reducible apply MM.r_meth
  | with_reducible apply MM.r_make
  | with_reducible apply MM.r_sfld
  | with_reducible apply MM.r_gsub
  | with_reducible apply MM.r_chain
  | with_reducible apply MM.r_daug
  | with_reducible apply MM.r_add
  | with_reducible apply MM.r_ip
  | with_reducible apply MM.r_din
  | with_reducible apply MM.r_dnotin
  | with_reducible apply BF.r_faug
  | with_reducible apply BF.r_sub)
local macro_rules | `(tactic| walk_at "bgo") => `(tactic| repeat (walk_at "b1"))

namespace K52
open PySem PySem.Spec PyProof.Rows L2
section
variable {P : Program} {w : World} {K : PySem.W.Frag} {mg : Str → Option Value} {base : Heap}
def spText (bt : PySem.Addr) : Sp := fun vs H Q E => ∃ z : Str, vs = [.str z] ∧ z.length ≤ 900000 ∧ (Txt.split z WT.nl).length ≤ 40000 ∧ (∀ l ∈ Txt.split z WT.nl, l.length ≤ 30000 ∧ PyData.strOk l = true) ∧
  match WT.textF z with
  | WT.Rd.ok ks rs => ∀ H' v, Same H H' → CK.Td H' v (.tuple [.tuple (ks.map PyData.str), .tuple rs]) → WT.gw 4 (.tuple [.tuple (ks.map PyData.str), .tuple rs]) → Q v H'
  | WT.Rd.bad n => ∀ d H', Same H H' → H' d = some (.xd [("row", .int (n : Int))]) → E (.ref bt) (some d) H'
theorem ok_read_text (T : Txt w K mg) (hP : XS.Pr P T.p_BadText___init__.file) : FnOk P w K mg base (L2.CX P w) 8 T.p_read_text.f T.p_read_text.fd ["text"] (spText T.x_BadText.a) := by
  refine T.p_read_text.F.okX sc_read_text (fun vs H Q E h => ?_) (fun cdv A outer s H vs Q E hr h => ?_)
  · obtain ⟨z, rfl, _⟩ := h
    rfl
  · obtain ⟨z, rfl, lz, l4, hz, q⟩ := h
    refine ⟨_, (pss_cons (ps_set (i := 1) sc_read_text.nd rfl (.inl rfl) (pe_split (pv 0) pe_str))
(pss_cons (ps_set (i := 2) sc_read_text.nd rfl (.inl rfl) (pe_lst pa_nil))
(pss_cons (ps_set (i := 3) sc_read_text.nd rfl (.inl rfl) (pe_lst pa_nil))
(pss_cons (ps_for (passes_of rfl) rfl (pi_enum (by rfl) T.m_enumerate (pa_cons (pe_slice sl_list (pv 1) po_none (po_some (pe_un un_neg pe_int))) pa_nil)) (pg_tup rfl (pgs_cons (pg_name (i := 4) sc_read_text.nd rfl (.inl rfl)) (pgs_cons (pg_name (i := 5) sc_read_text.nd rfl (.inl rfl)) pgs_nil)))
 (C8.pss_cut (ps_if ((pw_and (pt_cmpR (op_in_kd T.i_PLACE_ROWS.kd) (pv 5) (pe_glob (v := .ref T.d_PLACE_ROWS.a) (by rfl) T.d_PLACE_ROWS.g rfl) rfl) (pw_and1 (pt_not (pt_truth (pv 3) (fun _ => rfl)))))).pt
 (pss_cons (ps_expr (pe_bm PySem.F.plainAttrs_list PySem.F.slot_list_append PySem.F.type_list_append mt_append (pv 2) (pa_cons (pe_ix ix_kdict (pe_glob (v := .ref T.d_PLACE_ROWS.a) (by rfl) T.d_PLACE_ROWS.g rfl) (pv 5) (fun _ _ => rfl)) pa_nil)))
(pss_one ps_continue))
 pss_nil)
(pss_cons (ps_set (i := 6) sc_read_text.nd rfl (.inl rfl) (pe_meth0 (pe_make T.p_RowReader___init__.M (ok_RowReader___init__ T) (hr.mono (by decide)) (by rfl) T.c_RowReader.g T.p_RowReader___init__.b .nil pass0 (pa_cons (pv 5) pa_nil)) T.c_RowReader.cl T.p_RowReader_read_row.me (ok_RowReader_read_row T) (hr.mono (by decide)) T.p_RowReader_read_row.b .nil pass0))
(pss_cons (ps_if (pt_cmpR op_isN (pv 6) pe_non (nomark _))
 (pss_one (ps_raise rfl (takes_of rfl rfl rfl rfl) (pmk_oex T.x_BadText.sc.T T.x_BadText.iC T.ti_BadText___init__ (ok_BadText___init__ T hP) (hr.mono (by decide)) T.p_BadText___init__.b .nil pass0 (by rfl) T.x_BadText.g (pa_cons (pe_op op_add (pv 4) pe_int) pa_nil))))
 pss_nil)
(pss_one (ps_expr (pe_bm PySem.F.plainAttrs_list PySem.F.slot_list_append PySem.F.type_list_append mt_append (pv 3) (pa_cons (pv 6) pa_nil))))))))
(pss_cons (ps_if (pt_cmpR op_ne (pe_ix ix_list (pv 1) (pe_un un_neg pe_int) (fun _ _ => rfl)) pe_str (nomark _))
 (pss_one (ps_raise rfl (takes_of rfl rfl rfl rfl) (pmk_oex T.x_BadText.sc.T T.x_BadText.iC T.ti_BadText___init__ (ok_BadText___init__ T hP) (hr.mono (by decide)) T.p_BadText___init__.b .nil pass0 (by rfl) T.x_BadText.g (pa_cons (pe_callB R.cLenS (by rfl) T.m_len (by decide +kernel) (pa_cons (pv 1) pa_nil)) pa_nil))))
 pss_nil)
(pss_one (ps_ret (pe_tup (pa_cons (pe_callTy MM.cTupOf (by rfl) T.m_tuple (by decide +kernel) (pa_cons (pv 2) pa_nil)) (pa_cons (pe_callTy MM.cTupOf (by rfl) T.m_tuple (by decide +kernel) (pa_cons (pv 3) pa_nil)) pa_nil)))))))))), ?_⟩
    walk_at "bgo"
    refine ⟨⟨_, rfl⟩, ?_⟩
    walk_at "bgo"
    refine ⟨_, _, rfl, rfl, rfl, WT.sz (by omega), fun p0 hp0 => ?_⟩
    have q : match WT.textF z with
      | WT.Rd.ok ks rs => ∀ H' v, Same H H' → CK.Td H' v (.tuple [.tuple (ks.map PyData.str), .tuple rs]) → WT.gw 4 (.tuple [.tuple (ks.map PyData.str), .tuple rs]) → Q v H'
      | WT.Rd.bad n => ∀ d H', Same H H' → H' d = some (.xd [("row", .int (n : Int))]) → E (.ref T.x_BadText.a) (some d) H' := q
    unfold WT.textF at q
    have hz : ∀ l ∈ Txt.split z (Str.ofString "\n"), l.length ≤ 30000 ∧ PyData.strOk l = true := hz
    have nls := WT.split_len (z := z)
    have nne := WT.split_ne (z := z)
    rw [show Txt.split z (Str.ofString "\n") = Txt.split z WT.nl from rfl] at hz ⊢
    generalize Txt.split z WT.nl = ls at q hz nls nne l4 ⊢
    generalize hu : upd _ p0 _ = H1
    obtain ⟨s1, e1⟩ := MM.new2 hu hp0
    clear hu
    walk_at "bgo"
    refine ⟨Nat.le_of_ble_eq_true rfl, fun p2 hp2 => ?_⟩
    generalize hu : upd _ p2 _ = H2
    obtain ⟨s2, e2⟩ := MM.new2 hu hp2
    clear hu
    walk_at "bgo"
    refine ⟨Nat.le_of_ble_eq_true rfl, fun p3 hp3 => ?_⟩
    generalize hu : upd _ p3 _ = H3
    obtain ⟨s3, e3⟩ := MM.new2 hu hp3
    clear hu
    walk_at "bgo"
    refine WT.r_forEnL ?_
    walk_at "bgo"
    have e13 := s3 _ _ (s2 _ _ e1)
    refine ⟨_, _, rfl, R.sqL e13, fun p4 hp4 => ?_⟩
    rw [WT.cut_last (by simpa using nne)]
    generalize hu : upd _ p4 _ = H4
    obtain ⟨s4, e4⟩ := MM.new2 hu hp4
    clear hu
    have e4 : H4 p4 = some (.lst (ls.dropLast.map V.str)) := by rw [e4, List.map_dropLast]
    have hH2 : H p2 = none := Decidable.byContradiction fun c => by
      obtain ⟨o, ho⟩ := Option.ne_none_iff_exists'.mp c
      rw [s1 _ _ ho] at hp2
      cases hp2
    have hH3 : H p3 = none := Decidable.byContradiction fun c => by
      obtain ⟨o, ho⟩ := Option.ne_none_iff_exists'.mp c
      rw [s2 _ _ (s1 _ _ ho)] at hp3
      cases hp3
    have n23 : p2 ≠ p3 := ne_of_none e2 hp3
    have n02 : p0 ≠ p2 := ne_of_none e1 hp2
    have n03 : p0 ≠ p3 := ne_of_none (s2 _ _ e1) hp3
    have n42 : p4 ≠ p2 := (ne_of_none (s3 _ _ e2) hp4).symm
    have n43 : p4 ≠ p3 := (ne_of_none e3 hp4).symm
    refine ⟨p4, _, rfl, R.sqL e4, ?_⟩
    refine WT.for_enL (xs := ls.dropLast.map V.str) (fun i σ H' => ∃ (ks : List Str) (vs : List V) (rs : List PyData) (y4 y5 y6 : Option V), σ = [some (.str z), some (.ref p0), some (.ref p2), some (.ref p3), y4, y5, y6] ∧ Same H H' ∧ H' p0 = some (.lst (ls.map V.str)) ∧ H' p4 = some (.lst (ls.dropLast.map V.str)) ∧ H' p2 = some (.lst (ks.map V.str)) ∧ H' p3 = some (.lst vs) ∧ CK.TdAll H' vs rs ∧ (∀ d ∈ rs, WT.gw 2 d) ∧ WT.goL 0 [] [] ls.dropLast = WT.goL i ks rs (ls.dropLast.drop i) ∧ ks.length + vs.length = i ∧ (∀ k ∈ ks, k.length ≤ 100 ∧ PyData.strOk k = true)) ?_ (fun i σ H' h => by
      obtain ⟨_, _, _, _, _, _, _, _, _, h4, _⟩ := h
      exact R.sqL h4) ?_ ?_
    · exact ⟨[], [], [], none, none, none, rfl, ((s1.trans s2).trans s3).trans s4, s4 _ _ e13, e4, s4 _ _ (s3 _ _ e2), s4 _ _ e3, .nil, (fun _ h => nomatch h), rfl, rfl, fun _ h => nomatch h⟩
    · rintro i x Tt _ H5 H6 hx ⟨ks, vs, rs, y4, y5, y6, rfl, s5, f0, f4, f2, f3, td, gd, go, hl, hk⟩ s6 eT
      rw [List.getElem?_map] at hx
      cases hx2 : ls.dropLast[i]? with
      | none => rw [hx2] at hx; cases hx
      | some line =>
        rw [hx2] at hx
        obtain rfl := Option.some.inj hx
        have li : i < ls.dropLast.length := (List.getElem?_eq_some_iff.mp hx2).1
        rw [List.length_dropLast] at li
        rw [List.drop_eq_getElem?_toList_append, hx2] at go
        have go : WT.goL 0 [] [] ls.dropLast = WT.goL i ks rs (line :: ls.dropLast.drop (i + 1)) := go
        have hline := hz line (List.dropLast_subset _ (List.mem_of_getElem? hx2))
        have td6 := td.keep (MM.KeepT.of s6)
        have s06 := s5.trans s6
        have lvr := td.len
        walk_at "bgo"
        refine ⟨Tt, _, rfl, R.sqT eT, rfl, _, _, rfl, _, _, rfl, rfl, ?_⟩
        walk_at "bgo"
        refine R.r_cut (fun σ' H' => σ' = [some (.str z), some (.ref p0), some (.ref p2), some (.ref p3), some (.int (i : Nat)), some (.str line), y6] ∧ H' = H6 ∧ ¬ (WT.plc? line ≠ none ∧ rs = [])) ?_ ?_
        · walk_at "bgo"
          obtain ⟨x, er, es⟩ := T.i_PLACE_ROWS.m line
          refine ⟨_, x, rfl, rfl, er, x.isSome, rfl, ?_⟩
          rw [es]
          refine R.r_ite (fun c => ?_) (fun c => ?_)
          · have c := WT.plc_mem.mp c
            walk_at "bgo"
            refine ⟨_, .inl ⟨_, R.sqL (s6 _ _ f3), rfl⟩, ?_⟩
            cases rs with
            | cons d rs =>
              cases td6
              show if false = true then _ else _
              walk_at "bgo"
              exact ⟨rfl, rfl, fun h => by cases h.2⟩
            | nil =>
              cases td6
              show if true = true then _ else _
              walk_at "bgo"
              obtain ⟨kx, hkx⟩ := Option.ne_none_iff_exists'.mp c
              refine ⟨.inl ⟨rfl, _, R.sqL (s6 _ _ f2)⟩, ?_⟩
              walk_at "bgo"
              refine ⟨_, _, _, rfl, rfl, T.d_PLACE_ROWS.es.get hkx, ?_⟩
              refine ⟨_, _, _, rfl, rfl, s6 _ _ f2, R.size_lt (by rw [List.length_map]; omega), ?_⟩
              have f26 := s6 _ _ f2
              rw [WT.goL_plc hkx] at go
              refine ⟨ks ++ [kx], [], [], _, _, _, rfl, CR.same_acc hH2 s06, ?_, ?_, ?_, ?_, .nil, (fun _ h => nomatch h), go, by rw [List.length_append, ← hl]; rfl, ?_⟩
              · rw [upd_ne n02]; exact s6 _ _ f0
              · rw [upd_ne n42]; exact s6 _ _ f4
              · rw [upd_same, List.map_append]; rfl
              · rw [upd_ne n23.symm]; exact s6 _ _ f3
              · intro k h
                rcases List.mem_append.mp h with h | h
                · exact hk k h
                · rw [List.mem_singleton.mp h]; exact WT.plc_ok hkx
          · walk_at "bgo"
            exact ⟨rfl, rfl, fun h => c (WT.plc_mem.mpr h.1)⟩
        · rintro _ Hx ⟨rfl, hx, hnp⟩
          rw [hx]
          clear hx
          walk_at "bgo"
          intro h dh hh hdh ne
          have s7 : Same H6 (upd (upd H6 dh (.own h)) h (.ins T.c_RowReader.a dh [])) := fun b o e => by
            rw [upd_ne (ne_of_none e hh), upd_ne (ne_of_none e hdh)]
            exact e
          generalize hu7 : upd (upd H6 dh (.own h)) h (.ins T.c_RowReader.a dh []) = H7 at s7
          have e7 : H7 h = some (.ins T.c_RowReader.a dh []) := by rw [← hu7]; exact upd_same
          clear hu7
          refine ⟨h, dh, line, rfl, e7, hline, fun lw H8 m8 hlw R8 => ⟨rfl, ?_⟩⟩
          have s68 : Same H6 H8 := fun b o e => m8 b o (s7 b o e) (ne_of_none e hh)
          obtain ⟨_, _, e8⟩ := R8.ins
          refine ⟨_, _, _, rfl, e8, rfl, ?_⟩
          refine ⟨h, lw, _, rfl, R8, fun H9 v m9 od => ?_⟩
          have s69 : Same H6 H9 := fun b o e => m9 b o (s68 b o e) (ne_of_none e hh)
          have s09 := s06.trans s69
          generalize ex : WT.rowF (WT.sp line) = x at od
          cases x with
          | none =>
            obtain rfl : v = .non := od
            rw [WT.goL_bad hnp ex] at go
            rw [go] at q
            have q : ∀ d H', Same H H' → H' d = some (.xd [("row", .int ((i + 1 : Nat) : Int))]) → E (.ref T.x_BadText.a) (some d) H' := q
            walk_at "bgo"
            refine ⟨rfl, ?_⟩
            walk_at "bgo"
            refine XS.r_mk ?_
            walk_at "bgo"
            exact XS.mkR1 (by omega) T.x_BadText.sc T.x_BadText.nf fun d H' sm ed => q d H' (s09.trans sm) (by rw [ed]; congr 4)
          | some d =>
            obtain ⟨tdv, gdv, nv⟩ := od
            rw [WT.goL_row hnp ex] at go
            walk_at "bgo"
            refine ⟨rfl, ?_⟩
            rw [show decide (v = V.non) = false from decide_eq_false nv]
            walk_at "bgo"
            have f39 := s69 _ _ (s6 _ _ f3)
            refine ⟨.inl ⟨rfl, _, R.sqL f39⟩, ?_⟩
            walk_at "bgo"
            refine ⟨_, _, _, rfl, rfl, f39, R.size_lt (by omega), ?_⟩
            have kt := WT.kt_lst (ys := vs ++ [v]) f39
            refine ⟨ks, vs ++ [v], rs ++ [d], _, _, _, rfl, CR.same_acc hH3 s09, ?_, ?_, ?_, upd_same, ?_, ?_, go, by rw [List.length_append, ← hl]; rfl, hk⟩
            · rw [upd_ne n03]; exact s69 _ _ (s6 _ _ f0)
            · rw [upd_ne n43]; exact s69 _ _ (s6 _ _ f4)
            · rw [upd_ne n23]; exact s69 _ _ (s6 _ _ f2)
            · exact CK.TdAll.snoc ((td6.keep (MM.KeepT.of s69)).keep kt) (tdv.keep kt)
            · intro x hx
              rcases List.mem_append.mp hx with h | h
              · exact gd x h
              · rw [List.mem_singleton.mp h]; exact gdv
    · rintro _ H5 ⟨ks, vs, rs, y4, y5, y6, rfl, s5, f0, f4, f2, f3, td, gd, go, hl, hk⟩
      rw [List.length_map] at go hl
      rw [List.drop_length] at go
      have go : WT.goL 0 [] [] ls.dropLast = .ok ks rs := go
      rw [go] at q
      have lvr := td.len
      have nl := List.length_pos_iff.mpr nne
      walk_at "bgo"
      have el : ls[ls.length - 1]? = some (ls.getLastD "") := by rw [List.getLastD_eq_getLast?, ← List.getLast?_eq_getElem?]; cases h : ls.getLast? with | none => exact absurd (List.getLast?_eq_none_iff.mp h) nne | some x => rfl
      refine R.r_ixL (v := .str (ls.getLastD "")) (R.sqL f0) (WT.at_last (by rw [List.getElem?_map, List.length_map, el]; rfl)) ?_
      generalize ls.getLastD "" = u at q el ⊢
      have q : if u = "" then (∀ H' v, Same H H' → CK.Td H' v (.tuple [.tuple (ks.map PyData.str), .tuple rs]) → WT.gw 4 (.tuple [.tuple (ks.map PyData.str), .tuple rs]) → Q v H') else ∀ d H', Same H H' → H' d = some (.xd [("row", .int (ls.length : Int))]) → E (.ref T.x_BadText.a) (some d) H' := by
        rw [show WT.endL u ls.length (WT.Rd.ok ks rs) = if u = "" then WT.Rd.ok ks rs else WT.Rd.bad ls.length from rfl] at q
        by_cases c : u = ""
        · rw [if_pos c] at q ⊢; exact q
        · rw [if_neg c] at q ⊢; exact q
      walk_at "bgo"
      refine R.r_iteN (fun c => ?_) (fun c => ?_)
      · rw [if_neg c] at q
        refine XS.r_mk ?_
        walk_at "bgo"
        refine R.r_lenL (R.sqL f0) ?_
        walk_at "bgo"
        rw [List.length_map]
        exact XS.mkR1 (by omega) T.x_BadText.sc T.x_BadText.nf fun d H' sm ed => q d H' (s5.trans sm) ed
      · rw [if_pos c] at q
        walk_at "bgo"
        refine ⟨p2, _, rfl, .inl ⟨R.sqL f2, fun a1 ha1 => ?_⟩⟩
        generalize hu : upd _ a1 _ = H6
        obtain ⟨s6, g1⟩ := MM.new2 hu ha1
        clear hu
        walk_at "bgo"
        refine ⟨p3, _, rfl, .inl ⟨R.sqL (s6 _ _ f3), fun a2 ha2 => ?_⟩⟩
        generalize hu : upd _ a2 _ = H7
        obtain ⟨s7, g2⟩ := MM.new2 hu ha2
        clear hu
        walk_at "bgo"
        refine ⟨Nat.le_of_ble_eq_true rfl, fun a3 ha3 => ?_⟩
        generalize hu : upd _ a3 _ = H8
        obtain ⟨s8, g3⟩ := MM.new2 hu ha3
        clear hu
        refine q H8 (.ref a3) (((s5.trans s6).trans s7).trans s8) (.tup g3 (.cons (.tup (s8 _ _ (s7 _ _ g1)) CK.TdAll.strs) (.cons (.tup (s8 _ _ g2) (td.keep (MM.KeepT.of ((s6.trans s7).trans s8)))) .nil))) ?_
        have hdl : ls.dropLast.length = ls.length - 1 := List.length_dropLast
        refine ⟨Nat.le_of_ble_eq_true rfl, fun x hx => ?_⟩
        rcases List.mem_cons.mp hx with rfl | hx
        · refine ⟨by rw [List.length_map]; omega, fun y hy => ?_⟩
          obtain ⟨k, mk, rfl⟩ := List.mem_map.mp hy
          have := hk k mk
          exact ⟨by omega, this.2⟩
        · rw [List.mem_singleton.mp hx]
          exact ⟨by omega, fun y hy => gd y hy⟩
end
end K52
end
section
local macro_rules | `(tactic| walk_at "s1") => `(tactic| first
  | ((with_reducible apply R.r_var); · rfl)
  | with_reducible apply R.r_c
  | with_reducible apply R.r_op
  | with_reducible apply R.r_I0
  | with_reducible apply R.r_cb
  | with_reducible apply R.r_cons
  | with_reducible apply R.r_nil
  | with_reducible apply R.r_seq
  | with_reducible apply R.r_asg
  | with_reducible apply R.r_ret
  | with_reducible apply R.r_ifS
  | with_reducible apply R.r_test
  | with_reducible apply R.r_t
  | with_reducible apply R.r_f
  | with_reducible apply R.r_nt
  | with_reducible apply R.r_nf
  | with_reducible apply R.r_bl
  | with_reducible apply R.r_U
  | with_reducible apply R.r_un
  | with_reducible apply R.r_eqI
  | with_reducible apply R.r_eqS
  | with_reducible apply R.r_neI
  | with_reducible apply R.r_neS
  | with_reducible apply R.r_and
  | with_reducible apply R.r_or
  | with_reducible apply R.r_not
  | with_reducible apply R.r_andV
  | with_reducible apply R.r_orV
  | with_reducible apply R.r_notV
  | with_reducible apply R.r_blV
  | with_reducible apply R.r_B
  | with_reducible apply R.r_ifE
  | with_reducible apply R.r_tup
  | with_reducible apply R.r_lst
  | with_reducible apply R.r_call
  | with_reducible apply R.r_drop
  | with_reducible apply R.r_next
  | with_reducible apply R.r_abs
  | with_reducible apply R.r_int1
  | with_reducible apply R.r_int1b
  | with_reducible apply R.r_min2
  | with_reducible apply R.r_bm
  | with_reducible apply R.r_bm0
  | with_reducible apply R.r_dget
  | with_reducible apply R.r_dput
  | with_reducible apply R.r_disp
  | with_reducible apply R.r_pnil
  | with_reducible apply R.r_pcons
  | with_reducible apply R.r_fld
  | with_reducible apply R.r_slice
  | with_reducible apply R.r_nopart
  | with_reducible apply R.r_part
  | with_reducible apply R.r_int
  | with_reducible apply R.r_yes
  | with_reducible apply R.r_retN
  | with_reducible apply R.r_asgG
  | with_reducible apply R.r_gname
  | with_reducible apply R.r_rng1
  | with_reducible apply R.r_brk
  | with_reducible apply R.r_cnt
  | with_reducible apply R.r_m1
  | with_reducible apply R.r_lcr
  | with_reducible apply R.r_p2_63
  | with_reducible apply R.r_p2_64
  | with_reducible apply R.r_p2_32
  | with_reducible apply R.r_p2_31
  | with_reducible apply R.r_p10_18
  | with_reducible apply R.r_p10_30
  | with_reducible refine R.r_mod (by omega) ?_
  | with_reducible refine R.r_div (by omega) ?_
  | with_reducible refine R.r_mulR (by omega) ?_
  | with_reducible refine R.r_mulL (by omega) ?_
  | with_reducible refine R.r_iteY (by decide +kernel) ?_
  | with_reducible refine R.r_iteF (by decide +kernel) ?_
  | with_reducible refine R.r_isi R.isi_int ?_
  | with_reducible refine R.r_isi R.isi_intB ?_)
local macro_rules | `(tactic| walk_at "go") => `(tactic| repeat (walk_at "s1"))

local macro_rules | `(tactic| walk_at "c1") => `(tactic| first
  | walk_at "s1"
  | with_reducible apply MM.r_chain
  | with_reducible apply CR.r_zl
  | with_reducible apply MM.r_daug
  | with_reducible apply MM.r_add)
local macro_rules | `(tactic| walk_at "cgo") => `(tactic| repeat (walk_at "c1"))

namespace K52
open PySem PySem.Spec PyProof.Rows L2
open WT (dT)
def spParts : Sp := fun vs H Q _ => ∃ (a : Addr) (r : CR.Wd) (xs : List V), vs = [.ref a] ∧ H a = some (.tup (.str r.nm :: xs)) ∧ xs.length = r.ks.length ∧
  ∀ H' p (ts : List Addr), Same H H' → H p = none → H' p = some (.lst (ts.map V.ref)) → ts.length = r.ks.length → (∀ (j : Nat) t, ts[j]? = some t → ∃ k x, r.ks[j]? = some k ∧ xs[j]? = some x ∧ H' t = some (.tup [.str k.nm, x])) → Q (.ref p) H'
def spWV : Sp := fun vs H Q _ => ∃ (v : V) (d : PyData), vs = [v] ∧ CK.Td H v d ∧ CK.val d = true ∧ ∀ H', Same H H' → Q (.str (WT.jn (WT.valW d))) H'
def spWP : Sp := fun vs H Q _ => ∃ (k : CR.Kd) (v : V) (d : PyData), vs = [.str k.nm, v] ∧ CK.Td H v d ∧ CK.prt k d = true ∧ CK.gd 1 d ∧ ∀ H', Same H H' → Q (.str (WT.jn (WT.partW k d))) H'
def spWR : Sp := fun vs H Q _ => ∃ (v : V) (w : CR.Wd) (ds : List PyData), vs = [v] ∧ CK.Td H v (.tuple (.str w.nm :: ds)) ∧ CK.FitD w.ks ds ∧ ∀ H', Same H H' → Q (.str (WT.rowT w ds)) H'
section
variable {P : Program} {w : World} {K : PySem.W.Frag} {mg : Str → Option Value} {base : Heap}
theorem ok_parts_of (T : Txt w K mg) : FnOk P w K mg base CX0 1 T.p_parts_of.f T.p_parts_of.fd ["row"] spParts := by
  refine T.p_parts_of.F.ok sc_parts_of (fun vs H Q E h => ?_) (fun cdv A outer s H vs Q E hr h => ?_)
  · obtain ⟨a, r, xs, rfl, _⟩ := h
    rfl
  · obtain ⟨a, r, xs, rfl, ha, hl, q⟩ := h
    refine ⟨_, (pss_one (ps_ret (Zl.pe_listZip rfl (by rfl) T.m_list (by rfl) T.m_zip (pa_cons (pe_ix ix_kdict (pe_glob (v := .ref T.d_PARTS.a) (by rfl) T.d_PARTS.g rfl) (pe_ix ix_tup (pv 0) pe_int (fun _ _ => rfl)) (fun _ _ => rfl)) (pa_cons (pe_slice sl_tup (pv 0) (po_some pe_int) po_none) pa_nil))))), ?_⟩
    walk_at "cgo"
    refine R.r_ixT (v := .str r.nm) (R.sqT ha) (R.at_nat (by decide) rfl) ?_
    obtain ⟨t, hk, ht⟩ := T.d_PARTS.es.get (CR.tab_get r)
    refine ⟨_, _, _, rfl, rfl, hk, ?_⟩
    walk_at "cgo"
    refine CR.sl_from (n := 1) (R.sqT ha) (Nat.le_refl _) (by rw [List.length_cons]; omega) fun p H1 s1 hp e1 => ?_
    walk_at "cgo"
    refine ⟨t, p, _, _, rfl, ht H1, R.sqT e1, fun H2 l ts s2 hl2 e2 hlen hts => ?_⟩
    have hd : List.drop 1 (V.str r.nm :: xs) = xs := rfl
    rw [hd] at hlen hts
    rw [List.length_map, List.length_map] at hlen
    refine q H2 l ts (s1.trans s2) (s1.free hl2) e2 (by omega) fun j t ej => ?_
    obtain ⟨x, y, ex, ey, et⟩ := hts j t ej
    rw [List.getElem?_map, List.getElem?_map] at ex
    cases ek : r.ks[j]? with
    | none => rw [ek] at ex; cases ex
    | some k =>
      rw [ek] at ex
      obtain rfl := Option.some.inj ex
      exact ⟨k, y, rfl, ey, et⟩
theorem ok_written_value (T : Txt w K mg) : FnOk P w K mg base CX0 4 T.p_written_value.f T.p_written_value.fd ["value"] spWV := by
  refine T.p_written_value.F.ok sc_written_value (fun vs H Q E h => ?_) (fun cdv A outer s H vs Q E hr h => ?_)
  · obtain ⟨v, d, rfl, _⟩ := h
    rfl
  · obtain ⟨v, d, rfl, td, hv, q⟩ := h
    refine ⟨_, (pss_cons (ps_asg (pv 0) (pg_tup rfl (pgs_cons (pg_name (i := 1) sc_written_value.nd rfl (.inl rfl)) (pgs_cons (pg_name (i := 2) sc_written_value.nd rfl (.inl rfl)) pgs_nil))))
(pss_cons (ps_if (pt_cmpR op_eq (pv 1) pe_str (nomark _))
 (pss_one (ps_ret (pe_joined (.cons pe_str (.cons (pe_fmt (pe_call (ok_dec T) (hr.mono (by decide)) (by rfl) T.p_decimal.g T.p_decimal.F.kp T.p_decimal.b .nil pass0 (pa_cons (pv 2) pa_nil))) .nil)))))
 pss_nil)
(pss_one (ps_ret (pe_joined (.cons pe_str (.cons (pe_fmt (pe_callB call_len (by rfl) T.m_len (by decide +kernel) (pa_cons (pv 2) pa_nil))) (.cons pe_str (.cons (pe_fmt (pv 2)) .nil))))))))), ?_⟩
    rcases WT.val_cases hv with ⟨n, rfl, n0, n1⟩ | ⟨z, rfl, lz, _⟩
    · obtain ⟨a, rfl, e⟩ := WT.td_two td
      obtain ⟨_, _, e, t1, t2⟩ := e
      cases t1
      cases t2
      walk_at "cgo"
      refine ⟨_, _, rfl, R.sqT e, rfl, _, _, rfl, _, _, rfl, rfl, ?_⟩
      walk_at "cgo"
      refine RD.j_c (Nat.le_of_ble_eq_true rfl) ?_
      refine RD.j_f ?_
      walk_at "cgo"
      refine ⟨n, rfl, n0, n1, fun H1 s1 => ?_⟩
      have l := WT.dT_len (n := n) (by omega) (by omega)
      refine RD.j_y (by omega) (by show 4 + _ ≤ _; omega) ?_
      refine RD.j_nil ?_
      rw [WT.jn_valI]
      exact q H1 s1
    · obtain ⟨a, rfl, e⟩ := WT.td_two td
      obtain ⟨_, _, e, t1, t2⟩ := e
      cases t1
      cases t2
      walk_at "cgo"
      refine ⟨_, _, rfl, R.sqT e, rfl, _, _, rfl, _, _, rfl, rfl, ?_⟩
      walk_at "cgo"
      have l := WT.dT_len (n := (z.length : Int)) (by omega) (by omega)
      refine RD.j_c (Nat.le_of_ble_eq_true rfl) ?_
      refine RD.j_f ?_
      walk_at "cgo"
      refine ⟨_, z.length, rfl, ⟨R.size_of (by omega), rfl⟩, .inr ⟨_, rfl, RD.log_small (by omega) (by omega), _, rfl, ?_, ?_⟩⟩
      · refine WT.sz ?_
        rw [Str.length_append]
        show 4 + (dT (z.length : Int)).length ≤ _
        omega
      have l2 : (Str.empty ++ Str.ofString "str " ++ Str.ofString (toString (z.length : Int))).length ≤ 24 := by
        rw [Str.length_append]
        show 4 + (dT (z.length : Int)).length ≤ _
        omega
      refine RD.j_c (by show _ + 2 ≤ _; omega) ?_
      refine RD.j_f ?_
      walk_at "cgo"
      refine RD.j_y (by omega) (by rw [Str.length_append]; show _ + 2 + _ ≤ _; omega) ?_
      refine RD.j_nil ?_
      rw [show Str.ofString (toString (z.length : Int)) = dT (z.length : Int) from rfl, WT.jn_valS]
      exact q H (Same.refl H)
theorem ok_written_part (T : Txt w K mg) : FnOk P w K mg base CX0 5 T.p_written_part.f T.p_written_part.fd ["part", "thing"] spWP := by
  refine T.p_written_part.F.ok sc_written_part (fun vs H Q E h => ?_) (fun cdv A outer s H vs Q E hr h => ?_)
  · obtain ⟨k, v, d, rfl, _⟩ := h
    rfl
  · obtain ⟨kd, v, d, rfl, td, hp, g, q⟩ := h
    refine ⟨_, (pss_cons (ps_if (pt_cmpR (op_in_kd T.i_CHOICES.kd) (pv 0) (pe_glob (v := .ref T.d_CHOICES.a) (by rfl) T.d_CHOICES.g rfl) rfl)
 (pss_one (ps_ret (pv 1)))
 pss_nil)
(pss_cons (ps_if (pt_cmpR op_eq (pv 0) pe_str (nomark _))
 (pss_one (ps_ret (pe_call (ok_written_value T) (hr.mono (by decide)) (by rfl) T.p_written_value.g T.p_written_value.F.kp T.p_written_value.b .nil pass0 (pa_cons (pv 1) pa_nil))))
 pss_nil)
(pss_cons (ps_if (pt_cmpR op_in_seq (pv 0) (pe_glob (v := .ref T.a_LISTED) (by rfl) T.c_LISTED rfl) rfl)
 (pss_one (ps_ret (pe_join pe_str (pe_lc (own := [("number", 2)]) (g := gName 2) (tt := tYes) rfl sc_written_part.nd (pi_tup (pe_op op_catA (pe_tup (pa_cons (pe_callB R.cLenS (by rfl) T.m_len (by decide +kernel) (pa_cons (pv 1) pa_nil)) pa_nil)) (pv 1))) (blkOk_by (own := [("number", 2)]) (N := N_written_part) (sc := defScope s_written_part) (by decide +kernel)) (fun _ _ _ _ _ => (pg_name (i := 2) sc_written_part.nd rfl (.inl rfl))) (fun _ _ _ _ _ => pts_nil) (fun _ _ _ _ _ => (pe_call (ok_dec T) (hr.mono (by decide)) (by rfl) T.p_decimal.g T.p_decimal.F.kp T.p_decimal.b .nil pass0 (pa_cons (pv 2) pa_nil)))))))
 pss_nil)
(pss_one (ps_ret (pe_call (ok_dec T) (hr.mono (by decide)) (by rfl) T.p_decimal.g T.p_decimal.F.kp T.p_decimal.b .nil pass0 (pa_cons (pv 1) pa_nil))))))), ?_⟩
    walk_at "cgo"
    obtain ⟨z, er, es⟩ := T.i_CHOICES.m kd.nm
    refine ⟨_, z, rfl, rfl, er, z.isSome, rfl, ?_⟩
    rw [es]
    refine R.r_ite (fun c1 => ?_) (fun c1 => ?_)
    · obtain ⟨s, rfl, e⟩ := WT.ch_str (WT.ch_no.mp c1) hp
      cases td
      walk_at "cgo"
      rw [e, WT.jn_one] at q
      exact q H (Same.refl H)
    walk_at "cgo"
    refine R.r_ite (fun c5 => ?_) (fun c5 => ?_)
    · obtain rfl := CK.nm_value.mp c5
      walk_at "cgo"
      exact ⟨v, d, rfl, td, hp, q⟩
    walk_at "cgo"
    refine CR.r_inK (T.t_LISTED _) rfl rfl CR.nm_listed ?_
    walk_at "cgo"
    refine R.r_ite (fun c6 => ?_) (fun c6 => ?_)
    · obtain ⟨ns, rfl, ln, hns, epw⟩ := WT.ls_part c6 hp g
      have mp := WT.msr_part hp g
      have bkm : WT.bk kd ≤ 21100 := by rcases c6 with rfl | rfl <;> decide
      rw [epw] at q mp
      cases td with
      | tup e al =>
        rename_i a vs
        obtain rfl := WT.td_ints al
        walk_at "cgo"
        refine ⟨⟨_, rfl⟩, ?_⟩
        refine MM.r_lcT ?_
        walk_at "cgo"
        refine R.r_lenT (R.sqT e) ?_
        walk_at "cgo"
        refine ⟨Nat.le_of_ble_eq_true rfl, fun p hp => ?_⟩
        generalize hu : upd _ p _ = H1
        obtain ⟨s1, e1⟩ := MM.new2 hu hp
        clear hu
        walk_at "cgo"
        rw [List.length_map] at e1
        refine CK.r_catA e1 (s1 _ _ e) (by rw [List.length_map]; show 1 + _ ≤ _; omega) fun H2 p2 s2 e2 => ?_
        have e2 : H2 p2 = some (.tup ((((ns.length : Nat) : Int) :: ns).map V.int)) := e2
        refine ⟨p2, rfl, ⟨_, R.sqT e2⟩, ?_⟩
        have lall : ∀ n ∈ ((ns.length : Nat) : Int) :: ns, 0 ≤ n ∧ n ≤ 10000 := fun n m => by
          rcases List.mem_cons.mp m with rfl | m
          · omega
          · exact hns n m
        have lln : (((ns.length : Nat) : Int) :: ns).length ≤ 1001 := by rw [List.length_cons]; omega
        generalize ((ns.length : Nat) : Int) :: ns = ms at q mp e2 lall lln ⊢
        refine MM.lc_go (walk_tup (xs := ms.map V.int)) (fun D i H' => WT.Trv ((ms.map dT).map V.str) H2 D i H') ?_ (fun D i H' hD t => R.sqT (t.1 _ _ e2)) ?_ ?_
        · intro D hD
          exact WT.Trv.start hD
        · rintro D i x H3 H3' hD hi t ⟨rfl, ex⟩
          rw [List.getElem?_map] at ex
          cases em : ms[i]? with
          | none => rw [em] at ex; cases ex
          | some n =>
            rw [em] at ex
            obtain rfl := Option.some.inj ex
            have hn := lall n (List.mem_of_getElem? em)
            refine ⟨rfl, ?_⟩
            walk_at "cgo"
            refine ⟨n, rfl, by omega, by omega, fun H4 s4 => ?_⟩
            exact t.step hD s4 (by rw [List.getElem?_map, List.getElem?_map, em]; rfl) (by rw [List.length_map, List.length_map]; omega)
        · intro D H3 hD t
          obtain ⟨s3, e3⟩ := t.all (by rw [List.length_map, List.length_map, List.length_map]; exact Nat.le_refl _)
          refine ⟨_, D, ms.map dT, rfl, rfl, .inl (R.sqL e3), ?_, q H3 ((s1.trans s2).trans s3)⟩
          have := WT.sum_msr (ws := ms.map dT)
          rw [List.length_map]
          show _ + ms.length * 1 ≤ _
          omega
    · walk_at "cgo"
      obtain ⟨n, rfl, e, n0, n1⟩ := WT.int_part c1 (fun z => c5 (by rw [z]; rfl)) c6 hp
      cases td
      rw [e, WT.jn_one] at q
      exact ⟨n, rfl, n0, n1, q⟩
theorem ok_written_row (T : Txt w K mg) : FnOk P w K mg base CX0 6 T.p_written_row.f T.p_written_row.fd ["row"] spWR := by
  refine T.p_written_row.F.ok sc_written_row (fun vs H Q E h => ?_) (fun cdv A outer s H vs Q E hr h => ?_)
  · obtain ⟨v, w', ds, rfl, _⟩ := h
    rfl
  · obtain ⟨v, w', ds, rfl, td, f, q⟩ := h
    refine ⟨_, (pss_one (ps_ret (pe_join pe_str (pe_op op_cat (pe_lst (pa_cons (pe_ix ix_tup (pv 0) pe_int (fun _ _ => rfl)) pa_nil)) (pe_lc (own := [("part", 1), ("thing", 2)]) (g := gTup _ 2 (gCons (gName 1) (gCons (gName 2) gNil))) (tt := tYes) rfl sc_written_row.nd (pi_list (pe_call (ok_parts_of T) (hr.mono (by decide)) (by rfl) T.p_parts_of.g T.p_parts_of.F.kp T.p_parts_of.b .nil pass0 (pa_cons (pv 0) pa_nil))) (blkOk_by (own := [("part", 1), ("thing", 2)]) (N := N_written_row) (sc := defScope s_written_row) (by decide +kernel)) (fun _ _ _ _ _ => (pg_tup rfl (pgs_cons (pg_name (i := 1) sc_written_row.nd rfl (.inl rfl)) (pgs_cons (pg_name (i := 2) sc_written_row.nd rfl (.inl rfl)) pgs_nil)))) (fun _ _ _ _ _ => pts_nil) (fun _ _ _ _ _ => (pe_call (ok_written_part T) (hr.mono (by decide)) (by rfl) T.p_written_part.g T.p_written_part.F.kp T.p_written_part.b .nil pass0 (pa_cons (pv 1) (pa_cons (pv 2) pa_nil))))))))), ?_⟩
    have lf := f.len
    have lk := CR.ks_len w'
    have lT := WT.rowT_len f
    have eT := WT.rowT_eq f
    cases td with
    | tup e al =>
      rename_i a vs
      cases al with
      | cons t0 al =>
        cases t0
        rename_i vs
        have lvs := al.len
        walk_at "cgo"
        refine ⟨⟨_, rfl⟩, ?_⟩
        walk_at "cgo"
        refine R.r_ixT (v := .str w'.nm) (R.sqT e) (R.at_nat (by decide) rfl) ?_
        walk_at "cgo"
        refine ⟨Nat.le_of_ble_eq_true rfl, fun p1 hp1 => ?_⟩
        generalize hu : upd _ p1 _ = H1
        obtain ⟨s1, e1⟩ := MM.new2 hu hp1
        clear hu
        refine MM.r_lcL ?_
        walk_at "cgo"
        refine ⟨a, w', vs, rfl, s1 _ _ e, by omega, fun H2 p ts s2 hp e2 hlen hts => ?_⟩
        refine ⟨p, rfl, ⟨_, R.sqL e2⟩, ?_⟩
        have lz : ((w'.ks.zip ds).map fun x => WT.jn (WT.partW x.1 x.2)).length = ts.length := by rw [List.length_map, List.length_zip, hlen]; omega
        generalize eus : ((w'.ks.zip ds).map fun x => WT.jn (WT.partW x.1 x.2)) = us at lz eT
        refine MM.lc_go (walk_list (xs := ts.map V.ref)) (fun D i H' => WT.Trv (us.map V.str) H2 D i H') ?_ (fun D i H' hD t => R.sqL (t.1 _ _ e2)) ?_ ?_
        · intro D hD
          exact WT.Trv.start hD
        · rintro D i y H3 H3' hD hi t ⟨rfl, ey⟩
          have hi : i < ts.length := by rwa [List.length_map] at hi
          rw [List.getElem?_map, List.getElem?_eq_getElem hi] at ey
          obtain rfl := Option.some.inj ey
          obtain ⟨k, x, ek, ex, et⟩ := hts i _ (List.getElem?_eq_getElem hi)
          obtain ⟨d, ed, tdx⟩ := WT.td_get al ex
          refine ⟨_, _, rfl, R.sqT (t.1 _ _ et), rfl, _, _, rfl, _, _, rfl, rfl, ?_⟩
          refine ⟨rfl, ?_⟩
          walk_at "cgo"
          refine ⟨k, x, d, rfl, tdx.keep (MM.KeepT.of ((s1.trans s2).trans t.1)), f.get i _ _ ek ed, f.gd d (List.mem_of_getElem? ed), fun H4 s4 => ?_⟩
          refine t.step hD s4 ?_ (by rw [List.length_map]; omega)
          rw [← eus, List.getElem?_map, List.getElem?_map, show (w'.ks.zip ds)[i]? = some (k, d) from List.getElem?_zip_eq_some.mpr ⟨ek, ed⟩]
          rfl
        · intro D H3 hD t
          obtain ⟨s3, e3⟩ := t.all (by rw [List.length_map, List.length_map]; omega)
          walk_at "cgo"
          refine CK.r_cat ((s2.trans s3) _ _ e1) e3 (by rw [List.length_map]; show 1 + _ ≤ _; omega) fun p5 hp5 => ?_
          generalize hu : upd _ p5 _ = H4
          obtain ⟨s4, e4⟩ := MM.new2 hu hp5
          clear hu
          have e4 : H4 p5 = some (.lst ((w'.nm :: us).map V.str)) := e4
          refine ⟨_, p5, w'.nm :: us, rfl, rfl, .inl (R.sqL e4), ?_, ?_⟩
          · have a1 := WT.sum_msr (ws := w'.nm :: us)
            have a2 := WT.len_jn (ws := w'.nm :: us) (by simp)
            rw [← eT] at a2
            have a3 : us.length ≤ 1000 := by omega
            rw [List.length_cons]
            show _ + (us.length + 1) * 1 ≤ _
            omega
          · rw [show Txt.join (Str.ofString " ") (w'.nm :: us) = WT.rowT w' ds from eT.symm]
            exact q H4 (((s1.trans s2).trans s3).trans s4)
def spWT : Sp := fun vs H Q _ => ∃ (v : V) (ks : List Str) (rs : List PyData), vs = [v] ∧ CK.Td H v (.tuple [.tuple (ks.map PyData.str), .tuple rs]) ∧ (∀ k ∈ ks, k = "int" ∨ k = "str") ∧ (∀ d ∈ rs, WT.RowD d) ∧ ks.length ≤ 4 ∧ rs.length ≤ 14 ∧ ∀ H', Same H H' → Q (.str (WT.lnT (WT.codeL ks rs))) H'
theorem ok_write_text (T : Txt w K mg) : FnOk P w K mg base CX0 7 T.p_write_text.f T.p_write_text.fd ["code"] spWT := by
  refine T.p_write_text.F.ok sc_write_text (fun vs H Q E h => ?_) (fun cdv A outer s H vs Q E hr h => ?_)
  · obtain ⟨v, ks, rs, rfl, _⟩ := h
    rfl
  · obtain ⟨v, ks, rs, rfl, td, hks, hrs, lk, lr, q⟩ := h
    refine ⟨_, (pss_cons (ps_asg (pv 0) (pg_tup rfl (pgs_cons (pg_name (i := 1) sc_write_text.nd rfl (.inl rfl)) (pgs_cons (pg_name (i := 2) sc_write_text.nd rfl (.inl rfl)) pgs_nil))))
(pss_cons (ps_set (i := 3) sc_write_text.nd rfl (.inl rfl) (pe_op op_cat (pe_lc (own := [("kind", 4)]) (g := gName 4) (tt := tYes) rfl sc_write_text.nd (pi_tup (pv 1)) (blkOk_by (own := [("kind", 4)]) (N := N_write_text) (sc := defScope s_write_text) (by decide +kernel)) (fun _ _ _ _ _ => (pg_name (i := 4) sc_write_text.nd rfl (.inl rfl))) (fun _ _ _ _ _ => pts_nil) (fun _ _ _ _ _ => (pe_joined (.cons pe_str (.cons (pe_fmt (pv 4)) .nil))))) (pe_lc (own := [("row", 5)]) (g := gName 5) (tt := tYes) rfl sc_write_text.nd (pi_tup (pv 2)) (blkOk_by (own := [("row", 5)]) (N := N_write_text) (sc := defScope s_write_text) (by decide +kernel)) (fun _ _ _ _ _ => (pg_name (i := 5) sc_write_text.nd rfl (.inl rfl))) (fun _ _ _ _ _ => pts_nil) (fun _ _ _ _ _ => (pe_call (ok_written_row T) (hr.mono (by decide)) (by rfl) T.p_written_row.g T.p_written_row.F.kp T.p_written_row.b .nil pass0 (pa_cons (pv 5) pa_nil))))))
(pss_one (ps_ret (pe_join pe_str (pe_lc (own := [("row", 5)]) (g := gName 5) (tt := tYes) rfl sc_write_text.nd (pi_list (pv 3)) (blkOk_by (own := [("row", 5)]) (N := N_write_text) (sc := defScope s_write_text) (by decide +kernel)) (fun _ _ _ _ _ => (pg_name (i := 5) sc_write_text.nd rfl (.inl rfl))) (fun _ _ _ _ _ => pts_nil) (fun _ _ _ _ _ => (pe_op op_add_str (pv 5) pe_str)))))))), ?_⟩
    obtain ⟨a, rfl, _, _, e, t0, t1⟩ := WT.td_two td
    cases t0 with
    | tup ek alk =>
    cases t1 with
    | tup er alr =>
    rename_i pk vk pr vr
    have evk := WT.td_strs alk
    subst evk
    have lvr := alr.len
    walk_at "cgo"
    refine ⟨a, _, rfl, R.sqT e, rfl, _, _, rfl, _, _, rfl, rfl, ?_⟩
    walk_at "cgo"
    refine MM.r_lcT ?_
    walk_at "cgo"
    refine ⟨pk, rfl, ⟨_, R.sqT ek⟩, ?_⟩
    have lk1 : ∀ k ∈ ks, k.length = 3 := fun k m => by rcases hks k m with rfl | rfl <;> rfl
    refine MM.lc_go (walk_tup (xs := ks.map V.str)) (fun D i H' => WT.Trv ((ks.map fun k => ("place " : Str) ++ k).map V.str) H D i H') ?_ (fun D i H' hD t => R.sqT (t.1 _ _ ek)) ?_ ?_
    · intro D hD
      exact WT.Trv.start hD
    · rintro D i x H3 H3' hD hi t ⟨rfl, ex⟩
      rw [List.getElem?_map] at ex
      cases em : ks[i]? with
      | none => rw [em] at ex; cases ex
      | some n =>
        rw [em] at ex
        obtain rfl := Option.some.inj ex
        have ln := lk1 n (List.mem_of_getElem? em)
        refine ⟨rfl, ?_⟩
        walk_at "cgo"
        refine RD.j_c (Nat.le_of_ble_eq_true rfl) ?_
        refine RD.j_f ?_
        walk_at "cgo"
        refine RD.j_y (by omega) (by show 6 + _ ≤ _; omega) ?_
        refine RD.j_nil ?_
        exact t.step hD (Same.refl _) (by rw [List.getElem?_map, List.getElem?_map, em]; rfl) (by rw [List.length_map, List.length_map]; omega)
    · intro D1 H1 hD1 t
      obtain ⟨s1, e1⟩ := t.all (by rw [List.length_map, List.length_map, List.length_map]; exact Nat.le_refl _)
      clear t
      walk_at "cgo"
      refine MM.r_lcT ?_
      walk_at "cgo"
      refine ⟨pr, rfl, ⟨_, R.sqT (s1 _ _ er)⟩, ?_⟩
      refine MM.lc_go (walk_tup (xs := vr)) (fun D i H' => WT.Trv ((rs.map WT.rowTd).map V.str) H1 D i H') ?_ (fun D i H' hD t => R.sqT (t.1 _ _ (s1 _ _ er))) ?_ ?_
      · intro D hD
        exact WT.Trv.start hD
      · rintro D i x H3 H3' hD hi t ⟨rfl, ex⟩
        obtain ⟨d, ed, tdx⟩ := WT.td_get alr ex
        obtain ⟨w', ds, rfl, f⟩ := hrs d (List.mem_of_getElem? ed)
        refine ⟨rfl, ?_⟩
        walk_at "cgo"
        refine ⟨x, w', ds, rfl, tdx.keep (MM.KeepT.of (s1.trans t.1)), f, fun H4 s4 => ?_⟩
        exact t.step hD s4 (by rw [List.getElem?_map, List.getElem?_map, ed]; exact congrArg some (congrArg V.str WT.rowTd_w)) (by rw [List.length_map, List.length_map]; omega)
      · intro D2 H2 hD2 t
        obtain ⟨s2, e2⟩ := t.all (by rw [List.length_map, List.length_map]; omega)
        clear t
        walk_at "cgo"
        refine CK.r_cat (s2 _ _ e1) e2 (by rw [List.length_map, List.length_map, List.length_map, List.length_map]; omega) fun p3 hp3 => ?_
        generalize hu : upd _ p3 _ = H3
        obtain ⟨s3, e3⟩ := MM.new2 hu hp3
        clear hu
        rw [← List.map_append] at e3
        have e3 : H3 p3 = some (.lst ((WT.codeL ks rs).map V.str)) := e3
        have ll : (WT.codeL ks rs).length ≤ 18 := by
          unfold WT.codeL
          rw [List.length_append, List.length_map, List.length_map]
          omega
        have lline : ∀ l ∈ WT.codeL ks rs, l.length ≤ 21500 := fun l m => by
          rcases List.mem_append.mp m with m | m
          · obtain ⟨k, mk, rfl⟩ := List.mem_map.mp m
            have := lk1 k mk
            rw [Str.length_append]
            show 6 + _ ≤ _
            omega
          · obtain ⟨d, mk, rfl⟩ := List.mem_map.mp m
            obtain ⟨w', ds, rfl, f⟩ := hrs d mk
            rw [WT.rowTd_w]
            exact WT.rowT_len f
        generalize WT.codeL ks rs = ls at q e3 ll lline ⊢
        walk_at "cgo"
        refine ⟨⟨_, rfl⟩, ?_⟩
        refine MM.r_lcL ?_
        walk_at "cgo"
        refine ⟨p3, rfl, ⟨_, R.sqL e3⟩, ?_⟩
        refine MM.lc_go (walk_list (xs := ls.map V.str)) (fun D i H' => WT.Trv ((ls.map fun l => l ++ WT.nl).map V.str) H3 D i H') ?_ (fun D i H' hD t => R.sqL (t.1 _ _ e3)) ?_ ?_
        · intro D hD
          exact WT.Trv.start hD
        · rintro D i x H4 H4' hD hi t ⟨rfl, ex⟩
          rw [List.getElem?_map] at ex
          cases em : ls[i]? with
          | none => rw [em] at ex; cases ex
          | some n =>
            rw [em] at ex
            obtain rfl := Option.some.inj ex
            have ln := lline n (List.mem_of_getElem? em)
            refine ⟨rfl, ?_⟩
            walk_at "cgo"
            refine ⟨_, _, rfl, rfl, R.size_of (by show _ + 1 ≤ _; omega), ?_⟩
            exact t.step hD (Same.refl _) (by rw [List.getElem?_map, List.getElem?_map, em]; rfl) (by rw [List.length_map, List.length_map]; omega)
        · intro D4 H4 hD4 t
          obtain ⟨s4, e4⟩ := t.all (by rw [List.length_map, List.length_map, List.length_map]; exact Nat.le_refl _)
          clear t
          refine ⟨_, D4, ls.map fun l => l ++ WT.nl, rfl, rfl, .inl (R.sqL e4), ?_, q H4 (((s1.trans s2).trans s3).trans s4)⟩
          have := WT.sum_le (n := 21501) (ws := ls.map fun l => l ++ WT.nl) fun z m => by
            obtain ⟨l, ml, rfl⟩ := List.mem_map.mp m
            have := lline l ml
            rw [Str.length_append]
            show _ + 1 ≤ _
            omega
          rw [List.length_map] at this ⊢
          show _ + ls.length * 0 ≤ _
          omega
end
end K52
end
section
local macro_rules | `(tactic| walk_at "s1") => `(tactic| first
  | ((with_reducible apply R.r_var); · rfl)
  | with_reducible apply R.r_c
  | with_reducible apply R.r_op
  | with_reducible apply R.r_I0
  | with_reducible apply R.r_cb
  | with_reducible apply R.r_cons
  | with_reducible apply R.r_nil
  | with_reducible apply R.r_seq
  | with_reducible apply R.r_asg
  | with_reducible apply R.r_ret
  | with_reducible apply R.r_ifS
  | with_reducible apply R.r_test
  | with_reducible apply R.r_t
  | with_reducible apply R.r_f
  | with_reducible apply R.r_nt
  | with_reducible apply R.r_nf
  | with_reducible apply R.r_bl
  | with_reducible apply R.r_U
  | with_reducible apply R.r_un
  | with_reducible apply R.r_eqI
  | with_reducible apply R.r_eqS
  | with_reducible apply R.r_neI
  | with_reducible apply R.r_neS
  | with_reducible apply R.r_and
  | with_reducible apply R.r_or
  | with_reducible apply R.r_not
  | with_reducible apply R.r_andV
  | with_reducible apply R.r_orV
  | with_reducible apply R.r_notV
  | with_reducible apply R.r_blV
  | with_reducible apply R.r_B
  | with_reducible apply R.r_ifE
  | with_reducible apply R.r_tup
  | with_reducible apply R.r_lst
  | with_reducible apply R.r_call
  | with_reducible apply R.r_drop
  | with_reducible apply R.r_next
  | with_reducible apply R.r_abs
  | with_reducible apply R.r_int1
  | with_reducible apply R.r_int1b
  | with_reducible apply R.r_min2
  | with_reducible apply R.r_bm
  | with_reducible apply R.r_bm0
  | with_reducible apply R.r_dget
  | with_reducible apply R.r_dput
  | with_reducible apply R.r_disp
  | with_reducible apply R.r_pnil
  | with_reducible apply R.r_pcons
  | with_reducible apply R.r_fld
  | with_reducible apply R.r_slice
  | with_reducible apply R.r_nopart
  | with_reducible apply R.r_part
  | with_reducible apply R.r_int
  | with_reducible apply R.r_yes
  | with_reducible apply R.r_retN
  | with_reducible apply R.r_asgG
  | with_reducible apply R.r_gname
  | with_reducible apply R.r_rng1
  | with_reducible apply R.r_brk
  | with_reducible apply R.r_cnt
  | with_reducible apply R.r_m1
  | with_reducible apply R.r_lcr
  | with_reducible apply R.r_p2_63
  | with_reducible apply R.r_p2_64
  | with_reducible apply R.r_p2_32
  | with_reducible apply R.r_p2_31
  | with_reducible apply R.r_p10_18
  | with_reducible apply R.r_p10_30
  | with_reducible refine R.r_mod (by omega) ?_
  | with_reducible refine R.r_div (by omega) ?_
  | with_reducible refine R.r_mulR (by omega) ?_
  | with_reducible refine R.r_mulL (by omega) ?_
  | with_reducible refine R.r_iteY (by decide +kernel) ?_
  | with_reducible refine R.r_iteF (by decide +kernel) ?_
  | with_reducible refine R.r_isi R.isi_int ?_
  | with_reducible refine R.r_isi R.isi_intB ?_)
local macro_rules | `(tactic| walk_at "go") => `(tactic| repeat (walk_at "s1"))

local macro_rules | `(tactic| walk_at "c1") => `(tactic| first
  | walk_at "s1"
  | with_reducible apply MM.r_chain
  | with_reducible apply CR.r_zl
  | with_reducible apply MM.r_daug
  | with_reducible apply MM.r_add)
local macro_rules | `(tactic| walk_at "cgo") => `(tactic| repeat (walk_at "c1"))

namespace K52
open PySem PySem.Spec PyProof.Rows L2
section
variable {P : Program} {w : World} {K : PySem.W.Frag} {mg : Str → Option Value} {base : Heap}
theorem ok_law_draws (T : Txt w K mg) : FnOk P w K mg base CX0 1 T.p_law_draws.f T.p_law_draws.fd ["script", "many"] (CR.spDraws K) := by
  refine T.p_law_draws.F.ok sc_law_draws (fun vs H Q E h => ?_) (fun cdv A outer s H vs Q E hr h => ?_)
  · obtain ⟨a, ns, many, rfl, _⟩ := h
    rfl
  · obtain ⟨a, ns, many, rfl, hS, hlen, hm0, hm1, q⟩ := h
    refine ⟨_, (pss_cons (ps_set (i := 2) sc_law_draws.nd rfl (.inl rfl) (pe_lst pa_nil))
(pss_cons (ps_set (i := 3) sc_law_draws.nd rfl (.inl rfl) pe_int)
(pss_cons (ps_for PassesOwn.never rfl (pi_range1 (by rfl) T.m_range (pa_cons (pe_callB R.cLenS (by rfl) T.m_len (by decide +kernel) (pa_cons (pv 0) pa_nil)) pa_nil)) (pg_name (i := 4) sc_law_draws.nd rfl (.inl rfl))
 (pss_cons (ps_set (i := 5) sc_law_draws.nd rfl (.inl rfl) (pe_callB R.cAbs (by rfl) T.m_abs (by decide +kernel) (pa_cons (pe_callTy R.cInt1 (by rfl) T.m_int (by decide +kernel) (pa_cons (pe_ix ix_list (pv 0) (pv 4) (fun _ _ => rfl)) pa_nil)) pa_nil)))
(pss_cons (ps_set (i := 3) sc_law_draws.nd rfl (.inl rfl) (pe_op op_mod (pe_callTy R.cInt1 (by rfl) T.m_int (by decide +kernel) (pa_cons (pe_op op_add (pe_op op_add (pe_op op_mul (pv 3) pe_int) (pe_op op_mod (pv 5) pe_int)) (pv 4)) pa_nil)) pe_int))
(pss_cons (ps_set (i := 6) sc_law_draws.nd rfl (.inl rfl) pe_int)
(C8.pss_cut (ps_if (pt_cmpR op_ge (pv 5) (pe_op op_pow pe_int pe_int) (nomark _))
 (pss_one (ps_set (i := 6) sc_law_draws.nd rfl (.inl rfl) (pv 5)))
 (pss_cons (ps_expr (pe_bm PySem.F.plainAttrs_list PySem.F.slot_list_append PySem.F.type_list_append mt_append (pv 2) (pa_cons (pe_op op_mod (pv 5) pe_int) pa_nil)))
(pss_one (ps_expr (pe_bm PySem.F.plainAttrs_list PySem.F.slot_list_append PySem.F.type_list_append mt_append (pv 2) (pa_cons (pe_op op_mod (pe_op op_mod (pe_callTy R.cInt1 (by rfl) T.m_int (by decide +kernel) (pa_cons (pe_op op_add (pe_op op_mul (pv 3) pe_int) pe_int) pa_nil)) pe_int) pe_int) pa_nil))))))
(pss_one (ps_for PassesOwn.never rfl (pi_range1 (by rfl) T.m_range (pa_cons pe_int pa_nil)) (pg_name (i := 7) sc_law_draws.nd rfl (.inl rfl))
 (pss_one (ps_if (pt_cmpR op_gt (pv 6) pe_int (nomark _))
 (pss_cons (ps_expr (pe_bm PySem.F.plainAttrs_list PySem.F.slot_list_append PySem.F.type_list_append mt_append (pv 2) (pa_cons (pe_op op_mod (pe_callTy R.cInt1 (by rfl) T.m_int (by decide +kernel) (pa_cons (pv 6) pa_nil)) pe_int) pa_nil)))
(pss_one (ps_set (i := 6) sc_law_draws.nd rfl (.inl rfl) (pe_op op_fdiv (pv 6) pe_int))))
 pss_nil)))))))))
(pss_cons (ps_for PassesOwn.never rfl (pi_range1 (by rfl) T.m_range (pa_cons (pv 1) pa_nil)) (pg_name (i := 4) sc_law_draws.nd rfl (.inl rfl))
 (pss_cons (ps_set (i := 3) sc_law_draws.nd rfl (.inl rfl) (pe_op op_mod (pe_callTy R.cInt1 (by rfl) T.m_int (by decide +kernel) (pa_cons (pe_op op_add (pe_op op_add (pe_op op_mul (pv 3) pe_int) (pv 4)) pe_int) pa_nil)) pe_int))
(pss_one (ps_expr (pe_bm PySem.F.plainAttrs_list PySem.F.slot_list_append PySem.F.type_list_append mt_append (pv 2) (pa_cons (pe_op op_mod (pe_callTy R.cInt1 (by rfl) T.m_int (by decide +kernel) (pa_cons (pv 3) pa_nil)) pe_int) pa_nil))))))
(pss_one (ps_ret (pe_slice sl_list (pv 2) po_none (po_some (pv 1))))))))), ?_⟩
    walk_at "cgo"
    refine ⟨Nat.zero_le _, fun p hp => ?_⟩
    have sm : Same H (upd H p (.lst [])) := R.same_new hp
    walk_at "cgo"
    refine R.r_lenL (sm.seq hS) ?_
    walk_at "cgo"
    rw [List.length_map]
    refine R.r_rngL (fun k σ H' => ∃ y3 y4 y5 y6 y7, σ = [some (.ref a), some (.int many), some (.ref p), y3, y4, y5, y6, y7] ∧ (∃ z, y3 = some (.int z)) ∧ CR.Grw H p 0 (62 * k) H') (by omega) ?_ ?_ ?_
    · exact ⟨_, _, _, _, _, rfl, ⟨_, rfl⟩, sm, [], upd_same, Nat.le_refl _, Nat.le_refl _⟩
    · rintro k σ H1 hk ⟨y3, y4, y5, y6, y7, rfl, ⟨z, rfl⟩, s1, ds, e1, l0, l1⟩
      have hk1 : k < ns.length := by omega
      have g : (ns.map V.int)[k]? = some (.int ns[k]) := by
        rw [List.getElem?_map, List.getElem?_eq_getElem hk1]
        rfl
      walk_at "cgo"
      refine R.r_ixL (s1.seq hS) (atI_nat g) ?_
      walk_at "cgo"
      refine R.r_cut (fun σ H' => ∃ c m r y7, σ = [some (.ref a), some (.int many), some (.ref p), some (.int m), some (.int (k : Int)), some (.int c), some (.int r), y7] ∧ CR.Grw H p 0 (62 * k + 2) H') ?_ ?_
      · walk_at "cgo"
        refine R.r_ite (fun e => ?_) (fun e => ?_)
        · walk_at "cgo"
          exact ⟨_, _, _, _, rfl, s1, ds, e1, l0, by omega⟩
        · walk_at "cgo"
          refine ⟨.inl ⟨rfl, _, R.sqL e1⟩, ?_⟩
          walk_at "cgo"
          refine ⟨_, _, _, rfl, rfl, e1, R.size_lt (by rw [List.length_map]; omega), ?_⟩
          obtain ⟨s2, ds2, e2, l20, l2⟩ := CR.Grw.app (m := 62 * k + 1) (v := (if ns[k] < 0 then -ns[k] else ns[k]) % 997) hp s1 e1 (k' := 0) (Nat.zero_le _) l0 l1 (by omega)
          walk_at "cgo"
          refine ⟨.inl ⟨rfl, _, R.sqL e2⟩, ?_⟩
          walk_at "cgo"
          refine ⟨_, _, _, rfl, rfl, e2, R.size_lt (by rw [List.length_map]; omega), ?_⟩
          walk_at "cgo"
          exact ⟨_, _, _, _, rfl, CR.Grw.app hp s2 e2 (Nat.zero_le _) l20 l2 (by omega)⟩
      · rintro σ H2 ⟨c, m, r, y7, rfl, s2, ds2, e2, l20, l2⟩
        walk_at "cgo"
        refine R.r_rngL (fun t σ H' => ∃ r y7, σ = [some (.ref a), some (.int many), some (.ref p), some (.int m), some (.int (k : Int)), some (.int c), some (.int r), y7] ∧ CR.Grw H p 0 (62 * k + 2 + t) H') (by decide) ?_ ?_ ?_
        · exact ⟨_, _, rfl, s2, ds2, e2, l20, by omega⟩
        · rintro t σ H3 ht ⟨r, y7, rfl, s3, ds3, e3, l30, l3⟩
          walk_at "cgo"
          refine R.r_ite (fun e' => ?_) (fun e' => ?_)
          · walk_at "cgo"
            refine ⟨.inl ⟨rfl, _, R.sqL e3⟩, ?_⟩
            walk_at "cgo"
            refine ⟨_, _, _, rfl, rfl, e3, R.size_lt (by rw [List.length_map]; omega), ?_⟩
            walk_at "cgo"
            exact ⟨_, _, rfl, CR.Grw.app hp s3 e3 (Nat.zero_le _) l30 l3 (by omega)⟩
          · walk_at "cgo"
            exact ⟨_, _, rfl, s3, ds3, e3, l30, by omega⟩
        · rintro σ H3 ⟨r, y7, rfl, s3, ds3, e3, l30, l3⟩
          exact ⟨_, _, _, _, _, rfl, ⟨_, rfl⟩, s3, ds3, e3, l30, by omega⟩
    · rintro σ H1 ⟨y3, y4, y5, y6, y7, rfl, ⟨z, rfl⟩, s1, ds, e1, l0, l1⟩
      walk_at "cgo"
      refine R.r_rngL (fun k σ H' => ∃ z y4, σ = [some (.ref a), some (.int many), some (.ref p), some (.int z), y4, y5, y6, y7] ∧ CR.Grw H p k (62 * 63 + k) H') (by omega) ?_ ?_ ?_
      · exact ⟨_, _, rfl, s1, ds, e1, by omega, by omega⟩
      · rintro t σ H3 ht ⟨r, y4, rfl, s3, ds3, e3, l30, l3⟩
        walk_at "cgo"
        refine ⟨.inl ⟨rfl, _, R.sqL e3⟩, ?_⟩
        walk_at "cgo"
        refine ⟨_, _, _, rfl, rfl, e3, R.size_lt (by rw [List.length_map]; omega), ?_⟩
        walk_at "cgo"
        exact ⟨_, _, rfl, CR.Grw.app hp s3 e3 (Nat.le_refl _) l30 l3 (by omega)⟩
      · rintro σ H3 ⟨r, y4, rfl, s3, ds3, e3, l30, l3⟩
        walk_at "cgo"
        refine ⟨_, _, rfl, R.sqL e3, fun p2 hp2 => ?_⟩
        obtain ⟨ds', ec, lc0, lc⟩ := CR.cut_pre (ds := ds3) hm0 hm1 (by omega)
        rw [ec]
        exact q p2 ds' _ (s3.trans (R.same_new hp2)) (s3.free hp2) upd_same lc0 lc
theorem ok_law_take (T : Txt w K mg) : FnOk P w K mg base CX0 1 T.p_law_take.f T.p_law_take.fd ["d"] CR.spTake := by
  refine T.p_law_take.F.ok sc_law_take (fun vs H Q E h => ?_) (fun cdv A outer s H vs Q E hr h => ?_)
  · obtain ⟨a, dl, rfl, _⟩ := h
    rfl
  · obtain ⟨pw, dl, rfl, ⟨at', ds, ew, ed, h0, hl⟩, q⟩ := h
    refine ⟨_, (pss_cons (ps_set (i := 1) sc_law_take.nd rfl (.inl rfl) (pe_dget (hu_of hr) (pv 0) pe_str (fun _ _ => rfl)))
(pss_cons (ps_dput (hu_of hr) (pv 0) pe_str (pe_op op_add (pv 1) pe_int) rfl)
(pss_one (ps_ret (pe_op op_add (pe_ix ix_list (pe_dget (hu_of hr) (pv 0) pe_str (fun _ _ => rfl)) (pe_op op_mod (pv 1) (pe_callB R.cLenS (by rfl) T.m_len (by decide +kernel) (pa_cons (pe_dget (hu_of hr) (pv 0) pe_str (fun _ _ => rfl)) pa_nil))) (fun _ _ => rfl)) (pe_op op_fdiv (pv 1) (pe_callB R.cLenS (by rfl) T.m_len (by decide +kernel) (pa_cons (pe_dget (hu_of hr) (pv 0) pe_str (fun _ _ => rfl)) pa_nil)))))))), ?_⟩
    walk_at "cgo"
    refine R.r_dgetS (v := .int at') ew rfl ?_
    walk_at "cgo"
    refine ⟨_, _, rfl, DPut.k (k := (Sum.inr "at" : Key)) ew (by show 2 < sizeLine; decide), ?_⟩
    have ne : pw ≠ dl := fun z => by rw [z, ed] at ew; cases ew
    have e1 : upd H pw (.dK (putK (CR.rw0 dl at') (Sum.inr "at" : Key) (.int (at' + 1)))) = upd H pw (.dK (CR.rw0 dl (at' + 1))) := by
      refine congrArg (fun z => upd H pw (.dK z)) ?_
      rfl
    rw [e1]
    have ew1 : upd H pw (.dK (CR.rw0 dl (at' + 1))) pw = some (.dK (CR.rw0 dl (at' + 1))) := upd_same
    have ed1 : upd H pw (.dK (CR.rw0 dl (at' + 1))) dl = some (.lst (ds.map V.int)) := by rw [upd_ne ne.symm]; exact ed
    have gw : CR.Gr pw dl H (upd H pw (.dK (CR.rw0 dl (at' + 1)))) := ⟨R.Mv.upd, ⟨at', ds, ew, ed, h0, hl⟩, at' + 1, ds, ew1, ed1, h0, hl⟩
    generalize upd H pw (.dK (CR.rw0 dl (at' + 1))) = H1 at *
    walk_at "cgo"
    refine R.r_dgetS (v := .ref dl) ew1 rfl ?_
    walk_at "cgo"
    refine R.r_dgetS (v := .ref dl) ew1 rfl ?_
    walk_at "cgo"
    refine R.r_lenL (R.sqL ed1) ?_
    walk_at "cgo"
    rw [List.length_map]
    refine R.r_mod (by omega) ?_
    have m0 := Int.emod_nonneg at' (show (ds.length : Int) ≠ 0 by omega)
    have m1 := Int.emod_lt_of_pos at' (show (0 : Int) < ds.length by omega)
    refine R.r_ixL (R.sqL ed1) (R.at_nat m0 (MM.getD_get (by omega))) ?_
    walk_at "cgo"
    refine R.r_dgetS (v := .ref dl) ew1 rfl ?_
    walk_at "cgo"
    refine R.r_lenL (R.sqL ed1) ?_
    walk_at "cgo"
    rw [List.length_map]
    refine R.r_div (by omega) ?_
    walk_at "cgo"
    exact q _ _ gw
theorem ok_law_start (T : Txt w K mg) : FnOk P w K mg base CX0 2 T.p_law_start.f T.p_law_start.fd ["script"] (fun vs H Q _ => ∃ (a : Addr) (ns : List Int), vs = [.ref a] ∧ SqL K H a (ns.map V.int) ∧ ns.length ≤ 63 ∧ ∀ H' pw dl, Same H H' → CR.Wr H' pw dl → Q (.ref pw) H') := by
  refine T.p_law_start.F.ok sc_law_start (fun vs H Q E h => ?_) (fun cdv A outer s H vs Q E hr h => ?_)
  · obtain ⟨a, ns, rfl, _⟩ := h
    rfl
  · obtain ⟨a, ns, rfl, hS, hlen, q⟩ := h
    refine ⟨_, (pss_one (ps_ret (pe_disp (pps_cons pe_str (pe_call (ok_law_draws T) (hr.mono (by decide)) (by rfl) T.p_law_draws.g T.p_law_draws.F.kp T.p_law_draws.b .nil pass0 (pa_cons (pv 0) (pa_cons pe_int pa_nil))) (pps_cons pe_str pe_int pps_nil)) (by rfl) (by rfl) (fun z => by cases z) (by decide)))), ?_⟩
    walk_at "cgo"
    intro p hp
    walk_at "cgo"
    refine ⟨a, ns, 400, rfl, (R.same_new hp).seq hS, hlen, by decide, by decide, fun l ds H1 s1 hl e1 d0 d1 => ?_⟩
    walk_at "cgo"
    have ep : H1 p = some (.dK []) := s1 _ _ upd_same
    refine ⟨ep, [(.inr "row", .ref l), (.inr "at", .int 0)], rfl, Nat.le_of_ble_eq_true rfl, ?_⟩
    refine q _ p l ?_ ⟨0, ds, upd_same, ?_, d0, d1⟩
    · intro b x e
      have n := ne_of_none e hp
      rw [upd_ne n]
      exact s1 _ _ (by rw [upd_ne n]; exact e)
    · rw [upd_ne (fun z => by rw [z, ep] at e1; cases e1)]
      exact e1
theorem ok_law_place (T : Txt w K mg) : FnOk P w K mg base CX0 2 T.p_law_place.f T.p_law_place.fd ["d"] CK.spPlaceD := by
  refine T.p_law_place.F.ok sc_law_place (fun vs H Q E h => ?_) (fun cdv A outer s H vs Q E hr h => ?_)
  · obtain ⟨a, dl, rfl, _⟩ := h
    rfl
  · obtain ⟨pw, dl, rfl, hw, q⟩ := h
    refine ⟨_, (pss_one (ps_ret (pe_ix ix_list (pe_lst (pa_cons pe_int (pa_cons pe_int (pa_cons pe_int (pa_cons pe_int (pa_cons pe_int (pa_cons pe_int pa_nil))))))) (pe_op op_mod (pe_call (ok_law_take T) (hr.mono (by decide)) (by rfl) T.p_law_take.g T.p_law_take.F.kp T.p_law_take.b .nil pass0 (pa_cons (pv 0) pa_nil)) pe_int) (fun _ _ => rfl)))), ?_⟩
    walk_at "cgo"
    refine ⟨Nat.le_of_ble_eq_true rfl, fun l hl => ?_⟩
    walk_at "cgo"
    have g0 := (CR.Gr.refl hw).new (o := .lst [.int 0, .int 1, .int 2, .int 3, .int 7, .int 10000]) hl
    refine ⟨pw, dl, rfl, g0.2.2, fun H1 v g1 => ?_⟩
    walk_at "cgo"
    have e1 : H1 l = some (.lst (([0, 1, 2, 3, 7, 10000] : List Int).map V.int)) := g1.1 _ _ upd_same (hw.ne hl).1
    obtain ⟨x, hx, ex⟩ := MM.pickV (f := V.int) (xs := [0, 1, 2, 3, 7, 10000]) (i := v % 6) (by omega) (by show v % 6 < 6; omega)
    have hb : ∀ x ∈ ([0, 1, 2, 3, 7, 10000] : List Int), 0 ≤ x ∧ x ≤ 10000 := by decide
    exact R.r_ixL (R.sqL e1) ex (q _ x (g0.trans g1) (hb x hx).1 (hb x hx).2)
theorem ok_law_places (T : Txt w K mg) : FnOk P w K mg base CX0 3 T.p_law_places.f T.p_law_places.fd ["d", "most"] CK.spPlacesD := by
  refine T.p_law_places.F.ok sc_law_places (fun vs H Q E h => ?_) (fun cdv A outer s H vs Q E hr h => ?_)
  · obtain ⟨pw, dl, m, rfl, _⟩ := h
    rfl
  · obtain ⟨pw, dl, m, rfl, m0, m1, hw, q⟩ := h
    refine ⟨_, (pss_one (ps_ret (pe_callTy MM.cTupOf (by rfl) T.m_tuple (by decide +kernel) (pa_cons (pe_lc (own := [("k", 2)]) (g := gName 2) (tt := tYes) rfl sc_law_places.nd (pi_range1 (by rfl) T.m_range (pa_cons (pe_op op_mod (pe_call (ok_law_take T) (hr.mono (by decide)) (by rfl) T.p_law_take.g T.p_law_take.F.kp T.p_law_take.b .nil pass0 (pa_cons (pv 0) pa_nil)) (pe_op op_add (pv 1) pe_int)) pa_nil)) (blkOk_by (own := [("k", 2)]) (N := N_law_places) (sc := defScope s_law_places) (by decide +kernel)) (fun _ _ _ _ _ => (pg_name (i := 2) sc_law_places.nd rfl (.inl rfl))) (fun _ _ _ _ _ => pts_nil) (fun _ _ _ _ _ => (pe_call (ok_law_place T) (hr.mono (by decide)) (by rfl) T.p_law_place.g T.p_law_place.F.kp T.p_law_place.b .nil pass0 (pa_cons (pv 0) pa_nil)))) pa_nil)))), ?_⟩
    walk_at "cgo"
    refine ⟨pw, dl, rfl, hw, fun H1 v g1 => ?_⟩
    walk_at "cgo"
    have v0 := Int.emod_nonneg v (show m + 1 ≠ 0 by omega)
    have v1 := Int.emod_lt_of_pos v (show 0 < m + 1 by omega)
    obtain ⟨nk, hk⟩ := Int.eq_ofNat_of_zero_le v0
    rw [hk] at v1 ⊢
    refine MM.r_LcR (n := nk) (by omega) ?_
    refine MM.lc_go walk_range (fun D i H' => CR.Ac (fun _ v => ∃ n : Int, v = .int n ∧ 0 ≤ n ∧ n ≤ 10000) pw dl H1 D i H') ?_ (fun _ _ _ _ _ => trivial) ?_ ?_
    · intro D hD
      exact CR.Ac.start g1.2.2 hD
    · rintro D i x H2 H2' hD hi A ⟨rfl, rfl⟩
      refine ⟨rfl, ?_⟩
      walk_at "cgo"
      exact ⟨pw, dl, rfl, A.g.2.2, fun H4 y g4 y0 y1 => A.step (fun _ _ _ _ h => h) (by omega) g4 ⟨_, rfl, y0, y1⟩⟩
    · intro D H2 hD A
      obtain ⟨vs, e2, l2, hv⟩ := A.e
      obtain ⟨ns, rfl⟩ := CR.ints_of fun v hv' => (by obtain ⟨n, e, _⟩ := hv v hv'; exact ⟨n, e⟩ : ∃ n : Int, v = .int n)
      rw [List.length_map] at l2
      walk_at "cgo"
      refine ⟨D, _, rfl, .inl ⟨R.sqL e2, fun p hp => ?_⟩⟩
      walk_at "cgo"
      exact q _ p ns ((g1.trans A.g).new hp) upd_same (by omega) fun n hn => by
        obtain ⟨n', e, h⟩ := hv (.int n) (List.mem_map.mpr ⟨n, hn, rfl⟩)
        injection e with e
        rw [e]; exact h
theorem ok_law_value (T : Txt w K mg) : FnOk P w K mg base CX0 2 T.p_law_value.f T.p_law_value.fd ["d"] CK.spValD := by
  refine T.p_law_value.F.ok sc_law_value (fun vs H Q E h => ?_) (fun cdv A outer s H vs Q E hr h => ?_)
  · obtain ⟨pw, dl, rfl, _⟩ := h
    rfl
  · obtain ⟨pw, dl, rfl, hw, q⟩ := h
    refine ⟨_, (pss_cons (ps_if (pt_cmpR op_eq (pe_op op_mod (pe_call (ok_law_take T) (hr.mono (by decide)) (by rfl) T.p_law_take.g T.p_law_take.F.kp T.p_law_take.b .nil pass0 (pa_cons (pv 0) pa_nil)) pe_int) pe_int (nomark _))
 (pss_one (ps_ret (pe_tup (pa_cons pe_str (pa_cons (pe_ix ix_list (pe_lst (pa_cons pe_int (pa_cons pe_int (pa_cons (pe_un un_neg pe_int) (pa_cons (pe_op op_sub (pe_op op_pow pe_int pe_int) pe_int) (pa_cons (pe_un un_neg (pe_op op_pow pe_int pe_int)) (pa_cons pe_int (pa_cons (pe_op op_pow pe_int pe_int) pa_nil)))))))) (pe_op op_mod (pe_call (ok_law_take T) (hr.mono (by decide)) (by rfl) T.p_law_take.g T.p_law_take.F.kp T.p_law_take.b .nil pass0 (pa_cons (pv 0) pa_nil)) pe_int) (fun _ _ => rfl)) pa_nil)))))
 pss_nil)
(pss_one (ps_ret (pe_tup (pa_cons pe_str (pa_cons (pe_ix ix_list (pe_lst (pa_cons pe_str (pa_cons pe_str (pa_cons (pe_op Zs.op_mulS pe_str pe_int) (pa_cons pe_str (pa_cons pe_str (pa_cons pe_str (pa_cons pe_str pa_nil)))))))) (pe_op op_mod (pe_call (ok_law_take T) (hr.mono (by decide)) (by rfl) T.p_law_take.g T.p_law_take.F.kp T.p_law_take.b .nil pass0 (pa_cons (pv 0) pa_nil)) pe_int) (fun _ _ => rfl)) pa_nil)))))), ?_⟩
    walk_at "cgo"
    refine ⟨pw, dl, rfl, hw, fun H1 v g1 => ?_⟩
    walk_at "cgo"
    refine R.r_ite (fun c => ?_) (fun c => ?_)
    · walk_at "cgo"
      refine R.r_pow (z := 1000000000000) (by decide) (by unfold CPow; decide) ?_
      walk_at "cgo"
      refine ⟨Nat.le_of_ble_eq_true rfl, fun l hl => ?_⟩
      walk_at "cgo"
      generalize hu : upd H1 l _ = H2
      obtain ⟨s2, e2⟩ := MM.new2 hu hl
      have g2 := g1.sm s2
      refine ⟨pw, dl, rfl, g2.2.2, fun H3 v3 g3 => ?_⟩
      walk_at "cgo"
      have e3 := g3.1 _ _ e2 (g1.2.2.ne hl).1
      obtain ⟨x, hx, ex⟩ := MM.pickV (f := V.int) (xs := CK.vis) (i := v3 % 7) (by omega) (by show v3 % 7 < 7; omega)
      refine R.r_ixL (R.sqL e3) ex ?_
      walk_at "cgo"
      exact ⟨Nat.le_of_ble_eq_true rfl, fun p hp => q _ _ (.tuple [.str "int", .int x]) ((g2.trans g3).new hp) (.tup upd_same (.cons (.str _) (.cons (.int _) .nil))) (CK.vi_ok x hx) (CK.gv (by decide +kernel) trivial)⟩
    · walk_at "cgo"
      refine Zs.r_mulS (by decide) (by decide +kernel) ?_
      walk_at "cgo"
      refine ⟨Nat.le_of_ble_eq_true rfl, fun l hl => ?_⟩
      walk_at "cgo"
      generalize hu : upd H1 l _ = H2
      obtain ⟨s2, e2⟩ := MM.new2 hu hl
      have g2 := g1.sm s2
      refine ⟨pw, dl, rfl, g2.2.2, fun H3 v3 g3 => ?_⟩
      walk_at "cgo"
      have e3 := g3.1 _ _ e2 (g1.2.2.ne hl).1
      obtain ⟨x, hx, ex⟩ := MM.pickV (f := V.str) (xs := CK.vss) (i := v3 % 7) (by omega) (by show v3 % 7 < 7; omega)
      refine R.r_ixL (R.sqL e3) ex ?_
      walk_at "cgo"
      exact ⟨Nat.le_of_ble_eq_true rfl, fun p hp => q _ _ (.tuple [.str "str", .str x]) ((g2.trans g3).new hp) (.tup upd_same (.cons (.str _) (.cons (.str _) .nil))) (CK.vs_ok x hx).1 (CK.gv (by decide +kernel) (CK.vs_ok x hx).2)⟩
end
end K52
end
section
local macro_rules | `(tactic| walk_at "s1") => `(tactic| first
  | ((with_reducible apply R.r_var); · rfl)
  | with_reducible apply R.r_c
  | with_reducible apply R.r_op
  | with_reducible apply R.r_I0
  | with_reducible apply R.r_cb
  | with_reducible apply R.r_cons
  | with_reducible apply R.r_nil
  | with_reducible apply R.r_seq
  | with_reducible apply R.r_asg
  | with_reducible apply R.r_ret
  | with_reducible apply R.r_ifS
  | with_reducible apply R.r_test
  | with_reducible apply R.r_t
  | with_reducible apply R.r_f
  | with_reducible apply R.r_nt
  | with_reducible apply R.r_nf
  | with_reducible apply R.r_bl
  | with_reducible apply R.r_U
  | with_reducible apply R.r_un
  | with_reducible apply R.r_eqI
  | with_reducible apply R.r_eqS
  | with_reducible apply R.r_neI
  | with_reducible apply R.r_neS
  | with_reducible apply R.r_and
  | with_reducible apply R.r_or
  | with_reducible apply R.r_not
  | with_reducible apply R.r_andV
  | with_reducible apply R.r_orV
  | with_reducible apply R.r_notV
  | with_reducible apply R.r_blV
  | with_reducible apply R.r_B
  | with_reducible apply R.r_ifE
  | with_reducible apply R.r_tup
  | with_reducible apply R.r_lst
  | with_reducible apply R.r_call
  | with_reducible apply R.r_drop
  | with_reducible apply R.r_next
  | with_reducible apply R.r_abs
  | with_reducible apply R.r_int1
  | with_reducible apply R.r_int1b
  | with_reducible apply R.r_min2
  | with_reducible apply R.r_bm
  | with_reducible apply R.r_bm0
  | with_reducible apply R.r_dget
  | with_reducible apply R.r_dput
  | with_reducible apply R.r_disp
  | with_reducible apply R.r_pnil
  | with_reducible apply R.r_pcons
  | with_reducible apply R.r_fld
  | with_reducible apply R.r_slice
  | with_reducible apply R.r_nopart
  | with_reducible apply R.r_part
  | with_reducible apply R.r_int
  | with_reducible apply R.r_yes
  | with_reducible apply R.r_retN
  | with_reducible apply R.r_asgG
  | with_reducible apply R.r_gname
  | with_reducible apply R.r_rng1
  | with_reducible apply R.r_brk
  | with_reducible apply R.r_cnt
  | with_reducible apply R.r_m1
  | with_reducible apply R.r_lcr
  | with_reducible apply R.r_p2_63
  | with_reducible apply R.r_p2_64
  | with_reducible apply R.r_p2_32
  | with_reducible apply R.r_p2_31
  | with_reducible apply R.r_p10_18
  | with_reducible apply R.r_p10_30
  | with_reducible refine R.r_mod (by omega) ?_
  | with_reducible refine R.r_div (by omega) ?_
  | with_reducible refine R.r_mulR (by omega) ?_
  | with_reducible refine R.r_mulL (by omega) ?_
  | with_reducible refine R.r_iteY (by decide +kernel) ?_
  | with_reducible refine R.r_iteF (by decide +kernel) ?_
  | with_reducible refine R.r_isi R.isi_int ?_
  | with_reducible refine R.r_isi R.isi_intB ?_)
local macro_rules | `(tactic| walk_at "go") => `(tactic| repeat (walk_at "s1"))

local macro_rules | `(tactic| walk_at "c1") => `(tactic| first
  | walk_at "s1"
  | with_reducible apply MM.r_chain
  | with_reducible apply CR.r_zl
  | with_reducible apply MM.r_daug
  | with_reducible apply MM.r_add)
local macro_rules | `(tactic| walk_at "cgo") => `(tactic| repeat (walk_at "c1"))

namespace K52
open PySem PySem.Spec PyProof.Rows L2
section
variable {P : Program} {w : World} {K : PySem.W.Frag} {mg : Str → Option Value} {base : Heap}
theorem ok_law_row (T : Txt w K mg) : FnOk P w K mg base CX0 4 T.p_law_row.f T.p_law_row.fd ["d", "many"] CK.spRowD := by
  refine T.p_law_row.F.ok sc_law_row (fun vs H Q E h => ?_) (fun cdv A outer s H vs Q E hr h => ?_)
  · obtain ⟨a, dl, m, rfl, _⟩ := h
    rfl
  · obtain ⟨pw, dl, many, rfl, hm, hm2, hw, q⟩ := h
    refine ⟨_, (pss_cons (ps_set (i := 2) sc_law_row.nd rfl (.inl rfl) (pe_op op_mod (pe_call (ok_law_take T) (hr.mono (by decide)) (by rfl) T.p_law_take.g T.p_law_take.F.kp T.p_law_take.b .nil pass0 (pa_cons (pv 0) pa_nil)) pe_int))
(pss_cons (ps_set (i := 3) sc_law_row.nd rfl (.inl rfl) (pe_op op_mod (pe_call (ok_law_take T) (hr.mono (by decide)) (by rfl) T.p_law_take.g T.p_law_take.F.kp T.p_law_take.b .nil pass0 (pa_cons (pv 0) pa_nil)) pe_int))
(pss_cons (ps_set (i := 4) sc_law_row.nd rfl (.inl rfl) (pe_op op_mod (pe_call (ok_law_take T) (hr.mono (by decide)) (by rfl) T.p_law_take.g T.p_law_take.F.kp T.p_law_take.b .nil pass0 (pa_cons (pv 0) pa_nil)) pe_int))
(pss_cons (ps_set (i := 5) sc_law_row.nd rfl (.inl rfl) (pe_call (ok_law_place T) (hr.mono (by decide)) (by rfl) T.p_law_place.g T.p_law_place.F.kp T.p_law_place.b .nil pass0 (pa_cons (pv 0) pa_nil)))
(pss_cons (ps_if (pt_cmpR op_lt (pv 4) pe_int (nomark _))
 (pss_one (ps_ret (pe_ix ix_list (pe_lst (pa_cons (pe_tup (pa_cons pe_str (pa_cons (pv 2) (pa_cons (pe_call (ok_law_value T) (hr.mono (by decide)) (by rfl) T.p_law_value.g T.p_law_value.F.kp T.p_law_value.b .nil pass0 (pa_cons (pv 0) pa_nil)) pa_nil)))) (pa_cons (pe_tup (pa_cons pe_str (pa_cons (pv 2) (pa_cons (pe_ix ix_list (pe_lst (pa_cons pe_str (pa_cons pe_str (pa_cons pe_str (pa_cons pe_str (pa_cons pe_str (pa_cons pe_str pa_nil))))))) (pe_op op_mod (pv 3) pe_int) (fun _ _ => rfl)) pa_nil)))) (pa_cons (pe_tup (pa_cons pe_str (pa_cons (pv 2) (pa_cons (pe_op op_mod (pv 3) pe_int) pa_nil)))) (pa_cons (pe_tup (pa_cons pe_str (pa_cons (pv 2) (pa_cons (pe_op op_mod (pv 3) pe_int) pa_nil)))) pa_nil))))) (pv 4) (fun _ _ => rfl))))
 pss_nil)
(pss_cons (ps_if (pt_cmpR op_lt (pv 4) pe_int (nomark _))
 (pss_one (ps_ret (pe_ix ix_list (pe_lst (pa_cons (pe_tup (pa_cons pe_str (pa_cons (pv 2) (pa_cons (pv 5) pa_nil)))) (pa_cons (pe_tup (pa_cons pe_str (pa_cons (pv 5) (pa_cons (pv 2) pa_nil)))) (pa_cons (pe_tup (pa_cons pe_str (pa_cons (pv 2) (pa_cons (pv 5) pa_nil)))) (pa_cons (pe_tup (pa_cons pe_str (pa_cons (pv 2) (pa_cons (pv 5) pa_nil)))) (pa_cons (pe_tup (pa_cons pe_str (pa_cons (pv 2) (pa_cons (pv 5) (pa_cons (pe_call (ok_law_places T) (hr.mono (by decide)) (by rfl) T.p_law_places.g T.p_law_places.F.kp T.p_law_places.b .nil pass0 (pa_cons (pv 0) (pa_cons pe_int pa_nil))) pa_nil))))) pa_nil)))))) (pe_op op_sub (pv 4) pe_int) (fun _ _ => rfl))))
 pss_nil)
(pss_cons (ps_set (i := 6) sc_law_row.nd rfl (.inl rfl) (pe_op op_mod (pe_call (ok_law_take T) (hr.mono (by decide)) (by rfl) T.p_law_take.g T.p_law_take.F.kp T.p_law_take.b .nil pass0 (pa_cons (pv 0) pa_nil)) pe_int))
(pss_cons (ps_if (pt_cmpR op_lt (pv 4) pe_int (nomark _))
 (pss_cons (ps_set (i := 7) sc_law_row.nd rfl (.inl rfl) (pe_ix ix_list (pe_lst (pa_cons (pe_lst (pa_cons pe_str (pa_cons pe_str (pa_cons pe_str (pa_cons pe_str (pa_cons pe_str pa_nil)))))) (pa_cons (pe_lst (pa_cons pe_str (pa_cons pe_str (pa_cons pe_str (pa_cons pe_str (pa_cons pe_str (pa_cons pe_str pa_nil))))))) pa_nil))) (pe_op op_sub (pv 4) pe_int) (fun _ _ => rfl)))
(pss_one (ps_ret (pe_tup (pa_cons (pe_ix ix_list (pe_lst (pa_cons pe_str (pa_cons pe_str pa_nil))) (pe_op op_sub (pv 4) pe_int) (fun _ _ => rfl)) (pa_cons (pv 2) (pa_cons (pe_ix ix_list (pv 7) (pe_op op_mod (pv 6) (pe_callB R.cLenS (by rfl) T.m_len (by decide +kernel) (pa_cons (pv 7) pa_nil))) (fun _ _ => rfl)) (pa_cons (pv 3) (pa_cons (pv 6) pa_nil)))))))))
 pss_nil)
(pss_cons (ps_if (pt_cmpR op_lt (pv 4) pe_int (nomark _))
 (pss_cons (ps_set (i := 8) sc_law_row.nd rfl (.inl rfl) (pe_lst (pa_cons (pe_tup (pa_cons pe_str (pa_cons (pv 2) (pa_cons (pv 3) pa_nil)))) (pa_cons (pe_tup (pa_cons pe_str (pa_cons (pv 2) (pa_cons (pv 3) pa_nil)))) (pa_cons (pe_tup (pa_cons pe_str (pa_cons (pv 2) (pa_cons (pv 3) pa_nil)))) (pa_cons (pe_tup (pa_cons pe_str (pa_cons (pv 2) (pa_cons (pv 3) (pa_cons (pv 6) pa_nil))))) (pa_cons (pe_tup (pa_cons pe_str (pa_cons (pv 2) (pa_cons (pv 3) (pa_cons (pv 6) (pa_cons (pv 2) pa_nil)))))) pa_nil)))))))
(pss_one (ps_ret (pe_ix ix_list (pe_op op_cat (pv 8) (pe_lst (pa_cons (pe_tup (pa_cons pe_str (pa_cons (pv 2) (pa_cons (pv 3) pa_nil)))) (pa_cons (pe_tup (pa_cons pe_str (pa_cons (pv 2) (pa_cons (pv 3) pa_nil)))) pa_nil)))) (pe_op op_sub (pv 4) pe_int) (fun _ _ => rfl)))))
 pss_nil)
(pss_cons (ps_if (pt_cmpR op_lt (pv 4) pe_int (nomark _))
 (pss_one (ps_ret (pe_ix ix_list (pe_lst (pa_cons (pe_tup (pa_cons pe_str (pa_cons (pv 2) pa_nil))) (pa_cons (pe_tup (pa_cons pe_str (pa_cons (pe_op op_mod (pe_call (ok_law_take T) (hr.mono (by decide)) (by rfl) T.p_law_take.g T.p_law_take.F.kp T.p_law_take.b .nil pass0 (pa_cons (pv 0) pa_nil)) (pv 1)) pa_nil))) (pa_cons (pe_tup (pa_cons pe_str (pa_cons (pv 2) (pa_cons (pe_op op_mod (pe_call (ok_law_take T) (hr.mono (by decide)) (by rfl) T.p_law_take.g T.p_law_take.F.kp T.p_law_take.b .nil pass0 (pa_cons (pv 0) pa_nil)) (pv 1)) pa_nil)))) pa_nil)))) (pe_op op_sub (pv 4) pe_int) (fun _ _ => rfl))))
 pss_nil)
(pss_cons (ps_if (pt_cmpR op_lt (pv 4) pe_int (nomark _))
 (pss_cons (ps_set (i := 8) sc_law_row.nd rfl (.inl rfl) (pe_lst (pa_cons (pe_tup (pa_cons pe_str (pa_cons (pv 5) (pa_cons (pv 2) pa_nil)))) (pa_cons (pe_tup (pa_cons pe_str (pa_cons (pv 5) (pa_cons (pv 2) pa_nil)))) (pa_cons (pe_tup (pa_cons pe_str (pa_cons (pv 5) (pa_cons (pe_call (ok_law_places T) (hr.mono (by decide)) (by rfl) T.p_law_places.g T.p_law_places.F.kp T.p_law_places.b .nil pass0 (pa_cons (pv 0) (pa_cons pe_int pa_nil))) (pa_cons (pv 2) pa_nil))))) pa_nil)))))
(pss_one (ps_ret (pe_ix ix_list (pe_op op_cat (pv 8) (pe_lst (pa_cons (pe_tup (pa_cons pe_str (pa_cons (pe_ix ix_list (pe_lst (pa_cons pe_str (pa_cons pe_str pa_nil))) (pe_op op_mod (pv 3) pe_int) (fun _ _ => rfl)) (pa_cons (pe_call (ok_law_places T) (hr.mono (by decide)) (by rfl) T.p_law_places.g T.p_law_places.F.kp T.p_law_places.b .nil pass0 (pa_cons (pv 0) (pa_cons pe_int pa_nil))) pa_nil)))) pa_nil))) (pe_op op_sub (pv 4) pe_int) (fun _ _ => rfl)))))
 pss_nil)
(pss_cons (ps_if (pt_cmpR op_eq (pv 4) pe_int (nomark _))
 (pss_one (ps_ret (pe_tup (pa_cons pe_str (pa_cons (pv 5) (pa_cons (pe_call (ok_law_places T) (hr.mono (by decide)) (by rfl) T.p_law_places.g T.p_law_places.F.kp T.p_law_places.b .nil pass0 (pa_cons (pv 0) (pa_cons pe_int pa_nil))) (pa_cons (pe_op op_sub (pe_op op_mod (pe_call (ok_law_take T) (hr.mono (by decide)) (by rfl) T.p_law_take.g T.p_law_take.F.kp T.p_law_take.b .nil pass0 (pa_cons (pv 0) pa_nil)) pe_int) pe_int) pa_nil)))))))
 pss_nil)
(pss_one (ps_ret (pe_ix ix_list (pe_lst (pa_cons (pe_tup (pa_cons pe_str (pa_cons (pv 2) pa_nil))) (pa_cons (pe_tup (pa_cons pe_str (pa_cons (pv 2) pa_nil))) (pa_cons (pe_tup (pa_cons pe_str (pa_cons (pv 2) pa_nil))) (pa_cons (pe_tup (pa_cons pe_str pa_nil)) (pa_cons (pe_tup (pa_cons pe_str pa_nil)) (pa_cons (pe_tup (pa_cons pe_str pa_nil)) pa_nil))))))) (pe_op op_sub (pv 4) pe_int) (fun _ _ => rfl)))))))))))))))), ?_⟩
    have M0 : CK.MkD pw dl H [] H := ⟨CR.Gr.refl hw, fun _ h => nomatch h⟩
    have big : ∀ {n : Nat}, n ≤ 100000 → n ≤ sizeLine := fun h => R.size_of h
    walk_at "cgo"
    refine M0.take fun H1 v1 M1 _ => ?_
    walk_at "cgo"
    refine M1.take fun H2 v2 M2 _ => ?_
    walk_at "cgo"
    refine M2.take fun H3 v3 M3 _ => ?_
    walk_at "cgo"
    refine M3.place fun H4 at' M4 at0 at1 => ?_
    have one0 : 0 ≤ v1 % 8 ∧ v1 % 8 < 8 := by omega
    have two0 : 0 ≤ v2 % 8 ∧ v2 % 8 < 8 := by omega
    generalize hone : v1 % 8 = one at one0
    generalize htwo : v2 % 8 = two at two0
    generalize hturn : v3 % 32 = turn
    have ht : 0 ≤ turn ∧ turn < 32 := by omega
    clear hone hturn htwo
    walk_at "cgo"
    refine R.r_ite (fun c1 => ?_) (fun c1 => ?_)
    · walk_at "cgo"
      refine ⟨pw, dl, rfl, M4.w, fun H6 v6 d6 g6 tv6 hv6 gv6 => ?_⟩
      walk_at "cgo"
      refine ⟨Nat.le_of_ble_eq_true rfl, fun p7 hp7 => ?_⟩
      generalize hu7 : upd _ p7 _ = H7
      obtain ⟨s7, M7⟩ := CK.mk_row (M4.go g6) .const [.int one, d6] hu7 hp7 (.cons (CK.p7 (by omega)) CK.gi (.cons hv6 gv6 .nil)) (.cons (.int _) (.cons tv6 .nil))
      clear hu7 hp7
      walk_at "cgo"
      refine ⟨Nat.le_of_ble_eq_true rfl, fun l8 hl8 => ?_⟩
      generalize hu8 : upd _ l8 _ = H8
      obtain ⟨s8, e8⟩ := MM.new2 hu8 hl8
      have M8 := M7.sm s8
      clear hu8
      walk_at "cgo"
      obtain ⟨x9, hx9, ex9⟩ := MM.pickV (f := V.str) (xs := ["now", "cpu", "pid", "tid", "at", "name"]) (i := two % 6) (by omega) (by show two % 6 < 6; omega)
      have gx9 : (x9 : Str).length ≤ 1000 ∧ PyData.strOk x9 = true := CK.few_ok (ws := ["now", "cpu", "pid", "tid", "at", "name"]) (by decide +kernel) hx9
      refine R.r_ixL (v := .str x9) (R.sqL e8) ex9 ?_
      walk_at "cgo"
      refine ⟨Nat.le_of_ble_eq_true rfl, fun p10 hp10 => ?_⟩
      generalize hu10 : upd _ p10 _ = H10
      obtain ⟨s10, M10⟩ := CK.mk_row M8 .view [.int one, .str x9] hu10 hp10 (.cons (CK.p7 (by omega)) CK.gi (.cons (decide_eq_true hx9) (CK.gs gx9) .nil)) (.cons (.int _) (.cons (.str _) .nil))
      clear hu10 hp10
      walk_at "cgo"
      refine ⟨Nat.le_of_ble_eq_true rfl, fun p11 hp11 => ?_⟩
      generalize hu11 : upd _ p11 _ = H11
      obtain ⟨s11, M11⟩ := CK.mk_row M10 .arg [.int one, .int (two % 4)] hu11 hp11 (.cons (CK.p7 (by omega)) CK.gi (.cons (CK.p3 (by omega)) CK.gi .nil)) (.cons (.int _) (.cons (.int _) .nil))
      clear hu11 hp11
      walk_at "cgo"
      refine ⟨Nat.le_of_ble_eq_true rfl, fun p12 hp12 => ?_⟩
      generalize hu12 : upd _ p12 _ = H12
      obtain ⟨s12, M12⟩ := CK.mk_row M11 .reg [.int one, .int (two % 4)] hu12 hp12 (.cons (CK.p7 (by omega)) CK.gi (.cons (CK.p3 (by omega)) CK.gi .nil)) (.cons (.int _) (.cons (.int _) .nil))
      clear hu12 hp12
      walk_at "cgo"
      refine ⟨Nat.le_of_ble_eq_true rfl, fun l13 hl13 => ?_⟩
      walk_at "cgo"
      exact CK.r_pick (ps := [p7, p10, p11, p12]) M12 hl13 (by simp) (by omega) (by show turn < 4; omega) q
    walk_at "cgo"
    refine R.r_ite (fun c2 => ?_) (fun c2 => ?_)
    · walk_at "cgo"
      refine ⟨Nat.le_of_ble_eq_true rfl, fun p14 hp14 => ?_⟩
      generalize hu14 : upd _ p14 _ = H14
      obtain ⟨s14, M14⟩ := CK.mk_row M4 .get [.int one, .int at'] hu14 hp14 (.cons (CK.p7 (by omega)) CK.gi (.cons (CK.p4 (by omega)) CK.gi .nil)) (.cons (.int _) (.cons (.int _) .nil))
      clear hu14 hp14
      walk_at "cgo"
      refine ⟨Nat.le_of_ble_eq_true rfl, fun p15 hp15 => ?_⟩
      generalize hu15 : upd _ p15 _ = H15
      obtain ⟨s15, M15⟩ := CK.mk_row M14 .keep [.int at', .int one] hu15 hp15 (.cons (CK.p4 (by omega)) CK.gi (.cons (CK.p7 (by omega)) CK.gi .nil)) (.cons (.int _) (.cons (.int _) .nil))
      clear hu15 hp15
      walk_at "cgo"
      refine ⟨Nat.le_of_ble_eq_true rfl, fun p16 hp16 => ?_⟩
      generalize hu16 : upd _ p16 _ = H16
      obtain ⟨s16, M16⟩ := CK.mk_row M15 .global [.int one, .int at'] hu16 hp16 (.cons (CK.p7 (by omega)) CK.gi (.cons (CK.p4 (by omega)) CK.gi .nil)) (.cons (.int _) (.cons (.int _) .nil))
      clear hu16 hp16
      walk_at "cgo"
      refine ⟨Nat.le_of_ble_eq_true rfl, fun p17 hp17 => ?_⟩
      generalize hu17 : upd _ p17 _ = H17
      obtain ⟨s17, M17⟩ := CK.mk_row M16 .thread [.int one, .int at'] hu17 hp17 (.cons (CK.p7 (by omega)) CK.gi (.cons (CK.p4 (by omega)) CK.gi .nil)) (.cons (.int _) (.cons (.int _) .nil))
      clear hu17 hp17
      walk_at "cgo"
      refine M17.places (by decide) fun H18 t18 ns18 M18 g18 td18 hl18 hr18 => ?_
      walk_at "cgo"
      refine ⟨Nat.le_of_ble_eq_true rfl, fun p19 hp19 => ?_⟩
      generalize hu19 : upd _ p19 _ = H19
      obtain ⟨s19, M19⟩ := CK.mk_row M18 .array [.int one, .int at', .tuple (ns18.map PyData.int)] hu19 hp19 (.cons (CK.p7 (by omega)) CK.gi (.cons (CK.p4 (by omega)) CK.gi (.cons (CK.pk hr18 (by omega)) (CK.gl (by omega)) .nil))) (.cons (.int _) (.cons (.int _) (.cons td18 .nil)))
      clear hu19 hp19
      walk_at "cgo"
      refine ⟨Nat.le_of_ble_eq_true rfl, fun l20 hl20 => ?_⟩
      walk_at "cgo"
      exact CK.r_pick (ps := [p14, p15, p16, p17, p19]) M19 hl20 (by simp) (by omega) (by show turn - 4 < 5; omega) q
    walk_at "cgo"
    refine M4.take fun H5 v5 M5 _ => ?_
    walk_at "cgo"
    have three0 : 0 ≤ v5 % 8 ∧ v5 % 8 < 8 := by omega
    generalize hthree : v5 % 8 = three at three0
    clear hthree
    refine R.r_ite (fun c3 => ?_) (fun c3 => ?_)
    · walk_at "cgo"
      refine ⟨Nat.le_of_ble_eq_true rfl, fun l21 hl21 => ?_⟩
      generalize hu21 : upd _ l21 _ = H21
      obtain ⟨s21, e21⟩ := MM.new2 hu21 hl21
      have M21 := M5.sm s21
      clear hu21
      walk_at "cgo"
      refine ⟨Nat.le_of_ble_eq_true rfl, fun l22 hl22 => ?_⟩
      generalize hu22 : upd _ l22 _ = H22
      obtain ⟨s22, e22⟩ := MM.new2 hu22 hl22
      have M22 := M21.sm s22
      clear hu22
      walk_at "cgo"
      refine ⟨Nat.le_of_ble_eq_true rfl, fun l23 hl23 => ?_⟩
      generalize hu23 : upd _ l23 _ = H23
      obtain ⟨s23, e23⟩ := MM.new2 hu23 hl23
      have M23 := M22.sm s23
      clear hu23
      walk_at "cgo"
      obtain ⟨x24, ws24, wd, i24, f24, ewd, cases24⟩ : ∃ (x : Addr) (ws : List Str) (wd : CR.Wd), atI [V.ref l21, V.ref l22] (turn - 9) = some (.ref x) ∧ H23 x = some (.lst (ws.map V.str)) ∧ atI [V.str "op", V.str "compare"] (turn - 9) = some (.str wd.nm) ∧ ((wd = .op ∧ ws = (["+", "-", "*", "/", "mod"] : List Str)) ∨ (wd = .compare ∧ ws = (["==", "!=", "<", "<=", ">", ">="] : List Str))) := by
        by_cases z : turn = 9
        · exact ⟨l21, ["+", "-", "*", "/", "mod"], .op, by rw [z]; rfl, s23 _ _ (s22 _ _ e21), by rw [z]; rfl, .inl ⟨rfl, rfl⟩⟩
        · obtain rfl : turn = 10 := by omega
          exact ⟨l22, ["==", "!=", "<", "<=", ">", ">="], .compare, rfl, s23 _ _ e22, rfl, .inr ⟨rfl, rfl⟩⟩
      have w124 : 1 ≤ ws24.length := by rcases cases24 with ⟨_, rfl⟩ | ⟨_, rfl⟩ <;> decide
      refine R.r_ixL (v := .ref x24) (R.sqL e23) i24 ?_
      walk_at "cgo"
      refine ⟨Nat.le_of_ble_eq_true rfl, fun l25 hl25 => ?_⟩
      generalize hu25 : upd _ l25 _ = H25
      obtain ⟨s25, e25⟩ := MM.new2 hu25 hl25
      have M25 := M23.sm s25
      clear hu25
      walk_at "cgo"
      refine R.r_ixL (v := .str wd.nm) (R.sqL e25) ewd ?_
      walk_at "cgo"
      refine R.r_lenL (R.sqL (s25 _ _ f24)) ?_
      walk_at "cgo"
      rw [List.length_map]
      refine R.r_mod (by omega) ?_
      have m0 := Int.emod_nonneg three (show (ws24.length : Int) ≠ 0 by omega)
      have m1 := Int.emod_lt_of_pos three (show (0 : Int) < ws24.length by omega)
      obtain ⟨sg, hsg, esg⟩ := MM.pickV (f := V.str) m0 m1
      refine R.r_ixL (v := .str sg) (R.sqL (s25 _ _ f24)) esg ?_
      walk_at "cgo"
      refine CK.mk_one M25 wd [.int one, .str sg, .int two, .int three] (big (Nat.le_of_ble_eq_true rfl)) ?_ (.cons (.int _) (.cons (.str _) (.cons (.int _) (.cons (.int _) .nil)))) q
      rcases cases24 with ⟨rfl, rfl⟩ | ⟨rfl, rfl⟩
      · exact .cons (CK.p7 (by omega)) CK.gi (.cons (decide_eq_true hsg) (CK.gs (CK.few_ok (by decide +kernel) hsg)) (.cons (CK.p7 (by omega)) CK.gi (.cons (CK.p7 (by omega)) CK.gi .nil)))
      · exact .cons (CK.p7 (by omega)) CK.gi (.cons (decide_eq_true hsg) (CK.gs (CK.few_ok (by decide +kernel) hsg)) (.cons (CK.p7 (by omega)) CK.gi (.cons (CK.p7 (by omega)) CK.gi .nil)))
    walk_at "cgo"
    refine R.r_ite (fun c4 => ?_) (fun c4 => ?_)
    · walk_at "cgo"
      refine ⟨Nat.le_of_ble_eq_true rfl, fun p26 hp26 => ?_⟩
      generalize hu26 : upd _ p26 _ = H26
      obtain ⟨s26, M26⟩ := CK.mk_row M5 .minus [.int one, .int two] hu26 hp26 (.cons (CK.p7 (by omega)) CK.gi (.cons (CK.p7 (by omega)) CK.gi .nil)) (.cons (.int _) (.cons (.int _) .nil))
      clear hu26 hp26
      walk_at "cgo"
      refine ⟨Nat.le_of_ble_eq_true rfl, fun p27 hp27 => ?_⟩
      generalize hu27 : upd _ p27 _ = H27
      obtain ⟨s27, M27⟩ := CK.mk_row M26 .not [.int one, .int two] hu27 hp27 (.cons (CK.p7 (by omega)) CK.gi (.cons (CK.p7 (by omega)) CK.gi .nil)) (.cons (.int _) (.cons (.int _) .nil))
      clear hu27 hp27
      walk_at "cgo"
      refine ⟨Nat.le_of_ble_eq_true rfl, fun p28 hp28 => ?_⟩
      generalize hu28 : upd _ p28 _ = H28
      obtain ⟨s28, M28⟩ := CK.mk_row M27 .len [.int one, .int two] hu28 hp28 (.cons (CK.p7 (by omega)) CK.gi (.cons (CK.p7 (by omega)) CK.gi .nil)) (.cons (.int _) (.cons (.int _) .nil))
      clear hu28 hp28
      walk_at "cgo"
      refine ⟨Nat.le_of_ble_eq_true rfl, fun p29 hp29 => ?_⟩
      generalize hu29 : upd _ p29 _ = H29
      obtain ⟨s29, M29⟩ := CK.mk_row M28 .cat [.int one, .int two, .int three] hu29 hp29 (.cons (CK.p7 (by omega)) CK.gi (.cons (CK.p7 (by omega)) CK.gi (.cons (CK.p7 (by omega)) CK.gi .nil))) (.cons (.int _) (.cons (.int _) (.cons (.int _) .nil)))
      clear hu29 hp29
      walk_at "cgo"
      refine ⟨Nat.le_of_ble_eq_true rfl, fun p30 hp30 => ?_⟩
      generalize hu30 : upd _ p30 _ = H30
      obtain ⟨s30, M30⟩ := CK.mk_row M29 .sub [.int one, .int two, .int three, .int one] hu30 hp30 (.cons (CK.p7 (by omega)) CK.gi (.cons (CK.p7 (by omega)) CK.gi (.cons (CK.p7 (by omega)) CK.gi (.cons (CK.p7 (by omega)) CK.gi .nil)))) (.cons (.int _) (.cons (.int _) (.cons (.int _) (.cons (.int _) .nil))))
      clear hu30 hp30
      walk_at "cgo"
      refine ⟨Nat.le_of_ble_eq_true rfl, fun l31 hl31 => ?_⟩
      generalize hu31 : upd _ l31 _ = H31
      obtain ⟨s31, e31⟩ := MM.new2 hu31 hl31
      have M31 := M30.sm s31
      clear hu31
      walk_at "cgo"
      refine ⟨Nat.le_of_ble_eq_true rfl, fun p32 hp32 => ?_⟩
      generalize hu32 : upd _ p32 _ = H32
      obtain ⟨s32, M32⟩ := CK.mk_row M31 .text [.int one, .int two] hu32 hp32 (.cons (CK.p7 (by omega)) CK.gi (.cons (CK.p7 (by omega)) CK.gi .nil)) (.cons (.int _) (.cons (.int _) .nil))
      clear hu32 hp32
      walk_at "cgo"
      refine ⟨Nat.le_of_ble_eq_true rfl, fun p33 hp33 => ?_⟩
      generalize hu33 : upd _ p33 _ = H33
      obtain ⟨s33, M33⟩ := CK.mk_row M32 .byte [.int one, .int two] hu33 hp33 (.cons (CK.p7 (by omega)) CK.gi (.cons (CK.p7 (by omega)) CK.gi .nil)) (.cons (.int _) (.cons (.int _) .nil))
      clear hu33 hp33
      walk_at "cgo"
      refine ⟨Nat.le_of_ble_eq_true rfl, fun l34 hl34 => ?_⟩
      generalize hu34 : upd _ l34 _ = H34
      obtain ⟨s34, e34⟩ := MM.new2 hu34 hl34
      have M34 := M33.sm s34
      clear hu34
      walk_at "cgo"
      refine ⟨_, _, _, _, rfl, rfl, (s34 _ _ (s33 _ _ (s32 _ _ e31))), e34, Nat.le_of_ble_eq_true rfl, fun l35 hl35 => ?_⟩
      walk_at "cgo"
      exact CK.r_pick (ps := [p26, p27, p28, p29, p30, p32, p33]) M34 hl35 (by simp) (by omega) (by show turn - 11 < 7; omega) q
    walk_at "cgo"
    refine R.r_ite (fun c5 => ?_) (fun c5 => ?_)
    · walk_at "cgo"
      refine ⟨Nat.le_of_ble_eq_true rfl, fun p36 hp36 => ?_⟩
      generalize hu36 : upd _ p36 _ = H36
      obtain ⟨s36, M36⟩ := CK.mk_row M5 .spec [.int one] hu36 hp36 (.cons (CK.p7 (by omega)) CK.gi .nil) (.cons (.int _) .nil)
      clear hu36 hp36
      walk_at "cgo"
      refine M36.take fun H37 v37 M37 g37 => ?_
      walk_at "cgo"
      have nn37 := Int.emod_nonneg v37 (show many ≠ 0 by omega)
      have mm37 := Int.emod_lt_of_pos v37 (show 0 < many by omega)
      refine ⟨Nat.le_of_ble_eq_true rfl, fun p38 hp38 => ?_⟩
      generalize hu38 : upd _ p38 _ = H38
      obtain ⟨s38, M38⟩ := CK.mk_row M37 .jump [.int (v37 % many)] hu38 hp38 (.cons (CK.p4 (by omega)) CK.gi .nil) (.cons (.int _) .nil)
      clear hu38 hp38
      walk_at "cgo"
      refine M38.take fun H39 v39 M39 g39 => ?_
      walk_at "cgo"
      have nn39 := Int.emod_nonneg v39 (show many ≠ 0 by omega)
      have mm39 := Int.emod_lt_of_pos v39 (show 0 < many by omega)
      refine ⟨Nat.le_of_ble_eq_true rfl, fun p40 hp40 => ?_⟩
      generalize hu40 : upd _ p40 _ = H40
      obtain ⟨s40, M40⟩ := CK.mk_row M39 .zero [.int one, .int (v39 % many)] hu40 hp40 (.cons (CK.p7 (by omega)) CK.gi (.cons (CK.p4 (by omega)) CK.gi .nil)) (.cons (.int _) (.cons (.int _) .nil))
      clear hu40 hp40
      walk_at "cgo"
      refine ⟨Nat.le_of_ble_eq_true rfl, fun l41 hl41 => ?_⟩
      walk_at "cgo"
      exact CK.r_pick (ps := [p36, p38, p40]) M40 hl41 (by simp) (by omega) (by show turn - 18 < 3; omega) q
    walk_at "cgo"
    refine R.r_ite (fun c6 => ?_) (fun c6 => ?_)
    · walk_at "cgo"
      refine ⟨Nat.le_of_ble_eq_true rfl, fun p42 hp42 => ?_⟩
      generalize hu42 : upd _ p42 _ = H42
      obtain ⟨s42, M42⟩ := CK.mk_row M5 .setglobal [.int at', .int one] hu42 hp42 (.cons (CK.p4 (by omega)) CK.gi (.cons (CK.p7 (by omega)) CK.gi .nil)) (.cons (.int _) (.cons (.int _) .nil))
      clear hu42 hp42
      walk_at "cgo"
      refine ⟨Nat.le_of_ble_eq_true rfl, fun p43 hp43 => ?_⟩
      generalize hu43 : upd _ p43 _ = H43
      obtain ⟨s43, M43⟩ := CK.mk_row M42 .setthread [.int at', .int one] hu43 hp43 (.cons (CK.p4 (by omega)) CK.gi (.cons (CK.p7 (by omega)) CK.gi .nil)) (.cons (.int _) (.cons (.int _) .nil))
      clear hu43 hp43
      walk_at "cgo"
      refine M43.places (by decide) fun H44 t44 ns44 M44 g44 td44 hl44 hr44 => ?_
      walk_at "cgo"
      refine ⟨Nat.le_of_ble_eq_true rfl, fun p45 hp45 => ?_⟩
      generalize hu45 : upd _ p45 _ = H45
      obtain ⟨s45, M45⟩ := CK.mk_row M44 .setarray [.int at', .tuple (ns44.map PyData.int), .int one] hu45 hp45 (.cons (CK.p4 (by omega)) CK.gi (.cons (CK.pk hr44 (by omega)) (CK.gl (by omega)) (.cons (CK.p7 (by omega)) CK.gi .nil))) (.cons (.int _) (.cons td44 (.cons (.int _) .nil)))
      clear hu45 hp45
      walk_at "cgo"
      refine ⟨Nat.le_of_ble_eq_true rfl, fun l46 hl46 => ?_⟩
      generalize hu46 : upd _ l46 _ = H46
      obtain ⟨s46, e46⟩ := MM.new2 hu46 hl46
      have M46 := M45.sm s46
      clear hu46
      walk_at "cgo"
      refine ⟨Nat.le_of_ble_eq_true rfl, fun l47 hl47 => ?_⟩
      generalize hu47 : upd _ l47 _ = H47
      obtain ⟨s47, e47⟩ := MM.new2 hu47 hl47
      have M47 := M46.sm s47
      clear hu47
      walk_at "cgo"
      obtain ⟨x48, hx48, ex48⟩ := MM.pickV (f := V.str) (xs := ["trace", "say"]) (i := two % 2) (by omega) (by show two % 2 < 2; omega)
      have gx48 : (x48 : Str).length ≤ 1000 ∧ PyData.strOk x48 = true := CK.few_ok (ws := ["trace", "say"]) (by decide +kernel) hx48
      refine R.r_ixL (v := .str x48) (R.sqL e47) ex48 ?_
      walk_at "cgo"
      refine M47.places (by decide) fun H49 t49 ns49 M49 g49 td49 hl49 hr49 => ?_
      walk_at "cgo"
      refine ⟨Nat.le_of_ble_eq_true rfl, fun p50 hp50 => ?_⟩
      generalize hu50 : upd _ p50 _ = H50
      obtain ⟨s50, M50⟩ := CK.mk_row M49 .record [.str x48, .tuple (ns49.map PyData.int)] hu50 hp50 (.cons (decide_eq_true hx48) (CK.gs gx48) (.cons (CK.pp hr49) (CK.gl (by omega)) .nil)) (.cons (.str _) (.cons td49 .nil))
      clear hu50 hp50
      walk_at "cgo"
      refine ⟨Nat.le_of_ble_eq_true rfl, fun l51 hl51 => ?_⟩
      generalize hu51 : upd _ l51 _ = H51
      obtain ⟨s51, e51⟩ := MM.new2 hu51 hl51
      have M51 := M50.sm s51
      clear hu51
      walk_at "cgo"
      have ne52 : l46 ≠ pw := CK.MkD.neL M47 (s47 _ _ e46)
      refine ⟨_, _, _, _, rfl, rfl, s51 _ _ (s50 _ _ (g49.1 _ _ (s47 _ _ e46) ne52)), e51, Nat.le_of_ble_eq_true rfl, fun l52 hl52 => ?_⟩
      walk_at "cgo"
      exact CK.r_pick (ps := [p42, p43, p45, p50]) M51 hl52 (by simp) (by omega) (by show turn - 21 < 4; omega) q
    walk_at "cgo"
    refine R.r_ite (fun c7 => ?_) (fun c7 => ?_)
    · walk_at "cgo"
      refine M5.places (by decide) fun H53 t53 ns53 M53 g53 td53 hl53 hr53 => ?_
      walk_at "cgo"
      refine M53.take fun H54 v54 M54 g54 => ?_
      walk_at "cgo"
      exact CK.mk_one M54 .put [.int at', .tuple (ns53.map PyData.int), .int (v54 % 9 - 1)] (Nat.le_of_ble_eq_true rfl) (.cons (CK.p4 (by omega)) CK.gi (.cons (CK.pk hr53 (by omega)) (CK.gl (by omega)) (.cons (CK.pm (by omega)) CK.gi .nil))) (.cons (.int _) (.cons (td53.keep g54.keepT) (.cons (.int _) .nil))) q
    walk_at "cgo"
    refine ⟨Nat.le_of_ble_eq_true rfl, fun p55 hp55 => ?_⟩
    generalize hu55 : upd _ p55 _ = H55
    obtain ⟨s55, M55⟩ := CK.mk_row M5 .speculate [.int one] hu55 hp55 (.cons (CK.p7 (by omega)) CK.gi .nil) (.cons (.int _) .nil)
    clear hu55 hp55
    walk_at "cgo"
    refine ⟨Nat.le_of_ble_eq_true rfl, fun p56 hp56 => ?_⟩
    generalize hu56 : upd _ p56 _ = H56
    obtain ⟨s56, M56⟩ := CK.mk_row M55 .commit [.int one] hu56 hp56 (.cons (CK.p7 (by omega)) CK.gi .nil) (.cons (.int _) .nil)
    clear hu56 hp56
    walk_at "cgo"
    refine ⟨Nat.le_of_ble_eq_true rfl, fun p57 hp57 => ?_⟩
    generalize hu57 : upd _ p57 _ = H57
    obtain ⟨s57, M57⟩ := CK.mk_row M56 .discard [.int one] hu57 hp57 (.cons (CK.p7 (by omega)) CK.gi .nil) (.cons (.int _) .nil)
    clear hu57 hp57
    walk_at "cgo"
    refine ⟨Nat.le_of_ble_eq_true rfl, fun p58 hp58 => ?_⟩
    generalize hu58 : upd _ p58 _ = H58
    obtain ⟨s58, M58⟩ := CK.mk_row M57 .stop [] hu58 hp58 .nil .nil
    clear hu58 hp58
    walk_at "cgo"
    refine ⟨Nat.le_of_ble_eq_true rfl, fun p59 hp59 => ?_⟩
    generalize hu59 : upd _ p59 _ = H59
    obtain ⟨s59, M59⟩ := CK.mk_row M58 .skip [] hu59 hp59 .nil .nil
    clear hu59 hp59
    walk_at "cgo"
    refine ⟨Nat.le_of_ble_eq_true rfl, fun p60 hp60 => ?_⟩
    generalize hu60 : upd _ p60 _ = H60
    obtain ⟨s60, M60⟩ := CK.mk_row M59 .end' [] hu60 hp60 .nil .nil
    clear hu60 hp60
    walk_at "cgo"
    refine ⟨Nat.le_of_ble_eq_true rfl, fun l61 hl61 => ?_⟩
    walk_at "cgo"
    exact CK.r_pick (ps := [p55, p56, p57, p58, p59, p60]) M60 hl61 (by simp) (by omega) (by show turn - 26 < 6; omega) q
end
end K52
end
section
local macro_rules | `(tactic| walk_at "s1") => `(tactic| first
  | ((with_reducible apply R.r_var); · rfl)
  | with_reducible apply R.r_c
  | with_reducible apply R.r_op
  | with_reducible apply R.r_I0
  | with_reducible apply R.r_cb
  | with_reducible apply R.r_cons
  | with_reducible apply R.r_nil
  | with_reducible apply R.r_seq
  | with_reducible apply R.r_asg
  | with_reducible apply R.r_ret
  | with_reducible apply R.r_ifS
  | with_reducible apply R.r_test
  | with_reducible apply R.r_t
  | with_reducible apply R.r_f
  | with_reducible apply R.r_nt
  | with_reducible apply R.r_nf
  | with_reducible apply R.r_bl
  | with_reducible apply R.r_U
  | with_reducible apply R.r_un
  | with_reducible apply R.r_eqI
  | with_reducible apply R.r_eqS
  | with_reducible apply R.r_neI
  | with_reducible apply R.r_neS
  | with_reducible apply R.r_and
  | with_reducible apply R.r_or
  | with_reducible apply R.r_not
  | with_reducible apply R.r_andV
  | with_reducible apply R.r_orV
  | with_reducible apply R.r_notV
  | with_reducible apply R.r_blV
  | with_reducible apply R.r_B
  | with_reducible apply R.r_ifE
  | with_reducible apply R.r_tup
  | with_reducible apply R.r_lst
  | with_reducible apply R.r_call
  | with_reducible apply R.r_drop
  | with_reducible apply R.r_next
  | with_reducible apply R.r_abs
  | with_reducible apply R.r_int1
  | with_reducible apply R.r_int1b
  | with_reducible apply R.r_min2
  | with_reducible apply R.r_bm
  | with_reducible apply R.r_bm0
  | with_reducible apply R.r_dget
  | with_reducible apply R.r_dput
  | with_reducible apply R.r_disp
  | with_reducible apply R.r_pnil
  | with_reducible apply R.r_pcons
  | with_reducible apply R.r_fld
  | with_reducible apply R.r_slice
  | with_reducible apply R.r_nopart
  | with_reducible apply R.r_part
  | with_reducible apply R.r_int
  | with_reducible apply R.r_yes
  | with_reducible apply R.r_retN
  | with_reducible apply R.r_asgG
  | with_reducible apply R.r_gname
  | with_reducible apply R.r_rng1
  | with_reducible apply R.r_brk
  | with_reducible apply R.r_cnt
  | with_reducible apply R.r_m1
  | with_reducible apply R.r_lcr
  | with_reducible apply R.r_p2_63
  | with_reducible apply R.r_p2_64
  | with_reducible apply R.r_p2_32
  | with_reducible apply R.r_p2_31
  | with_reducible apply R.r_p10_18
  | with_reducible apply R.r_p10_30
  | with_reducible refine R.r_mod (by omega) ?_
  | with_reducible refine R.r_div (by omega) ?_
  | with_reducible refine R.r_mulR (by omega) ?_
  | with_reducible refine R.r_mulL (by omega) ?_
  | with_reducible refine R.r_iteY (by decide +kernel) ?_
  | with_reducible refine R.r_iteF (by decide +kernel) ?_
  | with_reducible refine R.r_isi R.isi_int ?_
  | with_reducible refine R.r_isi R.isi_intB ?_)
local macro_rules | `(tactic| walk_at "go") => `(tactic| repeat (walk_at "s1"))

local macro_rules | `(tactic| walk_at "c1") => `(tactic| first
  | walk_at "s1"
  | with_reducible apply MM.r_chain
  | with_reducible apply CR.r_zl
  | with_reducible apply MM.r_daug
  | with_reducible apply MM.r_add)
local macro_rules | `(tactic| walk_at "cgo") => `(tactic| repeat (walk_at "c1"))

namespace K52
open PySem PySem.Spec PyProof.Rows L2
def spCodeN : Sp := fun vs H Q _ => ∃ (pw dl : PySem.Addr), vs = [.ref pw] ∧ CR.Wr H pw dl ∧ ∀ H' v (ks : List Str) (rs : List PyData), CR.Gr pw dl H H' → CK.Td H' v (.tuple [.tuple (ks.map PyData.str), .tuple rs]) → (∀ k ∈ ks, k = "int" ∨ k = "str") → (∀ d ∈ rs, WT.RowD d ∧ CK.gd 2 d) → ks.length ≤ 4 → 1 ≤ rs.length → rs.length ≤ 14 → Q v H'
section
variable {P : Program} {w : World} {K : PySem.W.Frag} {mg : Str → Option Value} {base : Heap}
def isKd (H : Hp) (v : V) : Prop := ∃ d, CK.Td H v d ∧ CK.kind d = true ∧ CK.gd 0 d
def isRw (H : Hp) (v : V) : Prop := ∃ d, CK.Td H v d ∧ CK.row d = true ∧ CK.gd 2 d
theorem ok_law_code (T : Txt w K mg) : FnOk P w K mg base CX0 5 T.p_law_code.f T.p_law_code.fd ["d"] spCodeN := by
  refine T.p_law_code.F.ok sc_law_code (fun vs H Q E h => ?_) (fun cdv A outer s H vs Q E hr h => ?_)
  · obtain ⟨a, dl, rfl, _⟩ := h
    rfl
  · obtain ⟨pw, dl, rfl, hw, q⟩ := h
    refine ⟨_, (pss_cons (ps_set (i := 1) sc_law_code.nd rfl (.inl rfl) (pe_callTy MM.cTupOf (by rfl) T.m_tuple (by decide +kernel) (pa_cons (pe_lc (own := [("k", 2)]) (g := gName 2) (tt := tYes) rfl sc_law_code.nd (pi_range1 (by rfl) T.m_range (pa_cons (pe_op op_mod (pe_call (ok_law_take T) (hr.mono (by decide)) (by rfl) T.p_law_take.g T.p_law_take.F.kp T.p_law_take.b .nil pass0 (pa_cons (pv 0) pa_nil)) pe_int) pa_nil)) (blkOk_by (own := [("k", 2)]) (N := N_law_code) (sc := defScope s_law_code) (by decide +kernel)) (fun _ _ _ _ _ => (pg_name (i := 2) sc_law_code.nd rfl (.inl rfl))) (fun _ _ _ _ _ => pts_nil) (fun _ _ _ _ _ => (pe_ix (R.ixLK (K0 := K) rfl) (pe_lst (pa_cons pe_str (pa_cons pe_str pa_nil))) (pe_op op_mod (pe_call (ok_law_take T) (hr.mono (by decide)) (by rfl) T.p_law_take.g T.p_law_take.F.kp T.p_law_take.b .nil pass0 (pa_cons (pv 0) pa_nil)) pe_int) (fun _ _ => rfl)))) pa_nil)))
(pss_cons (ps_set (i := 3) sc_law_code.nd rfl (.inr rfl) (pe_op op_add pe_int (pe_op op_mod (pe_call (ok_law_take T) (hr.mono (by decide)) (by rfl) T.p_law_take.g T.p_law_take.F.kp T.p_law_take.b .nil pass0 (pa_cons (pv 0) pa_nil)) pe_int)))
(pss_one (ps_ret (pe_tup (pa_cons (pv 1) (pa_cons (pe_callTy MM.cTupOf (by rfl) T.m_tuple (by decide +kernel) (pa_cons (pe_lc (own := [("k", 2)]) (g := gName 2) (tt := tYes) rfl sc_law_code.nd (pi_range1 (by rfl) T.m_range (pa_cons (pv 3) pa_nil)) (blkOk_by (own := [("k", 2)]) (N := N_law_code) (sc := defScope s_law_code) (by decide +kernel)) (fun _ _ _ _ _ => (pg_name (i := 2) sc_law_code.nd rfl (.inl rfl))) (fun _ _ _ _ _ => pts_nil) (fun _ _ _ _ _ => (pe_call (ok_law_row T) (hr.mono (by decide)) (by rfl) T.p_law_row.g T.p_law_row.F.kp T.p_law_row.b .nil pass0 (pa_cons (pv 0) (pa_cons (pv 3) pa_nil))))) pa_nil)) pa_nil))))))), ?_⟩
    walk_at "cgo"
    refine ⟨pw, dl, rfl, hw, fun H1 v g1 => ?_⟩
    walk_at "cgo"
    have v0 := Int.emod_nonneg v (show (5 : Int) ≠ 0 by omega)
    have v1 := Int.emod_lt_of_pos v (show (0 : Int) < 5 by omega)
    obtain ⟨nk, hk⟩ := Int.eq_ofNat_of_zero_le v0
    rw [hk] at v1 ⊢
    refine MM.r_LcR (n := nk) (by omega) ?_
    refine MM.lc_go walk_range (fun D i H' => CR.Ac isKd pw dl H1 D i H') ?_ (fun _ _ _ _ _ => trivial) ?_ ?_
    · intro D hD
      exact CR.Ac.start g1.2.2 hD
    · rintro D i x H2 H2' hD hi A ⟨rfl, rfl⟩
      refine ⟨rfl, ?_⟩
      walk_at "cgo"
      refine ⟨Nat.le_of_ble_eq_true rfl, fun l hl => ?_⟩
      generalize hu : upd _ l _ = H3
      obtain ⟨s3, e3⟩ := MM.new2 hu hl
      have g3 := (CR.Gr.refl A.w).sm s3
      walk_at "cgo"
      refine ⟨pw, dl, rfl, g3.2.2, fun H4 y g4 => ?_⟩
      walk_at "cgo"
      obtain ⟨sg, hsg, esg⟩ := MM.pickV (f := V.str) (xs := ["int", "str"]) (i := y % 2) (by omega) (by show y % 2 < 2; omega)
      refine R.r_ixL (v := .str sg) (R.sqL (g4.1 _ _ e3 (A.w.ne hl).1)) esg ?_
      have hk2 : ∀ s ∈ (["int", "str"] : List Str), CK.kind (.str s) = true ∧ s.length ≤ 1000 ∧ PyData.strOk s = true := by decide +kernel
      exact A.step (fun H H' v k h => by obtain ⟨d, z, r⟩ := h; exact ⟨d, z.keep k, r⟩) (by omega) (g3.trans g4) ⟨.str sg, .str _, (hk2 sg hsg).1, (hk2 sg hsg).2⟩
    · intro D H2 hD A
      obtain ⟨vs, e2, l2, hv0⟩ := A.e
      obtain ⟨kds, alk, hkd⟩ := CK.tds_of (P := fun d => CK.kind d = true ∧ CK.gd 0 d) hv0
      walk_at "cgo"
      refine ⟨D, _, rfl, .inl ⟨R.sqL e2, fun p hp => ?_⟩⟩
      have g2 := (g1.trans A.g).new (o := .tup vs) hp
      have ep : upd H2 p (.tup vs) p = some (.tup vs) := upd_same
      have k2 : MM.KeepT H2 (upd H2 p (.tup vs)) := MM.KeepT.of (R.same_new hp)
      generalize hu : upd H2 p _ = H3 at g2 ep k2 ⊢
      walk_at "cgo"
      refine ⟨pw, dl, rfl, g2.2.2, fun H4 y g4 => ?_⟩
      walk_at "cgo"
      have y0 := Int.emod_nonneg y (show (14 : Int) ≠ 0 by omega)
      have y1 := Int.emod_lt_of_pos y (show (0 : Int) < 14 by omega)
      obtain ⟨nj, hj⟩ := Int.eq_ofNat_of_zero_le (show 0 ≤ 1 + y % 14 by omega)
      rw [hj]
      refine MM.r_LcR (n := nj) (by omega) ?_
      refine MM.lc_go walk_range (fun D i H' => CR.Ac isRw pw dl H4 D i H') ?_ (fun _ _ _ _ _ => trivial) ?_ ?_
      · intro D hD
        exact CR.Ac.start g4.2.2 hD
      · rintro D i x H5 H5' hD hi A ⟨rfl, rfl⟩
        refine ⟨rfl, ?_⟩
        walk_at "cgo"
        refine ⟨pw, dl, _, rfl, by omega, by omega, A.w, fun H6 v6 d6 g6 t6 r6 gd6 => ?_⟩
        exact A.step (fun H H' v k h => by obtain ⟨d, z, r⟩ := h; exact ⟨d, z.keep k, r⟩) (by omega) g6 ⟨d6, t6, r6, gd6⟩
      · intro D2 H5 hD2 A2
        obtain ⟨vs2, e5, l5, hv⟩ := A2.e
        obtain ⟨rds, alr, hrd⟩ := CK.tds_of (P := fun d => CK.row d = true ∧ CK.gd 2 d) hv
        walk_at "cgo"
        refine ⟨D2, _, rfl, .inl ⟨R.sqL e5, fun pr hpr => ?_⟩⟩
        walk_at "cgo"
        refine ⟨Nat.le_of_ble_eq_true rfl, fun c hc => ?_⟩
        have gA := g4.trans A2.g
        have s6 := (R.same_new (o := .tup vs2) hpr).trans (R.same_new (o := .tup [.ref p, .ref pr]) hc)
        have lk := alk.len
        have lr := alr.len
        have kp : MM.KeepT H2 (upd (upd H5 pr (.tup vs2)) c (.tup [.ref p, .ref pr])) := k2.trans (gA.keepT.trans (MM.KeepT.of s6))
        obtain ⟨kss, rfl, hks⟩ := WT.kinds_of (fun d m => (hkd d m).1)
        rw [List.length_map] at lk
        refine q _ (.ref c) kss rds ((g2.trans gA).sm s6) (.tup upd_same (.cons (.tup ((gA.keepT.trans (MM.KeepT.of s6)) _ _ ep) (alk.keep kp)) (.cons (.tup (R.same_new hc _ _ upd_same) (alr.keep (MM.KeepT.of s6))) .nil))) hks (fun d m => ⟨WT.row_fit (hrd d m).1 (hrd d m).2, (hrd d m).2⟩) (by omega) (by omega) (by omega)
end
end K52
end
section
local macro_rules | `(tactic| walk_at "s1") => `(tactic| first
  | ((with_reducible apply R.r_var); · rfl)
  | with_reducible apply R.r_c
  | with_reducible apply R.r_op
  | with_reducible apply R.r_I0
  | with_reducible apply R.r_cb
  | with_reducible apply R.r_cons
  | with_reducible apply R.r_nil
  | with_reducible apply R.r_seq
  | with_reducible apply R.r_asg
  | with_reducible apply R.r_ret
  | with_reducible apply R.r_ifS
  | with_reducible apply R.r_test
  | with_reducible apply R.r_t
  | with_reducible apply R.r_f
  | with_reducible apply R.r_nt
  | with_reducible apply R.r_nf
  | with_reducible apply R.r_bl
  | with_reducible apply R.r_U
  | with_reducible apply R.r_un
  | with_reducible apply R.r_eqI
  | with_reducible apply R.r_eqS
  | with_reducible apply R.r_neI
  | with_reducible apply R.r_neS
  | with_reducible apply R.r_and
  | with_reducible apply R.r_or
  | with_reducible apply R.r_not
  | with_reducible apply R.r_andV
  | with_reducible apply R.r_orV
  | with_reducible apply R.r_notV
  | with_reducible apply R.r_blV
  | with_reducible apply R.r_B
  | with_reducible apply R.r_ifE
  | with_reducible apply R.r_tup
  | with_reducible apply R.r_lst
  | with_reducible apply R.r_call
  | with_reducible apply R.r_drop
  | with_reducible apply R.r_next
  | with_reducible apply R.r_abs
  | with_reducible apply R.r_int1
  | with_reducible apply R.r_int1b
  | with_reducible apply R.r_min2
  | with_reducible apply R.r_bm
  | with_reducible apply R.r_bm0
  | with_reducible apply R.r_dget
  | with_reducible apply R.r_dput
  | with_reducible apply R.r_disp
  | with_reducible apply R.r_pnil
  | with_reducible apply R.r_pcons
  | with_reducible apply R.r_fld
  | with_reducible apply R.r_slice
  | with_reducible apply R.r_nopart
  | with_reducible apply R.r_part
  | with_reducible apply R.r_int
  | with_reducible apply R.r_yes
  | with_reducible apply R.r_retN
  | with_reducible apply R.r_asgG
  | with_reducible apply R.r_gname
  | with_reducible apply R.r_rng1
  | with_reducible apply R.r_brk
  | with_reducible apply R.r_cnt
  | with_reducible apply R.r_m1
  | with_reducible apply R.r_lcr
  | with_reducible apply R.r_p2_63
  | with_reducible apply R.r_p2_64
  | with_reducible apply R.r_p2_32
  | with_reducible apply R.r_p2_31
  | with_reducible apply R.r_p10_18
  | with_reducible apply R.r_p10_30
  | with_reducible refine R.r_mod (by omega) ?_
  | with_reducible refine R.r_div (by omega) ?_
  | with_reducible refine R.r_mulR (by omega) ?_
  | with_reducible refine R.r_mulL (by omega) ?_
  | with_reducible refine R.r_iteY (by decide +kernel) ?_
  | with_reducible refine R.r_iteF (by decide +kernel) ?_
  | with_reducible refine R.r_isi R.isi_int ?_
  | with_reducible refine R.r_isi R.isi_intB ?_)
local macro_rules | `(tactic| walk_at "go") => `(tactic| repeat (walk_at "s1"))

local macro_rules | `(tactic| walk_at "b1") => `(tactic| first
  | walk_at "s1"
  | with_reducible apply MM.r_meth
  | with_reducible apply MM.r_make
  | with_reducible apply MM.r_sfld
  | with_reducible apply MM.r_gsub
  | with_reducible apply MM.r_chain
  | with_reducible apply MM.r_daug
  | with_reducible apply MM.r_add
  | with_reducible apply MM.r_ip
  | with_reducible apply MM.r_din
  | with_reducible apply MM.r_dnotin
  | with_reducible apply BF.r_faug
  | with_reducible apply BF.r_sub)
local macro_rules | `(tactic| walk_at "bgo") => `(tactic| repeat (walk_at "b1"))

namespace K52
open PySem PySem.Spec PyProof.Rows L2
def spBad : Sp := fun vs H Q _ => ∃ (pw dl : PySem.Addr), vs = [.ref pw] ∧ CR.Wr H pw dl ∧ ∀ H' z, CR.Gr pw dl H H' → z ∈ WT.bads → Q (.str z) H'
def told : WT.Rd → PyData
  | .ok ks rs => .tuple [.str "code", .tuple [.tuple (ks.map PyData.str), .tuple rs]]
  | .bad n => .tuple [.str "row", .int (n : Int)]
def spTold : Sp := fun vs H Q _ => ∃ z : Str, vs = [.str z] ∧ z.length ≤ 900000 ∧ (Txt.split z WT.nl).length ≤ 40000 ∧ (∀ l ∈ Txt.split z WT.nl, l.length ≤ 30000 ∧ PyData.strOk l = true) ∧
  ∀ H' v, Same H H' → CK.Td H' v (told (WT.textF z)) → WT.gw 5 (told (WT.textF z)) → Q v H'
section
variable {P : Program} {w : World} {K : PySem.W.Frag} {mg : Str → Option Value} {base : Heap}
theorem ok_law_bad (T : Txt w K mg) : FnOk P w K mg base CX0 2 T.p_law_bad.f T.p_law_bad.fd ["d"] spBad := by
  refine T.p_law_bad.F.ok sc_law_bad (fun vs H Q E h => ?_) (fun cdv A outer s H vs Q E hr h => ?_)
  · obtain ⟨pw, dl, rfl, _⟩ := h
    rfl
  · obtain ⟨pw, dl, rfl, hw, q⟩ := h
    refine ⟨_, (pss_cons (ps_set (i := 1) sc_law_bad.nd rfl (.inl rfl) (pe_lst (pa_cons pe_str (pa_cons pe_str (pa_cons pe_str (pa_cons pe_str (pa_cons pe_str (pa_cons pe_str pa_nil))))))))
(pss_cons (ps_set (i := 1) sc_law_bad.nd rfl (.inl rfl) (pe_op op_cat (pv 1) (pe_lst (pa_cons pe_str (pa_cons pe_str (pa_cons pe_str (pa_cons pe_str (pa_cons pe_str (pa_cons pe_str (pa_cons pe_str (pa_cons pe_str pa_nil)))))))))))
(pss_cons (ps_set (i := 1) sc_law_bad.nd rfl (.inl rfl) (pe_op op_cat (pv 1) (pe_lst (pa_cons pe_str (pa_cons pe_str (pa_cons pe_str (pa_cons pe_str (pa_cons pe_str (pa_cons pe_str (pa_cons pe_str (pa_cons pe_str (pa_cons pe_str pa_nil))))))))))))
(pss_cons (ps_set (i := 1) sc_law_bad.nd rfl (.inl rfl) (pe_op op_cat (pv 1) (pe_lst (pa_cons pe_str (pa_cons pe_str (pa_cons pe_str (pa_cons pe_str (pa_cons pe_str (pa_cons pe_str (pa_cons pe_str (pa_cons pe_str (pa_cons pe_str pa_nil))))))))))))
(pss_cons (ps_set (i := 1) sc_law_bad.nd rfl (.inl rfl) (pe_op op_cat (pv 1) (pe_lst (pa_cons pe_str (pa_cons pe_str (pa_cons pe_str (pa_cons pe_str (pa_cons pe_str (pa_cons pe_str (pa_cons pe_str (pa_cons pe_str (pa_cons pe_str (pa_cons pe_str (pa_cons pe_str pa_nil))))))))))))))
(pss_cons (ps_set (i := 1) sc_law_bad.nd rfl (.inl rfl) (pe_op op_cat (pv 1) (pe_lst (pa_cons pe_str (pa_cons pe_str (pa_cons pe_str (pa_cons (pe_op op_add_str (pe_slice sl_str pe_str po_none (po_some pe_int)) pe_str) (pa_cons pe_str (pa_cons pe_str (pa_cons pe_str pa_nil))))))))))
(pss_one (ps_ret (pe_ix ix_list (pv 1) (pe_op op_mod (pe_call (ok_law_take T) (hr.mono (by decide)) (by rfl) T.p_law_take.g T.p_law_take.F.kp T.p_law_take.b .nil pass0 (pa_cons (pv 0) pa_nil)) (pe_callB R.cLenS (by rfl) T.m_len (by decide +kernel) (pa_cons (pv 1) pa_nil))) (fun _ _ => rfl)))))))))), ?_⟩
    walk_at "bgo"
    refine ⟨Nat.le_of_ble_eq_true rfl, fun l0 hl0 => ?_⟩
    generalize hu : upd _ l0 _ = H0
    obtain ⟨s0, e0⟩ := MM.new2 hu hl0
    clear hu
    walk_at "bgo"
    refine ⟨Nat.le_of_ble_eq_true rfl, fun a1 ha1 => ?_⟩
    generalize hu : upd _ a1 _ = G1
    obtain ⟨t1, f1⟩ := MM.new2 hu ha1
    clear hu
    refine CK.r_cat (t1 _ _ e0) f1 (Nat.le_of_ble_eq_true rfl) fun l1 hl1 => ?_
    generalize hu : upd _ l1 _ = H1
    obtain ⟨s1', e1⟩ := MM.new2 hu hl1
    clear hu
    have s1 := s0.trans (t1.trans s1')
    walk_at "bgo"
    refine ⟨Nat.le_of_ble_eq_true rfl, fun a2 ha2 => ?_⟩
    generalize hu : upd _ a2 _ = G2
    obtain ⟨t2, f2⟩ := MM.new2 hu ha2
    clear hu
    refine CK.r_cat (t2 _ _ e1) f2 (Nat.le_of_ble_eq_true rfl) fun l2 hl2 => ?_
    generalize hu : upd _ l2 _ = H2
    obtain ⟨s2', e2⟩ := MM.new2 hu hl2
    clear hu
    have s2 := s1.trans (t2.trans s2')
    walk_at "bgo"
    refine ⟨Nat.le_of_ble_eq_true rfl, fun a3 ha3 => ?_⟩
    generalize hu : upd _ a3 _ = G3
    obtain ⟨t3, f3⟩ := MM.new2 hu ha3
    clear hu
    refine CK.r_cat (t3 _ _ e2) f3 (Nat.le_of_ble_eq_true rfl) fun l3 hl3 => ?_
    generalize hu : upd _ l3 _ = H3
    obtain ⟨s3', e3⟩ := MM.new2 hu hl3
    clear hu
    have s3 := s2.trans (t3.trans s3')
    walk_at "bgo"
    refine ⟨Nat.le_of_ble_eq_true rfl, fun a4 ha4 => ?_⟩
    generalize hu : upd _ a4 _ = G4
    obtain ⟨t4, f4⟩ := MM.new2 hu ha4
    clear hu
    refine CK.r_cat (t4 _ _ e3) f4 (Nat.le_of_ble_eq_true rfl) fun l4 hl4 => ?_
    generalize hu : upd _ l4 _ = H4
    obtain ⟨s4', e4⟩ := MM.new2 hu hl4
    clear hu
    have s4 := s3.trans (t4.trans s4')
    walk_at "bgo"
    refine ⟨_, rfl, R.size_of (by decide +kernel), ?_⟩
    walk_at "bgo"
    refine ⟨_, _, rfl, rfl, R.size_of (by decide +kernel), ?_⟩
    walk_at "bgo"
    refine ⟨Nat.le_of_ble_eq_true rfl, fun a5 ha5 => ?_⟩
    generalize hu : upd _ a5 _ = G5
    obtain ⟨t5, f5⟩ := MM.new2 hu ha5
    clear hu
    refine CK.r_cat (t5 _ _ e4) f5 (Nat.le_of_ble_eq_true rfl) fun l5 hl5 => ?_
    generalize hu : upd _ l5 _ = H5
    obtain ⟨s5', e5⟩ := MM.new2 hu hl5
    clear hu
    have s5 := s4.trans (t5.trans s5')
    have e5 : H5 l5 = some (.lst (WT.bads.map V.str)) := e5
    clear s5' f5 ha5 e4 e3 e2 e1 e0 f4 f3 f2 f1
    walk_at "bgo"
    have lb : WT.bads.length = 50 := by decide +kernel
    have g0 := (CR.Gr.refl hw).sm s5
    have nl5 : H l5 = none := Decidable.byContradiction fun c => by
      obtain ⟨o, ho⟩ := Option.ne_none_iff_exists'.mp c
      rw [t5 _ _ (s4 _ _ ho)] at hl5
      cases hl5
    refine ⟨pw, dl, rfl, g0.2.2, fun H6 v g6 => ?_⟩
    walk_at "bgo"
    have e6 := g6.1 _ _ e5 (hw.ne nl5).1
    refine R.r_lenL (R.sqL e6) ?_
    walk_at "bgo"
    rw [List.length_map, lb]
    refine ⟨_, _, rfl, rfl, by show (0 : Int) < _; decide, ?_⟩
    obtain ⟨x, hx, ex⟩ := MM.pickV (f := V.str) (xs := WT.bads) (i := v % 50) (by omega) (by rw [lb]; omega)
    exact R.r_ixL (R.sqL e6) ex (q _ x (g0.trans g6) hx)
theorem ok_law_told (T : Txt w K mg) (hP : XS.Pr P T.p_BadText___init__.file) : FnOk P w K mg base CX0 9 T.p_law_told.f T.p_law_told.fd ["text"] spTold := by
  refine T.p_law_told.F.ok sc_law_told (fun vs H Q E h => ?_) (fun cdv A outer s H vs Q E hr h => ?_)
  · obtain ⟨z, rfl, _⟩ := h
    rfl
  · obtain ⟨z, rfl, lz, l4, hz, q⟩ := h
    refine ⟨_, (pss_one (XS.ps_try_ms rfl rfl sc_law_told.nd takes0 (fun W pn xe tk _ => (pss_one (ps_ret (pe_tup (pa_cons pe_str (pa_cons (pe_callS (ok_read_text T hP) (hr.mono (by decide)) (by rfl) T.p_read_text.g T.p_read_text.F.kp T.p_read_text.b (fun σ => passAt tk σ) (pa_cons (pv 0) pa_nil)) pa_nil)))))) (XS.Hds.cons (i := 1) rfl rfl ⟨rfl, by decide, .inl T.x_BadText.g⟩ (fun a oe cls d pn hz hf => (pss_cons (ps_if ((pw_or (pt_val (pe_callB (XS.call_isF (K0 := K) rfl T.x_BadText.ec hz hf) (by rfl) T.m_isinstance (by decide +kernel) (pa_cons (pv 1) (pa_cons (pe_glob (v := .ref T.t_BadBytes) (by rfl) T.gt_BadBytes rfl) pa_nil)))) (pw_or1 (pt_not (pt_val (pe_callB (XS.call_isF (K0 := K) rfl T.x_BadText.ec hz hf) (by rfl) T.m_isinstance (by decide +kernel) (pa_cons (pv 1) (pa_cons (pe_glob (v := .ref T.t_CodeError) (by rfl) T.gt_CodeError rfl) pa_nil)))))))).pt
 (pss_one (ps_ret (pe_tup (pa_cons pe_str (pa_cons pe_int pa_nil)))))
 pss_nil)
(pss_one (ps_ret (pe_tup (pa_cons pe_str (pa_cons (pe_xf T.x_BadText.xf (T.x_BadText.nf "row" (by decide +kernel)) hz hf (pv 1)) pa_nil))))))) XS.Hds.nil))), ?_⟩
    walk_at "bgo"
    refine XP.r_callS ?_
    walk_at "bgo"
    refine ⟨z, rfl, lz, l4, hz, ?_⟩
    cases ez : WT.textF z with
    | ok ks rs =>
      rw [ez] at q
      intro H1 v s1 td gd
      walk_at "bgo"
      refine ⟨Nat.le_of_ble_eq_true rfl, fun a ha => ?_⟩
      have s2 := R.same_new (o := .tup [.str "code", v]) ha
      exact q _ _ (s1.trans s2) (.tup upd_same (.cons (.str _) (.cons (WT.keep_td s2 td) .nil))) ⟨Nat.le_of_ble_eq_true rfl, fun x hx => by
        rcases List.mem_cons.mp hx with rfl | hx
        · exact ⟨by decide +kernel, by decide +kernel⟩
        · rw [List.mem_singleton.mp hx]; exact gd⟩
    | bad n =>
      rw [ez] at q
      intro d H1 s1 ed
      refine ⟨true, T.te_BadText_BadText, fun _ a ha => ?_, fun h => by cases h⟩
      walk_at "bgo"
      refine ⟨rfl, d, _, false, rfl, ed, .inl ⟨_, _, rfl, .own _, T.ki_BadText_BadBytes⟩, ?_⟩
      walk_at "bgo"
      refine ⟨rfl, d, _, true, rfl, ed, .inl ⟨_, _, rfl, .own _, T.ki_BadText_CodeError⟩, ?_⟩
      walk_at "bgo"
      refine ⟨_, rfl, rfl, rfl, d, _, _, rfl, ed, rfl, ?_⟩
      walk_at "bgo"
      refine ⟨Nat.le_of_ble_eq_true rfl, fun ta hta => ?_⟩
      exact q _ _ (s1.trans (R.same_new hta)) (.tup upd_same (.cons (.str _) (.cons (.int _) .nil))) ⟨Nat.le_of_ble_eq_true rfl, fun x hx => by
        rcases List.mem_cons.mp hx with rfl | hx
        · exact ⟨by decide +kernel, by decide +kernel⟩
        · rw [List.mem_singleton.mp hx]; trivial⟩
end
end K52
end
section
local macro_rules | `(tactic| walk_at "s1") => `(tactic| first
  | ((with_reducible apply R.r_var); · rfl)
  | with_reducible apply R.r_c
  | with_reducible apply R.r_op
  | with_reducible apply R.r_I0
  | with_reducible apply R.r_cb
  | with_reducible apply R.r_cons
  | with_reducible apply R.r_nil
  | with_reducible apply R.r_seq
  | with_reducible apply R.r_asg
  | with_reducible apply R.r_ret
  | with_reducible apply R.r_ifS
  | with_reducible apply R.r_test
  | with_reducible apply R.r_t
  | with_reducible apply R.r_f
  | with_reducible apply R.r_nt
  | with_reducible apply R.r_nf
  | with_reducible apply R.r_bl
  | with_reducible apply R.r_U
  | with_reducible apply R.r_un
  | with_reducible apply R.r_eqI
  | with_reducible apply R.r_eqS
  | with_reducible apply R.r_neI
  | with_reducible apply R.r_neS
  | with_reducible apply R.r_and
  | with_reducible apply R.r_or
  | with_reducible apply R.r_not
  | with_reducible apply R.r_andV
  | with_reducible apply R.r_orV
  | with_reducible apply R.r_notV
  | with_reducible apply R.r_blV
  | with_reducible apply R.r_B
  | with_reducible apply R.r_ifE
  | with_reducible apply R.r_tup
  | with_reducible apply R.r_lst
  | with_reducible apply R.r_call
  | with_reducible apply R.r_drop
  | with_reducible apply R.r_next
  | with_reducible apply R.r_abs
  | with_reducible apply R.r_int1
  | with_reducible apply R.r_int1b
  | with_reducible apply R.r_min2
  | with_reducible apply R.r_bm
  | with_reducible apply R.r_bm0
  | with_reducible apply R.r_dget
  | with_reducible apply R.r_dput
  | with_reducible apply R.r_disp
  | with_reducible apply R.r_pnil
  | with_reducible apply R.r_pcons
  | with_reducible apply R.r_fld
  | with_reducible apply R.r_slice
  | with_reducible apply R.r_nopart
  | with_reducible apply R.r_part
  | with_reducible apply R.r_int
  | with_reducible apply R.r_yes
  | with_reducible apply R.r_retN
  | with_reducible apply R.r_asgG
  | with_reducible apply R.r_gname
  | with_reducible apply R.r_rng1
  | with_reducible apply R.r_brk
  | with_reducible apply R.r_cnt
  | with_reducible apply R.r_m1
  | with_reducible apply R.r_lcr
  | with_reducible apply R.r_p2_63
  | with_reducible apply R.r_p2_64
  | with_reducible apply R.r_p2_32
  | with_reducible apply R.r_p2_31
  | with_reducible apply R.r_p10_18
  | with_reducible apply R.r_p10_30
  | with_reducible refine R.r_mod (by omega) ?_
  | with_reducible refine R.r_div (by omega) ?_
  | with_reducible refine R.r_mulR (by omega) ?_
  | with_reducible refine R.r_mulL (by omega) ?_
  | with_reducible refine R.r_iteY (by decide +kernel) ?_
  | with_reducible refine R.r_iteF (by decide +kernel) ?_
  | with_reducible refine R.r_isi R.isi_int ?_
  | with_reducible refine R.r_isi R.isi_intB ?_)
local macro_rules | `(tactic| walk_at "go") => `(tactic| repeat (walk_at "s1"))

local macro_rules | `(tactic| walk_at "b1") => `(tactic| first
  | walk_at "s1"
  | with_reducible apply MM.r_meth
  | with_reducible apply MM.r_make
  | with_reducible apply MM.r_sfld
  | with_reducible apply MM.r_gsub
  | with_reducible apply MM.r_chain
  | with_reducible apply MM.r_daug
  | with_reducible apply MM.r_add
  | with_reducible apply MM.r_ip
  | with_reducible apply MM.r_din
  | with_reducible apply MM.r_dnotin
  | with_reducible apply BF.r_faug
  | with_reducible apply BF.r_sub)
local macro_rules | `(tactic| walk_at "bgo") => `(tactic| repeat (walk_at "b1"))

namespace K52
open PySem PySem.Spec PyProof.Rows L2
def sp_law (K : PySem.W.Frag) : Sp := fun vs H Q _ => ∃ (a : Addr) (ns : List Int), vs = [.ref a] ∧ SqL K H a (ns.map V.int) ∧ ns.length ≤ 63 ∧ ∀ H', Q (.bl true) H'
section
variable {P : Program} {w : World} {K : PySem.W.Frag} {mg : Str → Option Value} {base : Heap}
theorem ok_law (T : Txt w K mg) (hP : XS.Pr P T.p_BadText___init__.file) : FnOk P w K mg base CX0 11 T.p_law.f T.p_law.fd ["script"] (sp_law K) := by
  refine T.p_law.F.ok sc_law (fun vs H Q E h => ?_) (fun cdv A outer s H vs Q E hr h => ?_)
  · obtain ⟨a, ns, rfl, _⟩ := h
    rfl
  · obtain ⟨a, ns, rfl, hs, hl, q⟩ := h
    refine ⟨_, (pss_cons (ps_set (i := 1) sc_law.nd rfl (.inl rfl) (pe_call (ok_law_start T) (hr.mono (by decide)) (by rfl) T.p_law_start.g T.p_law_start.F.kp T.p_law_start.b .nil pass0 (pa_cons (pv 0) pa_nil)))
(pss_cons (ps_set (i := 2) sc_law.nd rfl (.inl rfl) (pe_call (ok_law_code T) (hr.mono (by decide)) (by rfl) T.p_law_code.g T.p_law_code.F.kp T.p_law_code.b .nil pass0 (pa_cons (pv 1) pa_nil)))
(pss_cons (ps_set (i := 3) sc_law.nd rfl (.inl rfl) (pe_slice sl_list (pe_split (pe_call (ok_write_text T) (hr.mono (by decide)) (by rfl) T.p_write_text.g T.p_write_text.F.kp T.p_write_text.b .nil pass0 (pa_cons (pv 2) pa_nil)) pe_str) po_none (po_some (pe_un un_neg pe_int))))
(pss_cons (ps_for PassesOwn.never rfl (pi_range1 (by rfl) T.m_range (pa_cons pe_int pa_nil)) (pg_name (i := 4) sc_law.nd rfl (.inl rfl))
 (pss_cons (ps_set (i := 5) sc_law.nd rfl (.inl rfl) (pe_op op_mod (pe_call (ok_law_take T) (hr.mono (by decide)) (by rfl) T.p_law_take.g T.p_law_take.F.kp T.p_law_take.b .nil pass0 (pa_cons (pv 1) pa_nil)) (pe_callB R.cLenS (by rfl) T.m_len (by decide +kernel) (pa_cons (pv 3) pa_nil))))
(pss_cons (ps_set (i := 6) sc_law.nd rfl (.inl rfl) (pe_slice sl_list (pv 3) (po_some (pe_op op_add (pv 5) (pe_op op_mod (pe_call (ok_law_take T) (hr.mono (by decide)) (by rfl) T.p_law_take.g T.p_law_take.F.kp T.p_law_take.b .nil pass0 (pa_cons (pv 1) pa_nil)) pe_int))) po_none))
(pss_cons (ps_set (i := 7) sc_law.nd rfl (.inl rfl) (pe_join pe_str (pe_lc (own := [("line", 8)]) (g := gName 8) (tt := tYes) rfl sc_law.nd (pi_list (pe_op op_cat (pe_op op_cat (pe_slice sl_list (pv 3) po_none (po_some (pv 5))) (pe_lst (pa_cons (pe_call (ok_law_bad T) (hr.mono (by decide)) (by rfl) T.p_law_bad.g T.p_law_bad.F.kp T.p_law_bad.b .nil pass0 (pa_cons (pv 1) pa_nil)) pa_nil))) (pv 6))) (blkOk_by (own := [("line", 8)]) (N := N_law) (sc := defScope s_law) (by decide +kernel)) (fun _ _ _ _ _ => (pg_name (i := 8) sc_law.nd rfl (.inl rfl))) (fun _ _ _ _ _ => pts_nil) (fun _ _ _ _ _ => (pe_op op_add_str (pv 8) pe_str)))))
(pss_one (ps_if (pt_cmpR (op_neD hr.units) (pe_call (ok_law_told T hP) (hr.mono (by decide)) (by rfl) T.p_law_told.g T.p_law_told.F.kp T.p_law_told.b .nil pass0 (pa_cons (pv 7) pa_nil)) (pe_tup (pa_cons pe_str (pa_cons (pe_op op_add (pv 5) pe_int) pa_nil))) (nomark _))
 (pss_one (ps_ret pe_bl))
 pss_nil))))))
(pss_cons (ps_set (i := 7) sc_law.nd rfl (.inl rfl) (pe_join pe_str (pe_lc (own := [("line", 8)]) (g := gName 8) (tt := tYes) rfl sc_law.nd (pi_list (pv 3)) (blkOk_by (own := [("line", 8)]) (N := N_law) (sc := defScope s_law) (by decide +kernel)) (fun _ _ _ _ _ => (pg_name (i := 8) sc_law.nd rfl (.inl rfl))) (fun _ _ _ _ _ => pts_nil) (fun _ _ _ _ _ => (pe_op op_add_str (pv 8) pe_str)))))
(pss_cons (ps_if ((pw_or (pt_cmpR (op_neD hr.units) (pe_call (ok_law_told T hP) (hr.mono (by decide)) (by rfl) T.p_law_told.g T.p_law_told.F.kp T.p_law_told.b .nil pass0 (pa_cons (pv 7) pa_nil)) (pe_tup (pa_cons pe_str (pa_cons (pv 2) pa_nil))) (nomark _)) (pw_or1 (pt_cmpR (op_neD hr.units) (pe_call (ok_law_told T hP) (hr.mono (by decide)) (by rfl) T.p_law_told.g T.p_law_told.F.kp T.p_law_told.b .nil pass0 (pa_cons (pe_op op_add_str (pv 7) pe_str) pa_nil)) (pe_tup (pa_cons pe_str (pa_cons (pe_op op_add (pe_callB R.cLenS (by rfl) T.m_len (by decide +kernel) (pa_cons (pv 3) pa_nil)) pe_int) pa_nil))) (nomark _))))).pt
 (pss_one (ps_ret pe_bl))
 pss_nil)
(pss_one (ps_ret (pe_and (pe_cmpR (op_eqD hr.units) (pe_call (ok_law_told T hP) (hr.mono (by decide)) (by rfl) T.p_law_told.g T.p_law_told.F.kp T.p_law_told.b .nil pass0 (pa_cons (pe_slice sl_str (pv 7) po_none (po_some (pe_un un_neg pe_int))) pa_nil)) (pe_tup (pa_cons pe_str (pa_cons (pe_callB R.cLenS (by rfl) T.m_len (by decide +kernel) (pa_cons (pv 3) pa_nil)) pa_nil))) (nomark _)) (pe_one (pe_cmpR (op_eqD hr.units) (pe_call (ok_law_told T hP) (hr.mono (by decide)) (by rfl) T.p_law_told.g T.p_law_told.F.kp T.p_law_told.b .nil pass0 (pa_cons (pe_op op_add_str (pv 7) pe_str) pa_nil)) (pe_tup (pa_cons pe_str (pa_cons (pe_op op_add (pe_callB R.cLenS (by rfl) T.m_len (by decide +kernel) (pa_cons (pv 3) pa_nil)) pe_int) pa_nil))) (nomark _)))))))))))), ?_⟩
    walk_at "bgo"
    refine ⟨a, ns, rfl, hs, hl, fun H1 pw dl s1 w1 => ?_⟩
    walk_at "bgo"
    refine ⟨pw, dl, rfl, w1, fun H2 code ks rs g2 tc hks hrs lk lr0 lr => ?_⟩
    have w2 := g2.2.2
    walk_at "bgo"
    refine ⟨code, ks, rs, rfl, tc, hks, fun d m => (hrs d m).1, lk, lr, fun H3 s3 => ?_⟩
    have tc3 := WT.keep_td s3 tc
    have w3 := w2.same s3
    obtain ⟨lo, l1, l2⟩ := WT.code_lines hks (fun d m => (hrs d m).1) lk lr0 lr
    have hrd : ∀ d ∈ rs, WT.RowD d := fun d m => (hrs d m).1
    have gAt := @WT.goL_at _ _ hks hrd
    have gTake := WT.goL_take hks hrd
    have gLate := WT.goL_late hks hrd lr0
    have gAll := WT.goL_code hks hrd
    have gwc : WT.gw 4 (.tuple [.tuple (ks.map PyData.str), .tuple rs]) := WT.gw_code hks (by omega) (by omega) fun d m => (hrs d m).2
    generalize WT.codeL ks rs = ls at lo l1 l2 gAt gTake gLate gAll ⊢
    have lb : ∀ l ∈ ls, WT.LnB l := fun l m => (lo l m).b
    obtain ⟨p1, p2, p3⟩ := WT.pre_ok0 lb (by omega)
    walk_at "bgo"
    refine ⟨⟨_, rfl⟩, ?_⟩
    refine ⟨_, _, rfl, rfl, rfl, WT.sz (by omega), fun p0 hp0 => ?_⟩
    rw [show Txt.split (WT.lnT ls) (Str.ofString "\n") = ls ++ [("" : Str)] from WT.lnT_split0 fun l m => (lb l m).2.2]
    generalize hu : upd _ p0 _ = H4
    obtain ⟨s4, e4⟩ := MM.new2 hu hp0
    clear hu
    walk_at "bgo"
    refine ⟨p0, _, rfl, R.sqL e4, fun pl hpl => ?_⟩
    rw [WT.cut_last (by simp), List.map_append, show ([("" : Str)].map V.str) = [V.str ""] from rfl, List.dropLast_concat]
    generalize hu : upd _ pl _ = H5
    obtain ⟨s5, e5⟩ := MM.new2 hu hpl
    clear hu
    have tc5 := WT.keep_td (s4.trans s5) tc3
    have w5 := w3.same (s4.trans s5)
    have npl : pl ≠ pw := ((w3.same s4).ne hpl).1
    walk_at "bgo"
    refine R.r_rngL (fun i σ H' => ∃ (y4 y5 y6 y7 y8 : Option V), σ = [some (.ref a), some (.ref pw), some code, some (.ref pl), y4, y5, y6, y7, y8] ∧ CR.Wr H' pw dl ∧ H' pl = some (.lst (ls.map V.str)) ∧ CK.Td H' code (.tuple [.tuple (ks.map PyData.str), .tuple rs])) (by decide) ?_ ?_ ?_
    · exact ⟨_, _, _, _, _, rfl, w5, e5, tc5⟩
    · rintro i σ Ha hi ⟨y4, y5, y6, y7, y8, rfl, wa, ea, tca⟩
      walk_at "bgo"
      refine ⟨pw, dl, rfl, wa, fun Hb v gb => ?_⟩
      have eb := gb.1 _ _ ea npl
      walk_at "bgo"
      refine R.r_lenL (R.sqL eb) ?_
      walk_at "bgo"
      rw [List.length_map]
      refine ⟨_, _, rfl, rfl, by show (0 : Int) < _; omega, ?_⟩
      have v0 := Int.emod_nonneg v (show (ls.length : Int) ≠ 0 by omega)
      have v1 := Int.emod_lt_of_pos v (show (0 : Int) < ls.length by omega)
      obtain ⟨n, hn⟩ := Int.eq_ofNat_of_zero_le v0
      dsimp only
      rw [hn] at v1 ⊢
      walk_at "bgo"
      refine ⟨pw, dl, rfl, gb.2.2, fun Hc v2 gc => ?_⟩
      have ec := gc.1 _ _ eb npl
      walk_at "bgo"
      obtain ⟨x, hx⟩ := Int.eq_ofNat_of_zero_le (Int.emod_nonneg v2 (show (2 : Int) ≠ 0 by omega))
      have hx2 : x ≤ 1 := by have := Int.emod_lt_of_pos v2 (show (0 : Int) < 2 by omega); omega
      rw [hx, show (n : Int) + (x : Int) = ((n + x : Nat) : Int) from rfl]
      refine ⟨pl, _, rfl, R.sqL ec, fun pr hpr => ?_⟩
      rw [CR.cut_from, ← List.map_drop]
      generalize hu : upd _ pr _ = Hd
      obtain ⟨sd, ed⟩ := MM.new2 hu hpr
      clear hu
      have npr : pr ≠ pw := (gc.2.2.ne hpr).1
      walk_at "bgo"
      refine ⟨⟨_, rfl⟩, ?_⟩
      refine MM.r_lcL ?_
      walk_at "bgo"
      refine ⟨pl, _, rfl, R.sqL (sd _ _ ec), fun pt hpt => ?_⟩
      rw [CK.cut_to, List.length_map, Nat.min_eq_left (by omega), ← List.map_take]
      generalize hu : upd _ pt _ = He
      obtain ⟨se, ee⟩ := MM.new2 hu hpt
      clear hu
      have we := gc.2.2.same (sd.trans se)
      have npt : pt ≠ pw := ((gc.2.2.same sd).ne hpt).1
      walk_at "bgo"
      refine ⟨pw, dl, rfl, we, fun Hf z gf hz => ?_⟩
      have ef := gf.1 _ _ ee npt
      have rf := gf.1 _ _ (se _ _ ed) npr
      walk_at "bgo"
      refine ⟨Nat.le_of_ble_eq_true rfl, fun pz hpz => ?_⟩
      generalize hu : upd _ pz _ = Hg
      obtain ⟨sg, eg⟩ := MM.new2 hu hpz
      clear hu
      have lt1 : (ls.take n).length = n := by rw [List.length_take]; omega
      have ld1 : (ls.drop (n + x)).length ≤ ls.length := by rw [List.length_drop]; omega
      refine CK.r_cat (sg _ _ ef) eg (by rw [List.length_map, lt1]; show n + 1 ≤ _; omega) fun pu hpu => ?_
      generalize hu : upd _ pu _ = Hh
      obtain ⟨sh, eh⟩ := MM.new2 hu hpu
      clear hu
      walk_at "bgo"
      refine CK.r_cat eh (sh _ _ (sg _ _ rf)) (by rw [List.length_append, List.length_map, List.length_map, lt1]; show n + 1 + _ ≤ _; omega) fun pv hpv => ?_
      generalize hu : upd _ pv _ = Hi
      obtain ⟨si, ei⟩ := MM.new2 hu hpv
      clear hu
      have ei : Hi pv = some (.lst ((ls.take n ++ z :: ls.drop (n + x)).map V.str)) := by
        rw [ei, List.map_append, List.map_cons, List.append_assoc]
        rfl
      have hz0 := WT.bads_ok z hz
      have gR := gAt (i := n) (by omega) (b := z) (l := ls.drop (n + x)) hz0.1 (WT.bad_line hz)
      have lL : ∀ l ∈ ls.take n ++ z :: ls.drop (n + x), WT.LnB l := fun l m => by
        rcases List.mem_append.mp m with m | m
        · exact lb l (List.mem_of_mem_take m)
        · rcases List.mem_cons.mp m with rfl | m
          · exact WT.bads_b hz
          · exact lb l (List.mem_of_mem_drop m)
      have lle : (ls.take n ++ z :: ls.drop (n + x)).length ≤ 40 := by rw [List.length_append, List.length_cons, lt1]; omega
      have wi := gf.2.2.same (sg.trans (sh.trans si))
      have pli := si _ _ (sh _ _ (sg _ _ (gf.1 _ _ (se _ _ (sd _ _ ec)) npl)))
      have tci : CK.Td Hi code (.tuple [.tuple (ks.map PyData.str), .tuple rs]) := WT.keep_td (sg.trans (sh.trans si)) ((WT.keep_td (sd.trans se) ((tca.keep gb.keepT).keep gc.keepT)).keep gf.keepT)
      generalize ls.take n ++ z :: ls.drop (n + x) = L at ei gR lL lle
      refine ⟨pv, rfl, ⟨_, R.sqL ei⟩, ?_⟩
      refine MM.lc_go (walk_list (xs := L.map V.str)) (fun D i H' => WT.Trv ((L.map fun l => l ++ WT.nl).map V.str) Hi D i H') ?_ (fun D i H' hD t => R.sqL (t.1 _ _ ei)) ?_ ?_
      · intro D hD
        exact WT.Trv.start hD
      · rintro D j x H6 H6' hD hj t ⟨rfl, ex⟩
        rw [List.getElem?_map] at ex
        cases em : L[j]? with
        | none => rw [em] at ex; cases ex
        | some y =>
          rw [em] at ex
          obtain rfl := Option.some.inj ex
          have ln := (lL y (List.mem_of_getElem? em)).1
          refine ⟨rfl, ?_⟩
          walk_at "bgo"
          refine ⟨_, _, rfl, rfl, R.size_of (by show _ + 1 ≤ _; omega), ?_⟩
          exact t.step hD (Same.refl _) (by rw [List.getElem?_map, List.getElem?_map, em]; rfl) (by rw [List.length_map, List.length_map]; omega)
      · intro D Hj hD t
        obtain ⟨sj, ej⟩ := t.all (by rw [List.length_map, List.length_map, List.length_map]; exact Nat.le_refl _)
        clear t
        refine ⟨_, D, L.map fun l => l ++ WT.nl, rfl, rfl, .inl (R.sqL ej), WT.size_ok lL lle, ?_⟩
        rw [show Txt.join (Str.ofString "") (L.map fun l => l ++ WT.nl) = WT.lnT L from rfl]
        walk_at "bgo"
        obtain ⟨q1, q2, q3⟩ := WT.pre_ok0 lL lle
        refine ⟨_, rfl, q1, q2, q3, fun Hk v sk tk gk => ?_⟩
        rw [WT.textF_0 lL, gR] at tk gk
        walk_at "bgo"
        refine ⟨Nat.le_of_ble_eq_true rfl, fun px hpx => ?_⟩
        generalize hu : upd _ px _ = Hl
        obtain ⟨sl, el⟩ := MM.new2 hu hpx
        clear hu
        refine WT.ne_d (k := 5) (WT.keep_td sl tk) (.tup el (.cons (.str _) (.cons (.int _) .nil))) gk (by decide) ?_
        walk_at "bgo"
        have sa := sj.trans (sk.trans sl)
        exact ⟨_, _, _, _, _, rfl, wi.same sa, sa _ _ pli, WT.keep_td sa tci⟩
    · rintro σ Ha ⟨y4, y5, y6, y7, y8, rfl, wa, ea, tca⟩
      walk_at "bgo"
      refine ⟨⟨_, rfl⟩, ?_⟩
      refine MM.r_lcL ?_
      walk_at "bgo"
      refine ⟨pl, rfl, ⟨_, R.sqL ea⟩, ?_⟩
      refine MM.lc_go (walk_list (xs := ls.map V.str)) (fun D i H' => WT.Trv ((ls.map fun l => l ++ WT.nl).map V.str) Ha D i H') ?_ (fun D i H' hD t => R.sqL (t.1 _ _ ea)) ?_ ?_
      · intro D hD
        exact WT.Trv.start hD
      · rintro D j x H6 H6' hD hj t ⟨rfl, ex⟩
        rw [List.getElem?_map] at ex
        cases em : ls[j]? with
        | none => rw [em] at ex; cases ex
        | some y =>
          rw [em] at ex
          obtain rfl := Option.some.inj ex
          have ln := (lb y (List.mem_of_getElem? em)).1
          refine ⟨rfl, ?_⟩
          walk_at "bgo"
          refine ⟨_, _, rfl, rfl, R.size_of (by show _ + 1 ≤ _; omega), ?_⟩
          exact t.step hD (Same.refl _) (by rw [List.getElem?_map, List.getElem?_map, em]; rfl) (by rw [List.length_map, List.length_map]; omega)
      · intro D Hb hD t
        obtain ⟨sb, eb⟩ := t.all (by rw [List.length_map, List.length_map, List.length_map]; exact Nat.le_refl _)
        clear t
        refine ⟨_, D, ls.map fun l => l ++ WT.nl, rfl, rfl, .inl (R.sqL eb), WT.size_ok lb (by omega), ?_⟩
        rw [show Txt.join (Str.ofString "") (ls.map fun l => l ++ WT.nl) = WT.lnT ls from rfl]
        have tcb := WT.keep_td sb tca
        have plb := sb _ _ ea
        walk_at "bgo"
        refine ⟨_, rfl, p1, p2, p3, fun Hc v sc tk gk => ?_⟩
        rw [WT.textF_0 lb, gAll] at tk gk
        walk_at "bgo"
        refine ⟨Nat.le_of_ble_eq_true rfl, fun px hpx => ?_⟩
        generalize hu : upd _ px _ = Hd
        obtain ⟨sd, ed⟩ := MM.new2 hu hpx
        clear hu
        refine WT.ne_d (k := 5) (WT.keep_td sd tk) (.tup ed (.cons (.str _) (.cons (WT.keep_td (sc.trans sd) tcb) .nil))) gk (by decide) ?_
        have pld := (sc.trans sd) _ _ plb
        clear tk gk
        have lp : WT.LnB "place int" := ⟨by decide +kernel, by decide +kernel, by decide +kernel⟩
        have lbp : ∀ l ∈ ls ++ [("place int" : Str)], WT.LnB l := fun l m => by
          rcases List.mem_append.mp m with m | m
          · exact lb l m
          · rw [List.mem_singleton.mp m]; exact lp
        obtain ⟨a1, a2, a3⟩ := WT.pre_ok0 lbp (by rw [List.length_append]; show _ + 1 ≤ _; omega)
        walk_at "bgo"
        refine ⟨_, _, rfl, rfl, WT.sz (by show _ + 10 ≤ _; omega), ?_⟩
        rw [show WT.lnT ls ++ Str.ofString "place int\n" = WT.lnT (ls ++ [("place int" : Str)]) from WT.late_eq]
        refine ⟨_, rfl, a1, a2, a3, fun He v se tk gk => ?_⟩
        rw [WT.textF_0 lbp, gLate] at tk gk
        walk_at "bgo"
        have ple := se _ _ pld
        refine R.r_lenL (R.sqL ple) ?_
        walk_at "bgo"
        refine ⟨Nat.le_of_ble_eq_true rfl, fun px hpx => ?_⟩
        rw [List.length_map]
        generalize hu : upd _ px _ = Hf
        obtain ⟨sf, ef⟩ := MM.new2 hu hpx
        clear hu
        refine WT.ne_d (k := 5) (WT.keep_td sf tk) (.tup ef (.cons (.str _) (.cons (.int _) .nil))) gk (by decide) ?_
        clear tk gk
        have plf := sf _ _ ple
        walk_at "bgo"
        refine ⟨_, rfl, WT.sz (by omega), ?_⟩
        obtain ⟨L0, u, hLu⟩ : ∃ L0 u, ls = L0 ++ [u] := ⟨_, _, (List.dropLast_concat_getLast (fun z => by rw [z] at l1; cases l1)).symm⟩
        have lb0 : ∀ l ∈ L0, WT.LnB l := fun l m => lb l (by rw [hLu]; exact List.mem_append_left _ m)
        have lou := lo u (by rw [hLu]; exact List.mem_append_right _ (by simp))
        have len0 : ls.length = L0.length + 1 := by rw [hLu, List.length_append]; rfl
        obtain ⟨kx, rx, g0⟩ := gTake L0.length
        rw [hLu, List.take_left' rfl] at g0
        obtain ⟨b1, b2, b3⟩ := WT.pre_ok lb0 (by omega) lou.b
        rw [show cutS (WT.lnT ls) none (some (-1)) = WT.lnT L0 ++ u by rw [hLu]; exact WT.cut_end]
        walk_at "bgo"
        refine ⟨_, rfl, b1, b2, b3, fun Hg v sg tk gk => ?_⟩
        rw [WT.textF_u lb0 lou.b lou.2.2.2 g0] at tk gk
        walk_at "bgo"
        have plg := sg _ _ plf
        refine R.r_lenL (R.sqL plg) ?_
        walk_at "bgo"
        refine ⟨Nat.le_of_ble_eq_true rfl, fun px hpx => ?_⟩
        rw [List.length_map]
        generalize hu : upd _ px _ = Hh
        obtain ⟨sh, eh⟩ := MM.new2 hu hpx
        clear hu
        refine WT.eq_d (k := 5) (WT.keep_td sh tk) (.tup eh (.cons (.str _) (.cons (by rw [len0]; exact .int _) .nil))) gk (by decide) ?_
        clear tk gk
        have plh := sh _ _ plg
        have le : WT.LnB "end" := ⟨by decide +kernel, by decide +kernel, by decide +kernel⟩
        obtain ⟨c1, c2, c3⟩ := WT.pre_ok lb (by omega) le
        walk_at "bgo"
        refine ⟨_, _, rfl, rfl, WT.sz (by show _ + 3 ≤ _; omega), ?_⟩
        refine ⟨_, rfl, c1, c2, c3, fun Hi v si tk gk => ?_⟩
        rw [WT.textF_u lb le (by decide +kernel) gAll] at tk gk
        walk_at "bgo"
        refine R.r_lenL (R.sqL (si _ _ plh)) ?_
        walk_at "bgo"
        refine ⟨Nat.le_of_ble_eq_true rfl, fun px hpx => ?_⟩
        rw [List.length_map]
        generalize hu : upd _ px _ = Hj
        obtain ⟨sj, ej⟩ := MM.new2 hu hpx
        clear hu
        refine WT.eq_d (k := 5) (WT.keep_td sj tk) (.tup ej (.cons (.str _) (.cons (.int _) .nil))) gk (by decide) ?_
        exact q _
end
end K52
end
namespace K52
open PySem PySem.Spec PyProof.Rows L2
theorem all_mk {l : PySem.W.OpenLaw} {w : World} {K : PySem.W.Frag} {h : Heap} {mg : Str → Option Value} {fa : Addr} (X : K.In h) (G : h.Ns mainGlobals mg) (hfa : mg "law" = some (.ref fa))
    {SF SD Scc Scda : Addr} {Sfile : Str} {Stf : Tok} {ScdD : ClassData} {Sod San Scdd Scld : Option Addr} {Sosl Sccs Scsl : Array (Option Value)} {Svs : Array Value} {Soc SkV Sdoc Spm Sct Sccl Scl : Value} {XA1 XN1 : Addr} {Xnm1 Xq1 : Str} {Xbs1 Xbm1 Xsub1 : List Value} {Xsn1 : List Str} {Xab1 : Bool} {Xcol1 : Option Bool} {Xdd1 : Option Addr} {Xk01 Xk11 Xk21 Xk31 Xk51 : Option Value} {TT1 : Addr} {TT2 : Addr} {C1 : Addr} {od1 an1 : Option Addr} {sl1 : Array (Option Value)} {oc1 kV1 dc1 pm1 cd1 ct1 : Value} {f1 : Addr} {od2 an2 : Option Addr} {sl2 : Array (Option Value)} {oc2 kV2 dc2 pm2 cd2 ct2 : Value} {f2 : Addr} {od3 an3 : Option Addr} {sl3 : Array (Option Value)} {oc3 kV3 dc3 pm3 cd3 ct3 : Value} {f3 : Addr} {od4 an4 : Option Addr} {sl4 : Array (Option Value)} {oc4 kV4 dc4 pm4 cd4 ct4 : Value} {f4 : Addr} {od5 an5 : Option Addr} {sl5 : Array (Option Value)} {oc5 kV5 dc5 pm5 cd5 ct5 : Value} {f5 : Addr} {od6 an6 : Option Addr} {sl6 : Array (Option Value)} {oc6 kV6 dc6 pm6 cd6 ct6 : Value} {f6 : Addr} {od7 an7 : Option Addr} {sl7 : Array (Option Value)} {oc7 kV7 dc7 pm7 cd7 ct7 : Value} {f7 : Addr} {od8 an8 : Option Addr} {sl8 : Array (Option Value)} {oc8 kV8 dc8 pm8 cd8 ct8 : Value} {f8 : Addr} {od9 an9 : Option Addr} {sl9 : Array (Option Value)} {oc9 kV9 dc9 pm9 cd9 ct9 : Value} {f9 : Addr} {od10 an10 : Option Addr} {sl10 : Array (Option Value)} {oc10 kV10 dc10 pm10 cd10 ct10 : Value} {f10 : Addr} {od11 an11 : Option Addr} {sl11 : Array (Option Value)} {oc11 kV11 dc11 pm11 cd11 ct11 : Value} {f11 : Addr} {od12 an12 : Option Addr} {sl12 : Array (Option Value)} {oc12 kV12 dc12 pm12 cd12 ct12 : Value} {f12 : Addr} {od13 an13 : Option Addr} {sl13 : Array (Option Value)} {oc13 kV13 dc13 pm13 cd13 ct13 : Value} {f13 : Addr} {od14 an14 : Option Addr} {sl14 : Array (Option Value)} {oc14 kV14 dc14 pm14 cd14 ct14 : Value} {f14 : Addr} {od15 an15 : Option Addr} {sl15 : Array (Option Value)} {oc15 kV15 dc15 pm15 cd15 ct15 : Value} {f15 : Addr} {od16 an16 : Option Addr} {sl16 : Array (Option Value)} {oc16 kV16 dc16 pm16 cd16 ct16 : Value} {f16 : Addr} {od17 an17 : Option Addr} {sl17 : Array (Option Value)} {oc17 kV17 dc17 pm17 cd17 ct17 : Value} {f17 : Addr} {od18 an18 : Option Addr} {sl18 : Array (Option Value)} {oc18 kV18 dc18 pm18 cd18 ct18 : Value} {f18 : Addr} {od19 an19 : Option Addr} {sl19 : Array (Option Value)} {oc19 kV19 dc19 pm19 cd19 ct19 : Value} {f19 : Addr} {od20 an20 : Option Addr} {sl20 : Array (Option Value)} {oc20 kV20 dc20 pm20 cd20 ct20 : Value} {f20 : Addr} {od21 an21 : Option Addr} {sl21 : Array (Option Value)} {oc21 kV21 dc21 pm21 cd21 ct21 : Value} {f21 : Addr} {od22 an22 : Option Addr} {sl22 : Array (Option Value)} {oc22 kV22 dc22 pm22 cd22 ct22 : Value} {f22 : Addr} {od23 an23 : Option Addr} {sl23 : Array (Option Value)} {oc23 kV23 dc23 pm23 cd23 ct23 : Value} {f23 : Addr} {od24 an24 : Option Addr} {sl24 : Array (Option Value)} {oc24 kV24 dc24 pm24 cd24 ct24 : Value} {f24 : Addr} {od25 an25 : Option Addr} {sl25 : Array (Option Value)} {oc25 kV25 dc25 pm25 cd25 ct25 : Value} {f25 : Addr} {od26 an26 : Option Addr} {sl26 : Array (Option Value)} {oc26 kV26 dc26 pm26 cd26 ct26 : Value} {f26 : Addr} {od27 an27 : Option Addr} {sl27 : Array (Option Value)} {oc27 kV27 dc27 pm27 cd27 ct27 : Value} {f27 : Addr} {od28 an28 : Option Addr} {sl28 : Array (Option Value)} {oc28 kV28 dc28 pm28 cd28 ct28 : Value} {f28 : Addr} {od29 an29 : Option Addr} {sl29 : Array (Option Value)} {oc29 kV29 dc29 pm29 cd29 ct29 : Value} {f29 : Addr} {od30 an30 : Option Addr} {sl30 : Array (Option Value)} {oc30 kV30 dc30 pm30 cd30 ct30 : Value} {f30 : Addr} {od31 an31 : Option Addr} {sl31 : Array (Option Value)} {oc31 kV31 dc31 pm31 cd31 ct31 : Value} {f31 : Addr} {od32 an32 : Option Addr} {sl32 : Array (Option Value)} {oc32 kV32 dc32 pm32 cd32 ct32 : Value} {f32 : Addr} {od33 an33 : Option Addr} {sl33 : Array (Option Value)} {oc33 kV33 dc33 pm33 cd33 ct33 : Value} {f33 : Addr} {od34 an34 : Option Addr} {sl34 : Array (Option Value)} {oc34 kV34 dc34 pm34 cd34 ct34 : Value} {f34 : Addr} {od35 an35 : Option Addr} {sl35 : Array (Option Value)} {oc35 kV35 dc35 pm35 cd35 ct35 : Value} {f35 : Addr} {od36 an36 : Option Addr} {sl36 : Array (Option Value)} {oc36 kV36 dc36 pm36 cd36 ct36 : Value} {f36 : Addr} {od37 an37 : Option Addr} {sl37 : Array (Option Value)} {oc37 kV37 dc37 pm37 cd37 ct37 : Value} {f37 : Addr} {w1 : Value} {w2 : Value} {w3 : Value} {w4 : Value} {w5 : Value} {w6 : Value} {w7 : Value} {w8 : Value} {w9 : Value} {w10 : Value} {ta1 : Addr} {td1 : Option Addr} {ti1 : Array Value} {tk1 : Nat} {ts1 : Array (Option Value)} {ga1 : Addr} {ge1 : Array DictEntry} {gn1 : Nat} {gt1_1 : Tok} {gt1_0 : Tok} {da1 : Addr} {de1 : Array DictEntry} {dn1 : Nat} {db1_0 : Addr} {dd1_0 : Option Addr} {di1_0 : Array Value} {dj1_0 : Nat} {ds1_0 : Array (Option Value)} {db1_1 : Addr} {dd1_1 : Option Addr} {di1_1 : Array Value} {dj1_1 : Nat} {ds1_1 : Array (Option Value)} {db1_2 : Addr} {dd1_2 : Option Addr} {di1_2 : Array Value} {dj1_2 : Nat} {ds1_2 : Array (Option Value)} {db1_3 : Addr} {dd1_3 : Option Addr} {di1_3 : Array Value} {dj1_3 : Nat} {ds1_3 : Array (Option Value)} {db1_4 : Addr} {dd1_4 : Option Addr} {di1_4 : Array Value} {dj1_4 : Nat} {ds1_4 : Array (Option Value)} {db1_5 : Addr} {dd1_5 : Option Addr} {di1_5 : Array Value} {dj1_5 : Nat} {ds1_5 : Array (Option Value)} {db1_6 : Addr} {dd1_6 : Option Addr} {di1_6 : Array Value} {dj1_6 : Nat} {ds1_6 : Array (Option Value)} {db1_7 : Addr} {dd1_7 : Option Addr} {di1_7 : Array Value} {dj1_7 : Nat} {ds1_7 : Array (Option Value)} {db1_8 : Addr} {dd1_8 : Option Addr} {di1_8 : Array Value} {dj1_8 : Nat} {ds1_8 : Array (Option Value)} {db1_9 : Addr} {dd1_9 : Option Addr} {di1_9 : Array Value} {dj1_9 : Nat} {ds1_9 : Array (Option Value)} {db1_10 : Addr} {dd1_10 : Option Addr} {di1_10 : Array Value} {dj1_10 : Nat} {ds1_10 : Array (Option Value)} {db1_11 : Addr} {dd1_11 : Option Addr} {di1_11 : Array Value} {dj1_11 : Nat} {ds1_11 : Array (Option Value)} {db1_12 : Addr} {dd1_12 : Option Addr} {di1_12 : Array Value} {dj1_12 : Nat} {ds1_12 : Array (Option Value)} {db1_13 : Addr} {dd1_13 : Option Addr} {di1_13 : Array Value} {dj1_13 : Nat} {ds1_13 : Array (Option Value)} {db1_14 : Addr} {dd1_14 : Option Addr} {di1_14 : Array Value} {dj1_14 : Nat} {ds1_14 : Array (Option Value)} {db1_15 : Addr} {dd1_15 : Option Addr} {di1_15 : Array Value} {dj1_15 : Nat} {ds1_15 : Array (Option Value)} {db1_16 : Addr} {dd1_16 : Option Addr} {di1_16 : Array Value} {dj1_16 : Nat} {ds1_16 : Array (Option Value)} {db1_17 : Addr} {dd1_17 : Option Addr} {di1_17 : Array Value} {dj1_17 : Nat} {ds1_17 : Array (Option Value)} {db1_18 : Addr} {dd1_18 : Option Addr} {di1_18 : Array Value} {dj1_18 : Nat} {ds1_18 : Array (Option Value)} {db1_19 : Addr} {dd1_19 : Option Addr} {di1_19 : Array Value} {dj1_19 : Nat} {ds1_19 : Array (Option Value)} {db1_20 : Addr} {dd1_20 : Option Addr} {di1_20 : Array Value} {dj1_20 : Nat} {ds1_20 : Array (Option Value)} {db1_21 : Addr} {dd1_21 : Option Addr} {di1_21 : Array Value} {dj1_21 : Nat} {ds1_21 : Array (Option Value)} {db1_22 : Addr} {dd1_22 : Option Addr} {di1_22 : Array Value} {dj1_22 : Nat} {ds1_22 : Array (Option Value)} {db1_23 : Addr} {dd1_23 : Option Addr} {di1_23 : Array Value} {dj1_23 : Nat} {ds1_23 : Array (Option Value)} {db1_24 : Addr} {dd1_24 : Option Addr} {di1_24 : Array Value} {dj1_24 : Nat} {ds1_24 : Array (Option Value)} {db1_25 : Addr} {dd1_25 : Option Addr} {di1_25 : Array Value} {dj1_25 : Nat} {ds1_25 : Array (Option Value)} {db1_26 : Addr} {dd1_26 : Option Addr} {di1_26 : Array Value} {dj1_26 : Nat} {ds1_26 : Array (Option Value)} {db1_27 : Addr} {dd1_27 : Option Addr} {di1_27 : Array Value} {dj1_27 : Nat} {ds1_27 : Array (Option Value)} {db1_28 : Addr} {dd1_28 : Option Addr} {di1_28 : Array Value} {dj1_28 : Nat} {ds1_28 : Array (Option Value)} {db1_29 : Addr} {dd1_29 : Option Addr} {di1_29 : Array Value} {dj1_29 : Nat} {ds1_29 : Array (Option Value)} {db1_30 : Addr} {dd1_30 : Option Addr} {di1_30 : Array Value} {dj1_30 : Nat} {ds1_30 : Array (Option Value)} {db1_31 : Addr} {dd1_31 : Option Addr} {di1_31 : Array Value} {dj1_31 : Nat} {ds1_31 : Array (Option Value)} {da2 : Addr} {de2 : Array DictEntry} {dn2 : Nat} {db2_0 : Addr} {dd2_0 : Option Addr} {di2_0 : Array Value} {dj2_0 : Nat} {ds2_0 : Array (Option Value)} {db2_1 : Addr} {dd2_1 : Option Addr} {di2_1 : Array Value} {dj2_1 : Nat} {ds2_1 : Array (Option Value)} {db2_2 : Addr} {dd2_2 : Option Addr} {di2_2 : Array Value} {dj2_2 : Nat} {ds2_2 : Array (Option Value)} {db2_3 : Addr} {dd2_3 : Option Addr} {di2_3 : Array Value} {dj2_3 : Nat} {ds2_3 : Array (Option Value)}
    (S1 : PySem.W.nsIn K mainGlobals "BadText" = some (some (.ref SD)))
    (S2 : PySem.W.findIn K (.ref SD) "__init__" = some (some (.ref SF)))
    (S3 : K.lookup SF = some ⟨Soc, Sod, .func (PySem.W.fnX "__init__" "BadText.__init__" (defArgs s_BadText___init__) (defBody s_BadText___init__) (defScope s_BadText___init__) [("__class__", Scc)] .none SkV Sdoc Spm San (.ref Scda) Sct), Sosl⟩)
    (S4 : PySem.W.typeIn K (.ref SF) = some (.type "function"))
    (S5 : PySem.W.codeIn K (.ref Scda) "BadText.__init__" = true)
    (S6 : K.lookup Scda = some ⟨Sccl, Scdd, .fields Svs, Sccs⟩)
    (SR : Svs[2]? = some (.str Sfile Stf))
    (S7 : K.lookup Scc = some ⟨Scl, Scld, .cell (some (.ref SD)), Scsl⟩)
    (S8 : PySem.W.clsIn K SD = some ScdD)
    (S9 : PySem.W.nsIn K cStatics "thirdparty.any" = some none)
    (SA : PySem.W.nsIn K mainGlobals "super" = some none)
    (Xa1 : PySem.W.nsIn K mainGlobals "BadText" = some (some (.ref XA1)))
    (Xl1 : K.lookup XA1 = some (excClassObj Xnm1 Xq1 XA1 XN1 Xbs1 Xbm1 true Xsn1 Xsub1 Xab1 Xcol1 Xdd1 Xk01 Xk11 Xk21 Xk31 Xk51 "ValueError.__new__"))
    (XR1 : PySem.HandSPX.refsVE Xbm1 = true)
    (Xs1 : PySem.W.findIn K (.ref XA1) "__setattr__" = some (some (.builtin "object.__setattr__")))
    (Xb1 : PySem.W.subIn K (.ref XA1) (.type "BaseException") = some true)
    (Xt1 : PySem.W.typeIn K (.ref XA1) = some (.type "type"))
    (Xk1 : PySem.W.keepIn K (.ref XA1) = true)
    (XK1 : PySem.W.ks_superIn K XA1 SD "__init__" = some (some (.builtin "ValueError.__init__")))
    (Xv1 : PySem.W.subIn K (.ref XA1) (.type "ValueError") = some true)
    (Xm1 : PySem.W.mroIn K XA1 (.ref SD) = some true)
    (Xi1 : PySem.W.findIn K (.ref XA1) "__init__" = some (some (.ref SF)))
    (Xg1 : PySem.W.findIn K (.ref XA1) "__getattribute__" = some (some (.builtin "BaseException.__getattribute__")))
    (Xh1 : PySem.W.findIn K (.ref XA1) "__getattr__" = some none)
    (Xd1 : PySem.W.hasDictIn K XA1 = true)
    (Xc1 : PySem.W.findIn K (.ref XA1) "__class__" = some (some (.builtin "object.__class__")))
    (Xn1 : PySem.W.specialIn K (.builtin "object.__class__") "__get__" = some (some (.builtin "getset_descriptor.__get__")))
    (Xo1 : PySem.W.takesIn K (.builtin "object.__class__") = some true)
    (Xp1 : PySem.W.mroIn K XA1 (.type "object") = some true)
    (Xf1_0 : PySem.W.findIn K (.ref XA1) "row" = some none)
    (Xe1_1 : PySem.W.subIn K (.ref XA1) (.ref XA1) = some true)
    (T1_1 : PySem.W.nsIn K mainGlobals "BadBytes" = some (some (.ref TT1)))
    (uk_1_1 : PySem.W.kitOne K (.ref XA1) (.ref TT1) = some false)
    (T1_2 : PySem.W.nsIn K mainGlobals "CodeError" = some (some (.ref TT2)))
    (uk_2_1 : PySem.W.kitOne K (.ref XA1) (.ref TT2) = some true)
    (ca1 : PySem.W.nsIn K mainGlobals "RowReader" = some (some (.ref C1)))
    (a1 : PySem.W.nsIn K mainGlobals "in_script" = some (some (.ref f1)))
    (l1 : K.lookup f1 = some ⟨oc1, od1, .func (PySem.W.fnOf "in_script" "in_script" (defArgs s_in_script) (defBody s_in_script) (defScope s_in_script) .none kV1 dc1 pm1 an1 cd1 ct1), sl1⟩)
    (c1 : PySem.W.codeIn K cd1 "in_script" = true)
    (k1 : PySem.W.keepIn K (.ref f1) = true)
    (a2 : PySem.W.nsIn K mainGlobals "is_digit" = some (some (.ref f2)))
    (l2 : K.lookup f2 = some ⟨oc2, od2, .func (PySem.W.fnOf "is_digit" "is_digit" (defArgs s_is_digit) (defBody s_is_digit) (defScope s_is_digit) .none kV2 dc2 pm2 an2 cd2 ct2), sl2⟩)
    (c2 : PySem.W.codeIn K cd2 "is_digit" = true)
    (k2 : PySem.W.keepIn K (.ref f2) = true)
    (a3 : PySem.W.nsIn K mainGlobals "in_text" = some (some (.ref f3)))
    (l3 : K.lookup f3 = some ⟨oc3, od3, .func (PySem.W.fnOf "in_text" "in_text" (defArgs s_in_text) (defBody s_in_text) (defScope s_in_text) .none kV3 dc3 pm3 an3 cd3 ct3), sl3⟩)
    (c3 : PySem.W.codeIn K cd3 "in_text" = true)
    (k3 : PySem.W.keepIn K (.ref f3) = true)
    (a4 : PySem.W.nsIn K mainGlobals "decimal" = some (some (.ref f4)))
    (l4 : K.lookup f4 = some ⟨oc4, od4, .func (PySem.W.fnOf "decimal" "decimal" (defArgs s_decimal) (defBody s_decimal) (defScope s_decimal) .none kV4 dc4 pm4 an4 cd4 ct4), sl4⟩)
    (c4 : PySem.W.codeIn K cd4 "decimal" = true)
    (k4 : PySem.W.keepIn K (.ref f4) = true)
    (a5 : PySem.W.nsIn K mainGlobals "natural_in" = some (some (.ref f5)))
    (l5 : K.lookup f5 = some ⟨oc5, od5, .func (PySem.W.fnOf "natural_in" "natural_in" (defArgs s_natural_in) (defBody s_natural_in) (defScope s_natural_in) .none kV5 dc5 pm5 an5 cd5 ct5), sl5⟩)
    (c5 : PySem.W.codeIn K cd5 "natural_in" = true)
    (k5 : PySem.W.keepIn K (.ref f5) = true)
    (a6 : PySem.W.nsIn K mainGlobals "whole_in" = some (some (.ref f6)))
    (l6 : K.lookup f6 = some ⟨oc6, od6, .func (PySem.W.fnOf "whole_in" "whole_in" (defArgs s_whole_in) (defBody s_whole_in) (defScope s_whole_in) .none kV6 dc6 pm6 an6 cd6 ct6), sl6⟩)
    (c6 : PySem.W.codeIn K cd6 "whole_in" = true)
    (k6 : PySem.W.keepIn K (.ref f6) = true)
    (a7 : PySem.W.nsIn K mainGlobals "parts_of" = some (some (.ref f7)))
    (l7 : K.lookup f7 = some ⟨oc7, od7, .func (PySem.W.fnOf "parts_of" "parts_of" (defArgs s_parts_of) (defBody s_parts_of) (defScope s_parts_of) .none kV7 dc7 pm7 an7 cd7 ct7), sl7⟩)
    (c7 : PySem.W.codeIn K cd7 "parts_of" = true)
    (k7 : PySem.W.keepIn K (.ref f7) = true)
    (a8 : PySem.W.nsIn K mainGlobals "is_whole" = some (some (.ref f8)))
    (l8 : K.lookup f8 = some ⟨oc8, od8, .func (PySem.W.fnOf "is_whole" "is_whole" (defArgs s_is_whole) (defBody s_is_whole) (defScope s_is_whole) .none kV8 dc8 pm8 an8 cd8 ct8), sl8⟩)
    (c8 : PySem.W.codeIn K cd8 "is_whole" = true)
    (k8 : PySem.W.keepIn K (.ref f8) = true)
    (a9 : PySem.W.nsIn K mainGlobals "is_from" = some (some (.ref f9)))
    (l9 : K.lookup f9 = some ⟨oc9, od9, .func (PySem.W.fnOf "is_from" "is_from" (defArgs s_is_from) (defBody s_is_from) (defScope s_is_from) .none kV9 dc9 pm9 an9 cd9 ct9), sl9⟩)
    (c9 : PySem.W.codeIn K cd9 "is_from" = true)
    (k9 : PySem.W.keepIn K (.ref f9) = true)
    (a10 : PySem.W.nsIn K mainGlobals "is_register" = some (some (.ref f10)))
    (l10 : K.lookup f10 = some ⟨oc10, od10, .func (PySem.W.fnOf "is_register" "is_register" (defArgs s_is_register) (defBody s_is_register) (defScope s_is_register) .none kV10 dc10 pm10 an10 cd10 ct10), sl10⟩)
    (c10 : PySem.W.codeIn K cd10 "is_register" = true)
    (k10 : PySem.W.keepIn K (.ref f10) = true)
    (a11 : PySem.W.nsIn K mainGlobals "is_value" = some (some (.ref f11)))
    (l11 : K.lookup f11 = some ⟨oc11, od11, .func (PySem.W.fnOf "is_value" "is_value" (defArgs s_is_value) (defBody s_is_value) (defScope s_is_value) .none kV11 dc11 pm11 an11 cd11 ct11), sl11⟩)
    (c11 : PySem.W.codeIn K cd11 "is_value" = true)
    (k11 : PySem.W.keepIn K (.ref f11) = true)
    (a12 : PySem.W.nsIn K mainGlobals "is_short_text" = some (some (.ref f12)))
    (l12 : K.lookup f12 = some ⟨oc12, od12, .func (PySem.W.fnOf "is_short_text" "is_short_text" (defArgs s_is_short_text) (defBody s_is_short_text) (defScope s_is_short_text) .none kV12 dc12 pm12 an12 cd12 ct12), sl12⟩)
    (c12 : PySem.W.codeIn K cd12 "is_short_text" = true)
    (k12 : PySem.W.keepIn K (.ref f12) = true)
    (a13 : PySem.W.nsIn K mainGlobals "fits" = some (some (.ref f13)))
    (l13 : K.lookup f13 = some ⟨oc13, od13, .func (PySem.W.fnOf "fits" "fits" (defArgs s_fits) (defBody s_fits) (defScope s_fits) .none kV13 dc13 pm13 an13 cd13 ct13), sl13⟩)
    (c13 : PySem.W.codeIn K cd13 "fits" = true)
    (k13 : PySem.W.keepIn K (.ref f13) = true)
    (a14 : PySem.W.nsIn K mainGlobals "is_row_of_places" = some (some (.ref f14)))
    (l14 : K.lookup f14 = some ⟨oc14, od14, .func (PySem.W.fnOf "is_row_of_places" "is_row_of_places" (defArgs s_is_row_of_places) (defBody s_is_row_of_places) (defScope s_is_row_of_places) .none kV14 dc14 pm14 an14 cd14 ct14), sl14⟩)
    (c14 : PySem.W.codeIn K cd14 "is_row_of_places" = true)
    (k14 : PySem.W.keepIn K (.ref f14) = true)
    (a15 : PySem.W.nsIn K mainGlobals "write_text" = some (some (.ref f15)))
    (l15 : K.lookup f15 = some ⟨oc15, od15, .func (PySem.W.fnOf "write_text" "write_text" (defArgs s_write_text) (defBody s_write_text) (defScope s_write_text) .none kV15 dc15 pm15 an15 cd15 ct15), sl15⟩)
    (c15 : PySem.W.codeIn K cd15 "write_text" = true)
    (k15 : PySem.W.keepIn K (.ref f15) = true)
    (a16 : PySem.W.nsIn K mainGlobals "written_row" = some (some (.ref f16)))
    (l16 : K.lookup f16 = some ⟨oc16, od16, .func (PySem.W.fnOf "written_row" "written_row" (defArgs s_written_row) (defBody s_written_row) (defScope s_written_row) .none kV16 dc16 pm16 an16 cd16 ct16), sl16⟩)
    (c16 : PySem.W.codeIn K cd16 "written_row" = true)
    (k16 : PySem.W.keepIn K (.ref f16) = true)
    (a17 : PySem.W.nsIn K mainGlobals "written_part" = some (some (.ref f17)))
    (l17 : K.lookup f17 = some ⟨oc17, od17, .func (PySem.W.fnOf "written_part" "written_part" (defArgs s_written_part) (defBody s_written_part) (defScope s_written_part) .none kV17 dc17 pm17 an17 cd17 ct17), sl17⟩)
    (c17 : PySem.W.codeIn K cd17 "written_part" = true)
    (k17 : PySem.W.keepIn K (.ref f17) = true)
    (a18 : PySem.W.nsIn K mainGlobals "written_value" = some (some (.ref f18)))
    (l18 : K.lookup f18 = some ⟨oc18, od18, .func (PySem.W.fnOf "written_value" "written_value" (defArgs s_written_value) (defBody s_written_value) (defScope s_written_value) .none kV18 dc18 pm18 an18 cd18 ct18), sl18⟩)
    (c18 : PySem.W.codeIn K cd18 "written_value" = true)
    (k18 : PySem.W.keepIn K (.ref f18) = true)
    (a19 : PySem.W.nsIn K mainGlobals "read_text" = some (some (.ref f19)))
    (l19 : K.lookup f19 = some ⟨oc19, od19, .func (PySem.W.fnOf "read_text" "read_text" (defArgs s_read_text) (defBody s_read_text) (defScope s_read_text) .none kV19 dc19 pm19 an19 cd19 ct19), sl19⟩)
    (c19 : PySem.W.codeIn K cd19 "read_text" = true)
    (k19 : PySem.W.keepIn K (.ref f19) = true)
    (fi20 : PySem.W.findIn K (.ref C1) "__init__" = some (some (.ref f20)))
    (l20 : K.lookup f20 = some ⟨oc20, od20, .func (PySem.W.fnOf "__init__" "RowReader.__init__" (defArgs s_RowReader___init__) (defBody s_RowReader___init__) (defScope s_RowReader___init__) .none kV20 dc20 pm20 an20 cd20 ct20), sl20⟩)
    (c20 : PySem.W.codeIn K cd20 "RowReader.__init__" = true)
    (k20 : PySem.W.keepIn K (.ref f20) = true)
    (fi21 : PySem.W.findIn K (.ref C1) "take" = some (some (.ref f21)))
    (l21 : K.lookup f21 = some ⟨oc21, od21, .func (PySem.W.fnOf "take" "RowReader.take" (defArgs s_RowReader_take) (defBody s_RowReader_take) (defScope s_RowReader_take) .none kV21 dc21 pm21 an21 cd21 ct21), sl21⟩)
    (c21 : PySem.W.codeIn K cd21 "RowReader.take" = true)
    (k21 : PySem.W.keepIn K (.ref f21) = true)
    (fi22 : PySem.W.findIn K (.ref C1) "read_row" = some (some (.ref f22)))
    (l22 : K.lookup f22 = some ⟨oc22, od22, .func (PySem.W.fnOf "read_row" "RowReader.read_row" (defArgs s_RowReader_read_row) (defBody s_RowReader_read_row) (defScope s_RowReader_read_row) .none kV22 dc22 pm22 an22 cd22 ct22), sl22⟩)
    (c22 : PySem.W.codeIn K cd22 "RowReader.read_row" = true)
    (k22 : PySem.W.keepIn K (.ref f22) = true)
    (fi23 : PySem.W.findIn K (.ref C1) "read_part" = some (some (.ref f23)))
    (l23 : K.lookup f23 = some ⟨oc23, od23, .func (PySem.W.fnOf "read_part" "RowReader.read_part" (defArgs s_RowReader_read_part) (defBody s_RowReader_read_part) (defScope s_RowReader_read_part) .none kV23 dc23 pm23 an23 cd23 ct23), sl23⟩)
    (c23 : PySem.W.codeIn K cd23 "RowReader.read_part" = true)
    (k23 : PySem.W.keepIn K (.ref f23) = true)
    (fi24 : PySem.W.findIn K (.ref C1) "read_places" = some (some (.ref f24)))
    (l24 : K.lookup f24 = some ⟨oc24, od24, .func (PySem.W.fnOf "read_places" "RowReader.read_places" (defArgs s_RowReader_read_places) (defBody s_RowReader_read_places) (defScope s_RowReader_read_places) .none kV24 dc24 pm24 an24 cd24 ct24), sl24⟩)
    (c24 : PySem.W.codeIn K cd24 "RowReader.read_places" = true)
    (k24 : PySem.W.keepIn K (.ref f24) = true)
    (fi25 : PySem.W.findIn K (.ref C1) "read_value" = some (some (.ref f25)))
    (l25 : K.lookup f25 = some ⟨oc25, od25, .func (PySem.W.fnOf "read_value" "RowReader.read_value" (defArgs s_RowReader_read_value) (defBody s_RowReader_read_value) (defScope s_RowReader_read_value) .none kV25 dc25 pm25 an25 cd25 ct25), sl25⟩)
    (c25 : PySem.W.codeIn K cd25 "RowReader.read_value" = true)
    (k25 : PySem.W.keepIn K (.ref f25) = true)
    (fi26 : PySem.W.findIn K (.ref C1) "read_held" = some (some (.ref f26)))
    (l26 : K.lookup f26 = some ⟨oc26, od26, .func (PySem.W.fnOf "read_held" "RowReader.read_held" (defArgs s_RowReader_read_held) (defBody s_RowReader_read_held) (defScope s_RowReader_read_held) .none kV26 dc26 pm26 an26 cd26 ct26), sl26⟩)
    (c26 : PySem.W.codeIn K cd26 "RowReader.read_held" = true)
    (k26 : PySem.W.keepIn K (.ref f26) = true)
    (a27 : PySem.W.nsIn K mainGlobals "_law_draws" = some (some (.ref f27)))
    (l27 : K.lookup f27 = some ⟨oc27, od27, .func (PySem.W.fnOf "_law_draws" "_law_draws" (defArgs s_law_draws) (defBody s_law_draws) (defScope s_law_draws) .none kV27 dc27 pm27 an27 cd27 ct27), sl27⟩)
    (c27 : PySem.W.codeIn K cd27 "_law_draws" = true)
    (k27 : PySem.W.keepIn K (.ref f27) = true)
    (a28 : PySem.W.nsIn K mainGlobals "_law_take" = some (some (.ref f28)))
    (l28 : K.lookup f28 = some ⟨oc28, od28, .func (PySem.W.fnOf "_law_take" "_law_take" (defArgs s_law_take) (defBody s_law_take) (defScope s_law_take) .none kV28 dc28 pm28 an28 cd28 ct28), sl28⟩)
    (c28 : PySem.W.codeIn K cd28 "_law_take" = true)
    (k28 : PySem.W.keepIn K (.ref f28) = true)
    (a29 : PySem.W.nsIn K mainGlobals "_law_start" = some (some (.ref f29)))
    (l29 : K.lookup f29 = some ⟨oc29, od29, .func (PySem.W.fnOf "_law_start" "_law_start" (defArgs s_law_start) (defBody s_law_start) (defScope s_law_start) .none kV29 dc29 pm29 an29 cd29 ct29), sl29⟩)
    (c29 : PySem.W.codeIn K cd29 "_law_start" = true)
    (k29 : PySem.W.keepIn K (.ref f29) = true)
    (a30 : PySem.W.nsIn K mainGlobals "_law_place" = some (some (.ref f30)))
    (l30 : K.lookup f30 = some ⟨oc30, od30, .func (PySem.W.fnOf "_law_place" "_law_place" (defArgs s_law_place) (defBody s_law_place) (defScope s_law_place) .none kV30 dc30 pm30 an30 cd30 ct30), sl30⟩)
    (c30 : PySem.W.codeIn K cd30 "_law_place" = true)
    (k30 : PySem.W.keepIn K (.ref f30) = true)
    (a31 : PySem.W.nsIn K mainGlobals "_law_places" = some (some (.ref f31)))
    (l31 : K.lookup f31 = some ⟨oc31, od31, .func (PySem.W.fnOf "_law_places" "_law_places" (defArgs s_law_places) (defBody s_law_places) (defScope s_law_places) .none kV31 dc31 pm31 an31 cd31 ct31), sl31⟩)
    (c31 : PySem.W.codeIn K cd31 "_law_places" = true)
    (k31 : PySem.W.keepIn K (.ref f31) = true)
    (a32 : PySem.W.nsIn K mainGlobals "_law_value" = some (some (.ref f32)))
    (l32 : K.lookup f32 = some ⟨oc32, od32, .func (PySem.W.fnOf "_law_value" "_law_value" (defArgs s_law_value) (defBody s_law_value) (defScope s_law_value) .none kV32 dc32 pm32 an32 cd32 ct32), sl32⟩)
    (c32 : PySem.W.codeIn K cd32 "_law_value" = true)
    (k32 : PySem.W.keepIn K (.ref f32) = true)
    (a33 : PySem.W.nsIn K mainGlobals "_law_row" = some (some (.ref f33)))
    (l33 : K.lookup f33 = some ⟨oc33, od33, .func (PySem.W.fnOf "_law_row" "_law_row" (defArgs s_law_row) (defBody s_law_row) (defScope s_law_row) .none kV33 dc33 pm33 an33 cd33 ct33), sl33⟩)
    (c33 : PySem.W.codeIn K cd33 "_law_row" = true)
    (k33 : PySem.W.keepIn K (.ref f33) = true)
    (a34 : PySem.W.nsIn K mainGlobals "_law_code" = some (some (.ref f34)))
    (l34 : K.lookup f34 = some ⟨oc34, od34, .func (PySem.W.fnOf "_law_code" "_law_code" (defArgs s_law_code) (defBody s_law_code) (defScope s_law_code) .none kV34 dc34 pm34 an34 cd34 ct34), sl34⟩)
    (c34 : PySem.W.codeIn K cd34 "_law_code" = true)
    (k34 : PySem.W.keepIn K (.ref f34) = true)
    (a35 : PySem.W.nsIn K mainGlobals "_law_bad" = some (some (.ref f35)))
    (l35 : K.lookup f35 = some ⟨oc35, od35, .func (PySem.W.fnOf "_law_bad" "_law_bad" (defArgs s_law_bad) (defBody s_law_bad) (defScope s_law_bad) .none kV35 dc35 pm35 an35 cd35 ct35), sl35⟩)
    (c35 : PySem.W.codeIn K cd35 "_law_bad" = true)
    (k35 : PySem.W.keepIn K (.ref f35) = true)
    (a36 : PySem.W.nsIn K mainGlobals "_law_told" = some (some (.ref f36)))
    (l36 : K.lookup f36 = some ⟨oc36, od36, .func (PySem.W.fnOf "_law_told" "_law_told" (defArgs s_law_told) (defBody s_law_told) (defScope s_law_told) .none kV36 dc36 pm36 an36 cd36 ct36), sl36⟩)
    (c36 : PySem.W.codeIn K cd36 "_law_told" = true)
    (k36 : PySem.W.keepIn K (.ref f36) = true)
    (a37 : PySem.W.nsIn K mainGlobals "law" = some (some (.ref f37)))
    (l37 : K.lookup f37 = some ⟨oc37, od37, .func (PySem.W.fnOf "law" "law" (defArgs s_law) (defBody s_law) (defScope s_law) .none kV37 dc37 pm37 an37 cd37 ct37), sl37⟩)
    (c37 : PySem.W.codeIn K cd37 "law" = true)
    (k37 : PySem.W.keepIn K (.ref f37) = true)
    (pg1 : PySem.W.plainGet K C1 Str.empty = true)
    (hd1 : PySem.W.hasDictIn K C1 = true)
    (po1 : PySem.W.plainOver K C1 = true)
    (sa1 : PySem.W.findIn K (.ref C1) "__setattr__" = some (some (.builtin "object.__setattr__")))
    (mk1 : PySem.W.makesIn K C1 = true)
    (kc1 : PySem.W.keepIn K (.ref C1) = true)
    (is20 : PySem.W.isFn K (.ref f20) = true)
    (is21 : PySem.W.isFn K (.ref f21) = true)
    (is22 : PySem.W.isFn K (.ref f22) = true)
    (is23 : PySem.W.isFn K (.ref f23) = true)
    (is24 : PySem.W.isFn K (.ref f24) = true)
    (is25 : PySem.W.isFn K (.ref f25) = true)
    (is26 : PySem.W.isFn K (.ref f26) = true)
    (na_RowReader_words : PySem.W.findIn K (.ref C1) "words" = some none)
    (na_RowReader_place : PySem.W.findIn K (.ref C1) "place" = some none)
    (z1 : PySem.W.nsIn K mainGlobals "abs" = some none)
    (z2 : PySem.W.nsIn K mainGlobals "all" = some none)
    (z3 : PySem.W.nsIn K mainGlobals "bool" = some none)
    (z4 : PySem.W.nsIn K mainGlobals "divmod" = some none)
    (z5 : PySem.W.nsIn K mainGlobals "enumerate" = some none)
    (z6 : PySem.W.nsIn K mainGlobals "int" = some none)
    (z7 : PySem.W.nsIn K mainGlobals "isinstance" = some none)
    (z8 : PySem.W.nsIn K mainGlobals "len" = some none)
    (z9 : PySem.W.nsIn K mainGlobals "list" = some none)
    (z10 : PySem.W.nsIn K mainGlobals "ord" = some none)
    (z11 : PySem.W.nsIn K mainGlobals "range" = some none)
    (z12 : PySem.W.nsIn K mainGlobals "reversed" = some none)
    (z13 : PySem.W.nsIn K mainGlobals "str" = some none)
    (z14 : PySem.W.nsIn K mainGlobals "tuple" = some none)
    (z15 : PySem.W.nsIn K mainGlobals "zip" = some none)
    (y1 : PySem.W.nsIn K mainGlobals "PERCENT" = some (some w1))
    (x1 : RelV (V.int 37) w1)
    (y2 : PySem.W.nsIn K mainGlobals "PIECE" = some (some w2))
    (x2 : RelV (V.int 18) w2)
    (y3 : PySem.W.nsIn K mainGlobals "PIECES" = some (some w3))
    (x3 : RelV (V.int 1000000000000000000) w3)
    (y4 : PySem.W.nsIn K mainGlobals "INT" = some (some w4))
    (x4 : RelV (V.str "int") w4)
    (y5 : PySem.W.nsIn K mainGlobals "STR" = some (some w5))
    (x5 : RelV (V.str "str") w5)
    (y6 : PySem.W.nsIn K mainGlobals "LEAST" = some (some w6))
    (x6 : RelV (V.int (-9223372036854775808)) w6)
    (y7 : PySem.W.nsIn K mainGlobals "GREATEST" = some (some w7))
    (x7 : RelV (V.int 9223372036854775807) w7)
    (y8 : PySem.W.nsIn K mainGlobals "LONGEST" = some (some w8))
    (x8 : RelV (V.int 32) w8)
    (y9 : PySem.W.nsIn K mainGlobals "MOST_KEYS" = some (some w9))
    (x9 : RelV (V.int 3) w9)
    (y10 : PySem.W.nsIn K mainGlobals "LAST_REGISTER" = some (some w10))
    (x10 : RelV (V.int 7) w10)
    (tn1 : PySem.W.nsIn K mainGlobals "LISTED" = some (some (.ref ta1)))
    (tl1 : K.lookup ta1 = some ⟨.type "tuple", td1, .seq ti1 tk1, ts1⟩)
    (tz1 : ti1.size ≤ sizeLine)
    (tv1 : Vals ([V.str "keys", V.str "places"]) ti1.toList)
    (dg_s1 : PySem.W.nsIn K mainGlobals "PLACE_ROWS" = some (some (.ref ga1)))
    (dl_s1 : K.lookup ga1 = some ⟨.type "dict", none, .dict ge1 gn1, #[]⟩)
    (dk_s1 : PySem.W.KeysLit w.params ge1.toList)
    (dx_s1_1 : PySem.W.nsIn K ga1 "place str" = some (some (.str "str" gt1_1)))
    (dx_s1_0 : PySem.W.nsIn K ga1 "place int" = some (some (.str "int" gt1_0)))
    (em_s1 : ge1.toList.map CK.keyS = (["place int", "place str"] : List Str).map some)
    (el_s1 : (ga1 == sysModules) = false)
    (dg1 : PySem.W.nsIn K mainGlobals "PARTS" = some (some (.ref da1)))
    (dl1 : K.lookup da1 = some ⟨.type "dict", none, .dict de1 dn1, #[]⟩)
    (dk1 : PySem.W.KeysLit w.params de1.toList)
    (dx1_0 : PySem.W.nsIn K da1 "const" = some (some (.ref db1_0)))
    (dy1_0 : K.lookup db1_0 = some ⟨.type "tuple", dd1_0, .seq di1_0 dj1_0, ds1_0⟩)
    (dz1_0 : di1_0.size ≤ sizeLine)
    (dv1_0 : Vals ([V.str "into", V.str "value"]) di1_0.toList)
    (dx1_1 : PySem.W.nsIn K da1 "view" = some (some (.ref db1_1)))
    (dy1_1 : K.lookup db1_1 = some ⟨.type "tuple", dd1_1, .seq di1_1 dj1_1, ds1_1⟩)
    (dz1_1 : di1_1.size ≤ sizeLine)
    (dv1_1 : Vals ([V.str "into", V.str "view"]) di1_1.toList)
    (dx1_2 : PySem.W.nsIn K da1 "arg" = some (some (.ref db1_2)))
    (dy1_2 : K.lookup db1_2 = some ⟨.type "tuple", dd1_2, .seq di1_2 dj1_2, ds1_2⟩)
    (dz1_2 : di1_2.size ≤ sizeLine)
    (dv1_2 : Vals ([V.str "into", V.str "member"]) di1_2.toList)
    (dx1_3 : PySem.W.nsIn K da1 "reg" = some (some (.ref db1_3)))
    (dy1_3 : K.lookup db1_3 = some ⟨.type "tuple", dd1_3, .seq di1_3 dj1_3, ds1_3⟩)
    (dz1_3 : di1_3.size ≤ sizeLine)
    (dv1_3 : Vals ([V.str "into", V.str "member"]) di1_3.toList)
    (dx1_4 : PySem.W.nsIn K da1 "get" = some (some (.ref db1_4)))
    (dy1_4 : K.lookup db1_4 = some ⟨.type "tuple", dd1_4, .seq di1_4 dj1_4, ds1_4⟩)
    (dz1_4 : di1_4.size ≤ sizeLine)
    (dv1_4 : Vals ([V.str "into", V.str "place"]) di1_4.toList)
    (dx1_5 : PySem.W.nsIn K da1 "keep" = some (some (.ref db1_5)))
    (dy1_5 : K.lookup db1_5 = some ⟨.type "tuple", dd1_5, .seq di1_5 dj1_5, ds1_5⟩)
    (dz1_5 : di1_5.size ≤ sizeLine)
    (dv1_5 : Vals ([V.str "slot", V.str "from"]) di1_5.toList)
    (dx1_6 : PySem.W.nsIn K da1 "global" = some (some (.ref db1_6)))
    (dy1_6 : K.lookup db1_6 = some ⟨.type "tuple", dd1_6, .seq di1_6 dj1_6, ds1_6⟩)
    (dz1_6 : di1_6.size ≤ sizeLine)
    (dv1_6 : Vals ([V.str "into", V.str "global"]) di1_6.toList)
    (dx1_7 : PySem.W.nsIn K da1 "thread" = some (some (.ref db1_7)))
    (dy1_7 : K.lookup db1_7 = some ⟨.type "tuple", dd1_7, .seq di1_7 dj1_7, ds1_7⟩)
    (dz1_7 : di1_7.size ≤ sizeLine)
    (dv1_7 : Vals ([V.str "into", V.str "thread"]) di1_7.toList)
    (dx1_8 : PySem.W.nsIn K da1 "array" = some (some (.ref db1_8)))
    (dy1_8 : K.lookup db1_8 = some ⟨.type "tuple", dd1_8, .seq di1_8 dj1_8, ds1_8⟩)
    (dz1_8 : di1_8.size ≤ sizeLine)
    (dv1_8 : Vals ([V.str "into", V.str "array", V.str "keys"]) di1_8.toList)
    (dx1_9 : PySem.W.nsIn K da1 "op" = some (some (.ref db1_9)))
    (dy1_9 : K.lookup db1_9 = some ⟨.type "tuple", dd1_9, .seq di1_9 dj1_9, ds1_9⟩)
    (dz1_9 : di1_9.size ≤ sizeLine)
    (dv1_9 : Vals ([V.str "into", V.str "sign", V.str "from", V.str "from"]) di1_9.toList)
    (dx1_10 : PySem.W.nsIn K da1 "compare" = some (some (.ref db1_10)))
    (dy1_10 : K.lookup db1_10 = some ⟨.type "tuple", dd1_10, .seq di1_10 dj1_10, ds1_10⟩)
    (dz1_10 : di1_10.size ≤ sizeLine)
    (dv1_10 : Vals ([V.str "into", V.str "order", V.str "from", V.str "from"]) di1_10.toList)
    (dx1_11 : PySem.W.nsIn K da1 "minus" = some (some (.ref db1_11)))
    (dy1_11 : K.lookup db1_11 = some ⟨.type "tuple", dd1_11, .seq di1_11 dj1_11, ds1_11⟩)
    (dz1_11 : di1_11.size ≤ sizeLine)
    (dv1_11 : Vals ([V.str "into", V.str "from"]) di1_11.toList)
    (dx1_12 : PySem.W.nsIn K da1 "not" = some (some (.ref db1_12)))
    (dy1_12 : K.lookup db1_12 = some ⟨.type "tuple", dd1_12, .seq di1_12 dj1_12, ds1_12⟩)
    (dz1_12 : di1_12.size ≤ sizeLine)
    (dv1_12 : Vals ([V.str "into", V.str "from"]) di1_12.toList)
    (dx1_13 : PySem.W.nsIn K da1 "len" = some (some (.ref db1_13)))
    (dy1_13 : K.lookup db1_13 = some ⟨.type "tuple", dd1_13, .seq di1_13 dj1_13, ds1_13⟩)
    (dz1_13 : di1_13.size ≤ sizeLine)
    (dv1_13 : Vals ([V.str "into", V.str "from"]) di1_13.toList)
    (dx1_14 : PySem.W.nsIn K da1 "cat" = some (some (.ref db1_14)))
    (dy1_14 : K.lookup db1_14 = some ⟨.type "tuple", dd1_14, .seq di1_14 dj1_14, ds1_14⟩)
    (dz1_14 : di1_14.size ≤ sizeLine)
    (dv1_14 : Vals ([V.str "into", V.str "from", V.str "from"]) di1_14.toList)
    (dx1_15 : PySem.W.nsIn K da1 "sub" = some (some (.ref db1_15)))
    (dy1_15 : K.lookup db1_15 = some ⟨.type "tuple", dd1_15, .seq di1_15 dj1_15, ds1_15⟩)
    (dz1_15 : di1_15.size ≤ sizeLine)
    (dv1_15 : Vals ([V.str "into", V.str "from", V.str "from", V.str "from"]) di1_15.toList)
    (dx1_16 : PySem.W.nsIn K da1 "text" = some (some (.ref db1_16)))
    (dy1_16 : K.lookup db1_16 = some ⟨.type "tuple", dd1_16, .seq di1_16 dj1_16, ds1_16⟩)
    (dz1_16 : di1_16.size ≤ sizeLine)
    (dv1_16 : Vals ([V.str "into", V.str "from"]) di1_16.toList)
    (dx1_17 : PySem.W.nsIn K da1 "byte" = some (some (.ref db1_17)))
    (dy1_17 : K.lookup db1_17 = some ⟨.type "tuple", dd1_17, .seq di1_17 dj1_17, ds1_17⟩)
    (dz1_17 : di1_17.size ≤ sizeLine)
    (dv1_17 : Vals ([V.str "into", V.str "from"]) di1_17.toList)
    (dx1_18 : PySem.W.nsIn K da1 "spec" = some (some (.ref db1_18)))
    (dy1_18 : K.lookup db1_18 = some ⟨.type "tuple", dd1_18, .seq di1_18 dj1_18, ds1_18⟩)
    (dz1_18 : di1_18.size ≤ sizeLine)
    (dv1_18 : Vals ([V.str "into"]) di1_18.toList)
    (dx1_19 : PySem.W.nsIn K da1 "jump" = some (some (.ref db1_19)))
    (dy1_19 : K.lookup db1_19 = some ⟨.type "tuple", dd1_19, .seq di1_19 dj1_19, ds1_19⟩)
    (dz1_19 : di1_19.size ≤ sizeLine)
    (dv1_19 : Vals ([V.str "target"]) di1_19.toList)
    (dx1_20 : PySem.W.nsIn K da1 "zero" = some (some (.ref db1_20)))
    (dy1_20 : K.lookup db1_20 = some ⟨.type "tuple", dd1_20, .seq di1_20 dj1_20, ds1_20⟩)
    (dz1_20 : di1_20.size ≤ sizeLine)
    (dv1_20 : Vals ([V.str "from", V.str "target"]) di1_20.toList)
    (dx1_21 : PySem.W.nsIn K da1 "setglobal" = some (some (.ref db1_21)))
    (dy1_21 : K.lookup db1_21 = some ⟨.type "tuple", dd1_21, .seq di1_21 dj1_21, ds1_21⟩)
    (dz1_21 : di1_21.size ≤ sizeLine)
    (dv1_21 : Vals ([V.str "global", V.str "from"]) di1_21.toList)
    (dx1_22 : PySem.W.nsIn K da1 "setthread" = some (some (.ref db1_22)))
    (dy1_22 : K.lookup db1_22 = some ⟨.type "tuple", dd1_22, .seq di1_22 dj1_22, ds1_22⟩)
    (dz1_22 : di1_22.size ≤ sizeLine)
    (dv1_22 : Vals ([V.str "thread", V.str "from"]) di1_22.toList)
    (dx1_23 : PySem.W.nsIn K da1 "setarray" = some (some (.ref db1_23)))
    (dy1_23 : K.lookup db1_23 = some ⟨.type "tuple", dd1_23, .seq di1_23 dj1_23, ds1_23⟩)
    (dz1_23 : di1_23.size ≤ sizeLine)
    (dv1_23 : Vals ([V.str "array", V.str "keys", V.str "from"]) di1_23.toList)
    (dx1_24 : PySem.W.nsIn K da1 "record" = some (some (.ref db1_24)))
    (dy1_24 : K.lookup db1_24 = some ⟨.type "tuple", dd1_24, .seq di1_24 dj1_24, ds1_24⟩)
    (dz1_24 : di1_24.size ≤ sizeLine)
    (dv1_24 : Vals ([V.str "sort", V.str "places"]) di1_24.toList)
    (dx1_25 : PySem.W.nsIn K da1 "put" = some (some (.ref db1_25)))
    (dy1_25 : K.lookup db1_25 = some ⟨.type "tuple", dd1_25, .seq di1_25 dj1_25, ds1_25⟩)
    (dz1_25 : di1_25.size ≤ sizeLine)
    (dv1_25 : Vals ([V.str "table", V.str "keys", V.str "optional"]) di1_25.toList)
    (dx1_26 : PySem.W.nsIn K da1 "speculate" = some (some (.ref db1_26)))
    (dy1_26 : K.lookup db1_26 = some ⟨.type "tuple", dd1_26, .seq di1_26 dj1_26, ds1_26⟩)
    (dz1_26 : di1_26.size ≤ sizeLine)
    (dv1_26 : Vals ([V.str "from"]) di1_26.toList)
    (dx1_27 : PySem.W.nsIn K da1 "commit" = some (some (.ref db1_27)))
    (dy1_27 : K.lookup db1_27 = some ⟨.type "tuple", dd1_27, .seq di1_27 dj1_27, ds1_27⟩)
    (dz1_27 : di1_27.size ≤ sizeLine)
    (dv1_27 : Vals ([V.str "from"]) di1_27.toList)
    (dx1_28 : PySem.W.nsIn K da1 "discard" = some (some (.ref db1_28)))
    (dy1_28 : K.lookup db1_28 = some ⟨.type "tuple", dd1_28, .seq di1_28 dj1_28, ds1_28⟩)
    (dz1_28 : di1_28.size ≤ sizeLine)
    (dv1_28 : Vals ([V.str "from"]) di1_28.toList)
    (dx1_29 : PySem.W.nsIn K da1 "stop" = some (some (.ref db1_29)))
    (dy1_29 : K.lookup db1_29 = some ⟨.type "tuple", dd1_29, .seq di1_29 dj1_29, ds1_29⟩)
    (dz1_29 : di1_29.size ≤ sizeLine)
    (dv1_29 : Vals ([]) di1_29.toList)
    (dx1_30 : PySem.W.nsIn K da1 "skip" = some (some (.ref db1_30)))
    (dy1_30 : K.lookup db1_30 = some ⟨.type "tuple", dd1_30, .seq di1_30 dj1_30, ds1_30⟩)
    (dz1_30 : di1_30.size ≤ sizeLine)
    (dv1_30 : Vals ([]) di1_30.toList)
    (dx1_31 : PySem.W.nsIn K da1 "end" = some (some (.ref db1_31)))
    (dy1_31 : K.lookup db1_31 = some ⟨.type "tuple", dd1_31, .seq di1_31 dj1_31, ds1_31⟩)
    (dz1_31 : di1_31.size ≤ sizeLine)
    (dv1_31 : Vals ([]) di1_31.toList)
    (em1 : de1.toList.map CK.keyS = (CR.tab.map Prod.fst).map some)
    (el1 : (da1 == sysModules) = false)
    (dg2 : PySem.W.nsIn K mainGlobals "CHOICES" = some (some (.ref da2)))
    (dl2 : K.lookup da2 = some ⟨.type "dict", none, .dict de2 dn2, #[]⟩)
    (dk2 : PySem.W.KeysLit w.params de2.toList)
    (dx2_0 : PySem.W.nsIn K da2 "view" = some (some (.ref db2_0)))
    (dy2_0 : K.lookup db2_0 = some ⟨.type "tuple", dd2_0, .seq di2_0 dj2_0, ds2_0⟩)
    (dz2_0 : di2_0.size ≤ sizeLine)
    (dv2_0 : Vals ([V.str "now", V.str "cpu", V.str "pid", V.str "tid", V.str "at", V.str "name"]) di2_0.toList)
    (dx2_1 : PySem.W.nsIn K da2 "sign" = some (some (.ref db2_1)))
    (dy2_1 : K.lookup db2_1 = some ⟨.type "tuple", dd2_1, .seq di2_1 dj2_1, ds2_1⟩)
    (dz2_1 : di2_1.size ≤ sizeLine)
    (dv2_1 : Vals ([V.str "+", V.str "-", V.str "*", V.str "/", V.str "mod"]) di2_1.toList)
    (dx2_2 : PySem.W.nsIn K da2 "order" = some (some (.ref db2_2)))
    (dy2_2 : K.lookup db2_2 = some ⟨.type "tuple", dd2_2, .seq di2_2 dj2_2, ds2_2⟩)
    (dz2_2 : di2_2.size ≤ sizeLine)
    (dv2_2 : Vals ([V.str "==", V.str "!=", V.str "<", V.str "<=", V.str ">", V.str ">="]) di2_2.toList)
    (dx2_3 : PySem.W.nsIn K da2 "sort" = some (some (.ref db2_3)))
    (dy2_3 : K.lookup db2_3 = some ⟨.type "tuple", dd2_3, .seq di2_3 dj2_3, ds2_3⟩)
    (dz2_3 : di2_3.size ≤ sizeLine)
    (dv2_3 : Vals ([V.str "trace", V.str "say"]) di2_3.toList)
    (em2 : de2.toList.map CK.keyS = (CK.chs.map Prod.fst).map some)
    (el2 : (da2 == sysModules) = false)
    (SP : XS.Pr l.prog Sfile)
    : ∃ fd : FuncData, (∀ (s : Shared) (v : Value), BindsTo s fd ⟨[v], []⟩ [("script", v)]) ∧ ∀ base : Heap, K.In base → base.Ns mainGlobals mg → FnOk l.prog w K mg base CX0 11 fa fd ["script"] (sp_law K) := by
  have e := hfa.symm.trans (PySem.W.mg_of X G a37)
  cases e
  have F1 := fun_mk (st := s_in_script) l1 c1 k1
  have b1 := F1.binds (ps := ["character"]) fun _ _ _ _ _ _ us hl => match us, hl with | [_], _ => rfl
  have F2 := fun_mk (st := s_is_digit) l2 c2 k2
  have b2 := F2.binds (ps := ["character"]) fun _ _ _ _ _ _ us hl => match us, hl with | [_], _ => rfl
  have F3 := fun_mk (st := s_in_text) l3 c3 k3
  have b3 := F3.binds (ps := ["character"]) fun _ _ _ _ _ _ us hl => match us, hl with | [_], _ => rfl
  have F4 := fun_mk (st := s_decimal) l4 c4 k4
  have b4 := F4.binds (ps := ["n"]) fun _ _ _ _ _ _ us hl => match us, hl with | [_], _ => rfl
  have F5 := fun_mk (st := s_natural_in) l5 c5 k5
  have b5 := F5.binds (ps := ["text"]) fun _ _ _ _ _ _ us hl => match us, hl with | [_], _ => rfl
  have F6 := fun_mk (st := s_whole_in) l6 c6 k6
  have b6 := F6.binds (ps := ["text"]) fun _ _ _ _ _ _ us hl => match us, hl with | [_], _ => rfl
  have F7 := fun_mk (st := s_parts_of) l7 c7 k7
  have b7 := F7.binds (ps := ["row"]) fun _ _ _ _ _ _ us hl => match us, hl with | [_], _ => rfl
  have F8 := fun_mk (st := s_is_whole) l8 c8 k8
  have b8 := F8.binds (ps := ["thing"]) fun _ _ _ _ _ _ us hl => match us, hl with | [_], _ => rfl
  have F9 := fun_mk (st := s_is_from) l9 c9 k9
  have b9 := F9.binds (ps := ["thing", "least", "most"]) fun _ _ _ _ _ _ us hl => match us, hl with | [_, _, _], _ => rfl
  have F10 := fun_mk (st := s_is_register) l10 c10 k10
  have b10 := F10.binds (ps := ["thing"]) fun _ _ _ _ _ _ us hl => match us, hl with | [_], _ => rfl
  have F11 := fun_mk (st := s_is_value) l11 c11 k11
  have b11 := F11.binds (ps := ["thing"]) fun _ _ _ _ _ _ us hl => match us, hl with | [_], _ => rfl
  have F12 := fun_mk (st := s_is_short_text) l12 c12 k12
  have b12 := F12.binds (ps := ["thing"]) fun _ _ _ _ _ _ us hl => match us, hl with | [_], _ => rfl
  have F13 := fun_mk (st := s_fits) l13 c13 k13
  have b13 := F13.binds (ps := ["part", "thing", "most"]) fun _ _ _ _ _ _ us hl => match us, hl with | [_, _, _], _ => rfl
  have F14 := fun_mk (st := s_is_row_of_places) l14 c14 k14
  have b14 := F14.binds (ps := ["thing", "most"]) fun _ _ _ _ _ _ us hl => match us, hl with | [_, _], _ => rfl
  have F15 := fun_mk (st := s_write_text) l15 c15 k15
  have b15 := F15.binds (ps := ["code"]) fun _ _ _ _ _ _ us hl => match us, hl with | [_], _ => rfl
  have F16 := fun_mk (st := s_written_row) l16 c16 k16
  have b16 := F16.binds (ps := ["row"]) fun _ _ _ _ _ _ us hl => match us, hl with | [_], _ => rfl
  have F17 := fun_mk (st := s_written_part) l17 c17 k17
  have b17 := F17.binds (ps := ["part", "thing"]) fun _ _ _ _ _ _ us hl => match us, hl with | [_, _], _ => rfl
  have F18 := fun_mk (st := s_written_value) l18 c18 k18
  have b18 := F18.binds (ps := ["value"]) fun _ _ _ _ _ _ us hl => match us, hl with | [_], _ => rfl
  have F19 := fun_mk (st := s_read_text) l19 c19 k19
  have b19 := F19.binds (ps := ["text"]) fun _ _ _ _ _ _ us hl => match us, hl with | [_], _ => rfl
  have F20 := fun_mk (st := s_RowReader___init__) l20 c20 k20
  have b20 := F20.binds (ps := ["self", "line"]) fun _ _ _ _ _ _ us hl => match us, hl with | [_, _], _ => rfl
  have F21 := fun_mk (st := s_RowReader_take) l21 c21 k21
  have b21 := F21.binds (ps := ["self"]) fun _ _ _ _ _ _ us hl => match us, hl with | [_], _ => rfl
  have F22 := fun_mk (st := s_RowReader_read_row) l22 c22 k22
  have b22 := F22.binds (ps := ["self"]) fun _ _ _ _ _ _ us hl => match us, hl with | [_], _ => rfl
  have F23 := fun_mk (st := s_RowReader_read_part) l23 c23 k23
  have b23 := F23.binds (ps := ["self", "part"]) fun _ _ _ _ _ _ us hl => match us, hl with | [_, _], _ => rfl
  have F24 := fun_mk (st := s_RowReader_read_places) l24 c24 k24
  have b24 := F24.binds (ps := ["self"]) fun _ _ _ _ _ _ us hl => match us, hl with | [_], _ => rfl
  have F25 := fun_mk (st := s_RowReader_read_value) l25 c25 k25
  have b25 := F25.binds (ps := ["self"]) fun _ _ _ _ _ _ us hl => match us, hl with | [_], _ => rfl
  have F26 := fun_mk (st := s_RowReader_read_held) l26 c26 k26
  have b26 := F26.binds (ps := ["self"]) fun _ _ _ _ _ _ us hl => match us, hl with | [_], _ => rfl
  have F27 := fun_mk (st := s_law_draws) l27 c27 k27
  have b27 := F27.binds (ps := ["script", "many"]) fun _ _ _ _ _ _ us hl => match us, hl with | [_, _], _ => rfl
  have F28 := fun_mk (st := s_law_take) l28 c28 k28
  have b28 := F28.binds (ps := ["d"]) fun _ _ _ _ _ _ us hl => match us, hl with | [_], _ => rfl
  have F29 := fun_mk (st := s_law_start) l29 c29 k29
  have b29 := F29.binds (ps := ["script"]) fun _ _ _ _ _ _ us hl => match us, hl with | [_], _ => rfl
  have F30 := fun_mk (st := s_law_place) l30 c30 k30
  have b30 := F30.binds (ps := ["d"]) fun _ _ _ _ _ _ us hl => match us, hl with | [_], _ => rfl
  have F31 := fun_mk (st := s_law_places) l31 c31 k31
  have b31 := F31.binds (ps := ["d", "most"]) fun _ _ _ _ _ _ us hl => match us, hl with | [_, _], _ => rfl
  have F32 := fun_mk (st := s_law_value) l32 c32 k32
  have b32 := F32.binds (ps := ["d"]) fun _ _ _ _ _ _ us hl => match us, hl with | [_], _ => rfl
  have F33 := fun_mk (st := s_law_row) l33 c33 k33
  have b33 := F33.binds (ps := ["d", "many"]) fun _ _ _ _ _ _ us hl => match us, hl with | [_, _], _ => rfl
  have F34 := fun_mk (st := s_law_code) l34 c34 k34
  have b34 := F34.binds (ps := ["d"]) fun _ _ _ _ _ _ us hl => match us, hl with | [_], _ => rfl
  have F35 := fun_mk (st := s_law_bad) l35 c35 k35
  have b35 := F35.binds (ps := ["d"]) fun _ _ _ _ _ _ us hl => match us, hl with | [_], _ => rfl
  have F36 := fun_mk (st := s_law_told) l36 c36 k36
  have b36 := F36.binds (ps := ["text"]) fun _ _ _ _ _ _ us hl => match us, hl with | [_], _ => rfl
  have F37 := fun_mk (st := s_law) l37 c37 k37
  have b37 := F37.binds (ps := ["script"]) fun _ _ _ _ _ _ us hl => match us, hl with | [_], _ => rfl
  exact ⟨PySem.W.fnOf "law" "law" (defArgs s_law) (defBody s_law) (defScope s_law) .none kV37 dc37 pm37 an37 cd37 ct37, fun s v => .of_eq rfl, fun base _ _ => ok_law (T := {p_BadText___init__ := ⟨SF, SD, Scc, Scda, Sfile, _, ⟨Soc, SkV, Sdoc, Spm, Sct, Sod, San, Sosl, rfl, S3⟩, S5, ⟨Sccl, Scdd, Svs, Sccs, Stf, S6, SR⟩, ⟨Scl, Scld, Scsl, S7⟩, ⟨ScdD, S8⟩, S9, PySem.W.mg_none_of X G SA, .all fun us hl => match us, hl with | [_, _], _ => rfl⟩, ti_BadText___init__ := S4, x_BadText := ⟨XA1, PySem.W.mg_of X G Xa1, ⟨⟨⟨Xnm1, Xq1, XN1, Xbs1, Xbm1, Xsn1, Xsub1, Xab1, Xcol1, Xdd1, Xk01, Xk11, Xk21, Xk31, Xk51, Xl1, XR1⟩, Xs1, Xb1, Xt1, Xk1⟩, XK1, Xv1, Xm1⟩, Xi1, (XS.nf1 Xf1_0 XS.nf0), ⟨Xg1, Xh1, Xb1, Xd1⟩, ⟨Xg1, Xh1, Xb1, Xd1, Xc1, Xn1, Xo1, Xp1⟩⟩, te_BadText_BadText := PySem.W.exm_ref Xb1 Xd1 Xt1 Xe1_1, t_BadBytes := TT1, gt_BadBytes := PySem.W.mg_of X G T1_1, ki_BadText_BadBytes := uk_1_1, t_CodeError := TT2, gt_CodeError := PySem.W.mg_of X G T1_2, ki_BadText_CodeError := uk_2_1, p_in_script := ⟨f1, _, F1, b1, PySem.W.mg_of X G a1⟩, p_is_digit := ⟨f2, _, F2, b2, PySem.W.mg_of X G a2⟩, p_in_text := ⟨f3, _, F3, b3, PySem.W.mg_of X G a3⟩, p_decimal := ⟨f4, _, F4, b4, PySem.W.mg_of X G a4⟩, p_natural_in := ⟨f5, _, F5, b5, PySem.W.mg_of X G a5⟩, p_whole_in := ⟨f6, _, F6, b6, PySem.W.mg_of X G a6⟩, p_parts_of := ⟨f7, _, F7, b7, PySem.W.mg_of X G a7⟩, p_is_whole := ⟨f8, _, F8, b8, PySem.W.mg_of X G a8⟩, p_is_from := ⟨f9, _, F9, b9, PySem.W.mg_of X G a9⟩, p_is_register := ⟨f10, _, F10, b10, PySem.W.mg_of X G a10⟩, p_is_value := ⟨f11, _, F11, b11, PySem.W.mg_of X G a11⟩, p_is_short_text := ⟨f12, _, F12, b12, PySem.W.mg_of X G a12⟩, p_fits := ⟨f13, _, F13, b13, PySem.W.mg_of X G a13⟩, p_is_row_of_places := ⟨f14, _, F14, b14, PySem.W.mg_of X G a14⟩, p_write_text := ⟨f15, _, F15, b15, PySem.W.mg_of X G a15⟩, p_written_row := ⟨f16, _, F16, b16, PySem.W.mg_of X G a16⟩, p_written_part := ⟨f17, _, F17, b17, PySem.W.mg_of X G a17⟩, p_written_value := ⟨f18, _, F18, b18, PySem.W.mg_of X G a18⟩, p_read_text := ⟨f19, _, F19, b19, PySem.W.mg_of X G a19⟩, p_law_draws := ⟨f27, _, F27, b27, PySem.W.mg_of X G a27⟩, p_law_take := ⟨f28, _, F28, b28, PySem.W.mg_of X G a28⟩, p_law_start := ⟨f29, _, F29, b29, PySem.W.mg_of X G a29⟩, p_law_place := ⟨f30, _, F30, b30, PySem.W.mg_of X G a30⟩, p_law_places := ⟨f31, _, F31, b31, PySem.W.mg_of X G a31⟩, p_law_value := ⟨f32, _, F32, b32, PySem.W.mg_of X G a32⟩, p_law_row := ⟨f33, _, F33, b33, PySem.W.mg_of X G a33⟩, p_law_code := ⟨f34, _, F34, b34, PySem.W.mg_of X G a34⟩, p_law_bad := ⟨f35, _, F35, b35, PySem.W.mg_of X G a35⟩, p_law_told := ⟨f36, _, F36, b36, PySem.W.mg_of X G a36⟩, p_law := ⟨fa, _, F37, b37, PySem.W.mg_of X G a37⟩, c_RowReader := ⟨C1, PySem.W.mg_of X G ca1, ⟨pg1, hd1, po1, sa1⟩⟩, p_RowReader___init__ := ⟨f20, _, F20, b20, ⟨mk1, fi20, is20, kc1⟩⟩, p_RowReader_take := ⟨f21, _, F21, b21, ⟨fi21, is21, k21⟩⟩, p_RowReader_read_row := ⟨f22, _, F22, b22, ⟨fi22, is22, k22⟩⟩, p_RowReader_read_part := ⟨f23, _, F23, b23, ⟨fi23, is23, k23⟩⟩, p_RowReader_read_places := ⟨f24, _, F24, b24, ⟨fi24, is24, k24⟩⟩, p_RowReader_read_value := ⟨f25, _, F25, b25, ⟨fi25, is25, k25⟩⟩, p_RowReader_read_held := ⟨f26, _, F26, b26, ⟨fi26, is26, k26⟩⟩, n_RowReader := ⟨na_RowReader_words, na_RowReader_place⟩, m_abs := PySem.W.mg_none_of X G z1, m_all := PySem.W.mg_none_of X G z2, m_bool := PySem.W.mg_none_of X G z3, m_divmod := PySem.W.mg_none_of X G z4, m_enumerate := PySem.W.mg_none_of X G z5, m_int := PySem.W.mg_none_of X G z6, m_isinstance := PySem.W.mg_none_of X G z7, m_len := PySem.W.mg_none_of X G z8, m_list := PySem.W.mg_none_of X G z9, m_ord := PySem.W.mg_none_of X G z10, m_range := PySem.W.mg_none_of X G z11, m_reversed := PySem.W.mg_none_of X G z12, m_str := PySem.W.mg_none_of X G z13, m_tuple := PySem.W.mg_none_of X G z14, m_zip := PySem.W.mg_none_of X G z15, v_PERCENT := w1, c_PERCENT := PySem.W.mg_of X G y1, r_PERCENT := x1, v_PIECE := w2, c_PIECE := PySem.W.mg_of X G y2, r_PIECE := x2, v_PIECES := w3, c_PIECES := PySem.W.mg_of X G y3, r_PIECES := x3, v_INT := w4, c_INT := PySem.W.mg_of X G y4, r_INT := x4, v_STR := w5, c_STR := PySem.W.mg_of X G y5, r_STR := x5, v_LEAST := w6, c_LEAST := PySem.W.mg_of X G y6, r_LEAST := x6, v_GREATEST := w7, c_GREATEST := PySem.W.mg_of X G y7, r_GREATEST := x7, v_LONGEST := w8, c_LONGEST := PySem.W.mg_of X G y8, r_LONGEST := x8, v_MOST_KEYS := w9, c_MOST_KEYS := PySem.W.mg_of X G y9, r_MOST_KEYS := x9, v_LAST_REGISTER := w10, c_LAST_REGISTER := PySem.W.mg_of X G y10, r_LAST_REGISTER := x10, a_LISTED := ta1, c_LISTED := PySem.W.mg_of X G tn1, t_LISTED := fun H => .inr ⟨_, ti1, tk1, tl1, rfl, rfl, tz1, tv1⟩, d_PLACE_ROWS := ⟨ga1, PySem.W.mg_of X G dg_s1, (WT.ds1 ⟨ge1, gn1, _, dl_s1, dk_s1, dx_s1_0, ⟨_, rfl⟩⟩ (WT.ds1 ⟨ge1, gn1, _, dl_s1, dk_s1, dx_s1_1, ⟨_, rfl⟩⟩ WT.ds0))⟩, i_PLACE_ROWS := .mk' dl_s1 dk_s1 el_s1 em_s1, d_PARTS := ⟨da1, PySem.W.mg_of X G dg1, (CR.Ents.cons ⟨db1_0, ⟨de1, dn1, _, dl1, dk1, dx1_0, rfl⟩, fun H => .inr ⟨_, di1_0, dj1_0, dy1_0, rfl, rfl, dz1_0, dv1_0⟩⟩ (CR.Ents.cons ⟨db1_1, ⟨de1, dn1, _, dl1, dk1, dx1_1, rfl⟩, fun H => .inr ⟨_, di1_1, dj1_1, dy1_1, rfl, rfl, dz1_1, dv1_1⟩⟩ (CR.Ents.cons ⟨db1_2, ⟨de1, dn1, _, dl1, dk1, dx1_2, rfl⟩, fun H => .inr ⟨_, di1_2, dj1_2, dy1_2, rfl, rfl, dz1_2, dv1_2⟩⟩ (CR.Ents.cons ⟨db1_3, ⟨de1, dn1, _, dl1, dk1, dx1_3, rfl⟩, fun H => .inr ⟨_, di1_3, dj1_3, dy1_3, rfl, rfl, dz1_3, dv1_3⟩⟩ (CR.Ents.cons ⟨db1_4, ⟨de1, dn1, _, dl1, dk1, dx1_4, rfl⟩, fun H => .inr ⟨_, di1_4, dj1_4, dy1_4, rfl, rfl, dz1_4, dv1_4⟩⟩ (CR.Ents.cons ⟨db1_5, ⟨de1, dn1, _, dl1, dk1, dx1_5, rfl⟩, fun H => .inr ⟨_, di1_5, dj1_5, dy1_5, rfl, rfl, dz1_5, dv1_5⟩⟩ (CR.Ents.cons ⟨db1_6, ⟨de1, dn1, _, dl1, dk1, dx1_6, rfl⟩, fun H => .inr ⟨_, di1_6, dj1_6, dy1_6, rfl, rfl, dz1_6, dv1_6⟩⟩ (CR.Ents.cons ⟨db1_7, ⟨de1, dn1, _, dl1, dk1, dx1_7, rfl⟩, fun H => .inr ⟨_, di1_7, dj1_7, dy1_7, rfl, rfl, dz1_7, dv1_7⟩⟩ (CR.Ents.cons ⟨db1_8, ⟨de1, dn1, _, dl1, dk1, dx1_8, rfl⟩, fun H => .inr ⟨_, di1_8, dj1_8, dy1_8, rfl, rfl, dz1_8, dv1_8⟩⟩ (CR.Ents.cons ⟨db1_9, ⟨de1, dn1, _, dl1, dk1, dx1_9, rfl⟩, fun H => .inr ⟨_, di1_9, dj1_9, dy1_9, rfl, rfl, dz1_9, dv1_9⟩⟩ (CR.Ents.cons ⟨db1_10, ⟨de1, dn1, _, dl1, dk1, dx1_10, rfl⟩, fun H => .inr ⟨_, di1_10, dj1_10, dy1_10, rfl, rfl, dz1_10, dv1_10⟩⟩ (CR.Ents.cons ⟨db1_11, ⟨de1, dn1, _, dl1, dk1, dx1_11, rfl⟩, fun H => .inr ⟨_, di1_11, dj1_11, dy1_11, rfl, rfl, dz1_11, dv1_11⟩⟩ (CR.Ents.cons ⟨db1_12, ⟨de1, dn1, _, dl1, dk1, dx1_12, rfl⟩, fun H => .inr ⟨_, di1_12, dj1_12, dy1_12, rfl, rfl, dz1_12, dv1_12⟩⟩ (CR.Ents.cons ⟨db1_13, ⟨de1, dn1, _, dl1, dk1, dx1_13, rfl⟩, fun H => .inr ⟨_, di1_13, dj1_13, dy1_13, rfl, rfl, dz1_13, dv1_13⟩⟩ (CR.Ents.cons ⟨db1_14, ⟨de1, dn1, _, dl1, dk1, dx1_14, rfl⟩, fun H => .inr ⟨_, di1_14, dj1_14, dy1_14, rfl, rfl, dz1_14, dv1_14⟩⟩ (CR.Ents.cons ⟨db1_15, ⟨de1, dn1, _, dl1, dk1, dx1_15, rfl⟩, fun H => .inr ⟨_, di1_15, dj1_15, dy1_15, rfl, rfl, dz1_15, dv1_15⟩⟩ (CR.Ents.cons ⟨db1_16, ⟨de1, dn1, _, dl1, dk1, dx1_16, rfl⟩, fun H => .inr ⟨_, di1_16, dj1_16, dy1_16, rfl, rfl, dz1_16, dv1_16⟩⟩ (CR.Ents.cons ⟨db1_17, ⟨de1, dn1, _, dl1, dk1, dx1_17, rfl⟩, fun H => .inr ⟨_, di1_17, dj1_17, dy1_17, rfl, rfl, dz1_17, dv1_17⟩⟩ (CR.Ents.cons ⟨db1_18, ⟨de1, dn1, _, dl1, dk1, dx1_18, rfl⟩, fun H => .inr ⟨_, di1_18, dj1_18, dy1_18, rfl, rfl, dz1_18, dv1_18⟩⟩ (CR.Ents.cons ⟨db1_19, ⟨de1, dn1, _, dl1, dk1, dx1_19, rfl⟩, fun H => .inr ⟨_, di1_19, dj1_19, dy1_19, rfl, rfl, dz1_19, dv1_19⟩⟩ (CR.Ents.cons ⟨db1_20, ⟨de1, dn1, _, dl1, dk1, dx1_20, rfl⟩, fun H => .inr ⟨_, di1_20, dj1_20, dy1_20, rfl, rfl, dz1_20, dv1_20⟩⟩ (CR.Ents.cons ⟨db1_21, ⟨de1, dn1, _, dl1, dk1, dx1_21, rfl⟩, fun H => .inr ⟨_, di1_21, dj1_21, dy1_21, rfl, rfl, dz1_21, dv1_21⟩⟩ (CR.Ents.cons ⟨db1_22, ⟨de1, dn1, _, dl1, dk1, dx1_22, rfl⟩, fun H => .inr ⟨_, di1_22, dj1_22, dy1_22, rfl, rfl, dz1_22, dv1_22⟩⟩ (CR.Ents.cons ⟨db1_23, ⟨de1, dn1, _, dl1, dk1, dx1_23, rfl⟩, fun H => .inr ⟨_, di1_23, dj1_23, dy1_23, rfl, rfl, dz1_23, dv1_23⟩⟩ (CR.Ents.cons ⟨db1_24, ⟨de1, dn1, _, dl1, dk1, dx1_24, rfl⟩, fun H => .inr ⟨_, di1_24, dj1_24, dy1_24, rfl, rfl, dz1_24, dv1_24⟩⟩ (CR.Ents.cons ⟨db1_25, ⟨de1, dn1, _, dl1, dk1, dx1_25, rfl⟩, fun H => .inr ⟨_, di1_25, dj1_25, dy1_25, rfl, rfl, dz1_25, dv1_25⟩⟩ (CR.Ents.cons ⟨db1_26, ⟨de1, dn1, _, dl1, dk1, dx1_26, rfl⟩, fun H => .inr ⟨_, di1_26, dj1_26, dy1_26, rfl, rfl, dz1_26, dv1_26⟩⟩ (CR.Ents.cons ⟨db1_27, ⟨de1, dn1, _, dl1, dk1, dx1_27, rfl⟩, fun H => .inr ⟨_, di1_27, dj1_27, dy1_27, rfl, rfl, dz1_27, dv1_27⟩⟩ (CR.Ents.cons ⟨db1_28, ⟨de1, dn1, _, dl1, dk1, dx1_28, rfl⟩, fun H => .inr ⟨_, di1_28, dj1_28, dy1_28, rfl, rfl, dz1_28, dv1_28⟩⟩ (CR.Ents.cons ⟨db1_29, ⟨de1, dn1, _, dl1, dk1, dx1_29, rfl⟩, fun H => .inr ⟨_, di1_29, dj1_29, dy1_29, rfl, rfl, dz1_29, dv1_29⟩⟩ (CR.Ents.cons ⟨db1_30, ⟨de1, dn1, _, dl1, dk1, dx1_30, rfl⟩, fun H => .inr ⟨_, di1_30, dj1_30, dy1_30, rfl, rfl, dz1_30, dv1_30⟩⟩ (CR.Ents.cons ⟨db1_31, ⟨de1, dn1, _, dl1, dk1, dx1_31, rfl⟩, fun H => .inr ⟨_, di1_31, dj1_31, dy1_31, rfl, rfl, dz1_31, dv1_31⟩⟩ CR.Ents.nil))))))))))))))))))))))))))))))))⟩, i_PARTS := .mk' dl1 dk1 el1 em1, d_CHOICES := ⟨da2, PySem.W.mg_of X G dg2, (CR.Ents.cons ⟨db2_0, ⟨de2, dn2, _, dl2, dk2, dx2_0, rfl⟩, fun H => .inr ⟨_, di2_0, dj2_0, dy2_0, rfl, rfl, dz2_0, dv2_0⟩⟩ (CR.Ents.cons ⟨db2_1, ⟨de2, dn2, _, dl2, dk2, dx2_1, rfl⟩, fun H => .inr ⟨_, di2_1, dj2_1, dy2_1, rfl, rfl, dz2_1, dv2_1⟩⟩ (CR.Ents.cons ⟨db2_2, ⟨de2, dn2, _, dl2, dk2, dx2_2, rfl⟩, fun H => .inr ⟨_, di2_2, dj2_2, dy2_2, rfl, rfl, dz2_2, dv2_2⟩⟩ (CR.Ents.cons ⟨db2_3, ⟨de2, dn2, _, dl2, dk2, dx2_3, rfl⟩, fun H => .inr ⟨_, di2_3, dj2_3, dy2_3, rfl, rfl, dz2_3, dv2_3⟩⟩ CR.Ents.nil))))⟩, i_CHOICES := .mk' dl2 dk2 el2 em2}) SP⟩
end K52
open PySem PySem.W PyProof.Rows
set_option maxHeartbeats 0 in
theorem PySem.Challenge.cw_tapline_k52_texts_that_are_no_code_holds : PySem.Challenge.rw_tapline_k52_texts_that_are_no_code.Holds := by
  w_on; o_law; k_head; (case hw => w_witness2)
  k_fill
  refine L2.walk_of (l := PySem.Challenge.rw_tapline_k52_texts_that_are_no_code) (n := 63) (k := 11) (x := "script") (CX := fun _ => L2.CX0) (sp := fun w => K52.sp_law _) rfl (by decide) rfl ⟨rfl, by decide, by decide⟩ (fun w h Y => PySem.W.kIn_of Y) ?F (fun _ _ a ns hl _ hS => ⟨a, ns, rfl, hS, hl, fun _ => rfl⟩) (fun _ _ _ _ _ h => h)
  case F =>
    intro w mg fa h KX G hmg
    refine' K52.all_mk KX G hmg ?S1 ?S2 ?S3 ?S4 ?S5 ?S6 ?SR ?S7 ?S8 ?S9 ?SA ?Xa1 ?Xl1 ?XR1 ?Xs1 ?Xb1 ?Xt1 ?Xk1 ?XK1 ?Xv1 ?Xm1 ?Xi1 ?Xg1 ?Xh1 ?Xd1 ?Xc1 ?Xn1 ?Xo1 ?Xp1 ?Xf1_0 ?Xe1_1 ?T1_1 ?uk_1_1 ?T1_2 ?uk_2_1 ?ca1 ?a1 ?l1 ?c1 ?k1 ?a2 ?l2 ?c2 ?k2 ?a3 ?l3 ?c3 ?k3 ?a4 ?l4 ?c4 ?k4 ?a5 ?l5 ?c5 ?k5 ?a6 ?l6 ?c6 ?k6 ?a7 ?l7 ?c7 ?k7 ?a8 ?l8 ?c8 ?k8 ?a9 ?l9 ?c9 ?k9 ?a10 ?l10 ?c10 ?k10 ?a11 ?l11 ?c11 ?k11 ?a12 ?l12 ?c12 ?k12 ?a13 ?l13 ?c13 ?k13 ?a14 ?l14 ?c14 ?k14 ?a15 ?l15 ?c15 ?k15 ?a16 ?l16 ?c16 ?k16 ?a17 ?l17 ?c17 ?k17 ?a18 ?l18 ?c18 ?k18 ?a19 ?l19 ?c19 ?k19 ?fi20 ?l20 ?c20 ?k20 ?fi21 ?l21 ?c21 ?k21 ?fi22 ?l22 ?c22 ?k22 ?fi23 ?l23 ?c23 ?k23 ?fi24 ?l24 ?c24 ?k24 ?fi25 ?l25 ?c25 ?k25 ?fi26 ?l26 ?c26 ?k26 ?a27 ?l27 ?c27 ?k27 ?a28 ?l28 ?c28 ?k28 ?a29 ?l29 ?c29 ?k29 ?a30 ?l30 ?c30 ?k30 ?a31 ?l31 ?c31 ?k31 ?a32 ?l32 ?c32 ?k32 ?a33 ?l33 ?c33 ?k33 ?a34 ?l34 ?c34 ?k34 ?a35 ?l35 ?c35 ?k35 ?a36 ?l36 ?c36 ?k36 ?a37 ?l37 ?c37 ?k37 ?pg1 ?hd1 ?po1 ?sa1 ?mk1 ?kc1 ?is20 ?is21 ?is22 ?is23 ?is24 ?is25 ?is26 ?na_RowReader_words ?na_RowReader_place ?z1 ?z2 ?z3 ?z4 ?z5 ?z6 ?z7 ?z8 ?z9 ?z10 ?z11 ?z12 ?z13 ?z14 ?z15 ?y1 ?x1 ?y2 ?x2 ?y3 ?x3 ?y4 ?x4 ?y5 ?x5 ?y6 ?x6 ?y7 ?x7 ?y8 ?x8 ?y9 ?x9 ?y10 ?x10 ?tn1 ?tl1 ?tz1 ?tv1 ?dg_s1 ?dl_s1 ?dk_s1 ?dx_s1_1 ?dx_s1_0 ?em_s1 ?el_s1 ?dg1 ?dl1 ?dk1 ?dx1_0 ?dy1_0 ?dz1_0 ?dv1_0 ?dx1_1 ?dy1_1 ?dz1_1 ?dv1_1 ?dx1_2 ?dy1_2 ?dz1_2 ?dv1_2 ?dx1_3 ?dy1_3 ?dz1_3 ?dv1_3 ?dx1_4 ?dy1_4 ?dz1_4 ?dv1_4 ?dx1_5 ?dy1_5 ?dz1_5 ?dv1_5 ?dx1_6 ?dy1_6 ?dz1_6 ?dv1_6 ?dx1_7 ?dy1_7 ?dz1_7 ?dv1_7 ?dx1_8 ?dy1_8 ?dz1_8 ?dv1_8 ?dx1_9 ?dy1_9 ?dz1_9 ?dv1_9 ?dx1_10 ?dy1_10 ?dz1_10 ?dv1_10 ?dx1_11 ?dy1_11 ?dz1_11 ?dv1_11 ?dx1_12 ?dy1_12 ?dz1_12 ?dv1_12 ?dx1_13 ?dy1_13 ?dz1_13 ?dv1_13 ?dx1_14 ?dy1_14 ?dz1_14 ?dv1_14 ?dx1_15 ?dy1_15 ?dz1_15 ?dv1_15 ?dx1_16 ?dy1_16 ?dz1_16 ?dv1_16 ?dx1_17 ?dy1_17 ?dz1_17 ?dv1_17 ?dx1_18 ?dy1_18 ?dz1_18 ?dv1_18 ?dx1_19 ?dy1_19 ?dz1_19 ?dv1_19 ?dx1_20 ?dy1_20 ?dz1_20 ?dv1_20 ?dx1_21 ?dy1_21 ?dz1_21 ?dv1_21 ?dx1_22 ?dy1_22 ?dz1_22 ?dv1_22 ?dx1_23 ?dy1_23 ?dz1_23 ?dv1_23 ?dx1_24 ?dy1_24 ?dz1_24 ?dv1_24 ?dx1_25 ?dy1_25 ?dz1_25 ?dv1_25 ?dx1_26 ?dy1_26 ?dz1_26 ?dv1_26 ?dx1_27 ?dy1_27 ?dz1_27 ?dv1_27 ?dx1_28 ?dy1_28 ?dz1_28 ?dv1_28 ?dx1_29 ?dy1_29 ?dz1_29 ?dv1_29 ?dx1_30 ?dy1_30 ?dz1_30 ?dv1_30 ?dx1_31 ?dy1_31 ?dz1_31 ?dv1_31 ?em1 ?el1 ?dg2 ?dl2 ?dk2 ?dx2_0 ?dy2_0 ?dz2_0 ?dv2_0 ?dx2_1 ?dy2_1 ?dz2_1 ?dv2_1 ?dx2_2 ?dy2_2 ?dz2_2 ?dv2_2 ?dx2_3 ?dy2_3 ?dz2_3 ?dv2_3 ?em2 ?el2 ?SP
    (case S1 => k_is)
    (case S2 => k_is)
    (case S3 => k_is)
    (case S4 => k_is)
    (case S5 => k_is)
    (case S6 => k_is)
    (case SR => first | rfl | decide +kernel)
    (case S7 => k_is)
    (case S8 => k_is)
    (case S9 => k_is)
    (case SA => k_is)
    (case Xa1 => k_is)
    (case Xl1 => k_is)
    (case XR1 => first | rfl | decide +kernel)
    (case Xs1 => k_is)
    (case Xb1 => k_is)
    (case Xt1 => k_is)
    (case Xk1 => k_is)
    (case XK1 => ks_is)
    (case Xv1 => k_is)
    (case Xm1 => k_is)
    (case Xi1 => k_is)
    (case Xg1 => k_is)
    (case Xh1 => k_is)
    (case Xd1 => k_is)
    (case Xc1 => k_is)
    (case Xn1 => k_is)
    (case Xo1 => k_is)
    (case Xp1 => k_is)
    (case Xf1_0 => k_is)
    (case Xe1_1 => k_is)
    (case T1_1 => k_is)
    (case uk_1_1 => first | rfl | k_is)
    (case T1_2 => k_is)
    (case uk_2_1 => first | rfl | k_is)
    (case ca1 => k_is)
    (case a1 => k_is)
    (case l1 => k_is)
    (case c1 => k_is)
    (case k1 => k_is)
    (case a2 => k_is)
    (case l2 => k_is)
    (case c2 => k_is)
    (case k2 => k_is)
    (case a3 => k_is)
    (case l3 => k_is)
    (case c3 => k_is)
    (case k3 => k_is)
    (case a4 => k_is)
    (case l4 => k_is)
    (case c4 => k_is)
    (case k4 => k_is)
    (case a5 => k_is)
    (case l5 => k_is)
    (case c5 => k_is)
    (case k5 => k_is)
    (case a6 => k_is)
    (case l6 => k_is)
    (case c6 => k_is)
    (case k6 => k_is)
    (case a7 => k_is)
    (case l7 => k_is)
    (case c7 => k_is)
    (case k7 => k_is)
    (case a8 => k_is)
    (case l8 => k_is)
    (case c8 => k_is)
    (case k8 => k_is)
    (case a9 => k_is)
    (case l9 => k_is)
    (case c9 => k_is)
    (case k9 => k_is)
    (case a10 => k_is)
    (case l10 => k_is)
    (case c10 => k_is)
    (case k10 => k_is)
    (case a11 => k_is)
    (case l11 => k_is)
    (case c11 => k_is)
    (case k11 => k_is)
    (case a12 => k_is)
    (case l12 => k_is)
    (case c12 => k_is)
    (case k12 => k_is)
    (case a13 => k_is)
    (case l13 => k_is)
    (case c13 => k_is)
    (case k13 => k_is)
    (case a14 => k_is)
    (case l14 => k_is)
    (case c14 => k_is)
    (case k14 => k_is)
    (case a15 => k_is)
    (case l15 => k_is)
    (case c15 => k_is)
    (case k15 => k_is)
    (case a16 => k_is)
    (case l16 => k_is)
    (case c16 => k_is)
    (case k16 => k_is)
    (case a17 => k_is)
    (case l17 => k_is)
    (case c17 => k_is)
    (case k17 => k_is)
    (case a18 => k_is)
    (case l18 => k_is)
    (case c18 => k_is)
    (case k18 => k_is)
    (case a19 => k_is)
    (case l19 => k_is)
    (case c19 => k_is)
    (case k19 => k_is)
    (case fi20 => k_is)
    (case l20 => k_is)
    (case c20 => k_is)
    (case k20 => k_is)
    (case fi21 => k_is)
    (case l21 => k_is)
    (case c21 => k_is)
    (case k21 => k_is)
    (case fi22 => k_is)
    (case l22 => k_is)
    (case c22 => k_is)
    (case k22 => k_is)
    (case fi23 => k_is)
    (case l23 => k_is)
    (case c23 => k_is)
    (case k23 => k_is)
    (case fi24 => k_is)
    (case l24 => k_is)
    (case c24 => k_is)
    (case k24 => k_is)
    (case fi25 => k_is)
    (case l25 => k_is)
    (case c25 => k_is)
    (case k25 => k_is)
    (case fi26 => k_is)
    (case l26 => k_is)
    (case c26 => k_is)
    (case k26 => k_is)
    (case a27 => k_is)
    (case l27 => k_is)
    (case c27 => k_is)
    (case k27 => k_is)
    (case a28 => k_is)
    (case l28 => k_is)
    (case c28 => k_is)
    (case k28 => k_is)
    (case a29 => k_is)
    (case l29 => k_is)
    (case c29 => k_is)
    (case k29 => k_is)
    (case a30 => k_is)
    (case l30 => k_is)
    (case c30 => k_is)
    (case k30 => k_is)
    (case a31 => k_is)
    (case l31 => k_is)
    (case c31 => k_is)
    (case k31 => k_is)
    (case a32 => k_is)
    (case l32 => k_is)
    (case c32 => k_is)
    (case k32 => k_is)
    (case a33 => k_is)
    (case l33 => k_is)
    (case c33 => k_is)
    (case k33 => k_is)
    (case a34 => k_is)
    (case l34 => k_is)
    (case c34 => k_is)
    (case k34 => k_is)
    (case a35 => k_is)
    (case l35 => k_is)
    (case c35 => k_is)
    (case k35 => k_is)
    (case a36 => k_is)
    (case l36 => k_is)
    (case c36 => k_is)
    (case k36 => k_is)
    (case a37 => k_is)
    (case l37 => k_is)
    (case c37 => k_is)
    (case k37 => k_is)
    (case pg1 => k_is)
    (case hd1 => k_is)
    (case po1 => k_is)
    (case sa1 => k_is)
    (case mk1 => k_is)
    (case kc1 => k_is)
    (case is20 => k_is)
    (case is21 => k_is)
    (case is22 => k_is)
    (case is23 => k_is)
    (case is24 => k_is)
    (case is25 => k_is)
    (case is26 => k_is)
    (case na_RowReader_words => k_is)
    (case na_RowReader_place => k_is)
    (case z1 => k_is)
    (case z2 => k_is)
    (case z3 => k_is)
    (case z4 => k_is)
    (case z5 => k_is)
    (case z6 => k_is)
    (case z7 => k_is)
    (case z8 => k_is)
    (case z9 => k_is)
    (case z10 => k_is)
    (case z11 => k_is)
    (case z12 => k_is)
    (case z13 => k_is)
    (case z14 => k_is)
    (case z15 => k_is)
    (case y1 => k_is)
    (case x1 => first | exact ⟨_, rfl⟩ | rfl)
    (case y2 => k_is)
    (case x2 => first | exact ⟨_, rfl⟩ | rfl)
    (case y3 => k_is)
    (case x3 => first | exact ⟨_, rfl⟩ | rfl)
    (case y4 => k_is)
    (case x4 => first | exact ⟨_, rfl⟩ | rfl)
    (case y5 => k_is)
    (case x5 => first | exact ⟨_, rfl⟩ | rfl)
    (case y6 => k_is)
    (case x6 => first | exact ⟨_, rfl⟩ | rfl)
    (case y7 => k_is)
    (case x7 => first | exact ⟨_, rfl⟩ | rfl)
    (case y8 => k_is)
    (case x8 => first | exact ⟨_, rfl⟩ | rfl)
    (case y9 => k_is)
    (case x9 => first | exact ⟨_, rfl⟩ | rfl)
    (case y10 => k_is)
    (case x10 => first | exact ⟨_, rfl⟩ | rfl)
    (case tn1 => k_is)
    (case tl1 => k_is)
    (case tz1 => exact Nat.le_of_ble_eq_true rfl)
    (case tv1 => repeat (first | exact Paired.nil | refine Paired.cons ⟨_, rfl⟩ ?_))
    (case dg_s1 => k_is)
    (case dl_s1 => k_is)
    (case dk_s1 => k_keys)
    (case dx_s1_1 => k_is)
    (case dx_s1_0 => k_is)
    (case em_s1 => rfl)
    (case el_s1 => rfl)
    (case dg1 => k_is)
    (case dl1 => k_is)
    (case dk1 => k_keys)
    (case dx1_0 => k_is)
    (case dy1_0 => k_is)
    (case dz1_0 => exact Nat.le_of_ble_eq_true rfl)
    (case dv1_0 => repeat (first | exact Paired.nil | refine Paired.cons ⟨_, rfl⟩ ?_))
    (case dx1_1 => k_is)
    (case dy1_1 => k_is)
    (case dz1_1 => exact Nat.le_of_ble_eq_true rfl)
    (case dv1_1 => repeat (first | exact Paired.nil | refine Paired.cons ⟨_, rfl⟩ ?_))
    (case dx1_2 => k_is)
    (case dy1_2 => k_is)
    (case dz1_2 => exact Nat.le_of_ble_eq_true rfl)
    (case dv1_2 => repeat (first | exact Paired.nil | refine Paired.cons ⟨_, rfl⟩ ?_))
    (case dx1_3 => k_is)
    (case dy1_3 => k_is)
    (case dz1_3 => exact Nat.le_of_ble_eq_true rfl)
    (case dv1_3 => repeat (first | exact Paired.nil | refine Paired.cons ⟨_, rfl⟩ ?_))
    (case dx1_4 => k_is)
    (case dy1_4 => k_is)
    (case dz1_4 => exact Nat.le_of_ble_eq_true rfl)
    (case dv1_4 => repeat (first | exact Paired.nil | refine Paired.cons ⟨_, rfl⟩ ?_))
    (case dx1_5 => k_is)
    (case dy1_5 => k_is)
    (case dz1_5 => exact Nat.le_of_ble_eq_true rfl)
    (case dv1_5 => repeat (first | exact Paired.nil | refine Paired.cons ⟨_, rfl⟩ ?_))
    (case dx1_6 => k_is)
    (case dy1_6 => k_is)
    (case dz1_6 => exact Nat.le_of_ble_eq_true rfl)
    (case dv1_6 => repeat (first | exact Paired.nil | refine Paired.cons ⟨_, rfl⟩ ?_))
    (case dx1_7 => k_is)
    (case dy1_7 => k_is)
    (case dz1_7 => exact Nat.le_of_ble_eq_true rfl)
    (case dv1_7 => repeat (first | exact Paired.nil | refine Paired.cons ⟨_, rfl⟩ ?_))
    (case dx1_8 => k_is)
    (case dy1_8 => k_is)
    (case dz1_8 => exact Nat.le_of_ble_eq_true rfl)
    (case dv1_8 => repeat (first | exact Paired.nil | refine Paired.cons ⟨_, rfl⟩ ?_))
    (case dx1_9 => k_is)
    (case dy1_9 => k_is)
    (case dz1_9 => exact Nat.le_of_ble_eq_true rfl)
    (case dv1_9 => repeat (first | exact Paired.nil | refine Paired.cons ⟨_, rfl⟩ ?_))
    (case dx1_10 => k_is)
    (case dy1_10 => k_is)
    (case dz1_10 => exact Nat.le_of_ble_eq_true rfl)
    (case dv1_10 => repeat (first | exact Paired.nil | refine Paired.cons ⟨_, rfl⟩ ?_))
    (case dx1_11 => k_is)
    (case dy1_11 => k_is)
    (case dz1_11 => exact Nat.le_of_ble_eq_true rfl)
    (case dv1_11 => repeat (first | exact Paired.nil | refine Paired.cons ⟨_, rfl⟩ ?_))
    (case dx1_12 => k_is)
    (case dy1_12 => k_is)
    (case dz1_12 => exact Nat.le_of_ble_eq_true rfl)
    (case dv1_12 => repeat (first | exact Paired.nil | refine Paired.cons ⟨_, rfl⟩ ?_))
    (case dx1_13 => k_is)
    (case dy1_13 => k_is)
    (case dz1_13 => exact Nat.le_of_ble_eq_true rfl)
    (case dv1_13 => repeat (first | exact Paired.nil | refine Paired.cons ⟨_, rfl⟩ ?_))
    (case dx1_14 => k_is)
    (case dy1_14 => k_is)
    (case dz1_14 => exact Nat.le_of_ble_eq_true rfl)
    (case dv1_14 => repeat (first | exact Paired.nil | refine Paired.cons ⟨_, rfl⟩ ?_))
    (case dx1_15 => k_is)
    (case dy1_15 => k_is)
    (case dz1_15 => exact Nat.le_of_ble_eq_true rfl)
    (case dv1_15 => repeat (first | exact Paired.nil | refine Paired.cons ⟨_, rfl⟩ ?_))
    (case dx1_16 => k_is)
    (case dy1_16 => k_is)
    (case dz1_16 => exact Nat.le_of_ble_eq_true rfl)
    (case dv1_16 => repeat (first | exact Paired.nil | refine Paired.cons ⟨_, rfl⟩ ?_))
    (case dx1_17 => k_is)
    (case dy1_17 => k_is)
    (case dz1_17 => exact Nat.le_of_ble_eq_true rfl)
    (case dv1_17 => repeat (first | exact Paired.nil | refine Paired.cons ⟨_, rfl⟩ ?_))
    (case dx1_18 => k_is)
    (case dy1_18 => k_is)
    (case dz1_18 => exact Nat.le_of_ble_eq_true rfl)
    (case dv1_18 => repeat (first | exact Paired.nil | refine Paired.cons ⟨_, rfl⟩ ?_))
    (case dx1_19 => k_is)
    (case dy1_19 => k_is)
    (case dz1_19 => exact Nat.le_of_ble_eq_true rfl)
    (case dv1_19 => repeat (first | exact Paired.nil | refine Paired.cons ⟨_, rfl⟩ ?_))
    (case dx1_20 => k_is)
    (case dy1_20 => k_is)
    (case dz1_20 => exact Nat.le_of_ble_eq_true rfl)
    (case dv1_20 => repeat (first | exact Paired.nil | refine Paired.cons ⟨_, rfl⟩ ?_))
    (case dx1_21 => k_is)
    (case dy1_21 => k_is)
    (case dz1_21 => exact Nat.le_of_ble_eq_true rfl)
    (case dv1_21 => repeat (first | exact Paired.nil | refine Paired.cons ⟨_, rfl⟩ ?_))
    (case dx1_22 => k_is)
    (case dy1_22 => k_is)
    (case dz1_22 => exact Nat.le_of_ble_eq_true rfl)
    (case dv1_22 => repeat (first | exact Paired.nil | refine Paired.cons ⟨_, rfl⟩ ?_))
    (case dx1_23 => k_is)
    (case dy1_23 => k_is)
    (case dz1_23 => exact Nat.le_of_ble_eq_true rfl)
    (case dv1_23 => repeat (first | exact Paired.nil | refine Paired.cons ⟨_, rfl⟩ ?_))
    (case dx1_24 => k_is)
    (case dy1_24 => k_is)
    (case dz1_24 => exact Nat.le_of_ble_eq_true rfl)
    (case dv1_24 => repeat (first | exact Paired.nil | refine Paired.cons ⟨_, rfl⟩ ?_))
    (case dx1_25 => k_is)
    (case dy1_25 => k_is)
    (case dz1_25 => exact Nat.le_of_ble_eq_true rfl)
    (case dv1_25 => repeat (first | exact Paired.nil | refine Paired.cons ⟨_, rfl⟩ ?_))
    (case dx1_26 => k_is)
    (case dy1_26 => k_is)
    (case dz1_26 => exact Nat.le_of_ble_eq_true rfl)
    (case dv1_26 => repeat (first | exact Paired.nil | refine Paired.cons ⟨_, rfl⟩ ?_))
    (case dx1_27 => k_is)
    (case dy1_27 => k_is)
    (case dz1_27 => exact Nat.le_of_ble_eq_true rfl)
    (case dv1_27 => repeat (first | exact Paired.nil | refine Paired.cons ⟨_, rfl⟩ ?_))
    (case dx1_28 => k_is)
    (case dy1_28 => k_is)
    (case dz1_28 => exact Nat.le_of_ble_eq_true rfl)
    (case dv1_28 => repeat (first | exact Paired.nil | refine Paired.cons ⟨_, rfl⟩ ?_))
    (case dx1_29 => k_is)
    (case dy1_29 => k_is)
    (case dz1_29 => exact Nat.le_of_ble_eq_true rfl)
    (case dv1_29 => repeat (first | exact Paired.nil | refine Paired.cons ⟨_, rfl⟩ ?_))
    (case dx1_30 => k_is)
    (case dy1_30 => k_is)
    (case dz1_30 => exact Nat.le_of_ble_eq_true rfl)
    (case dv1_30 => repeat (first | exact Paired.nil | refine Paired.cons ⟨_, rfl⟩ ?_))
    (case dx1_31 => k_is)
    (case dy1_31 => k_is)
    (case dz1_31 => exact Nat.le_of_ble_eq_true rfl)
    (case dv1_31 => repeat (first | exact Paired.nil | refine Paired.cons ⟨_, rfl⟩ ?_))
    (case em1 => rfl)
    (case el1 => rfl)
    (case dg2 => k_is)
    (case dl2 => k_is)
    (case dk2 => k_keys)
    (case dx2_0 => k_is)
    (case dy2_0 => k_is)
    (case dz2_0 => exact Nat.le_of_ble_eq_true rfl)
    (case dv2_0 => repeat (first | exact Paired.nil | refine Paired.cons ⟨_, rfl⟩ ?_))
    (case dx2_1 => k_is)
    (case dy2_1 => k_is)
    (case dz2_1 => exact Nat.le_of_ble_eq_true rfl)
    (case dv2_1 => repeat (first | exact Paired.nil | refine Paired.cons ⟨_, rfl⟩ ?_))
    (case dx2_2 => k_is)
    (case dy2_2 => k_is)
    (case dz2_2 => exact Nat.le_of_ble_eq_true rfl)
    (case dv2_2 => repeat (first | exact Paired.nil | refine Paired.cons ⟨_, rfl⟩ ?_))
    (case dx2_3 => k_is)
    (case dy2_3 => k_is)
    (case dz2_3 => exact Nat.le_of_ble_eq_true rfl)
    (case dv2_3 => repeat (first | exact Paired.nil | refine Paired.cons ⟨_, rfl⟩ ?_))
    (case em2 => rfl)
    (case el2 => rfl)
    (case SP => exact ⟨by first | rfl | decide +kernel, by first | rfl | decide +kernel⟩)
