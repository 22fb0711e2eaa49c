import PyProof.Rows.All
import Wide.All
import OpenK.AllK
import Wide.FinOn
import HandS.ForMost
import HandS.IsInst
import HandS.Wide
import HandS.Style
import HandS.Conv
import HandS.RevRange
import HandS.Walk
import HandS.Property
import HandS.Star
import HandS.Codes
import HandS.TupAny
import PyProof.Rows.StrIntSpec
import HandS.ForExc
import HandS.Small
import HandS.RaiseMore
import HandS.FStr
import HandS.ExcIs
import HandS.WrittenGet
import HandS.More
import HandS.Text
import HandS.IntHex
import HandS.MakeKwOnly
import HandS.Defaults
import PySem.Challenge.RW_throughline_k74_record_lines
set_option Elab.async false
set_option linter.all false
set_option maxRecDepth 100000
set_option maxHeartbeats 4000000
namespace My
open PySem PySem.Spec L2
/-! ### readings, one rule a construct -/
section
variable {K : PySem.W.Frag} {σ : St} {H : Hp} {Q : VK} {v x y z : V} {ta tb te tc : TE} {tt tu : TT} {r : R2} {D : Ends} {ts us : TS} {P : Bool → Hp → Prop} {i j : Int}
theorem g_var {i : Nat} (h : σ[i]? = some (some v)) (q : Q v H) : tVar i σ H Q := ⟨v, h, q⟩
theorem g_c (q : Q v H) : tC v σ H Q := q
theorem g_op (h : ta σ H fun x H1 => tb σ H1 fun y H2 => r x y H2 Q) : tOp r ta tb σ H Q := h
theorem g_un {r : V → Hp → VK → Prop} (h : ta σ H fun x H1 => r x H1 Q) : tUn r ta σ H Q := h
theorem g_rI0 {g : Int → Int → V} (q : Q (g i j) H) : rI0 g (.int i) (.int j) H Q := ⟨i, j, rfl, rfl, q⟩
theorem g_rI {C : Int → Int → Prop} {g : Int → Int → V} (c : C i j) (q : Q (g i j) H) : rI C g (.int i) (.int j) H Q := ⟨i, j, rfl, rfl, c, q⟩
theorem g_rU {g : Int → V} (q : Q (g i) H) : rU g (.int i) H Q := ⟨i, rfl, q⟩
theorem g_rEqI (q : Q (.bl (decide (i = j))) H) : rEq (.int i) (.int j) H Q := ⟨rfl, by rw [dec_int]; exact q⟩
theorem g_rNeI (q : Q (.bl (!decide (i = j))) H) : rNe (.int i) (.int j) H Q := ⟨rfl, by rw [dec_int]; exact q⟩
theorem g_rEq (s : scal x y = true) (q : Q (.bl (decide (x = y))) H) : rEq x y H Q := ⟨s, q⟩
theorem g_rNe (s : scal x y = true) (q : Q (.bl (!decide (x = y))) H) : rNe x y H Q := ⟨s, q⟩
theorem g_isN {A : Prop} (q : A) : V.non = V.non ∧ A := ⟨rfl, q⟩
theorem g_rIsB {a b : Bool} (q : Q (.bl (decide (a = b))) H) : rIsB (.bl a) (.bl b) H Q := ⟨a, b, rfl, rfl, q⟩
theorem g_rNotB {a b : Bool} (q : Q (.bl (!decide (a = b))) H) : rNotB (.bl a) (.bl b) H Q := ⟨a, b, rfl, rfl, q⟩
theorem g_test {t : TE} (h : t σ H fun x H' => ∃ k, x = .bl k ∧ P k H') : tTest t σ H P := h
theorem g_B {t : TE} (h : t σ H fun x H' => ∃ k, x = .bl k ∧ P k H') : tB t σ H P := h
theorem g_bl {b : Bool} {A : Bool → Prop} (q : A b) : ∃ k, V.bl b = .bl k ∧ A k := ⟨b, rfl, q⟩
theorem g_and (h : tt σ H fun c H1 => if c = true then tu σ H1 P else P false H1) : tAnd tt tu σ H P := h
theorem g_or (h : tt σ H fun c H1 => if c = true then P true H1 else tu σ H1 P) : tOr tt tu σ H P := h
theorem g_not (h : tt σ H fun c H1 => P (!c) H1) : tNot tt σ H P := h
theorem g_andV (h : ta σ H fun x H1 => ∃ c, x = .bl c ∧ if c = true then tb σ H1 Q else Q (.bl false) H1) : tAndV ta tb σ H Q := h
theorem g_orV (h : ta σ H fun x H1 => ∃ c, x = .bl c ∧ if c = true then Q (.bl true) H1 else tb σ H1 Q) : tOrV ta tb σ H Q := h
theorem g_notV (h : ta σ H fun x H1 => ∃ c, x = .bl c ∧ Q (.bl (!c)) H1) : tNotV ta σ H Q := h
theorem g_if (h : tt σ H fun c H1 => if c = true then ta σ H1 Q else tb σ H1 Q) : tIf tt ta tb σ H Q := h
theorem g_chain {r' : R2} (h : ta σ H fun x H1 => tb σ H1 fun y H2 => r x y H2 fun z H3 => ∃ k, z = .bl k ∧ (if k = true then tc σ H3 fun w' H4 => r' y w' H4 Q else Q (.bl false) H3)) : tChain r r' ta tb tc σ H Q := h
theorem g_nil {A : List V → Hp → Prop} (q : A [] H) : tNil σ H A := q
theorem g_cons {tr : TA} {A : List V → Hp → Prop} (h : ta σ H fun x H1 => tr σ H1 fun xs H2 => A (x :: xs) H2) : tCons ta tr σ H A := h
theorem g_tup {t : TA} (h : t σ H fun xs H1 => xs.length ≤ sizeLine ∧ ∀ p, H1 p = none → Q (.ref p) (upd H1 p (.tup xs))) : tTup t σ H Q := h
theorem g_lst {t : TA} (h : t σ H fun xs H1 => xs.length ≤ sizeLine ∧ ∀ p, H1 p = none → Q (.ref p) (upd H1 p (.lst xs))) : tLst t σ H Q := h
theorem g_call {sp : Sp} {dvs : List V} {E : XK} {t : TA} (h : t σ H fun vs H1 => sp (vs ++ dvs) H1 Q E) : tCall sp dvs E t σ H Q := h
theorem g_CB {r : List V → Hp → VK → Prop} {t : TA} (h : t σ H fun vs H1 => r vs H1 Q) : tCB r t σ H Q := h
theorem g_sl {r : V → Option Int → Option Int → Hp → VK → Prop} {tl th : TO} (h : te σ H fun x H1 => tl σ H1 fun l H2 => th σ H2 fun u H3 => r x l u H3 Q) : tSl r te tl th σ H Q := h
theorem g_noPart {A : Option Int → Hp → Prop} (q : A none H) : tNoPart σ H A := q
theorem g_part {A : Option Int → Hp → Prop} (h : te σ H fun x H1 => ∃ i, x = .int i ∧ A (some i) H1) : tPart te σ H A := h
theorem g_intE {A : Int → Prop} (q : A i) : ∃ k, V.int i = .int k ∧ A k := ⟨i, rfl, q⟩
theorem g_seq (h : ts { D with nx := us D } σ H) : tSeq ts us D σ H := h
theorem g_next (q : D.nx σ H) : tNext D σ H := q
theorem g_brk (q : D.bk σ H) : tBreak D σ H := q
theorem g_ct (q : D.ct σ H) : tCont D σ H := q
theorem g_asg {g : TG} (h : te σ H fun x H1 => g x σ H1 D.nx) : tAsg te g D σ H := h
theorem g_name {i : Nat} {A : St → Hp → Prop} (q : A (σ.set i (some v)) H) : gName i v σ H A := q
theorem g_aug {i : Nat} {ti : TIp} (h : σ[i]? = some (some x)) (q : te σ H fun y H1 => ti x y H1 fun z H2 => D.nx (σ.set i (some z)) H2) : tAug i te ti D σ H := ⟨x, h, q⟩
theorem g_ipI {f : Int → Int → Int} (q : Q (.int (f i j)) H) : ipI f (.int i) (.int j) H Q := ⟨i, j, rfl, rfl, q⟩
theorem g_drop (h : te σ H fun _ H1 => D.nx σ H1) : tDrop te D σ H := h
theorem g_ret (h : te σ H D.rt) : tRet te D σ H := h
theorem g_retN (q : D.rt .non H) : tRetN D σ H := q
theorem g_ifS (h : tt σ H fun b H1 => if b = true then ts D σ H1 else us D σ H1) : tIfS tt ts us D σ H := h
theorem g_for {wi : TI} {g : TG} {tb : TS} (h : wi σ H fun J H1 => ∃ W : Nat → Nat → St → Hp → Prop, (∃ m, W 0 m σ H1) ∧ ∀ i m σ H, W i m σ H →
    (J.stop i H ∧ D.nx σ H) ∨ (J.go i H ∧ ∃ N : St → Hp → Prop, (∀ σ' H', N σ' H' → ∃ m', m' < m ∧ W (i + 1) m' σ' H') ∧ ∀ x H', J.yld i H x H' → g x σ H' fun σ2 H2 => tb { D with nx := N, ct := N, bk := D.nx } σ2 H2)) : tFor wi g tb D σ H := h
theorem g_iT {c : Bool} {A B : Prop} (e : c = true) (h : A) : if c = true then A else B := by rw [if_pos e]; exact h
theorem g_iF {c : Bool} {A B : Prop} (e : c = false) (h : B) : if c = true then A else B := by rw [e]; exact iteF h
theorem g_ite {p A B : Prop} [Decidable p] (h1 : p → A) (h2 : ¬ p → B) : if decide p = true then A else B := by
  by_cases h : p
  · rw [decide_eq_true h]; exact iteT (h1 h)
  · rw [decide_eq_false h]; exact iteF (h2 h)
theorem g_iteN {p A B : Prop} [Decidable p] (h1 : ¬ p → A) (h2 : p → B) : if (!decide p) = true then A else B := by
  by_cases h : p
  · rw [decide_eq_true h]; exact iteF (h2 h)
  · rw [decide_eq_false h]; exact iteT (h1 h)
theorem g_iteB {b : Bool} {A B : Prop} (h1 : b = true → A) (h2 : b = false → B) : if b = true then A else B := by
  cases b with
  | true => exact iteT (h1 rfl)
  | false => exact iteF (h2 rfl)
theorem g_iteNB {b : Bool} {A B : Prop} (h1 : b = false → A) (h2 : b = true → B) : if (!b) = true then A else B := by
  cases b with
  | true => exact iteF (h2 rfl)
  | false => exact iteT (h1 rfl)
/-! calls of built-ins, by values -/
theorem g_int1 {A : Int → Prop} {B : Bool → Prop} (q : A i) : (∃ i', [V.int i] = [V.int i'] ∧ A i') ∨ ∃ k, [V.int i] = [V.bl k] ∧ B k := .inl ⟨i, rfl, q⟩
theorem g_int1B {b : Bool} {A : Int → Prop} {B : Bool → Prop} (q : B b) : (∃ i', [V.bl b] = [V.int i'] ∧ A i') ∨ ∃ k, [V.bl b] = [V.bl k] ∧ B k := .inr ⟨b, rfl, q⟩
theorem g_one {A : Int → Prop} (q : A i) : ∃ i', [V.int i] = [V.int i'] ∧ A i' := ⟨i, rfl, q⟩
theorem g_two {A : Int → Int → Prop} (q : A i j) : ∃ i' j', [V.int i, V.int j] = [V.int i', V.int j'] ∧ A i' j' := ⟨i, j, rfl, q⟩
theorem g_isi {c : V} {t u : Value} {b : Bool} (hc : ClsV c u) (ht : TyX K H x t) (e : PySem.W.kitOne K t u = some b) (q : Q (.bl b) H) : rIsi K [x, c] H Q := ⟨x, c, t, u, b, rfl, hc, ht, e, q⟩
theorem g_isiI (q : Q (.bl true) H) : rIsi K [.int i, .ty "int"] H Q := g_isi (.ty _) (.base (.int _)) (kit_ty (by decide +kernel)) q
theorem g_isiB {b : Bool} (q : Q (.bl true) H) : rIsi K [.bl b, .ty "bool"] H Q := g_isi (.ty _) (.base (.bl _)) (kit_ty (by decide +kernel)) q
theorem g_isiIB (q : Q (.bl false) H) : rIsi K [.int i, .ty "bool"] H Q := g_isi (.ty _) (.base (.int _)) (kit_ty (by decide +kernel)) q
theorem g_isiL {p : Addr} {xs : List V} (h : H p = some (.lst xs)) (q : Q (.bl true) H) : rIsi K [.ref p, .ty "list"] H Q := g_isi (.ty _) (.base (.lst h)) (kit_ty (by decide +kernel)) q
theorem g_isiU {p : Addr} {xs : List V} (h : H p = some (.tup xs)) (q : Q (.bl true) H) : rIsi K [.ref p, .ty "tuple"] H Q := g_isi (.ty _) (.base (.tup h)) (kit_ty (by decide +kernel)) q
theorem g_ixL {p : Addr} {xs : List V} (h : SqL K H p xs) (e : atI xs i = some v) (q : Q v H) : rIxL K (.ref p) (.int i) H Q := ⟨p, xs, i, v, rfl, rfl, h, e, q⟩
theorem g_ixT {p : Addr} {xs : List V} (h : SqT K H p xs) (e : atI xs i = some v) (q : Q v H) : rIxT K (.ref p) (.int i) H Q := ⟨p, xs, i, v, rfl, rfl, h, e, q⟩
theorem g_append {p : Addr} {xs : List V} (h : H p = some (.lst xs)) (l : xs.length < sizeLine) (q : Q .non (upd H p (.lst (xs ++ [y])))) : rAppend (.ref p) [y] H Q := ⟨p, xs, y, rfl, rfl, h, l, q⟩
theorem g_BM {T : String} {r : V → List V → Hp → VK → Prop} {t : TA} (h : te σ H fun x H1 => tyV K T x H1 ∧ t σ H1 fun xs H2 => r x xs H2 Q) : tBM K T r te t σ H Q := h
theorem g_BM0 {T : String} {r : V → List V → Hp → VK → Prop} (h : te σ H fun x H1 => tyV K T x H1 ∧ r x [] H1 Q) : tBM0 K T r te σ H Q := h
theorem ty_l {p : Addr} {xs : List V} (h : H p = some (.lst xs)) : tyV K "list" (.ref p) H := Or.inl ⟨rfl, _, Or.inl (Or.inl h)⟩
theorem g_setL {p : Addr} {xs : List V} {k : Int} {j : Nat} {A : Hp → Prop} (h : H p = some (.lst xs)) (e : ixN xs.length k = some j) (q : A (upd H p (.lst (xs.set j v)))) : rSetL (.ref p) (.int k) v H A := ⟨p, xs, k, j, rfl, rfl, h, e, q⟩
theorem g_sub {to ti : TE} {t : TSet} {A : St → Hp → Prop} (h : to σ H fun o H1 => ti σ H1 fun i H2 => t o i v H2 fun H3 => A σ H3) : gSub to ti t v σ H A := h
theorem g_len {p : Addr} {xs : List V} {A : Addr → List V → Prop} (h : SqL K H p xs ∨ SqT K H p xs) (q : A p xs) : ∃ p' ys, [V.ref p] = [V.ref p'] ∧ (SqL K H p' ys ∨ SqT K H p' ys) ∧ A p' ys := ⟨p, xs, rfl, h, q⟩
theorem g_slL {p : Addr} {xs : List V} {lo hi : Option Int} (h : SqL K H p xs) (q : ∀ l, H l = none → Q (.ref l) (upd H l (.lst (cutV xs lo hi)))) : rSlL K (.ref p) lo hi H Q := ⟨p, xs, rfl, h, q⟩
theorem g_cat {p q : Addr} {xs ys : List V} (h : H p = some (.lst xs)) (h2 : H q = some (.lst ys)) (l : xs.length + ys.length ≤ sizeLine) (k : ∀ l, H l = none → Q (.ref l) (upd H l (.lst (xs ++ ys)))) : rCat (.ref p) (.ref q) H Q := ⟨p, q, xs, ys, rfl, rfl, h, h2, l, k⟩
end
/-! ### heaps -/
theorem same_upd {H : Hp} {p : Addr} {o : HO} (h : H p = none) : Same H (upd H p o) := fun b x e => by
  rw [upd_ne (ne_of_none e h)]
  exact e
theorem sm {H H' : Hp} {p : Addr} {o : HO} (s : Same H H') (h : H p = some o) : H' p = some o := s p o h
theorem sq_upd {K : PySem.W.Frag} {H : Hp} {p a : Addr} {o : HO} {xs : List V} (n : H p = none) (h : SqL K H a xs) : SqL K (upd H p o) a xs := (same_upd n).seq h
theorem sl {K : PySem.W.Frag} {H : Hp} {a : Addr} {xs : List V} (h : H a = some (.lst xs)) : SqL K H a xs := Or.inl (Or.inl h)
theorem st {K : PySem.W.Frag} {H : Hp} {a : Addr} {xs : List V} (h : H a = some (.tup xs)) : SqT K H a xs := Or.inl (Or.inl h)
theorem Same.sqt {K : PySem.W.Frag} {H H' : Hp} {a : Addr} {xs : List V} (e : Same H H') (h : SqT K H a xs) : SqT K H' a xs := by
  rcases h with (h | ⟨o, h⟩) | h
  · exact .inl (.inl (e _ _ h))
  · exact .inl (.inr ⟨o, e _ _ h⟩)
  · exact .inr h
theorem upd_keep {H : Hp} {p b : Addr} {o o' : HO} (n : H p = none) (h : H b = some o') : upd H p o b = some o' := (same_upd n) b o' h
theorem ne_new {H : Hp} {p b : Addr} {o : HO} (h : H b = some o) (n : H p = none) : b ≠ p := ne_of_none h n
/-- H' is H but at p -/
def But (p : Addr) (H H' : Hp) : Prop := ∀ b o, b ≠ p → H b = some o → H' b = some o
theorem But.refl {p : Addr} {H : Hp} : But p H H := fun _ _ _ h => h
theorem But.of {p : Addr} {H H' : Hp} (s : Same H H') : But p H H' := fun b o _ h => s b o h
theorem But.trans {p : Addr} {H H1 H2 : Hp} (a : But p H H1) (b : But p H1 H2) : But p H H2 := fun c o n h => b c o n (a c o n h)
theorem But.upd {p : Addr} {H H' : Hp} {o : HO} (a : But p H H') : But p H (upd H' p o) := fun b o n h => by rw [upd_ne n]; exact a b o n h
theorem But.same {p : Addr} {H H' : Hp} (a : But p H H') (n : H p = none) : Same H H' := fun b o h => a b o (ne_of_none h n) h
theorem But.tr2 {p : Addr} {H H1 H2 : Hp} (s : Same H H1) (n : H p = none) (a : But p H1 H2) : Same H H2 := fun b o h => a b o (ne_of_none h n) (s b o h)
/-! ### numbers -/
theorem cdivW {a b : Int} (h : 0 < b) (h2 : b < 2 ^ 8000) : CDivW a b := by
  refine ⟨h, ?_⟩
  have e : b.natAbs < 2 ^ 8000 := by
    have : ((b.natAbs : Nat) : Int) < ((2 ^ 8000 : Nat) : Int) := by
      rw [Int.natAbs_of_nonneg (Int.le_of_lt h)]
      exact_mod_cast h2
    exact_mod_cast this
  by_cases z : b.natAbs = 0
  · rw [z]; decide
  · exact Nat.lt_of_lt_of_le (Nat.log2_lt z |>.mpr e) (by decide)
theorem sz {n : Nat} (h : n ≤ 100000) : n ≤ sizeLine := Nat.le_trans h (by decide)
theorem szl {n : Nat} (h : n < 100000) : n < sizeLine := Nat.lt_of_lt_of_le h (by decide)
/-! ### loops -/
theorem for_l {K : PySem.W.Frag} {tl : TE} {g : TG} {tb : TS} {D : Ends} {σ : St} {H : Hp} {a : Addr} {xs : List V} (Pv : Nat → St → Hp → Prop) (hs : SqL K H a xs) (h0 : Pv 0 σ H) (hl : ∀ i σ H, i ≤ xs.length → Pv i σ H → SqL K H a xs)
    (turn : ∀ i x σ H, xs[i]? = some x → Pv i σ H → g x σ H fun σ2 H2 => tb { D with nx := Pv (i + 1), ct := Pv (i + 1), bk := D.nx } σ2 H2) (hd : ∀ σ H, Pv xs.length σ H → D.nx σ H) (e : ∀ R : V → Hp → Prop, R (.ref a) H → tl σ H R) : tFor (iList K tl) g tb D σ H := by
  refine g_for ?_
  refine e _ ⟨a, rfl, ⟨_, hs⟩, ?_⟩
  exact for_list (xs := xs) Pv h0 hl turn hd
theorem for_r {ta : TA} {g : TG} {tb : TS} {D : Ends} {σ : St} {H : Hp} {n : Int} (N : Nat) (en : n.toNat = N) (b1 : -(2 ^ 62) ≤ n) (b2 : n < 2 ^ 62) (Pv : Nat → St → Hp → Prop) (h0 : Pv 0 σ H)
    (turn : ∀ (i : Nat) σ H, i < N → Pv i σ H → g (.int (i : Int)) σ H fun σ2 H2 => tb { D with nx := Pv (i + 1), ct := Pv (i + 1), bk := D.nx } σ2 H2) (hd : ∀ σ H, Pv N σ H → D.nx σ H) (e : ∀ R : List V → Hp → Prop, R [.int n] H → ta σ H R) : tFor (iRng1 ta) g tb D σ H := by
  subst en
  refine g_for ?_
  refine e _ ⟨n, rfl, b1, b2, ?_⟩
  refine for_range (lo := 0) Pv h0 (fun i σ H hi p => ?_) hd
  have z := turn i σ H hi p
  rw [Int.zero_add]
  exact z
theorem g_nx {nx : St → Hp → Prop} {rt : VK} {bk ct : St → Hp → Prop} {σ : St} {H : Hp} (q : nx σ H) : (Ends.mk nx rt bk ct).nx σ H := q
theorem g_bkE {nx : St → Hp → Prop} {rt : VK} {bk ct : St → Hp → Prop} {σ : St} {H : Hp} (q : bk σ H) : (Ends.mk nx rt bk ct).bk σ H := q
theorem g_ctE {nx : St → Hp → Prop} {rt : VK} {bk ct : St → Hp → Prop} {σ : St} {H : Hp} (q : ct σ H) : (Ends.mk nx rt bk ct).ct σ H := q
theorem g_rt {nx : St → Hp → Prop} {rt : VK} {bk ct : St → Hp → Prop} {v : V} {H : Hp} (q : rt v H) : (Ends.mk nx rt bk ct).rt v H := q
/-- a cell of the script -/
def cell (ns : List Int) (k : Int) : Int := ns.getD k.toNat 0
theorem atI_map {ns : List Int} {k : Int} (h0 : 0 ≤ k) (h : k < (ns.length : Int)) : atI (ns.map V.int) k = some (.int (cell ns k)) := by
  have e : k = ((k.toNat : Nat) : Int) := by omega
  have hl : k.toNat < ns.length := by omega
  have e2 : cell ns k = ns[k.toNat] := by
    unfold cell
    rw [List.getD_eq_getElem?_getD, List.getElem?_eq_getElem hl]; rfl
  rw [e2]
  refine at_of e ?_
  rw [List.getElem?_map, List.getElem?_eq_getElem hl]; rfl
theorem cell_out {ns : List Int} {k : Int} (h : ¬ k < (ns.length : Int)) : cell ns k = 0 := by
  unfold cell
  rw [List.getD_eq_getElem?_getD, List.getElem?_eq_none (by omega)]; rfl
theorem atI_some {xs : List V} {i : Int} (h0 : 0 ≤ i) (h : i < (xs.length : Int)) : ∃ v, xs[i.toNat]? = some v ∧ atI xs i = some v := by
  have hl : i.toNat < xs.length := by omega
  exact ⟨xs[i.toNat], List.getElem?_eq_getElem hl, at_of (by omega) (List.getElem?_eq_getElem hl)⟩
theorem atI_ints {xs : List Int} {i : Int} (h0 : 0 ≤ i) (h : i < (xs.length : Int)) : ∃ n, atI (xs.map V.int) i = some (.int n) ∧ xs[i.toNat]? = some n := by
  have hl : i.toNat < xs.length := by omega
  refine ⟨xs[i.toNat], at_of (j := i.toNat) (by omega) ?_, List.getElem?_eq_getElem hl⟩
  rw [List.getElem?_map, List.getElem?_eq_getElem hl]; rfl
theorem g_dT {p A B : Prop} [Decidable p] (h : p) (q : A) : if decide p = true then A else B := by rw [decide_eq_true h]; exact iteT q
theorem g_dF {p A B : Prop} [Decidable p] (h : ¬ p) (q : B) : if decide p = true then A else B := by rw [decide_eq_false h]; exact iteF q
theorem g_nT {p A B : Prop} [Decidable p] (h : ¬ p) (q : A) : if (!decide p) = true then A else B := by rw [decide_eq_false h]; exact iteT q
theorem g_nF {p A B : Prop} [Decidable p] (h : p) (q : B) : if (!decide p) = true then A else B := by rw [decide_eq_true h]; exact iteF q
/-! ### comprehensions: the list ys, value by value -/
theorem g_yes {σ : St} {H : Hp} {P : Bool → Hp → Prop} (q : P true H) : tYes σ H P := q
theorem g_lc {wi : TI} {g : TG} {tt : TT} {te : TE} {vs : List Nat} {σ : St} {H : Hp} {Q : VK} (h : wi σ H fun J H1 => ∀ D, H1 D = none → ∃ W : Nat → Nat → Hp → Prop, (∃ m, W 0 m (upd H1 D (.lst []))) ∧ ∀ i m H, W i m H →
  (J.stop i H ∧ Q (.ref D) H) ∨ (J.go i H ∧ ∃ Nx : Hp → Prop, (∀ H', Nx H' → ∃ m', m' < m ∧ W (i + 1) m' H') ∧ ∀ x H', J.yld i H x H' → g x (wipe σ vs) H' fun σ2 H2 => wipe σ2 vs = wipe σ vs ∧ tt σ2 H2 fun b H3 =>
    if b = true then te σ2 H3 fun y H4 => ∃ acc, H4 D = some (.lst acc) ∧ acc.length < sizeLine ∧ Nx (upd H4 D (.lst (acc ++ [y]))) else Nx H3)) : tLc wi g tt te vs σ H Q := h
theorem g_revR {ta : TE} {σ : St} {H : Hp} {R : It → Hp → Prop} (h : ta σ H fun x H1 => ∃ n : Int, x = .int n ∧ -(2 ^ 62) ≤ (0 : Int) ∧ (0 : Int) < 2 ^ 62 ∧ -(2 ^ 62) ≤ n ∧ n < 2 ^ 62 ∧ R (Itc (0 + (((n - 0).toNat : Nat) : Int) - 1) (-1) (n - 0).toNat) H1) : iRevR (tRg1 ta) σ H R := h
theorem g_rng1 {ta : TA} {σ : St} {H : Hp} {R : It → Hp → Prop} (h : ta σ H fun vs H1 => ∃ j : Int, vs = [.int j] ∧ -(2 ^ 62) ≤ j ∧ j < 2 ^ 62 ∧ R (Itr 0 j.toNat) H1) : iRng1 ta σ H R := h
theorem g_iList {K : PySem.W.Frag} {tl : TE} {σ : St} {H : Hp} {R : It → Hp → Prop} (h : tl σ H fun x H1 => ∃ a, x = .ref a ∧ (∃ xs, SqL K H1 a xs) ∧ R (Itl K a) H1) : iList K tl σ H R := h
def LcP (H1 : Hp) (D : Addr) (ys : List V) (i : Nat) (H : Hp) : Prop := Same H1 H ∧ H D = some (.lst (ys.take i))
theorem lc_vals {J : It} {n : Nat} {G : Hp → Prop} {Y : Nat → Hp → V → Hp → Prop} (w : Walk J n G Y) (ys : List V) {g : TG} {tt : TT} {te : TE} {vs : List Nat} {σ : St} {H1 : Hp} {D : Addr} {Qd : Hp → Prop} (hD : H1 D = none) (hlen : ys.length = n) (hG : ∀ H, Same H1 H → G H)
    (hs : ∀ i x H H', i < n → LcP H1 D ys i H → Y i H x H' → g x (wipe σ vs) H' fun σ2 H2 => wipe σ2 vs = wipe σ vs ∧ tt σ2 H2 fun b H3 =>
      if b = true then te σ2 H3 fun y H4 => ∃ acc, H4 D = some (.lst acc) ∧ acc.length < sizeLine ∧ LcP H1 D ys (i + 1) (upd H4 D (.lst (acc ++ [y]))) else LcP H1 D ys (i + 1) H3)
    (hd : ∀ H, Same H1 H → H D = some (.lst ys) → Qd H) :
    ∃ W : Nat → Nat → Hp → Prop, (∃ m, W 0 m (upd H1 D (.lst []))) ∧ ∀ i m H, W i m H →
      (J.stop i H ∧ Qd H) ∨ (J.go i H ∧ ∃ Nx : Hp → Prop, (∀ H', Nx H' → ∃ m', m' < m ∧ W (i + 1) m' H') ∧ ∀ x H', J.yld i H x H' → g x (wipe σ vs) H' fun σ2 H2 => wipe σ2 vs = wipe σ vs ∧ tt σ2 H2 fun b H3 =>
        if b = true then te σ2 H3 fun y H4 => ∃ acc, H4 D = some (.lst acc) ∧ acc.length < sizeLine ∧ Nx (upd H4 D (.lst (acc ++ [y]))) else Nx H3) := by
  refine lc_it w (LcP H1 D ys) ⟨same_upd hD, by rw [upd_same]; rfl⟩ (fun i H _ p => hG H p.1) hs (fun H p => hd H p.1 ?_)
  have e := p.2
  rw [← hlen, List.take_length] at e
  exact e
theorem lc_next {H1 H4 : Hp} {D : Addr} {ys : List V} {i : Nat} {y : V} (hD : H1 D = none) (p : LcP H1 D ys i H4) (hz : ys.length ≤ 100000) (hy : ys[i]? = some y) :
    ∃ acc, H4 D = some (.lst acc) ∧ acc.length < sizeLine ∧ LcP H1 D ys (i + 1) (upd H4 D (.lst (acc ++ [y]))) := by
  refine ⟨_, p.2, ?_, ?_, ?_⟩
  · rw [List.length_take]
    obtain ⟨h, _⟩ := List.getElem?_eq_some_iff.mp hy
    exact szl (by omega)
  · exact (But.of p.1).upd.same hD
  · rw [upd_same, List.take_add_one, hy]
    rfl
theorem LcP.same {H1 H4 H5 : Hp} {D : Addr} {ys : List V} {i : Nat} (p : LcP H1 D ys i H4) (s : Same H4 H5) : LcP H1 D ys i H5 := ⟨p.1.trans s, s _ _ p.2⟩
theorem map_get {α : Type} {f : α → V} {xs : List α} {i : Nat} {y : V} (h : (xs.map f)[i]? = some y) : ∃ z, xs[i]? = some z ∧ y = f z := by
  rw [List.getElem?_map] at h
  cases e : xs[i]? with
  | none => rw [e] at h; cases h
  | some z => rw [e] at h; exact ⟨z, rfl, (Option.some.inj h).symm⟩
/-! ### == of lists of ints -/
section
variable {K : PySem.W.Frag} {H : Hp} {Q : VK}
theorem dpAll_ints : ∀ {ns : List Int}, DpAll K H (ns.map V.int) (ns.map PyData.int)
  | [] => .nil
  | n :: _ => .cons (.int n) dpAll_ints
theorem lay_ints : ∀ {ns : List Int}, PyData.canLayAll0 (ns.map PyData.int) = true
  | [] => rfl
  | _ :: ns => by
    show (true && PyData.canLayAll0 (ns.map PyData.int)) = true
    rw [lay_ints]; rfl
theorem depth_ints : ∀ {ns : List Int}, PyData.depthAll (ns.map PyData.int) = 0
  | [] => rfl
  | _ :: ns => by
    show max 0 (PyData.depthAll (ns.map PyData.int)) = 0
    rw [depth_ints]; rfl
theorem shaped_ints {ns : List Int} : SeqAt.shaped (.list (ns.map PyData.int)) = true := by
  show (PyData.canLayAll0 (ns.map PyData.int) && decide (PyData.depthAll (ns.map PyData.int) + 1 ≤ 64)) = true
  rw [lay_ints, depth_ints]; rfl
theorem eqvAll_ints : ∀ {ns ms : List Int}, PyData.eqvAll (ns.map PyData.int) (ms.map PyData.int) = decide (ns = ms)
  | [], [] => rfl
  | [], _ :: _ => rfl
  | _ :: _, [] => rfl
  | n :: ns, m :: ms => by
    show ((n == m) && PyData.eqvAll (ns.map PyData.int) (ms.map PyData.int)) = decide (n :: ns = m :: ms)
    rw [eqvAll_ints, Bool.eq_iff_iff]
    simp
theorem dp_ints {a : Addr} {ns : List Int} (h : SqL K H a (ns.map V.int)) : Dp K H (.ref a) (.list (ns.map PyData.int)) := .lst h dpAll_ints
theorem g_eqL {a b : Addr} {ns ms : List Int} (h1 : SqL K H a (ns.map V.int)) (h2 : SqL K H b (ms.map V.int)) (q : Q (.bl (decide (ns = ms))) H) : rEqD K (.ref a) (.ref b) H Q :=
  ⟨_, _, dp_ints h1, dp_ints h2, shaped_ints, shaped_ints, by rw [show PyData.eqv (.list (ns.map PyData.int)) (.list (ms.map PyData.int)) = decide (ns = ms) from eqvAll_ints]; exact q⟩
theorem g_neL {a b : Addr} {ns ms : List Int} (h1 : SqL K H a (ns.map V.int)) (h2 : SqL K H b (ms.map V.int)) (q : Q (.bl (!decide (ns = ms))) H) : rNeD K (.ref a) (.ref b) H Q :=
  ⟨_, _, dp_ints h1, dp_ints h2, shaped_ints, shaped_ints, by rw [show PyData.eqv (.list (ns.map PyData.int)) (.list (ms.map PyData.int)) = decide (ns = ms) from eqvAll_ints]; exact q⟩
theorem g_sum {a : Addr} {ns : List Int} (h : SqL K H a (ns.map V.int)) (q : Q (.int ns.sum) H) : rSum K [.ref a] H Q := ⟨a, ns, rfl, h, q⟩
end
theorem ixN_nat {n : Nat} {k : Int} (h0 : 0 ≤ k) (h : k < (n : Int)) : ixN n k = some k.toNat := by
  unfold ixN
  rw [if_pos h0, if_pos h]
theorem g_ref {a : Addr} {A : Addr → Prop} (q : A a) : ∃ b, V.ref a = .ref b ∧ A b := ⟨a, rfl, q⟩
/-! ### objects: the attributes by their places -/
def obj : List Str → List V → List (Str × V)
  | k :: ks, v :: vs => (k, v) :: obj ks vs
  | _, _ => []
theorem obj_len : ∀ (ks : List Str) (vs : List V), (obj ks vs).length ≤ ks.length
  | [], _ => Nat.zero_le _
  | _ :: _, [] => Nat.zero_le _
  | _ :: ks, _ :: vs => Nat.succ_le_succ (obj_len ks vs)
theorem obj_get : ∀ {ks : List Str} {vs : List V} {i : Nat} {k : Str}, ks.Nodup → ks[i]? = some k → (obj ks vs).lookup k = vs[i]?
  | [], _, _, _, _, h => by cases h
  | k0 :: ks, [], i, k, _, _ => by simp [obj]
  | k0 :: ks, v :: vs, 0, k, _, h => by
    have e : k0 = k := Option.some.inj h
    subst e
    simp [obj]
  | k0 :: ks, v :: vs, i + 1, k, nd, h => by
    have nd' := List.nodup_cons.mp nd
    have hk : k ∈ ks := List.mem_of_getElem? h
    have ne : (k == k0) = false := by
      rw [beq_eq_false_iff_ne]
      intro e
      subst e
      exact nd'.1 hk
    show List.lookup k ((k0, v) :: obj ks vs) = vs[i]?
    rw [List.lookup_cons, ne]
    exact obj_get nd'.2 h
theorem obj_none : ∀ {ks : List Str} {vs : List V} {k : Str}, k ∉ ks → (obj ks vs).lookup k = none
  | [], _, _, _ => rfl
  | _ :: _, [], _, _ => rfl
  | k0 :: ks, v :: vs, k, h => by
    have ne : (k == k0) = false := by
      rw [beq_eq_false_iff_ne]
      intro e
      subst e
      exact h (List.mem_cons_self ..)
    show List.lookup k ((k0, v) :: obj ks vs) = none
    rw [List.lookup_cons, ne]
    exact obj_none fun z => h (List.mem_cons_of_mem _ z)
theorem obj_put : ∀ {ks : List Str} {vs : List V} {i : Nat} {k : Str} {y : V}, ks.Nodup → ks[i]? = some k → i < vs.length → putF k y (obj ks vs) = obj ks (vs.set i y)
  | [], _, _, _, _, _, h, _ => by cases h
  | _ :: _, [], _, _, _, _, _, h => by simp at h
  | k0 :: ks, v :: vs, 0, k, y, _, h, _ => by
    have e : k0 = k := Option.some.inj h
    subst e
    show (if k0 = k0 then _ else _) = _
    rw [if_pos rfl]
    rfl
  | k0 :: ks, v :: vs, i + 1, k, y, nd, h, hl => by
    have nd' := List.nodup_cons.mp nd
    have hk : k ∈ ks := List.mem_of_getElem? h
    have ne : ¬ k0 = k := by
      intro e
      subst e
      exact nd'.1 hk
    show (if k0 = k then _ else (k0, v) :: putF k y (obj ks vs)) = (k0, v) :: obj ks (vs.set i y)
    rw [if_neg ne, obj_put nd'.2 h (by simpa using hl)]
theorem obj_new : ∀ {ks : List Str} {vs : List V} {k : Str} {y : V}, ks.Nodup → ks[vs.length]? = some k → putF k y (obj ks vs) = obj ks (vs ++ [y])
  | [], _, _, _, _, h => by simp at h
  | k0 :: ks, [], k, y, _, h => by
    have e : k0 = k := Option.some.inj h
    subst e
    show [(k0, y)] = obj (k0 :: ks) [y]
    cases ks <;> rfl
  | k0 :: ks, v :: vs, k, y, nd, h => by
    have nd' := List.nodup_cons.mp nd
    have h' : ks[vs.length]? = some k := h
    have hk : k ∈ ks := List.mem_of_getElem? h'
    have ne : ¬ k0 = k := by
      intro e
      subst e
      exact nd'.1 hk
    show (if k0 = k then _ else (k0, v) :: putF k y (obj ks vs)) = (k0, v) :: obj ks (vs ++ [y])
    rw [if_neg ne, obj_new nd'.2 h']
section
variable {K : PySem.W.Frag} {σ : St} {H : Hp} {Q : VK} {v y : V} {ta tv : TE} {D : Ends} {f m : Str} {a C dx : Addr} {ks : List Str} {vs : List V} {i : Nat}
theorem g_fld (h : ta σ H fun x H1 => ∃ a C dx fs v, x = .ref a ∧ H1 a = some (.ins C dx fs) ∧ Cls K C ∧ NoAttr K C f ∧ fs.lookup f = some v ∧ Q v H1) : tFld K ta f σ H Q := h
theorem g_fldE {A : V → Prop} (ho : H a = some (.ins C dx (obj ks vs))) (c : Cls K C) (n : NoAttr K C f) (nd : ks.Nodup) (hk : ks[i]? = some f) (hv : vs[i]? = some v) (q : A v) :
    ∃ a' C' dx' fs v', V.ref a = .ref a' ∧ H a' = some (.ins C' dx' fs) ∧ Cls K C' ∧ NoAttr K C' f ∧ fs.lookup f = some v' ∧ A v' := ⟨a, C, dx, _, v, rfl, ho, c, n, (obj_get nd hk).trans hv, q⟩
theorem g_sfld (h : tv σ H fun y H1 => ta σ H1 fun x H2 => ∃ a C dx fs, x = .ref a ∧ H2 a = some (.ins C dx fs) ∧ Cls K C ∧ NoAttr K C f ∧ fs.length < 1000 ∧ D.nx σ (upd H2 a (.ins C dx (putF f y fs)))) : sFld K ta tv f D σ H := h
theorem g_putE {A : Hp → Prop} (ho : H a = some (.ins C dx (obj ks vs))) (c : Cls K C) (n : NoAttr K C f) (nd : ks.Nodup) (h1 : ks.length < 1000) (hk : ks[i]? = some f) (hv : i < vs.length) (q : A (upd H a (.ins C dx (obj ks (vs.set i y))))) :
    ∃ a' C' dx' fs, V.ref a = .ref a' ∧ H a' = some (.ins C' dx' fs) ∧ Cls K C' ∧ NoAttr K C' f ∧ fs.length < 1000 ∧ A (upd H a' (.ins C' dx' (putF f y fs))) :=
  ⟨a, C, dx, _, rfl, ho, c, n, Nat.lt_of_le_of_lt (obj_len ks vs) h1, by rw [obj_put nd hk hv]; exact q⟩
theorem g_newE {A : Hp → Prop} (ho : H a = some (.ins C dx (obj ks vs))) (c : Cls K C) (n : NoAttr K C f) (nd : ks.Nodup) (h1 : ks.length < 1000) (hk : ks[vs.length]? = some f) (q : A (upd H a (.ins C dx (obj ks (vs ++ [y]))))) :
    ∃ a' C' dx' fs, V.ref a = .ref a' ∧ H a' = some (.ins C' dx' fs) ∧ Cls K C' ∧ NoAttr K C' f ∧ fs.length < 1000 ∧ A (upd H a' (.ins C' dx' (putF f y fs))) :=
  ⟨a, C, dx, _, rfl, ho, c, n, Nat.lt_of_le_of_lt (obj_len ks vs) h1, by rw [obj_new nd hk]; exact q⟩
theorem g_meth {sp : Sp} {dvs : List V} {E : XK} {t : TA} (h : ta σ H fun x H1 => ∃ a dx fs, x = .ref a ∧ H1 a = some (.ins C dx fs) ∧ fs.lookup m = none ∧ t σ H1 fun vs H2 => sp (x :: (vs ++ dvs)) H2 Q E) : tMeth C m sp dvs E ta t σ H Q := h
theorem g_methE {A : Prop} (ho : H a = some (.ins C dx (obj ks vs))) (no : m ∉ ks) (q : A) : ∃ a' dx' fs, V.ref a = .ref a' ∧ H a' = some (.ins C dx' fs) ∧ fs.lookup m = none ∧ A := ⟨a, dx, _, rfl, ho, obj_none no, q⟩
theorem g_make {sp : Sp} {dvs : List V} {E : XK} {t : TA} (h : t σ H fun vs H1 => ∀ x dx, H1 x = none → H1 dx = none → dx ≠ x → sp (.ref x :: (vs ++ dvs)) (upd (upd H1 dx (.own x)) x (.ins C dx [])) (fun v H2 => v = .non ∧ Q (.ref x) H2) E) : tMake C sp dvs E t σ H Q := h
theorem g_prop {sp : Sp} {dvs : List V} {E : XK} (h : ta σ H fun x H1 => ∃ a dx fs, x = .ref a ∧ H1 a = some (.ins C dx fs) ∧ sp (.ref a :: dvs) H1 Q E) : tProp C sp dvs E ta σ H Q := h
theorem g_propE {A : Addr → Prop} (ho : H a = some (.ins C dx (obj ks vs))) (q : A a) : ∃ a' dx' fs, V.ref a = .ref a' ∧ H a' = some (.ins C dx' fs) ∧ A a' := ⟨a, dx, _, rfl, ho, q⟩
theorem g_absE {A : Int → Prop} {n : Int} (q : A n) : ∃ i, [V.int n] = [V.int i] ∧ A i := ⟨n, rfl, q⟩
end
/-- a slice of ints -/
theorem cut_ints (ns : List Int) (lo hi : Option Int) : ∃ ms : List Int, cutV (ns.map V.int) lo hi = ms.map V.int ∧ ms.length ≤ ns.length := by
  unfold cutV
  refine ⟨(ns.drop (HT.sIx (ns.map V.int).length 0 lo)).take (HT.sIx (ns.map V.int).length (ns.map V.int).length hi - HT.sIx (ns.map V.int).length 0 lo), ?_, ?_⟩
  · rw [List.map_take, List.map_drop]
  · rw [List.length_take, List.length_drop]
    omega
theorem g_nameE {i : Nat} {v : V} {σ σ' : St} {H : Hp} {A : St → Hp → Prop} (e : σ.set i (some v) = σ') (q : A σ' H) : gName i v σ H A := by
  subst e
  exact q
theorem but_sq {K : PySem.W.Frag} {p : Addr} {H H' : Hp} {a : Addr} {xs : List V} (e : But p H H') (n : a ≠ p) (h : SqL K H a xs) : SqL K H' a xs := by
  rcases h with (h | ⟨o, h⟩) | h
  · exact .inl (.inl (e _ _ n h))
  · exact .inl (.inr ⟨o, e _ _ n h⟩)
  · exact .inr h
theorem g_star {K : PySem.W.Frag} {te : TE} {t : TA} {σ : St} {H : Hp} {Q : List V → Hp → Prop} (h : te σ H fun x H1 => ∃ p xs, x = V.ref p ∧ (SqT K H1 p xs ∨ SqL K H1 p xs) ∧ t σ H1 fun ys H2 => Q (xs ++ ys) H2) : StX.tStar K te t σ H Q := h
theorem g_while {c : TT} {tb : TS} {D : Ends} {σ : St} {H : Hp} (W : Nat → St → Hp → Prop) (h0 : ∃ m, W m σ H) (h : ∀ m σ H, W m σ H → c σ H fun b H1 => if b = true then ∃ N : St → Hp → Prop, (∀ σ' H', N σ' H' → ∃ m', m' < m ∧ W m' σ' H') ∧ tb { D with nx := N, ct := N, bk := D.nx } σ H1 else D.nx σ H1) : tWhile c tb D σ H := ⟨W, h0, h⟩
theorem g_cut {t u : TS} {D : Ends} {σ : St} {H : Hp} (Mid : St → Hp → Prop) (h1 : t { D with nx := Mid } σ H) (h2 : ∀ σ' H', Mid σ' H' → u D σ' H') : C8.tCut t u D σ H := ⟨Mid, h1, h2⟩
theorem g_min {K : PySem.W.Frag} {a : Addr} {ns : List Int} {H : Hp} {Q : VK} (h : SqL K H a (ns.map V.int)) (h0 : 0 < ns.length) (q : ∀ m, m ∈ ns → (∀ y, y ∈ ns → m ≤ y) → Q (.int m) H) : rMin K [.ref a] H Q := ⟨a, ns, rfl, h, h0, q⟩
theorem g_max {K : PySem.W.Frag} {a : Addr} {ns : List Int} {H : Hp} {Q : VK} (h : SqL K H a (ns.map V.int)) (h0 : 0 < ns.length) (q : ∀ m, m ∈ ns → (∀ y, y ∈ ns → y ≤ m) → Q (.int m) H) : rMax K [.ref a] H Q := ⟨a, ns, rfl, h, h0, q⟩
theorem atI_nat' {xs : List V} {i : Int} {j : Nat} {v : V} (e : i = (j : Int)) (h : xs[j]? = some v) : atI xs i = some v := at_of e h
theorem ixN_last {n : Nat} (h : 0 < n) : ixN n (-1) = some (n - 1) := by
  unfold ixN
  rw [if_neg (by decide), if_pos (by omega)]
  congr 1
  omega
theorem atI_neg1 {xs : List V} {v : V} (h : xs[xs.length - 1]? = some v) : atI xs (-1) = some v := by
  obtain ⟨hl, _⟩ := List.getElem?_eq_some_iff.mp h
  unfold atI
  rw [ixN_last (by omega)]
  exact h
theorem snoc_of {α : Type} {xs : List α} (h : 0 < xs.length) : ∃ a x, xs = a ++ [x] :=
  ⟨xs.dropLast, xs.getLast (List.ne_nil_of_length_pos h), (List.dropLast_concat_getLast _).symm⟩
theorem set_last {α : Type} {a : List α} {x y : α} : (a ++ [x]).set a.length y = a ++ [y] := by
  rw [List.set_append_right _ _ (Nat.le_refl _), Nat.sub_self]
  rfl
end My
namespace My
open PySem PySem.Spec L2
local macro_rules | `(tactic| walk_at "side") => `(tactic| first | assumption | decide | omega | exact ⟨by decide, by decide⟩ | exact ⟨by decide, by decide, by decide⟩ | decide +kernel | exact cdivW (by decide +kernel) (by decide +kernel) | exact Or.inl ⟨by omega, by omega⟩ | exact Or.inr ⟨by omega, by omega⟩ | (simp only [List.length_map, List.length_cons, List.length_nil, List.length_append]; omega))
local macro_rules | `(tactic| walk_at "fact") => `(tactic| first | assumption | omega | with_reducible rfl)
local macro_rules | `(tactic| walk_at "use") => `(tactic| fail "use")
local macro_rules | `(tactic| walk_at "go1") => `(tactic| with_reducible first | refine g_seq ?_ | refine g_asg ?_ | refine g_ret ?_ | refine g_ifS ?_ | refine g_drop ?_ | refine g_star ?_ | refine g_nx ?_ | refine g_rt ?_ | refine g_bkE ?_ | refine g_ctE ?_ | refine g_next ?_ | refine g_retN ?_ | refine g_brk ?_ | refine g_ct ?_ | refine g_c ?_ | refine g_op ?_ | refine g_un ?_ | refine g_rI0 ?_ | refine g_rU ?_ | refine g_rEqI ?_ | refine g_rNeI ?_ | refine g_isN ?_ | refine g_rIsB ?_ | refine g_rNotB ?_ | refine g_test ?_ | refine g_B ?_ | refine g_bl ?_ | refine g_and ?_ | refine g_or ?_ | refine g_not ?_ | refine g_andV ?_ | refine g_orV ?_ | refine g_notV ?_ | refine g_if ?_ | refine g_chain ?_ | refine g_yes ?_ | refine g_lc ?_ | refine g_revR ?_ | refine g_rng1 ?_ | refine g_iList ?_ | refine g_nil ?_ | refine g_cons ?_ | refine g_tup ?_ | refine g_lst ?_ | refine g_call ?_ | refine g_CB ?_ | refine g_sl ?_ | refine g_noPart ?_ | refine g_part ?_ | refine g_intE ?_ | refine g_ref ?_ | refine g_fld ?_ | refine g_sfld ?_ | refine g_meth ?_ | refine g_make ?_ | refine g_prop ?_  | refine g_ipI ?_ | refine g_int1 ?_ | refine g_int1B ?_ | refine g_one ?_ | refine g_two ?_ | refine g_isiI ?_ | refine g_isiIB ?_ | refine g_isiB ?_ | refine g_BM ?_ | refine g_BM0 ?_ | refine g_sub ?_)
local macro_rules | `(tactic| walk_at "go") => `(tactic| repeat (first | walk_at "go1" | ((with_reducible refine' g_nameE ?sd_ ?_); case sd_ => dsimp only [List.set_cons_succ, List.set_cons_zero]) | ((with_reducible refine' g_var ?sd_ ?_); case sd_ => exact rfl) | ((with_reducible refine' g_aug ?sd_ ?_); case sd_ => exact rfl) | ((with_reducible refine' g_rI ?sd_ ?_); case sd_ => walk_at "side") | ((with_reducible refine' g_dT ?sd_ ?_); case sd_ => walk_at "fact") | ((with_reducible refine' g_dF ?sd_ ?_); case sd_ => walk_at "fact") | ((with_reducible refine' g_nT ?sd_ ?_); case sd_ => walk_at "fact") | ((with_reducible refine' g_nF ?sd_ ?_); case sd_ => walk_at "fact") | (with_reducible refine g_iT rfl ?_) | (with_reducible refine g_iF rfl ?_) | walk_at "use"))
def topS (i : Nat) : Stmt := PySem.Challenge.pw_throughline_k74_record_lines.main.body.getD i (.Pass ⟨0, 0, 0, 0⟩)
abbrev s_to_hex : Stmt := topS 2
abbrev s_write_record : Stmt := topS 4
abbrev s_write_records : Stmt := topS 5
abbrev s_Packet_init__ : Stmt := inClass (topS 7) 0
abbrev s_Packet_fork : Stmt := inClass (topS 7) 2
abbrev s_Record_init__ : Stmt := inClass (topS 9) 0
abbrev s_l_is_integer : Stmt := topS 11
abbrev s_l_row : Stmt := topS 12
abbrev s_l_octets : Stmt := topS 13
abbrev s_l_number : Stmt := topS 14
abbrev s_l_parts : Stmt := topS 15
abbrev s_l_made : Stmt := topS 16
abbrev s_l_line : Stmt := topS 17
abbrev s_l_same : Stmt := topS 18
abbrev s_law : Stmt := topS 19
theorem sc_to_hex : FnScope ["octets", "octet"] ["octets"] (defScope s_to_hex) := ⟨rfl, rfl, rfl, by decide +kernel, rfl, by decide +kernel, by decide +kernel⟩
theorem sc_write_record : FnScope ["record", "packet", "mark", "octets"] ["record"] (defScope s_write_record) := ⟨rfl, rfl, rfl, by decide +kernel, rfl, by decide +kernel, by decide +kernel⟩
theorem sc_write_records : FnScope ["records", "record"] ["records"] (defScope s_write_records) := ⟨rfl, rfl, rfl, by decide +kernel, rfl, by decide +kernel, by decide +kernel⟩
theorem sc_Packet_init__ : FnScope ["self", "sender", "target", "octets", "marked"] ["self", "sender", "target", "octets", "marked"] (defScope s_Packet_init__) := ⟨rfl, rfl, rfl, by decide +kernel, rfl, by decide +kernel, by decide +kernel⟩
theorem sc_Packet_fork : FnScope ["self"] ["self"] (defScope s_Packet_fork) := ⟨rfl, rfl, rfl, by decide +kernel, rfl, by decide +kernel, by decide +kernel⟩
theorem sc_Record_init__ : FnScope ["self", "tick", "number", "word", "packet"] ["self", "tick", "number", "word", "packet"] (defScope s_Record_init__) := ⟨rfl, rfl, rfl, by decide +kernel, rfl, by decide +kernel, by decide +kernel⟩
theorem sc_l_is_integer : FnScope ["actual"] ["actual"] (defScope s_l_is_integer) := ⟨rfl, rfl, rfl, by decide +kernel, rfl, by decide +kernel, by decide +kernel⟩
theorem sc_l_row : FnScope ["cell", "size", "base", "row", "number", "k", "mixed"] ["cell", "size", "base"] (defScope s_l_row) := ⟨rfl, rfl, rfl, by decide +kernel, rfl, by decide +kernel, by decide +kernel⟩
theorem sc_l_octets : FnScope ["actual", "expected", "k"] ["actual", "expected"] (defScope s_l_octets) := ⟨rfl, rfl, rfl, by decide +kernel, rfl, by decide +kernel, by decide +kernel⟩
theorem sc_l_number : FnScope ["cell"] ["cell"] (defScope s_l_number) := ⟨rfl, rfl, rfl, by decide +kernel, rfl, by decide +kernel, by decide +kernel⟩
theorem sc_l_parts : FnScope ["cell", "more", "word", "octets", "marked", "numbers"] ["cell", "more"] (defScope s_l_parts) := ⟨rfl, rfl, rfl, by decide +kernel, rfl, by decide +kernel, by decide +kernel⟩
theorem sc_l_made : FnScope ["parts"] ["parts"] (defScope s_l_made) := ⟨rfl, rfl, rfl, by decide +kernel, rfl, by decide +kernel, by decide +kernel⟩
theorem sc_l_line : FnScope ["parts", "digits", "octets", "words", "octet"] ["parts"] (defScope s_l_line) := ⟨rfl, rfl, rfl, by decide +kernel, rfl, by decide +kernel, by decide +kernel⟩
theorem sc_l_same : FnScope ["actual", "parts", "numbers", "expected", "k"] ["actual", "parts"] (defScope s_l_same) := ⟨rfl, rfl, rfl, by decide +kernel, rfl, by decide +kernel, by decide +kernel⟩
theorem sc_law : FnScope ["script", "parts", "records", "text", "k", "line", "given", "actual", "part"] ["script"] (defScope s_law) := ⟨rfl, rfl, rfl, by decide +kernel, rfl, by decide +kernel, by decide +kernel⟩
structure Txt (K : PySem.W.Frag) (mg : Str → Option Value) where
  C_Packet : Addr
  C_Record : Addr
  f_to_hex : Addr
  d_to_hex : FuncData
  f_write_record : Addr
  d_write_record : FuncData
  f_write_records : Addr
  d_write_records : FuncData
  f_Packet_init__ : Addr
  d_Packet_init__ : FuncData
  f_Packet_fork : Addr
  d_Packet_fork : FuncData
  f_Record_init__ : Addr
  d_Record_init__ : FuncData
  f_l_is_integer : Addr
  d_l_is_integer : FuncData
  f_l_row : Addr
  d_l_row : FuncData
  f_l_octets : Addr
  d_l_octets : FuncData
  f_l_number : Addr
  d_l_number : FuncData
  f_l_parts : Addr
  d_l_parts : FuncData
  f_l_made : Addr
  d_l_made : FuncData
  f_l_line : Addr
  d_l_line : FuncData
  f_l_same : Addr
  d_l_same : FuncData
  f_law : Addr
  d_law : FuncData
  c_Packet : mg "Packet" = some (.ref C_Packet)
  k_Packet : Cls K C_Packet
  i_Packet : ∀ {H : Hp} {a dx : Addr} {fs : List (Str × V)}, H a = some (.ins C_Packet dx fs) → TyOf K H (.ref a) (.ref C_Packet)
  n_Packet_sender : NoAttr K C_Packet "sender"
  n_Packet_target : NoAttr K C_Packet "target"
  n_Packet_octets : NoAttr K C_Packet "octets"
  n_Packet_marked : NoAttr K C_Packet "marked"
  c_Record : mg "Record" = some (.ref C_Record)
  k_Record : Cls K C_Record
  i_Record : ∀ {H : Hp} {a dx : Addr} {fs : List (Str × V)}, H a = some (.ins C_Record dx fs) → TyOf K H (.ref a) (.ref C_Record)
  n_Record_tick : NoAttr K C_Record "tick"
  n_Record_number : NoAttr K C_Record "number"
  n_Record_word : NoAttr K C_Record "word"
  n_Record_packet : NoAttr K C_Record "packet"
  F_to_hex : Fun K "to_hex" "to_hex" s_to_hex f_to_hex d_to_hex
  b_to_hex : Binds K d_to_hex ["octets"] []
  m_to_hex : mg "to_hex" = some (.ref f_to_hex)
  F_write_record : Fun K "write_record" "write_record" s_write_record f_write_record d_write_record
  b_write_record : Binds K d_write_record ["record"] []
  m_write_record : mg "write_record" = some (.ref f_write_record)
  F_write_records : Fun K "write_records" "write_records" s_write_records f_write_records d_write_records
  b_write_records : Binds K d_write_records ["records"] []
  m_write_records : mg "write_records" = some (.ref f_write_records)
  F_Packet_init__ : FunD K "__init__" "Packet.__init__" (defArgs s_Packet_init__) (defBody s_Packet_init__) (defScope s_Packet_init__) [] [("marked", .bl false)] f_Packet_init__ d_Packet_init__
  mk_Packet : Mk K C_Packet f_Packet_init__
  F_Packet_fork : Fun K "fork" "Packet.fork" s_Packet_fork f_Packet_fork d_Packet_fork
  b_Packet_fork : Binds K d_Packet_fork ["self"] []
  a_Packet_fork : Meth K C_Packet "fork" f_Packet_fork
  F_Record_init__ : Fun K "__init__" "Record.__init__" s_Record_init__ f_Record_init__ d_Record_init__
  b_Record_init__ : Binds K d_Record_init__ ["self", "tick", "number", "word", "packet"] []
  mk_Record : Mk K C_Record f_Record_init__
  F_l_is_integer : Fun K "_law_is_integer" "_law_is_integer" s_l_is_integer f_l_is_integer d_l_is_integer
  b_l_is_integer : Binds K d_l_is_integer ["actual"] []
  m_l_is_integer : mg "_law_is_integer" = some (.ref f_l_is_integer)
  F_l_row : Fun K "_law_row" "_law_row" s_l_row f_l_row d_l_row
  b_l_row : Binds K d_l_row ["cell", "size", "base"] []
  m_l_row : mg "_law_row" = some (.ref f_l_row)
  F_l_octets : Fun K "_law_octets" "_law_octets" s_l_octets f_l_octets d_l_octets
  b_l_octets : Binds K d_l_octets ["actual", "expected"] []
  m_l_octets : mg "_law_octets" = some (.ref f_l_octets)
  F_l_number : Fun K "_law_number" "_law_number" s_l_number f_l_number d_l_number
  b_l_number : Binds K d_l_number ["cell"] []
  m_l_number : mg "_law_number" = some (.ref f_l_number)
  F_l_parts : Fun K "_law_parts" "_law_parts" s_l_parts f_l_parts d_l_parts
  b_l_parts : Binds K d_l_parts ["cell", "more"] []
  m_l_parts : mg "_law_parts" = some (.ref f_l_parts)
  F_l_made : Fun K "_law_made" "_law_made" s_l_made f_l_made d_l_made
  b_l_made : Binds K d_l_made ["parts"] []
  m_l_made : mg "_law_made" = some (.ref f_l_made)
  F_l_line : Fun K "_law_line" "_law_line" s_l_line f_l_line d_l_line
  b_l_line : Binds K d_l_line ["parts"] []
  m_l_line : mg "_law_line" = some (.ref f_l_line)
  F_l_same : Fun K "_law_same" "_law_same" s_l_same f_l_same d_l_same
  b_l_same : Binds K d_l_same ["actual", "parts"] []
  m_l_same : mg "_law_same" = some (.ref f_l_same)
  F_law : Fun K "law" "law" s_law f_law d_law
  b_law : Binds K d_law ["script"] []
  m_law : mg "law" = some (.ref f_law)
  n_bool : mg "bool" = none
  n_int : mg "int" = none
  n_isinstance : mg "isinstance" = none
  n_len : mg "len" = none
  n_list : mg "list" = none
  n_min : mg "min" = none
  n_range : mg "range" = none
  n_str : mg "str" = none
def ky_Packet : List Str := ["sender", "target", "octets", "marked"]
theorem nd_Packet : ky_Packet.Nodup := by decide +kernel
section
variable {K : PySem.W.Frag} {mg : Str → Option Value} {T : Txt K mg} {H : Hp} {a dx : Addr} {vs : List V} {v y : V}
theorem fd_Packet_sender {A : V → Prop} (ho : H a = some (.ins T.C_Packet dx (obj ky_Packet vs))) (hv : vs[0]? = some v) (q : A v) : ∃ a' C' dx' fs v', V.ref a = .ref a' ∧ H a' = some (.ins C' dx' fs) ∧ Cls K C' ∧ NoAttr K C' "sender" ∧ fs.lookup ("sender" : Str) = some v' ∧ A v' := g_fldE ho T.k_Packet T.n_Packet_sender nd_Packet rfl hv q
theorem st_Packet_sender {A : Hp → Prop} (ho : H a = some (.ins T.C_Packet dx (obj ky_Packet vs))) (hv : 0 < vs.length) (q : A (upd H a (.ins T.C_Packet dx (obj ky_Packet (vs.set 0 y))))) : ∃ a' C' dx' fs, V.ref a = .ref a' ∧ H a' = some (.ins C' dx' fs) ∧ Cls K C' ∧ NoAttr K C' "sender" ∧ fs.length < 1000 ∧ A (upd H a' (.ins C' dx' (putF "sender" y fs))) := g_putE ho T.k_Packet T.n_Packet_sender nd_Packet (by decide) rfl hv q
theorem nw_Packet_sender {A : Hp → Prop} (ho : H a = some (.ins T.C_Packet dx (obj ky_Packet vs))) (hv : vs.length = 0) (q : A (upd H a (.ins T.C_Packet dx (obj ky_Packet (vs ++ [y]))))) : ∃ a' C' dx' fs, V.ref a = .ref a' ∧ H a' = some (.ins C' dx' fs) ∧ Cls K C' ∧ NoAttr K C' "sender" ∧ fs.length < 1000 ∧ A (upd H a' (.ins C' dx' (putF "sender" y fs))) := g_newE ho T.k_Packet T.n_Packet_sender nd_Packet (by decide) (by rw [hv]; rfl) q
theorem fd_Packet_target {A : V → Prop} (ho : H a = some (.ins T.C_Packet dx (obj ky_Packet vs))) (hv : vs[1]? = some v) (q : A v) : ∃ a' C' dx' fs v', V.ref a = .ref a' ∧ H a' = some (.ins C' dx' fs) ∧ Cls K C' ∧ NoAttr K C' "target" ∧ fs.lookup ("target" : Str) = some v' ∧ A v' := g_fldE ho T.k_Packet T.n_Packet_target nd_Packet rfl hv q
theorem st_Packet_target {A : Hp → Prop} (ho : H a = some (.ins T.C_Packet dx (obj ky_Packet vs))) (hv : 1 < vs.length) (q : A (upd H a (.ins T.C_Packet dx (obj ky_Packet (vs.set 1 y))))) : ∃ a' C' dx' fs, V.ref a = .ref a' ∧ H a' = some (.ins C' dx' fs) ∧ Cls K C' ∧ NoAttr K C' "target" ∧ fs.length < 1000 ∧ A (upd H a' (.ins C' dx' (putF "target" y fs))) := g_putE ho T.k_Packet T.n_Packet_target nd_Packet (by decide) rfl hv q
theorem nw_Packet_target {A : Hp → Prop} (ho : H a = some (.ins T.C_Packet dx (obj ky_Packet vs))) (hv : vs.length = 1) (q : A (upd H a (.ins T.C_Packet dx (obj ky_Packet (vs ++ [y]))))) : ∃ a' C' dx' fs, V.ref a = .ref a' ∧ H a' = some (.ins C' dx' fs) ∧ Cls K C' ∧ NoAttr K C' "target" ∧ fs.length < 1000 ∧ A (upd H a' (.ins C' dx' (putF "target" y fs))) := g_newE ho T.k_Packet T.n_Packet_target nd_Packet (by decide) (by rw [hv]; rfl) q
theorem fd_Packet_octets {A : V → Prop} (ho : H a = some (.ins T.C_Packet dx (obj ky_Packet vs))) (hv : vs[2]? = some v) (q : A v) : ∃ a' C' dx' fs v', V.ref a = .ref a' ∧ H a' = some (.ins C' dx' fs) ∧ Cls K C' ∧ NoAttr K C' "octets" ∧ fs.lookup ("octets" : Str) = some v' ∧ A v' := g_fldE ho T.k_Packet T.n_Packet_octets nd_Packet rfl hv q
theorem st_Packet_octets {A : Hp → Prop} (ho : H a = some (.ins T.C_Packet dx (obj ky_Packet vs))) (hv : 2 < vs.length) (q : A (upd H a (.ins T.C_Packet dx (obj ky_Packet (vs.set 2 y))))) : ∃ a' C' dx' fs, V.ref a = .ref a' ∧ H a' = some (.ins C' dx' fs) ∧ Cls K C' ∧ NoAttr K C' "octets" ∧ fs.length < 1000 ∧ A (upd H a' (.ins C' dx' (putF "octets" y fs))) := g_putE ho T.k_Packet T.n_Packet_octets nd_Packet (by decide) rfl hv q
theorem nw_Packet_octets {A : Hp → Prop} (ho : H a = some (.ins T.C_Packet dx (obj ky_Packet vs))) (hv : vs.length = 2) (q : A (upd H a (.ins T.C_Packet dx (obj ky_Packet (vs ++ [y]))))) : ∃ a' C' dx' fs, V.ref a = .ref a' ∧ H a' = some (.ins C' dx' fs) ∧ Cls K C' ∧ NoAttr K C' "octets" ∧ fs.length < 1000 ∧ A (upd H a' (.ins C' dx' (putF "octets" y fs))) := g_newE ho T.k_Packet T.n_Packet_octets nd_Packet (by decide) (by rw [hv]; rfl) q
theorem fd_Packet_marked {A : V → Prop} (ho : H a = some (.ins T.C_Packet dx (obj ky_Packet vs))) (hv : vs[3]? = some v) (q : A v) : ∃ a' C' dx' fs v', V.ref a = .ref a' ∧ H a' = some (.ins C' dx' fs) ∧ Cls K C' ∧ NoAttr K C' "marked" ∧ fs.lookup ("marked" : Str) = some v' ∧ A v' := g_fldE ho T.k_Packet T.n_Packet_marked nd_Packet rfl hv q
theorem st_Packet_marked {A : Hp → Prop} (ho : H a = some (.ins T.C_Packet dx (obj ky_Packet vs))) (hv : 3 < vs.length) (q : A (upd H a (.ins T.C_Packet dx (obj ky_Packet (vs.set 3 y))))) : ∃ a' C' dx' fs, V.ref a = .ref a' ∧ H a' = some (.ins C' dx' fs) ∧ Cls K C' ∧ NoAttr K C' "marked" ∧ fs.length < 1000 ∧ A (upd H a' (.ins C' dx' (putF "marked" y fs))) := g_putE ho T.k_Packet T.n_Packet_marked nd_Packet (by decide) rfl hv q
theorem nw_Packet_marked {A : Hp → Prop} (ho : H a = some (.ins T.C_Packet dx (obj ky_Packet vs))) (hv : vs.length = 3) (q : A (upd H a (.ins T.C_Packet dx (obj ky_Packet (vs ++ [y]))))) : ∃ a' C' dx' fs, V.ref a = .ref a' ∧ H a' = some (.ins C' dx' fs) ∧ Cls K C' ∧ NoAttr K C' "marked" ∧ fs.length < 1000 ∧ A (upd H a' (.ins C' dx' (putF "marked" y fs))) := g_newE ho T.k_Packet T.n_Packet_marked nd_Packet (by decide) (by rw [hv]; rfl) q
theorem me_Packet_fork {A : Prop} (ho : H a = some (.ins T.C_Packet dx (obj ky_Packet vs))) (q : A) : ∃ a' dx' fs, V.ref a = .ref a' ∧ H a' = some (.ins T.C_Packet dx' fs) ∧ fs.lookup ("fork" : Str) = none ∧ A := g_methE ho (by decide +kernel) q
end
def ky_Record : List Str := ["tick", "number", "word", "packet"]
theorem nd_Record : ky_Record.Nodup := by decide +kernel
section
variable {K : PySem.W.Frag} {mg : Str → Option Value} {T : Txt K mg} {H : Hp} {a dx : Addr} {vs : List V} {v y : V}
theorem fd_Record_tick {A : V → Prop} (ho : H a = some (.ins T.C_Record dx (obj ky_Record vs))) (hv : vs[0]? = some v) (q : A v) : ∃ a' C' dx' fs v', V.ref a = .ref a' ∧ H a' = some (.ins C' dx' fs) ∧ Cls K C' ∧ NoAttr K C' "tick" ∧ fs.lookup ("tick" : Str) = some v' ∧ A v' := g_fldE ho T.k_Record T.n_Record_tick nd_Record rfl hv q
theorem st_Record_tick {A : Hp → Prop} (ho : H a = some (.ins T.C_Record dx (obj ky_Record vs))) (hv : 0 < vs.length) (q : A (upd H a (.ins T.C_Record dx (obj ky_Record (vs.set 0 y))))) : ∃ a' C' dx' fs, V.ref a = .ref a' ∧ H a' = some (.ins C' dx' fs) ∧ Cls K C' ∧ NoAttr K C' "tick" ∧ fs.length < 1000 ∧ A (upd H a' (.ins C' dx' (putF "tick" y fs))) := g_putE ho T.k_Record T.n_Record_tick nd_Record (by decide) rfl hv q
theorem nw_Record_tick {A : Hp → Prop} (ho : H a = some (.ins T.C_Record dx (obj ky_Record vs))) (hv : vs.length = 0) (q : A (upd H a (.ins T.C_Record dx (obj ky_Record (vs ++ [y]))))) : ∃ a' C' dx' fs, V.ref a = .ref a' ∧ H a' = some (.ins C' dx' fs) ∧ Cls K C' ∧ NoAttr K C' "tick" ∧ fs.length < 1000 ∧ A (upd H a' (.ins C' dx' (putF "tick" y fs))) := g_newE ho T.k_Record T.n_Record_tick nd_Record (by decide) (by rw [hv]; rfl) q
theorem fd_Record_number {A : V → Prop} (ho : H a = some (.ins T.C_Record dx (obj ky_Record vs))) (hv : vs[1]? = some v) (q : A v) : ∃ a' C' dx' fs v', V.ref a = .ref a' ∧ H a' = some (.ins C' dx' fs) ∧ Cls K C' ∧ NoAttr K C' "number" ∧ fs.lookup ("number" : Str) = some v' ∧ A v' := g_fldE ho T.k_Record T.n_Record_number nd_Record rfl hv q
theorem st_Record_number {A : Hp → Prop} (ho : H a = some (.ins T.C_Record dx (obj ky_Record vs))) (hv : 1 < vs.length) (q : A (upd H a (.ins T.C_Record dx (obj ky_Record (vs.set 1 y))))) : ∃ a' C' dx' fs, V.ref a = .ref a' ∧ H a' = some (.ins C' dx' fs) ∧ Cls K C' ∧ NoAttr K C' "number" ∧ fs.length < 1000 ∧ A (upd H a' (.ins C' dx' (putF "number" y fs))) := g_putE ho T.k_Record T.n_Record_number nd_Record (by decide) rfl hv q
theorem nw_Record_number {A : Hp → Prop} (ho : H a = some (.ins T.C_Record dx (obj ky_Record vs))) (hv : vs.length = 1) (q : A (upd H a (.ins T.C_Record dx (obj ky_Record (vs ++ [y]))))) : ∃ a' C' dx' fs, V.ref a = .ref a' ∧ H a' = some (.ins C' dx' fs) ∧ Cls K C' ∧ NoAttr K C' "number" ∧ fs.length < 1000 ∧ A (upd H a' (.ins C' dx' (putF "number" y fs))) := g_newE ho T.k_Record T.n_Record_number nd_Record (by decide) (by rw [hv]; rfl) q
theorem fd_Record_word {A : V → Prop} (ho : H a = some (.ins T.C_Record dx (obj ky_Record vs))) (hv : vs[2]? = some v) (q : A v) : ∃ a' C' dx' fs v', V.ref a = .ref a' ∧ H a' = some (.ins C' dx' fs) ∧ Cls K C' ∧ NoAttr K C' "word" ∧ fs.lookup ("word" : Str) = some v' ∧ A v' := g_fldE ho T.k_Record T.n_Record_word nd_Record rfl hv q
theorem st_Record_word {A : Hp → Prop} (ho : H a = some (.ins T.C_Record dx (obj ky_Record vs))) (hv : 2 < vs.length) (q : A (upd H a (.ins T.C_Record dx (obj ky_Record (vs.set 2 y))))) : ∃ a' C' dx' fs, V.ref a = .ref a' ∧ H a' = some (.ins C' dx' fs) ∧ Cls K C' ∧ NoAttr K C' "word" ∧ fs.length < 1000 ∧ A (upd H a' (.ins C' dx' (putF "word" y fs))) := g_putE ho T.k_Record T.n_Record_word nd_Record (by decide) rfl hv q
theorem nw_Record_word {A : Hp → Prop} (ho : H a = some (.ins T.C_Record dx (obj ky_Record vs))) (hv : vs.length = 2) (q : A (upd H a (.ins T.C_Record dx (obj ky_Record (vs ++ [y]))))) : ∃ a' C' dx' fs, V.ref a = .ref a' ∧ H a' = some (.ins C' dx' fs) ∧ Cls K C' ∧ NoAttr K C' "word" ∧ fs.length < 1000 ∧ A (upd H a' (.ins C' dx' (putF "word" y fs))) := g_newE ho T.k_Record T.n_Record_word nd_Record (by decide) (by rw [hv]; rfl) q
theorem fd_Record_packet {A : V → Prop} (ho : H a = some (.ins T.C_Record dx (obj ky_Record vs))) (hv : vs[3]? = some v) (q : A v) : ∃ a' C' dx' fs v', V.ref a = .ref a' ∧ H a' = some (.ins C' dx' fs) ∧ Cls K C' ∧ NoAttr K C' "packet" ∧ fs.lookup ("packet" : Str) = some v' ∧ A v' := g_fldE ho T.k_Record T.n_Record_packet nd_Record rfl hv q
theorem st_Record_packet {A : Hp → Prop} (ho : H a = some (.ins T.C_Record dx (obj ky_Record vs))) (hv : 3 < vs.length) (q : A (upd H a (.ins T.C_Record dx (obj ky_Record (vs.set 3 y))))) : ∃ a' C' dx' fs, V.ref a = .ref a' ∧ H a' = some (.ins C' dx' fs) ∧ Cls K C' ∧ NoAttr K C' "packet" ∧ fs.length < 1000 ∧ A (upd H a' (.ins C' dx' (putF "packet" y fs))) := g_putE ho T.k_Record T.n_Record_packet nd_Record (by decide) rfl hv q
theorem nw_Record_packet {A : Hp → Prop} (ho : H a = some (.ins T.C_Record dx (obj ky_Record vs))) (hv : vs.length = 3) (q : A (upd H a (.ins T.C_Record dx (obj ky_Record (vs ++ [y]))))) : ∃ a' C' dx' fs, V.ref a = .ref a' ∧ H a' = some (.ins C' dx' fs) ∧ Cls K C' ∧ NoAttr K C' "packet" ∧ fs.length < 1000 ∧ A (upd H a' (.ins C' dx' (putF "packet" y fs))) := g_newE ho T.k_Record T.n_Record_packet nd_Record (by decide) (by rw [hv]; rfl) q
end
local macro_rules | `(tactic| walk_at "use") => `(tactic| first | ((with_reducible refine' fd_Packet_sender ?ho_ ?hv_ ?_); (case ho_ => first | assumption | exact upd_same); (case hv_ => exact rfl)) | ((with_reducible refine' fd_Packet_target ?ho_ ?hv_ ?_); (case ho_ => first | assumption | exact upd_same); (case hv_ => exact rfl)) | ((with_reducible refine' fd_Packet_octets ?ho_ ?hv_ ?_); (case ho_ => first | assumption | exact upd_same); (case hv_ => exact rfl)) | ((with_reducible refine' fd_Packet_marked ?ho_ ?hv_ ?_); (case ho_ => first | assumption | exact upd_same); (case hv_ => exact rfl)) | ((with_reducible refine' nw_Packet_sender ?ho_ ?hv_ ?_); (case ho_ => first | assumption | exact upd_same); (case hv_ => exact rfl)) | ((with_reducible refine' nw_Packet_target ?ho_ ?hv_ ?_); (case ho_ => first | assumption | exact upd_same); (case hv_ => exact rfl)) | ((with_reducible refine' nw_Packet_octets ?ho_ ?hv_ ?_); (case ho_ => first | assumption | exact upd_same); (case hv_ => exact rfl)) | ((with_reducible refine' nw_Packet_marked ?ho_ ?hv_ ?_); (case ho_ => first | assumption | exact upd_same); (case hv_ => exact rfl)) | ((with_reducible refine' st_Packet_sender ?ho_ ?hv_ ?_); (case ho_ => first | assumption | exact upd_same); (case hv_ => exact Nat.le_of_ble_eq_true rfl)) | ((with_reducible refine' st_Packet_target ?ho_ ?hv_ ?_); (case ho_ => first | assumption | exact upd_same); (case hv_ => exact Nat.le_of_ble_eq_true rfl)) | ((with_reducible refine' st_Packet_octets ?ho_ ?hv_ ?_); (case ho_ => first | assumption | exact upd_same); (case hv_ => exact Nat.le_of_ble_eq_true rfl)) | ((with_reducible refine' st_Packet_marked ?ho_ ?hv_ ?_); (case ho_ => first | assumption | exact upd_same); (case hv_ => exact Nat.le_of_ble_eq_true rfl)) | ((with_reducible refine' me_Packet_fork ?ho_ ?_); (case ho_ => first | assumption | exact upd_same)))
local macro_rules | `(tactic| walk_at "use") => `(tactic| first | ((with_reducible refine' fd_Record_tick ?ho_ ?hv_ ?_); (case ho_ => first | assumption | exact upd_same); (case hv_ => exact rfl)) | ((with_reducible refine' fd_Record_number ?ho_ ?hv_ ?_); (case ho_ => first | assumption | exact upd_same); (case hv_ => exact rfl)) | ((with_reducible refine' fd_Record_word ?ho_ ?hv_ ?_); (case ho_ => first | assumption | exact upd_same); (case hv_ => exact rfl)) | ((with_reducible refine' fd_Record_packet ?ho_ ?hv_ ?_); (case ho_ => first | assumption | exact upd_same); (case hv_ => exact rfl)) | ((with_reducible refine' nw_Record_tick ?ho_ ?hv_ ?_); (case ho_ => first | assumption | exact upd_same); (case hv_ => exact rfl)) | ((with_reducible refine' nw_Record_number ?ho_ ?hv_ ?_); (case ho_ => first | assumption | exact upd_same); (case hv_ => exact rfl)) | ((with_reducible refine' nw_Record_word ?ho_ ?hv_ ?_); (case ho_ => first | assumption | exact upd_same); (case hv_ => exact rfl)) | ((with_reducible refine' nw_Record_packet ?ho_ ?hv_ ?_); (case ho_ => first | assumption | exact upd_same); (case hv_ => exact rfl)) | ((with_reducible refine' st_Record_tick ?ho_ ?hv_ ?_); (case ho_ => first | assumption | exact upd_same); (case hv_ => exact Nat.le_of_ble_eq_true rfl)) | ((with_reducible refine' st_Record_number ?ho_ ?hv_ ?_); (case ho_ => first | assumption | exact upd_same); (case hv_ => exact Nat.le_of_ble_eq_true rfl)) | ((with_reducible refine' st_Record_word ?ho_ ?hv_ ?_); (case ho_ => first | assumption | exact upd_same); (case hv_ => exact Nat.le_of_ble_eq_true rfl)) | ((with_reducible refine' st_Record_packet ?ho_ ?hv_ ?_); (case ho_ => first | assumption | exact upd_same); (case hv_ => exact Nat.le_of_ble_eq_true rfl)))
end My
namespace My
open PySem PySem.Spec L2
local macro_rules | `(tactic| walk_at "side") => `(tactic| first | assumption | decide | omega | exact ⟨by decide, by decide⟩ | exact ⟨by decide, by decide, by decide⟩ | decide +kernel | exact cdivW (by decide +kernel) (by decide +kernel) | exact Or.inl ⟨by omega, by omega⟩ | exact Or.inr ⟨by omega, by omega⟩ | (simp only [List.length_map, List.length_cons, List.length_nil, List.length_append]; omega))
local macro_rules | `(tactic| walk_at "fact") => `(tactic| first | assumption | omega | with_reducible rfl)
local macro_rules | `(tactic| walk_at "use") => `(tactic| fail "use")
local macro_rules | `(tactic| walk_at "go1") => `(tactic| with_reducible first | refine g_seq ?_ | refine g_asg ?_ | refine g_ret ?_ | refine g_ifS ?_ | refine g_drop ?_ | refine g_star ?_ | refine g_nx ?_ | refine g_rt ?_ | refine g_bkE ?_ | refine g_ctE ?_ | refine g_next ?_ | refine g_retN ?_ | refine g_brk ?_ | refine g_ct ?_ | refine g_c ?_ | refine g_op ?_ | refine g_un ?_ | refine g_rI0 ?_ | refine g_rU ?_ | refine g_rEqI ?_ | refine g_rNeI ?_ | refine g_isN ?_ | refine g_rIsB ?_ | refine g_rNotB ?_ | refine g_test ?_ | refine g_B ?_ | refine g_bl ?_ | refine g_and ?_ | refine g_or ?_ | refine g_not ?_ | refine g_andV ?_ | refine g_orV ?_ | refine g_notV ?_ | refine g_if ?_ | refine g_chain ?_ | refine g_yes ?_ | refine g_lc ?_ | refine g_revR ?_ | refine g_rng1 ?_ | refine g_iList ?_ | refine g_nil ?_ | refine g_cons ?_ | refine g_tup ?_ | refine g_lst ?_ | refine g_call ?_ | refine g_CB ?_ | refine g_sl ?_ | refine g_noPart ?_ | refine g_part ?_ | refine g_intE ?_ | refine g_ref ?_ | refine g_fld ?_ | refine g_sfld ?_ | refine g_meth ?_ | refine g_make ?_ | refine g_prop ?_  | refine g_ipI ?_ | refine g_int1 ?_ | refine g_int1B ?_ | refine g_one ?_ | refine g_two ?_ | refine g_isiI ?_ | refine g_isiIB ?_ | refine g_isiB ?_ | refine g_BM ?_ | refine g_BM0 ?_ | refine g_sub ?_)
local macro_rules | `(tactic| walk_at "go") => `(tactic| repeat (first | walk_at "go1" | ((with_reducible refine' g_nameE ?sd_ ?_); case sd_ => dsimp only [List.set_cons_succ, List.set_cons_zero]) | ((with_reducible refine' g_var ?sd_ ?_); case sd_ => exact rfl) | ((with_reducible refine' g_aug ?sd_ ?_); case sd_ => exact rfl) | ((with_reducible refine' g_rI ?sd_ ?_); case sd_ => walk_at "side") | ((with_reducible refine' g_dT ?sd_ ?_); case sd_ => walk_at "fact") | ((with_reducible refine' g_dF ?sd_ ?_); case sd_ => walk_at "fact") | ((with_reducible refine' g_nT ?sd_ ?_); case sd_ => walk_at "fact") | ((with_reducible refine' g_nF ?sd_ ?_); case sd_ => walk_at "fact") | (with_reducible refine g_iT rfl ?_) | (with_reducible refine g_iF rfl ?_) | walk_at "use"))
local macro_rules | `(tactic| walk_at "use") => `(tactic| first | ((with_reducible refine' fd_Packet_sender ?ho_ ?hv_ ?_); (case ho_ => first | assumption | exact upd_same); (case hv_ => exact rfl)) | ((with_reducible refine' fd_Packet_target ?ho_ ?hv_ ?_); (case ho_ => first | assumption | exact upd_same); (case hv_ => exact rfl)) | ((with_reducible refine' fd_Packet_octets ?ho_ ?hv_ ?_); (case ho_ => first | assumption | exact upd_same); (case hv_ => exact rfl)) | ((with_reducible refine' fd_Packet_marked ?ho_ ?hv_ ?_); (case ho_ => first | assumption | exact upd_same); (case hv_ => exact rfl)) | ((with_reducible refine' nw_Packet_sender ?ho_ ?hv_ ?_); (case ho_ => first | assumption | exact upd_same); (case hv_ => exact rfl)) | ((with_reducible refine' nw_Packet_target ?ho_ ?hv_ ?_); (case ho_ => first | assumption | exact upd_same); (case hv_ => exact rfl)) | ((with_reducible refine' nw_Packet_octets ?ho_ ?hv_ ?_); (case ho_ => first | assumption | exact upd_same); (case hv_ => exact rfl)) | ((with_reducible refine' nw_Packet_marked ?ho_ ?hv_ ?_); (case ho_ => first | assumption | exact upd_same); (case hv_ => exact rfl)) | ((with_reducible refine' st_Packet_sender ?ho_ ?hv_ ?_); (case ho_ => first | assumption | exact upd_same); (case hv_ => exact Nat.le_of_ble_eq_true rfl)) | ((with_reducible refine' st_Packet_target ?ho_ ?hv_ ?_); (case ho_ => first | assumption | exact upd_same); (case hv_ => exact Nat.le_of_ble_eq_true rfl)) | ((with_reducible refine' st_Packet_octets ?ho_ ?hv_ ?_); (case ho_ => first | assumption | exact upd_same); (case hv_ => exact Nat.le_of_ble_eq_true rfl)) | ((with_reducible refine' st_Packet_marked ?ho_ ?hv_ ?_); (case ho_ => first | assumption | exact upd_same); (case hv_ => exact Nat.le_of_ble_eq_true rfl)) | ((with_reducible refine' me_Packet_fork ?ho_ ?_); (case ho_ => first | assumption | exact upd_same)))
local macro_rules | `(tactic| walk_at "use") => `(tactic| first | ((with_reducible refine' fd_Record_tick ?ho_ ?hv_ ?_); (case ho_ => first | assumption | exact upd_same); (case hv_ => exact rfl)) | ((with_reducible refine' fd_Record_number ?ho_ ?hv_ ?_); (case ho_ => first | assumption | exact upd_same); (case hv_ => exact rfl)) | ((with_reducible refine' fd_Record_word ?ho_ ?hv_ ?_); (case ho_ => first | assumption | exact upd_same); (case hv_ => exact rfl)) | ((with_reducible refine' fd_Record_packet ?ho_ ?hv_ ?_); (case ho_ => first | assumption | exact upd_same); (case hv_ => exact rfl)) | ((with_reducible refine' nw_Record_tick ?ho_ ?hv_ ?_); (case ho_ => first | assumption | exact upd_same); (case hv_ => exact rfl)) | ((with_reducible refine' nw_Record_number ?ho_ ?hv_ ?_); (case ho_ => first | assumption | exact upd_same); (case hv_ => exact rfl)) | ((with_reducible refine' nw_Record_word ?ho_ ?hv_ ?_); (case ho_ => first | assumption | exact upd_same); (case hv_ => exact rfl)) | ((with_reducible refine' nw_Record_packet ?ho_ ?hv_ ?_); (case ho_ => first | assumption | exact upd_same); (case hv_ => exact rfl)) | ((with_reducible refine' st_Record_tick ?ho_ ?hv_ ?_); (case ho_ => first | assumption | exact upd_same); (case hv_ => exact Nat.le_of_ble_eq_true rfl)) | ((with_reducible refine' st_Record_number ?ho_ ?hv_ ?_); (case ho_ => first | assumption | exact upd_same); (case hv_ => exact Nat.le_of_ble_eq_true rfl)) | ((with_reducible refine' st_Record_word ?ho_ ?hv_ ?_); (case ho_ => first | assumption | exact upd_same); (case hv_ => exact Nat.le_of_ble_eq_true rfl)) | ((with_reducible refine' st_Record_packet ?ho_ ?hv_ ?_); (case ho_ => first | assumption | exact upd_same); (case hv_ => exact Nat.le_of_ble_eq_true rfl)))
section
variable {P : Program} {w : World} {K : PySem.W.Frag} {mg : Str → Option Value} {base : Heap}
/-! ### exceptions -/
section
variable {X : Cx} {K : PySem.W.Frag} {σ : St} {H : Hp} {Q : VK} {W : WX} {D : Ends} {C : Addr} {ta : TE} {t : St → Hp → XK → Prop}
def tRaise (t : St → Hp → XK → Prop) (W : WX) : TS := fun _ σ H => t σ H fun cls d H' => W cls d σ H'
theorem ps_rs {e : Expr} {pos : Pos} (hc : X.calm = true) (tk : Takes X W) (he : PMk X e t) : PS X (.Raise (some e) none pos) (tRaise t W) := ps_raise hc tk he
def tMk0 (C : Addr) : St → Hp → XK → Prop := fun _ H Q => Q (.ref C) none H
def tMk1 (C : Addr) (ta : TE) : St → Hp → XK → Prop := fun σ H Q => ta σ H fun _ H1 => Q (.ref C) none H1
theorem pmk_0 {x m : Str} {j : Nat} {p p2 pos : Pos} {bmB : List Value} {B newId initId : String} (F : ExcBaseFacts B newId initId bmB) (q : PySem.W.excIn X.K C bmB newId = true) (gC : X.mg x = some (.ref C)) (kC : PySem.W.keepIn X.K (.ref C) = true) (r : Raises X (.ref C)) (hg : Gl X x)
    (hdb : (x == ("__debug__" : Str)) = false := by decide) : PMk X (.Call (.Name x p) [.Constant (.str m) j p2] [] pos) (tMk0 C) := pmk_own F q gC kC r hg hdb
theorem pmk_1 {x : Str} {e : Expr} {p pos : Pos} {bmB : List Value} {B newId initId : String} (F : ExcBaseFacts B newId initId bmB) (q : PySem.W.excIn X.K C bmB newId = true) (gC : X.mg x = some (.ref C)) (kC : PySem.W.keepIn X.K (.ref C) = true) (r : Raises X (.ref C)) (hg : Gl X x)
    (he : PE X e ta) (hs : starEach [e] X.env = (false, eval e X.env) :: starEach [] X.env := by rfl) (hdb : (x == ("__debug__" : Str)) = false := by decide) : PMk X (.Call (.Name x p) [e] [] pos) (tMk1 C ta) := SkE.pmk_own1 F q gC kC r hg he hs hdb
theorem g_rs0 (q : W (.ref C) none σ H) : tRaise (tMk0 C) W D σ H := q
theorem g_rs1 (h : ta σ H fun _ H1 => W (.ref C) none σ H1) : tRaise (tMk1 C ta) W D σ H := h
def tTryA (K : PySem.W.Frag) (c : Value) (i : Nat) (tb : WX → TS) (ts : Addr → Value → Option Addr → TS) (Wout : WX) : TS := fun D σ H => tb (wAs K c i ts Wout D) D σ H
def tTryO (K : PySem.W.Frag) (c : Value) (tb : WX → TS) (ts : Addr → Value → Option Addr → TS) (Wout : WX) : TS := fun D σ H => tb (wOnly K c ts Wout D) D σ H
theorem ps_tryA {x n : Str} {c : Value} {i : Nat} {body suite : List Stmt} {b₀ : Stmt} {np pos pos' : Pos} {tb : WX → TS} {ts : Addr → Value → Option Addr → TS} {Wout : WX} (hs : X.stack = X.env :: X.outer) (hf : X.env.frame = some X.env.locals) (hN : X.N.Nodup) (hi : X.N[i]? = some n) (hln : X.env.kindOf n = some .local) (hc : Names X x c) (tk : Takes X Wout)
    (hb : ∀ (W : WX) (pn : List (Addr × Obj)) (xe : Value → Shared → Prop), Takes (X.tr pn xe) W → PassesOwn (model X.prog X.w) X.A X.env xe → PSs (X.tr pn xe) body (tb W))
    (hsu : ∀ (a : Addr) (oe : Obj) (cls : Value) (d : Option Addr) (pn : List (Addr × Obj)), Zc cls d oe → (∃ vs, oe.data = .fields vs) → PSs (X.suite a ((a, oe) :: pn)) (b₀ :: suite) (ts a cls d)) :
    PS X (.Try body [.ExceptHandler (some (.Name x np)) (some n) (b₀ :: suite) pos'] [] [] pos) (tTryA X.K c i tb ts Wout) := ps_try_as hs hf hN hi hln hc tk hb hsu
theorem ps_tryO {x : Str} {c : Value} {body suite : List Stmt} {b₀ : Stmt} {np pos pos' : Pos} {tb : WX → TS} {ts : Addr → Value → Option Addr → TS} {Wout : WX} (hs : X.stack = X.env :: X.outer) (hf : X.env.frame = some X.env.locals) (hc : Names X x c) (tk : Takes X Wout)
    (hb : ∀ (W : WX) (pn : List (Addr × Obj)) (xe : Value → Shared → Prop), Takes (X.tr pn xe) W → PassesOwn (model X.prog X.w) X.A X.env xe → PSs (X.tr pn xe) body (tb W))
    (hsu : ∀ (a : Addr) (oe : Obj) (cls : Value) (d : Option Addr) (pn : List (Addr × Obj)), Zc cls d oe → (∃ vs, oe.data = .fields vs) → PSs (X.suite a ((a, oe) :: pn)) (b₀ :: suite) (ts a cls d)) :
    PS X (.Try body [.ExceptHandler (some (.Name x np)) none (b₀ :: suite) pos'] [] [] pos) (tTryO X.K c tb ts Wout) := ps_try_only hs hf hc tk hb hsu
variable {c cls : Value} {d : Option Addr} {i : Nat} {tb : WX → TS} {ts : Addr → Value → Option Addr → TS} {Wout : WX}
theorem g_tryA (h : tb (wAs K c i ts Wout D) D σ H) : tTryA K c i tb ts Wout D σ H := h
theorem g_tryO (h : tb (wOnly K c ts Wout D) D σ H) : tTryO K c tb ts Wout D σ H := h
theorem g_caught (e : PySem.W.exmOne K cls c = some true) (h : ∀ a, H a = none → ts a cls d { nx := fun σ' H' => D.nx (σ'.set i none) H', rt := D.rt, bk := fun σ' H' => D.bk (σ'.set i none) H', ct := fun σ' H' => D.ct (σ'.set i none) H' } (σ.set i (some (.ref a))) H) :
    wAs K c i ts Wout D cls d σ H := ⟨true, e, fun _ => h, fun z => nomatch z⟩
theorem g_caughtO (e : PySem.W.exmOne K cls c = some true) (h : ∀ a, H a = none → ts a cls d D σ H) : wOnly K c ts Wout D cls d σ H := ⟨true, e, fun _ => h, fun z => nomatch z⟩
theorem g_callS {sp : Sp} {E : St → XK} {t : TA} (h : t σ H fun vs H1 => sp vs H1 Q (E σ)) : tCallS sp E t σ H Q := h
/-- isinstance(e, c), e the exception that the suite holds, of a class known later -/
def rIsE2 (K : PySem.W.Frag) (a : Addr) (cls : Value) (d : Option Addr) : List V → Hp → VK → Prop := fun xs H Q => ∃ (D : Addr) (c : V) (cv : Value) (b : Bool), cls = .ref D ∧ d = none ∧ ExcC K D ∧ xs = [.ref a, c] ∧ (∀ u, RelV c u → u = cv) ∧ PySem.W.kitOne K (.ref D) cv = some b ∧ Q (.bl b) H
theorem call_isE2 {a : Addr} {oe : Obj} {pn : List (Addr × Obj)} (hz : Zc cls d oe) (hf : ∃ vs, oe.data = .fields vs) : CallR (X.suite a ((a, oe) :: pn)) (.builtin "isinstance") (rIsE2 X.K a cls d) := by
  intro pins s σ H xs us Q I r h
  obtain ⟨D, c, cv, b, rfl, rfl, C, e1, hcv, e, q⟩ := h
  exact call_isE C hz hf pins s σ H xs us Q I r ⟨c, cv, b, e1, hcv, e, q⟩
theorem g_isER {R B a : Addr} {b : Bool} (C : ExcC K R) (e : PySem.W.kitOne K (.ref R) (.ref B) = some b) (q : Q (.bl b) H) : rIsE2 K a (.ref R) none [.ref a, .ref B] H Q := ⟨R, _, _, b, rfl, rfl, C, rfl, fun u r => by cases r; rfl, e, q⟩
theorem g_isET {R a : Addr} {T : String} {b : Bool} (C : ExcC K R) (e : PySem.W.kitOne K (.ref R) (.type T) = some b) (q : Q (.bl b) H) : rIsE2 K a (.ref R) none [.ref a, .ty T] H Q := ⟨R, _, _, b, rfl, rfl, C, rfl, fun u r => by cases r; rfl, e, q⟩
/-! f-strings -/
def tJoined (ts : List TE) : TE := fun σ H Q => tJs ts Str.empty σ H fun out H1 => Q (.str out) H1
theorem pe_joinedJ {v1 v2 : Expr} {rest : List Expr} {ts : List TE} {pos : Pos} (h : PJ X (v1 :: v2 :: rest) ts) : PE X (.JoinedStr (v1 :: v2 :: rest) pos) (tJoined ts) := pe_joined h
theorem g_joined {ts : List TE} (h : tJs ts Str.empty σ H fun out H1 => Q (.str out) H1) : tJoined ts σ H Q := h
theorem g_jsnil {acc : Str} {A : Str → Hp → Prop} (q : A acc H) : tJs [] acc σ H A := q
theorem g_jscons {acc : Str} {A : Str → Hp → Prop} {t : TE} {ts : List TE} (h : t σ H fun x H1 => ∃ y : Str, x = .str y ∧ (acc ++ y).length ≤ sizeLine ∧ tJs ts (acc ++ y) σ H1 A) : tJs (t :: ts) acc σ H A := h
theorem g_jsE {acc y : Str} {A : Str → Prop} (h1 : (acc ++ y).length ≤ sizeLine) (q : A y) : ∃ y' : Str, V.str y = .str y' ∧ (acc ++ y').length ≤ sizeLine ∧ A y' := ⟨y, rfl, h1, q⟩
def rAddS : R2 := fun x y H Q => ∃ i j : Str, x = .str i ∧ y = .str j ∧ i.length + j.length ≤ sizeLine ∧ Q (.str (i ++ j)) H
theorem op_addS : OpR X (binaryOp .Add) rAddS := op_add_str
theorem g_addS {y z : Str} (h : y.length + z.length ≤ 16777216) (q : Q (.str (y ++ z)) H) : rAddS (.str y) (.str z) H Q := ⟨y, z, rfl, rfl, by rw [sizeLine_eq]; exact h, q⟩
theorem g_slS {y : Str} {lo hi : Option Int} (h : y.length ≤ 16777216) (q : Q (.str (cutS y lo hi)) H) : rSlS (.str y) lo hi H Q := ⟨y, rfl, by rw [sizeLine_eq]; exact h, q⟩
theorem g_m0 {r : V → List V → Hp → VK → Prop} {to : TE} (h : to σ H fun x H1 => (∃ a, x = V.str a) ∧ r x [] H1 Q) : tM0 r to σ H Q := h
theorem g_fmtS {y : Str} {A : Str → Prop} {B : Int → Prop} (h : y.length ≤ sizeLine) (q : A y) : (∃ y' : Str, V.str y = .str y' ∧ y'.length ≤ sizeLine ∧ A y') ∨ ∃ i : Int, V.str y = .int i ∧ i.natAbs.log2 < 1920 ∧ B i := .inl ⟨y, rfl, h, q⟩
theorem g_fmtI {j : Int} {A : Str → Prop} {B : Int → Prop} (h : j.natAbs.log2 < 1920) (q : B j) : (∃ y' : Str, V.int j = .str y' ∧ y'.length ≤ sizeLine ∧ A y') ∨ ∃ i : Int, V.int j = .int i ∧ i.natAbs.log2 < 1920 ∧ B i := .inr ⟨j, rfl, h, q⟩
theorem g_fmt (h : ta σ H fun x H1 => (∃ y : Str, x = .str y ∧ y.length ≤ sizeLine ∧ Q (.str y) H1) ∨ ∃ i : Int, x = .int i ∧ i.natAbs.log2 < 1920 ∧ Q (.str (toString i)) H1) : tFmt ta σ H Q := h
end
theorem kit_refT {K : PySem.W.Frag} {t : Value} {C : Addr} (a : PySem.W.isClsIn K C = true) (b : PySem.W.typeIn K (.ref C) = some (.type "type")) (c : PySem.W.subIn K t (.ref C) = some true) : PySem.W.kitOne K t (.ref C) = some true := by
  unfold PySem.W.isClsIn at a
  unfold PySem.W.kitOne
  by_cases z : (t == Value.ref C) = true
  · rw [if_pos z]
  · rw [if_neg z]
    show (if ((PySem.W.clsIn K C).isSome && PySem.W.typeIn K (.ref C) == some (.type "type")) = true then PySem.W.subIn K t (.ref C) else none) = some true
    rw [a, b, if_pos (by rw [Bool.true_and]; exact beq_self_eq_true _)]
    exact c
theorem kit_refF {K : PySem.W.Frag} {R C : Addr} (a : PySem.W.isClsIn K C = true) (b : PySem.W.typeIn K (.ref C) = some (.type "type")) (c : PySem.W.subIn K (.ref R) (.ref C) = some false) (r : PySem.W.subIn K (.ref R) (.ref R) = some true) : PySem.W.kitOne K (.ref R) (.ref C) = some false := by
  unfold PySem.W.isClsIn at a
  unfold PySem.W.kitOne
  by_cases z : (Value.ref R == Value.ref C) = true
  · have e : Value.ref R = Value.ref C := beq_iff_eq.mp z
    injection e with e
    subst e
    rw [c] at r
    cases r
  · rw [if_neg z]
    show (if ((PySem.W.clsIn K C).isSome && PySem.W.typeIn K (.ref C) == some (.type "type")) = true then PySem.W.subIn K (.ref R) (.ref C) else none) = some false
    rw [a, b, if_pos (by rw [Bool.true_and]; exact beq_self_eq_true _)]
    exact c
theorem kit_tyT {K : PySem.W.Frag} {R : Addr} {T : String} {b : Bool} (a : PySem.W.kitMeta T = true) (c : PySem.W.subIn K (.ref R) (.type T) = some b) : PySem.W.kitOne K (.ref R) (.type T) = some b := by
  unfold PySem.W.kitOne
  rw [if_neg (by show ¬ (Value.ref R == Value.type T) = true; exact fun h => by cases (beq_iff_eq.mp h))]
  show (if PySem.W.kitMeta T = true then PySem.W.subIn K (.ref R) (.type T) else none) = some b
  rw [if_pos a]
  exact c
/-! a written dict with texts as keys -/
theorem ns_entry {K : PySem.W.Frag} {a : Addr} {c : Value} {d : Option Addr} {es : Array DictEntry} {n : Nat} {sl : Array (Option Value)} {x : Str} {u : Value} (h : K.lookup a = some ⟨c, d, .dict es n, sl⟩) (e : (es.toList.find? (·.key.isStr x)).map (·.val) = some u) : PySem.W.nsIn K a x = some (some u) := by
  unfold PySem.W.nsIn
  rw [h]
  dsimp only
  cases q : es.toList.find? (·.key.isStr x) with
  | none => rw [q] at e; cases e
  | some z => rw [q] at e; injection e with e; rw [← e]
theorem fit2 {a b : Str} (h : a.length + b.length ≤ 16777216) : (a ++ b).length ≤ sizeLine := by
  rw [PySem.Str.length_append, sizeLine_eq]
  exact h
theorem log_lt {n : Nat} (h : n < 2 ^ 64) : n.log2 < 1920 := by
  by_cases z : n = 0
  · subst z; decide
  · exact Nat.lt_trans (Nat.log2_lt z |>.mpr h) (by decide)
theorem itext {i : Int} (h : i.natAbs < 2 ^ 64) : (Str.ofString (toString i)).length ≤ 1921 := PyProof.Rows.int_text_len_1921 (log_lt h)
def keyS (e : DictEntry) : Option Str := match e.key with | .str s _ => some s | _ => none
theorem find_keys : ∀ {l : List DictEntry} {ks : List Str} {z : Str}, l.map keyS = ks.map some → z ∉ ks → l.find? (·.key.isStr z) = none ∧ l.any (·.refKey) = false
  | [], _, _, _, _ => ⟨rfl, rfl⟩
  | e :: l, [], _, h, _ => by cases h
  | e :: l, k :: ks, z, h, hz => by
    simp only [List.map_cons, List.cons.injEq] at h
    obtain ⟨i1, i2⟩ := find_keys (l := l) (ks := ks) (z := z) h.2 fun m => hz (List.mem_cons_of_mem _ m)
    have h1 := h.1
    unfold keyS at h1
    obtain ⟨hs, key, val⟩ := e
    dsimp only at h1 ⊢
    cases key with
    | str s t =>
      injection h1 with h1
      subst h1
      have ne : (s == z) = false := by
        rw [beq_eq_false_iff_ne]
        intro e
        exact hz (e ▸ List.mem_cons_self ..)
      refine ⟨?_, ?_⟩
      · rw [List.find?_cons]
        show (match (s == z) with | true => _ | false => _) = none
        rw [ne]
        exact i1
      · rw [List.any_cons, i2, Bool.or_false]
        rfl
    | _ => cases h1
theorem ns_out {K : PySem.W.Frag} {a : Addr} {c : Value} {d : Option Addr} {es : Array DictEntry} {n : Nat} {sl : Array (Option Value)} {z : Str} {ks : List Str} (h : K.lookup a = some ⟨c, d, .dict es n, sl⟩) (e : es.toList.map keyS = ks.map some) (hz : z ∉ ks) : PySem.W.nsIn K a z = some none := by
  obtain ⟨i1, i2⟩ := find_keys e hz
  unfold PySem.W.nsIn
  rw [h]
  dsimp only
  rw [i1]
  dsimp only
  rw [i2]
  rfl
section
variable {K : PySem.W.Frag} {H : Hp} {Q : VK}
def rInK (K : PySem.W.Frag) (d : Addr) : R2 := fun x y H Q => ∃ (z : Str) (r : Option Value), x = .str z ∧ y = .ref d ∧ PySem.W.nsIn K d z = some r ∧ Q (.bl r.isSome) H
def rNotInK (K : PySem.W.Frag) (d : Addr) : R2 := fun x y H Q => ∃ (z : Str) (r : Option Value), x = .str z ∧ y = .ref d ∧ PySem.W.nsIn K d z = some r ∧ Q (.bl (!r.isSome)) H
theorem op_inK {X : Cx} {d : Addr} {es : Array DictEntry} {n : Nat} (D : KDict X.K X.w d es n) : OpR X (compareOp .In) (rInK X.K d) := op_in_kd D
theorem op_notInK {X : Cx} {d : Addr} {es : Array DictEntry} {n : Nat} (D : KDict X.K X.w d es n) : OpR X (compareOp .NotIn) (rNotInK X.K d) := op_notIn_kd D
theorem g_inK {d : Addr} {z : Str} {u : Value} (e : PySem.W.nsIn K d z = some (some u)) (q : Q (.bl true) H) : rInK K d (.str z) (.ref d) H Q := ⟨z, _, rfl, rfl, e, q⟩
theorem g_inKn {d : Addr} {z : Str} (e : PySem.W.nsIn K d z = some none) (q : Q (.bl false) H) : rInK K d (.str z) (.ref d) H Q := ⟨z, _, rfl, rfl, e, q⟩
theorem g_notInK {d : Addr} {z : Str} {u : Value} (e : PySem.W.nsIn K d z = some (some u)) (q : Q (.bl false) H) : rNotInK K d (.str z) (.ref d) H Q := ⟨z, _, rfl, rfl, e, q⟩
theorem g_notInKn {d : Addr} {z : Str} (e : PySem.W.nsIn K d z = some none) (q : Q (.bl true) H) : rNotInK K d (.str z) (.ref d) H Q := ⟨z, _, rfl, rfl, e, q⟩
theorem g_ixK {w : World} {d : Addr} {z : Str} {u : Value} {v : V} {es : Array DictEntry} {n : Nat} (D : KDict K w d es n) (e : PySem.W.nsIn K d z = some (some u)) (r : RelV v u) (q : Q v H) : rIxD K w (.ref d) (.str z) H Q := ⟨d, z, v, rfl, rfl, ⟨es, n, u, D.at_, D.lit, e, r⟩, q⟩
end
local macro_rules | `(tactic| walk_at "use") => `(tactic| with_reducible first | refine g_rs0 ?_ | refine g_rs1 ?_ | refine g_tryA ?_ | refine g_tryO ?_ | refine g_callS ?_ | refine g_joined ?_ | refine g_jsnil ?_ | refine g_jscons ?_ | refine g_fmt ?_)
local macro_rules | `(tactic| walk_at "fit") => `(tactic| (refine fit2 ?_; (try simp only [PySem.Str.length_append]); omega))
local macro_rules | `(tactic| walk_at "use") => `(tactic| first | ((with_reducible refine' g_addS ?sd_ ?_); case sd_ => (first | omega | (simp only [PySem.Str.length_append]; omega))) | ((with_reducible refine' g_slS ?sd_ ?_); case sd_ => omega) | (with_reducible refine g_m0 ?_))


section
variable {K : PySem.W.Frag} {H : Hp} {Q : VK}
theorem dec_str {s t : Str} : decide (V.str s = V.str t) = decide (s = t) := decide_eq_decide.mpr ⟨V.str.inj, congrArg _⟩
theorem g_rEqS {s t : Str} (q : Q (.bl (decide (s = t))) H) : rEq (.str s) (.str t) H Q := g_rEq rfl (by rw [dec_str]; exact q)
theorem g_rNeS {s t : Str} (q : Q (.bl (!decide (s = t))) H) : rNe (.str s) (.str t) H Q := g_rNe rfl (by rw [dec_str]; exact q)
theorem inV_str {s : Str} : ∀ {ws : List Str}, inV (.str s) (ws.map V.str) = decide (s ∈ ws)
  | [] => (decide_eq_false (by simp)).symm
  | t :: ws => by
    show ((t == s) || inV (.str s) (ws.map V.str)) = _
    rw [inV_str, Bool.eq_iff_iff]
    simp only [Bool.or_eq_true, beq_iff_eq, decide_eq_true_eq, List.mem_cons]
    exact ⟨fun h => h.imp Eq.symm id, fun h => h.imp Eq.symm id⟩
theorem flat_strs : ∀ {ws : List Str}, (ws.map V.str).all flatV = true
  | [] => rfl
  | _ :: ws => flat_strs (ws := ws)
theorem g_inS {p : Addr} {ws : List Str} {s : Str} (h : SqT K H p (ws.map V.str)) (q : Q (.bl (decide (s ∈ ws))) H) : rIn K false (.str s) (.ref p) H Q :=
  ⟨p, _, rfl, .inr h, rfl, flat_strs, by rw [if_neg (by decide), inV_str]; exact q⟩
theorem g_isiS {s : Str} (q : Q (.bl true) H) : rIsi K [.str s, .ty "str"] H Q := g_isi (.ty _) (.base (.str _)) (kit_ty (by decide +kernel)) q
end
local macro_rules | `(tactic| walk_at "use") => `(tactic| with_reducible first | refine g_rEqS ?_ | refine g_rNeS ?_ | refine g_isiS ?_)

/-! ### f'{n:02x}' of an octet -/
def hxd (d : Nat) : Nat := if d < 10 then 48 + d else 87 + d
def hx (n : Nat) : Str := ⟨#[hxd (n / 16), hxd (n % 16)]⟩
def hxf : PySem.Builtin.Float.FormatSpec := { fill := 48, align := 61, width := some 2, type := some 120 }
theorem hxf_is : PySem.Builtin.Float.parseFormatSpec (Str.ofString "02x").cps.toList "int" 62 = .ok hxf := by kernel_rfl
def hxt (a : Int) : Str := PyProof.Rows.intField' hxf (decide (a < 0)) [] ((Nat.toDigits 16 a.natAbs).map fun c => c.toNat) [] 4
theorem hxt_is : ∀ n : Nat, n < 256 → hxt (n : Int) = hx n := by
  have h : ∀ n ∈ List.range 256, hxt ((n : Nat) : Int) = hx n := by decide +kernel
  exact fun n hn => h n (List.mem_range.mpr hn)
theorem wp_eq {α : Type} {M : Model} {A : Around} {m m' : Sem α} {Q : α → Shared → Prop} {E : Value → Shared → Prop} {s : Shared} (e : m = m') (h : wpAny M A m' Q E s) : wpAny M A m Q E s := by
  rw [e]
  exact h
section
variable {prog : Program} {w : World} {A : Around} {E : Value → Shared → Prop} {s : Shared}
theorem fmt_hx {n : Nat} {t : Tok} {Q : Value → Shared → Prop} (hn : n < 256) (h : Q (.str (hx n) (s.toks + 1)) { s with toks := s.toks + 1 + 1 }) :
    wpAny (model prog w) A (formatField (.int (n : Int) t) (Str.ofString "02x")) Q E s := by
  have ln : ((Str.ofString "02x").length == 0) = false := by decide +kernel
  have lz : (Str.ofString "02x").length ≤ sizeLine := by decide +kernel
  have ez := hxt_is n hn
  have lx : (hx n).length ≤ sizeLine := by show 2 ≤ sizeLine; decide
  show wpAny _ _ (holding [.int (n : Int) t] (pyFormat (.int (n : Int) t) (Str.ofString "02x"))) Q E s
  refine wpAny_holding ?_; unfold pyFormat; refine wpAny_bind (wpAny_mkStr ?_ lz)
  refine wpAny_bind (m := callSpecial? (.int (n : Int) t) (Str.ofString "__format__") [.str (Str.ofString "02x") s.toks]) (wpAny_callSpecial?_slot (name := Str.ofString "__format__") (typeIs_int _ (n : Int) t) PySem.F.slot_int_format ?_)
  refine wpAny_call (codeAny_call_builtin PySem.F.slot_int_format.plain PySem.F.entry_int_format (PySem.F.slot_int_format.check _ _ _ _ _ _ _ _ (typeIs_int _ (n : Int) t) (PySem.F.args_int_format_2 _ _) ?_))
  unfold PySem.Builtin.«int.__format__»
  have la : (((Str.ofString "02x").cps.toList.drop 1).any (· ≥ 128) || ((Str.ofString "02x").cps.getD 0 0 ≥ 128 && !([60, 62, 61, 94] : List Nat).contains ((Str.ofString "02x").cps.getD 1 0))) = false := by decide +kernel
  simp only [selfAndOne, noKeywords, PySem.Builtin.Int.intOfSelf, asInt?, asStr?, List.isEmpty_nil, if_true, pure_bind, bind_assoc, ln, la, Bool.false_eq_true, if_false, show (Value.str (Str.ofString "02x") s.toks == Value.none) = false from rfl]
  refine wpAny_bind (wpAny_typeNameOf (T := "str") (typeIs_str _ _ _) (by decide) fun _ => wpAny_bind (PyProof.Rows.wpAny_typeNameOfCut_int ?_))
  simp only [hxf_is]
  rw [if_pos (by decide +kernel)]
  refine wp_eq (m' := retStr (hxt (n : Int))) (by kernel_rfl) ?_
  rw [ez]; unfold retStr
  refine wpAny_bind (wpAny_mkStr (wpAny_pure ?_) lx)
  dsimp only
  refine wpAny_bind (wpAny_isInstance (typeIs_str _ _ _) isSubtype_str_str (wpAny_pure ?_))
  exact h
end
section
variable {X : Cx}
def tHx (te : TE) : TE := fun σ H Q => te σ H fun x H1 => ∃ n : Nat, x = .int (n : Int) ∧ n < 256 ∧ Q (.str (hx n)) H1
theorem pe_hx2 {e : Expr} {te : TE} {k : Nat} {p1 p2 pos : Pos} (he : PE X e te) : PE X (.FormattedValue e (-1) (some (.JoinedStr [.Constant (.str (Str.ofString "02x")) k p1] p2)) pos) (tHx te) := by
  refine ⟨fun pins s σ H Q I h => ?_⟩
  refine wpAny_FormattedValue_spec (thn (he.run pins s σ H _ I h) fun v s1 hv => ?_)
  obtain ⟨x, H1, I1, r1, n, rfl, hn, q⟩ := hv
  obtain ⟨t, rfl⟩ := r1
  refine PyProof.Rows.JoinedStr_one ?_
  refine wpAny_Constant_str ?_
  refine ⟨_, _, rfl, fmt_hx hn ⟨.str (hx n), H1, ((I1.tok _).tok _).tok _, ⟨_, rfl⟩, q⟩⟩
theorem g_hx {te : TE} {σ : St} {H : Hp} {Q : VK} (h : te σ H fun x H1 => ∃ n : Nat, x = .int (n : Int) ∧ n < 256 ∧ Q (.str (hx n)) H1) : tHx te σ H Q := h
theorem g_hxE {n : Nat} {A : Nat → Prop} (h : n < 256) (q : A n) : ∃ m : Nat, V.int (n : Int) = .int (m : Int) ∧ m < 256 ∧ A m := ⟨n, rfl, h, q⟩
end

/-! ### texts of hexadecimal digits -/
abbrev Tx (l : List Nat) : Str := SX.S l
def hexes (ns : List Int) : List Nat := (ns.map fun n => [hxd (n.toNat / 16), hxd (n.toNat % 16)]).flatten
theorem hexes_len : ∀ {ns : List Int}, (hexes ns).length = 2 * ns.length
  | [] => rfl
  | n :: ns => by
    show (hxd (n.toNat / 16) :: hxd (n.toNat % 16) :: hexes ns).length = _
    rw [List.length_cons, List.length_cons, hexes_len, List.length_cons]
    omega
theorem join0 : ∀ {ls : List (List Nat)}, Txt.join Str.empty (ls.map Tx) = Tx ls.flatten := by
  intro ls
  rw [TL.join_eq]
  have h : ∀ ls : List (List Nat), TL.joinL [] ls = ls.flatten := by
    intro ls
    induction ls with
    | nil => rfl
    | cons p ls ih =>
      cases ls with
      | nil => show p = _; simp
      | cons q r =>
        show p ++ ([] ++ TL.joinL [] (q :: r)) = _
        rw [ih]
        simp
  have e := TL.tl_join Str.empty (ls.map Tx)
  rw [List.map_map] at e
  have e2 : (ls.map (TL.tl ∘ Tx)) = ls := by
    rw [List.map_congr_left (g := id) (fun l _ => by simp [TL.tl, SX.S]), List.map_id]
  rw [e2] at e
  have e3 : TL.tl (Str.join Str.empty (ls.map Tx)) = ls.flatten := by rw [e]; exact h ls
  generalize Str.join Str.empty (ls.map Tx) = x at e3
  obtain ⟨⟨l⟩⟩ := x
  have e4 : l = ls.flatten := e3
  rw [e4]
def dig16 : Str := "0123456789abcdef"
def ishex (c : Nat) : Bool := (decide (48 ≤ c) && decide (c ≤ 57)) || (decide (97 ≤ c) && decide (c ≤ 102))
theorem ishex_mem {c : Nat} : c ∈ dig16.cps.toList ↔ ishex c = true := by
  have e : dig16.cps.toList = [48, 49, 50, 51, 52, 53, 54, 55, 56, 57, 97, 98, 99, 100, 101, 102] := by decide +kernel
  rw [e]
  unfold ishex
  simp only [List.mem_cons, List.not_mem_nil, or_false, Bool.or_eq_true, Bool.and_eq_true, decide_eq_true_eq]
  omega
theorem find_hex {c : Nat} (h : ishex c = true) : Txt.find dig16 ⟨#[c]⟩ = (Hx.hv c : Int) := by
  have hc : c ∈ [48, 49, 50, 51, 52, 53, 54, 55, 56, 57, 97, 98, 99, 100, 101, 102] := by
    have := ishex_mem.mpr h
    rwa [show dig16.cps.toList = [48, 49, 50, 51, 52, 53, 54, 55, 56, 57, 97, 98, 99, 100, 101, 102] by decide +kernel] at this
  have all : ∀ c ∈ [48, 49, 50, 51, 52, 53, 54, 55, 56, 57, 97, 98, 99, 100, 101, 102], Txt.find dig16 ⟨#[c]⟩ = (Hx.hv c : Int) := by decide +kernel
  exact all c hc
theorem find_not {c : Nat} (h : ishex c = false) : Txt.find dig16 ⟨#[c]⟩ = -1 := by
  have h1 := PySem.StrLaws.found_one dig16 c
  have h2 : decide (c ∈ dig16.cps.toList) = false := decide_eq_false fun z => by rw [ishex_mem.mp z] at h; cases h
  rw [h2] at h1
  unfold Txt.find
  cases e : PySem.Builtin.Str.occurrences dig16 ⟨#[c]⟩ 0 dig16.length 1 with
  | nil => rfl
  | cons a b =>
    rw [e] at h1
    cases h1
theorem ishex_is {c : Nat} (h : ishex c = true) : Hx.IsHex c := by
  unfold ishex at h
  simp only [Bool.or_eq_true, Bool.and_eq_true, decide_eq_true_eq] at h
  unfold Hx.IsHex
  omega
theorem hv_nn {c : Nat} (h : ishex c = true) : Hx.hv c < 16 := Hx.hv_lt (ishex_is h)
/-- the octets that the signs write, two by two -/
def prs (l : List Nat) (n : Nat) : List Int := (List.range n).map fun i => (16 * Hx.hv (l.getD (2 * i) 0) + Hx.hv (l.getD (2 * i + 1) 0) : Nat)
theorem prs_succ {l : List Nat} {n : Nat} : prs l (n + 1) = prs l n ++ [((16 * Hx.hv (l.getD (2 * n) 0) + Hx.hv (l.getD (2 * n + 1) 0) : Nat) : Int)] := by
  unfold prs
  rw [List.range_succ, List.map_append]
  rfl
theorem hxd_ish : ∀ n : Nat, n < 16 → dig16.cps.toList[n]? = some (hxd n) := by
  have h : ∀ n ∈ List.range 16, dig16.cps.toList[n]? = some (hxd n) := by decide +kernel
  exact fun n hn => h n (List.mem_range.mpr hn)

def sp_l_is_integer (K : PySem.W.Frag) : Sp := fun vs H Q _ => ∃ (n : Int), vs = [.int n] ∧ Q (.bl true) H
theorem u_isint {n : Int} {H Q E} (q : Q (.bl true) H) : sp_l_is_integer K ([.int n] ++ []) H Q E := ⟨n, rfl, q⟩
theorem ok_l_is_integer (T : Txt K mg) : FnOk P w K mg base CX0 1 T.f_l_is_integer T.d_l_is_integer ["actual"] (sp_l_is_integer K) := by
  refine T.F_l_is_integer.ok sc_l_is_integer (fun vs H Q E h => ?_) (fun cdv A outer s H vs Q E hr h => ?_)
  · obtain ⟨n, rfl, q⟩ := h
    rfl
  · obtain ⟨n, rfl, q⟩ := h
    have hu := hu_of hr
    refine ⟨_, (pss_one (ps_ret (pe_and (pe_callB call_isi (by rfl) T.n_isinstance (by decide +kernel) (pa_cons (pv 0) (pa_cons (pe_bltn (v := .ty "int") (by rfl) T.n_int (by decide +kernel) rfl) pa_nil))) (pe_one (pe_not (pe_callB call_isi (by rfl) T.n_isinstance (by decide +kernel) (pa_cons (pv 0) (pa_cons (pe_bltn (v := .ty "bool") (by rfl) T.n_bool (by decide +kernel) rfl) pa_nil)))))))), ?_⟩
    dsimp only [cxOf, Cx.nox, Cx.wish, L2.start, List.map, List.cons_append, List.nil_append, List.length_cons, List.length_nil, Nat.reduceAdd, Nat.reduceSub, Nat.zero_add, List.replicate_succ, List.replicate_zero]
    walk_at "go"
    exact q
local macro_rules | `(tactic| walk_at "use") => `(tactic| with_reducible refine u_isint ?_)

def sp_l_row (K : PySem.W.Frag) : Sp := fun vs H Q _ => ∃ (c n b : Int), vs = [.int c, .int n, .int b] ∧ (0 ≤ n ∧ n ≤ 1000 ∧ 0 < b ∧ b ≤ 2 ^ 64) ∧
  ∀ (p : Addr) (row : List Int) H', (row.length : Int) = n → (∀ x ∈ row, 0 ≤ x ∧ x < b) → H p = none → Same H H' → H' p = some (.lst (row.map V.int)) → Q (.ref p) H'
theorem u_row {c n b : Int} {H Q E} (h0 : 0 ≤ n ∧ n ≤ 1000 ∧ 0 < b ∧ b ≤ 2 ^ 64)
    (q : ∀ (p : Addr) (row : List Int) H', (row.length : Int) = n → (∀ x ∈ row, 0 ≤ x ∧ x < b) → H p = none → Same H H' → H' p = some (.lst (row.map V.int)) → Q (.ref p) H') : sp_l_row K ([.int c, .int n, .int b] ++ []) H Q E := ⟨c, n, b, rfl, h0, q⟩
theorem ok_l_row (T : Txt K mg) : FnOk P w K mg base CX0 1 T.f_l_row T.d_l_row ["cell", "size", "base"] (sp_l_row K) := by
  refine T.F_l_row.ok sc_l_row (fun vs H Q E h => ?_) (fun cdv A outer s H vs Q E hr h => ?_)
  · obtain ⟨c, n, b, rfl, h0, q⟩ := h
    rfl
  · obtain ⟨c, n, b, rfl, h0, q⟩ := h
    have hu := hu_of hr
    refine ⟨_, (pss_cons (ps_set (i := 3) sc_l_row.nd rfl (Or.inl rfl) (pe_lst pa_nil))
        (pss_cons (ps_set (i := 4) sc_l_row.nd rfl (Or.inl rfl) (pv 0))
        (pss_cons (ps_for PassesOwn.never rfl (pi_range1 (by rfl) T.n_range (pa_cons (pv 1) pa_nil)) (pg_name (i := 5) sc_l_row.nd rfl (Or.inl rfl)) (pss_one (ps_if (pt_cmpR op_ge (pv 0) (pe_op op_pow pe_int pe_int) (nomark _)) (pss_cons (ps_expr (pe_bm PySem.F.plainAttrs_list PySem.F.slot_list_append PySem.F.type_list_append mt_append (pv 3) (pa_cons (pe_op op_mod (pe_callTy call_int1 (by rfl) T.n_int (by decide +kernel) (pa_cons (pv 4) pa_nil)) (pv 2)) pa_nil)))
        (pss_one (ps_set (i := 4) sc_l_row.nd rfl (Or.inl rfl) (pe_op op_fdivW (pv 4) (pv 2))))) (pss_cons (ps_set (i := 6) sc_l_row.nd rfl (Or.inl rfl) (pe_op op_mod (pe_op op_add (pe_op op_mul (pe_op op_mod (pe_callTy call_int1 (by rfl) T.n_int (by decide +kernel) (pa_cons (pv 0) pa_nil)) pe_int) pe_int) (pe_op op_mul (pv 5) pe_int)) pe_int))
        (pss_cons (ps_set (i := 6) sc_l_row.nd rfl (Or.inl rfl) (pe_op op_mod (pe_op op_add (pe_op op_add (pe_op op_mul (pv 6) pe_int) (pe_op op_mul (pv 5) pe_int)) pe_int) pe_int))
        (pss_one (ps_expr (pe_bm PySem.F.plainAttrs_list PySem.F.slot_list_append PySem.F.type_list_append mt_append (pv 3) (pa_cons (pe_op op_mod (pe_op op_fdiv (pv 6) pe_int) (pv 2)) pa_nil)))))))))
        (pss_one (ps_ret (pv 3)))))), ?_⟩
    dsimp only [cxOf, Cx.nox, Cx.wish, L2.start, List.map, List.cons_append, List.nil_append, List.length_cons, List.length_nil, Nat.reduceAdd, Nat.reduceSub, Nat.zero_add, List.replicate_succ, List.replicate_zero]
    walk_at "go"
    refine ⟨by decide, fun p hp => ?_⟩
    walk_at "go"
    refine for_r (n := n) n.toNat rfl (by omega) (by omega) (fun i σ H' => ∃ (row : List Int) (num : Int) (v5 v6 : Option V), σ = [some (.int c), some (.int n), some (.int b), some (.ref p), some (.int num), v5, v6] ∧ row.length = i ∧ (∀ x ∈ row, 0 ≤ x ∧ x < b) ∧ But p H H' ∧ H' p = some (.lst (row.map V.int)))
      ⟨[], c, none, none, rfl, rfl, (fun x h => by cases h), But.refl.upd, upd_same⟩ ?turn ?done ?ev
    case ev =>
      intro R r
      walk_at "go"
      exact r
    case done =>
      rintro σ H' ⟨row, num, v5, v6, rfl, hl, hb, bu, e⟩
      walk_at "go"
      exact q p row H' (by omega) hb hp (bu.same hp) e
    case turn =>
      rintro i σ H' hi ⟨row, num, v5, v6, rfl, hl, hb, bu, e⟩
      have hlen : (row.map V.int).length < sizeLine := by
        rw [List.length_map]
        exact szl (by omega)
      walk_at "go"
      refine g_ite (fun h => ?_) (fun h => ?_)
      · walk_at "go"
        refine ⟨ty_l e, ?_⟩
        walk_at "go"
        refine g_append e hlen ?_
        walk_at "go"
        refine g_rI (cdivW (by omega) (Int.lt_of_le_of_lt h0.2.2.2 (by decide +kernel))) ?_
        walk_at "go"
        refine ⟨row ++ [num % b], num / b, _, _, rfl, by rw [List.length_append, hl]; rfl, fun x hx => ?_, bu.upd, by rw [upd_same, List.map_append]; rfl⟩
        rcases List.mem_append.mp hx with hx | hx
        · exact hb x hx
        · rw [List.mem_singleton.mp hx]
          exact ⟨Int.emod_nonneg _ (by omega), Int.emod_lt_of_pos _ (by omega)⟩
      · walk_at "go"
        refine ⟨ty_l e, ?_⟩
        walk_at "go"
        refine g_append e hlen ?_
        walk_at "go"
        refine ⟨row ++ [_ % b], num, _, _, rfl, by rw [List.length_append, hl]; rfl, fun x hx => ?_, bu.upd, by rw [upd_same, List.map_append]; rfl⟩
        rcases List.mem_append.mp hx with hx | hx
        · exact hb x hx
        · rw [List.mem_singleton.mp hx]
          exact ⟨Int.emod_nonneg _ (by omega), Int.emod_lt_of_pos _ (by omega)⟩

def sp_l_octets (K : PySem.W.Frag) : Sp := fun vs H Q _ => ∃ (a b : Addr) (ns : List Int), vs = [.ref a, .ref b] ∧ H a = some (.lst (ns.map V.int)) ∧ SqL K H b (ns.map V.int) ∧ ns.length ≤ 1000 ∧ Q (.bl true) H
theorem u_octets {a b : Addr} {ns : List Int} {H Q E} (h1 : H a = some (.lst (ns.map V.int))) (h2 : SqL K H b (ns.map V.int)) (h3 : ns.length ≤ 1000) (q : Q (.bl true) H) : sp_l_octets K ([.ref a, .ref b] ++ []) H Q E := ⟨a, b, ns, rfl, h1, h2, h3, q⟩
theorem ok_l_octets (T : Txt K mg) : FnOk P w K mg base CX0 2 T.f_l_octets T.d_l_octets ["actual", "expected"] (sp_l_octets K) := by
  refine T.F_l_octets.ok sc_l_octets (fun vs H Q E h => ?_) (fun cdv A outer s H vs Q E hr h => ?_)
  · obtain ⟨a, b, ns, rfl, h1, h2, h3, q⟩ := h
    rfl
  · obtain ⟨a, b, ns, rfl, h1, h2, h3, q⟩ := h
    have hu := hu_of hr
    refine ⟨_, (pss_cons (ps_if (PW.pt (pw_or (pt_not (pt_val (pe_callB call_isi (by rfl) T.n_isinstance (by decide +kernel) (pa_cons (pv 0) (pa_cons (pe_bltn (v := .ty "list") (by rfl) T.n_list (by decide +kernel) rfl) pa_nil))))) (pw_or1 (pt_cmpR op_ne (pe_callB call_len_seq (by rfl) T.n_len (by decide +kernel) (pa_cons (pv 0) pa_nil)) (pe_callB call_len_seq (by rfl) T.n_len (by decide +kernel) (pa_cons (pv 1) pa_nil)) (nomark _))))) (pss_one (ps_ret pe_bl)) pss_nil)
        (pss_cons (ps_for PassesOwn.never rfl (pi_range1 (by rfl) T.n_range (pa_cons (pe_callB call_len_seq (by rfl) T.n_len (by decide +kernel) (pa_cons (pv 1) pa_nil)) pa_nil)) (pg_name (i := 2) sc_l_octets.nd rfl (Or.inl rfl)) (pss_one (ps_if (PW.pt (pw_or (pt_not (pt_val (pe_call (ok_l_is_integer T) (hr.mono (by decide)) rfl T.m_l_is_integer T.F_l_is_integer.kp T.b_l_is_integer .nil pass0 (pa_cons (pe_ix ix_list (pv 0) (pv 2) (fun _ _ => rfl)) pa_nil)))) (pw_or1 (pt_cmpR op_ne (pe_ix ix_list (pv 0) (pv 2) (fun _ _ => rfl)) (pe_ix ix_list (pv 1) (pv 2) (fun _ _ => rfl)) (nomark _))))) (pss_one (ps_ret pe_bl)) pss_nil)))
        (pss_one (ps_ret pe_bl)))), ?_⟩
    dsimp only [cxOf, Cx.nox, Cx.wish, L2.start, List.map, List.cons_append, List.nil_append, List.length_cons, List.length_nil, Nat.reduceAdd, Nat.reduceSub, Nat.zero_add, List.replicate_succ, List.replicate_zero]
    walk_at "go"
    refine g_isiL h1 ?_
    walk_at "go"
    refine g_len (.inl (sl h1)) ?_
    walk_at "go"
    refine g_len (.inl h2) ?_
    walk_at "go"
    refine for_r (n := (ns.length : Int)) ns.length (by omega) (by omega) (by omega) (fun i σ H' => H' = H ∧ ∃ v, σ = [some (.ref a), some (.ref b), v]) ⟨rfl, none, rfl⟩ ?turn ?done ?ev
    case ev =>
      intro R r
      walk_at "go"
      refine g_len (.inl h2) ?_
      walk_at "go"
      rw [List.length_map]
      exact r
    case done =>
      rintro σ H' ⟨rfl, v, rfl⟩
      walk_at "go"
      exact q
    case turn =>
      rintro i σ H' hi ⟨rfl, v, rfl⟩
      obtain ⟨n, e, _⟩ := atI_ints (xs := ns) (i := (i : Int)) (by omega) (by omega)
      walk_at "go"
      refine g_ixL (sl h1) e ?_
      walk_at "go"
      refine g_ixL (sl h1) e ?_
      walk_at "go"
      refine g_ixL h2 e ?_
      walk_at "go"
      exact ⟨rfl, _, rfl⟩

theorem g_makeK {C : Addr} {n m : Nat} {sp : Sp} {gV : List V → List V → List V} {E : XK} {t tk : TA} {σ : St} {H : Hp} {Q : VK} (h : t σ H fun vs H1 => tk σ H1 fun zs H2 => vs.length = n ∧ zs.length = m ∧
  ∀ x dx, H2 x = none → H2 dx = none → dx ≠ x → sp (gV (.ref x :: vs) zs) (upd (upd H2 dx (.own x)) x (.ins C dx [])) (fun v H3 => v = .non ∧ Q (.ref x) H3) E) : tMakeK C n m sp gV E t tk σ H Q := h
local macro_rules | `(tactic| walk_at "use") => `(tactic| with_reducible refine g_makeK ?_)

local macro_rules | `(tactic| walk_at "use") => `(tactic| with_reducible refine g_hx ?_)
def octs (ns : List Int) : Prop := ∀ x ∈ ns, 0 ≤ x ∧ x < 256
def sp_to_hex (K : PySem.W.Frag) : Sp := fun vs H Q _ => ∃ (a : Addr) (ns : List Int), vs = [.ref a] ∧ SqL K H a (ns.map V.int) ∧ octs ns ∧ ns.length ≤ 1000 ∧ ∀ H', Same H H' → Q (.str (Tx (hexes ns))) H'
theorem u_tohex {a : Addr} {ns : List Int} {H Q E} (h : SqL K H a (ns.map V.int)) (h2 : octs ns) (h3 : ns.length ≤ 1000) (q : ∀ H', Same H H' → Q (.str (Tx (hexes ns))) H') : sp_to_hex K ([.ref a] ++ []) H Q E := ⟨a, ns, rfl, h, h2, h3, q⟩
def hx2 (ns : List Int) : List (List Nat) := ns.map fun n => [hxd (n.toNat / 16), hxd (n.toNat % 16)]
theorem g_m1 {r : V → List V → Hp → VK → Prop} {to te : TE} {σ : St} {H : Hp} {Q : VK} (h : to σ H fun x H1 => (∃ a, x = V.str a) ∧ te σ H1 fun y H2 => r x [y] H2 Q) : tM1 r to te σ H Q := h
theorem hx2_sum : ∀ {ns : List Int}, (((hx2 ns).map SX.S).map (·.length)).sum = 2 * ns.length
  | [] => rfl
  | n :: ns => by
    show 2 + (((hx2 ns).map SX.S).map (·.length)).sum = _
    rw [hx2_sum, List.length_cons]
    omega
theorem ok_to_hex (T : Txt K mg) : FnOk P w K mg base CX0 1 T.f_to_hex T.d_to_hex ["octets"] (sp_to_hex K) := by
  refine T.F_to_hex.ok sc_to_hex (fun vs H Q E h => ?_) (fun cdv A outer s H vs Q E hr h => ?_)
  · obtain ⟨a, ns, rfl, hS, ho, hl, q⟩ := h
    rfl
  · obtain ⟨a, ns, rfl, hS, ho, hl, q⟩ := h
    have hu := hu_of hr
    refine ⟨_, (pss_one (ps_ret (pe_join pe_str (pe_lc (own := [("octet", 1)]) (g := gName 1) (tt := tYes) rfl sc_to_hex.nd (pi_list (pv 0)) (blkOk_by (N := ["octets", "octet"]) (sc := defScope s_to_hex) (by decide +kernel)) (fun _ _ _ _ _ => (pg_name (i := 1) sc_to_hex.nd rfl (Or.inl rfl))) (fun _ _ _ _ _ => pts_nil) (fun _ _ _ _ _ => (pe_joined1 (pe_hx2 (pv 1)))))))), ?_⟩
    dsimp only [cxOf, Cx.nox, Cx.wish, L2.start, List.map, List.cons_append, List.nil_append, List.length_cons, List.length_nil, Nat.reduceAdd, Nat.reduceSub, Nat.zero_add, List.replicate_succ, List.replicate_zero]
    walk_at "go"
    refine g_m1 ?_
    walk_at "go"
    refine ⟨⟨_, rfl⟩, ?_⟩
    walk_at "go"
    refine ⟨⟨_, hS⟩, fun D hD => ?_⟩
    refine lc_vals walk_list (((hx2 ns).map SX.S).map V.str) hD (by rw [List.length_map, List.length_map, List.length_map]; unfold hx2; rw [List.length_map]) (fun H s => s.seq hS) ?turn0 ?done0
    case turn0 =>
      rintro i x H1 H2 hi2 p ⟨rfl, hx⟩
      obtain ⟨n, hn, rfl⟩ := map_get hx
      obtain ⟨n0, n1⟩ := ho n (List.mem_of_getElem? hn)
      obtain ⟨m, rfl⟩ := Int.eq_ofNat_of_zero_le n0
      refine ⟨rfl, ?_⟩
      walk_at "go"
      refine g_hxE (by omega) ?_
      refine lc_next hD p (by rw [List.length_map, List.length_map]; unfold hx2; rw [List.length_map]; omega) ?_
      rw [List.getElem?_map, List.getElem?_map]
      unfold hx2
      rw [List.getElem?_map, hn]
      rfl
    case done0 =>
    intro H2 s2 e2
    refine ⟨Str.empty, D, (hx2 ns).map SX.S, rfl, rfl, .inl (sl e2), ?_, ?_⟩
    · rw [hx2_sum, List.length_map]
      unfold hx2
      rw [List.length_map]
      show 2 * ns.length + ns.length * 0 ≤ _
      omega
    · rw [join0]
      exact q H2 s2

theorem Tx_len {l : List Nat} : (Tx l).length = l.length := SX.S_len l
/-! ### packets and records -/
structure Pk where
  sender : Int
  target : Int
  os : List Int
  marked : Bool
def PkO (C : Addr) (H : Hp) (p o : Addr) (g : Pk) : Prop := ∃ dx, H p = some (.ins C dx (obj ky_Packet [.int g.sender, .int g.target, .ref o, .bl g.marked])) ∧ H o = some (.lst (g.os.map V.int))
theorem PkO.same {C : Addr} {H H' : Hp} {p o : Addr} {g : Pk} (h : PkO C H p o g) (s : Same H H') : PkO C H' p o g := by
  obtain ⟨dx, h1, h2⟩ := h
  exact ⟨dx, s _ _ h1, s _ _ h2⟩
def sp_Packet_init__ (C : Addr) (K : PySem.W.Frag) : Sp := fun vs H Q _ => ∃ (p dx a : Addr) (g : Pk), vs = [.ref p, .int g.sender, .int g.target, .ref a, .bl g.marked] ∧ H p = some (.ins C dx (obj ky_Packet [])) ∧ (∀ H', But p H H' → SqL K H' a (g.os.map V.int)) ∧
  ∀ o H', H o = none → o ≠ p → But p H H' → PkO C H' p o g → Q .non H'
theorem ok_Packet_init__ (T : Txt K mg) : FnOk P w K mg base CX0 1 T.f_Packet_init__ T.d_Packet_init__ ["self", "sender", "target", "octets", "marked"] (sp_Packet_init__ T.C_Packet K) := by
  refine T.F_Packet_init__.ok sc_Packet_init__ (fun vs H Q E h => ?_) (fun cdv A outer s H vs Q E hr h => ?_)
  · obtain ⟨p, dx, a, g, rfl, ho, hS, q⟩ := h
    rfl
  · obtain ⟨p, dx, a, g, rfl, ho, hS, q⟩ := h
    have hu := hu_of hr
    refine ⟨_, (pss_cons (ps_fld (pv 0) (pv 1) rfl)
        (pss_cons (ps_fld (pv 0) (pv 2) rfl)
        (pss_cons (ps_fld (pv 0) (pe_callTy call_list_of (by rfl) T.n_list (by decide +kernel) (pa_cons (pv 3) pa_nil)) rfl)
        (pss_one (ps_fld (pv 0) (pv 4) rfl))))), ?_⟩
    dsimp only [cxOf, Cx.nox, Cx.wish, L2.start, List.map, List.cons_append, List.nil_append, List.length_cons, List.length_nil, Nat.reduceAdd, Nat.reduceSub, Nat.zero_add, List.replicate_succ, List.replicate_zero]
    walk_at "go"
    simp only [upd_upd, List.nil_append, List.cons_append]
    generalize z1 : upd H p _ = H1
    have b1 : But p H H1 := by rw [← z1]; exact But.refl.upd
    have e1 : H1 p = some (.ins T.C_Packet dx (obj ky_Packet [.int g.sender, .int g.target])) := (congrFun z1 p).symm.trans upd_same
    clear z1
    refine ⟨a, _, rfl, .inl (hS _ b1), fun o no => ?_⟩
    have nop : o ≠ p := fun z => by rw [z, e1] at no; cases no
    generalize z2 : upd H1 o _ = H2
    have s2 : Same H1 H2 := by rw [← z2]; exact same_upd no
    have k2 : H2 o = some (.lst (g.os.map V.int)) := (congrFun z2 o).symm.trans upd_same
    clear z2
    have e2 := s2 _ _ e1
    have no0 : H o = none := by
      cases e : H o with
      | none => rfl
      | some x => rw [b1 _ _ nop e] at no; cases no
    walk_at "go"
    simp only [upd_upd, List.nil_append, List.cons_append]
    refine q o _ no0 nop (b1.trans (But.of s2)).upd ⟨dx, upd_same, ?_⟩
    rw [upd_ne nop]
    exact k2
def sp_Packet_fork (C : Addr) : Sp := fun vs H Q _ => ∃ (p o : Addr) (g : Pk), vs = [.ref p] ∧ PkO C H p o g ∧ ∀ p' o' H', H p' = none → H o' = none → Same H H' → PkO C H' p' o' g → Q (.ref p') H'
theorem kbt_0 {K : PySem.W.Frag} {mg : Str → Option Value} (T : Txt K mg) : ∃ g, KBn K T.d_Packet_init__ ["self", "sender", "target", "octets", "marked"] 4 ["marked"] g (fun vs zs => vs ++ ((zs.drop 0).take 1)) := by
  obtain ⟨mv, h⟩ := T.F_Packet_init__.kbinds0 (ps := ["self", "sender", "target", "octets", "marked"]) 4 ["marked"] [] (fun vs mz zs => vs ++ ((zs.drop 0).take 1)) (by intro h; cases h) (fun q hq => List.Sublist.mem hq (.cons _ (.slnil))) (fun r1 r2 r3 => r1.append ((r3.drop 0).take 1)) (fun D doc pm an cdv ct us mv ws l1 l2 l3 => match us, l1, mv, l2, ws, l3 with | [_, _, _, _], _, [], _, [_], _ => (by show _ = _; kernel_rfl))
  exact ⟨_, h⟩
theorem ok_Packet_fork (T : Txt K mg) : FnOk P w K mg base CX0 3 T.f_Packet_fork T.d_Packet_fork ["self"] (sp_Packet_fork T.C_Packet) := by
  refine T.F_Packet_fork.ok sc_Packet_fork (fun vs H Q E h => ?_) (fun cdv A outer s H vs Q E hr h => ?_)
  · obtain ⟨p, o, g, rfl, ⟨dx, ho, hS⟩, q⟩ := h
    rfl
  · obtain ⟨p, o, g, rfl, ⟨dx, ho, hS⟩, q⟩ := h
    have hu := hu_of hr
    obtain ⟨gk_0, kb_0⟩ := kbt_0 T
    refine ⟨_, (pss_one (ps_ret (pe_makeK T.mk_Packet (ok_Packet_init__ T) (hr.mono (by decide)) rfl T.c_Packet kb_0 pass0 (pa_cons (pe_fld (pv 0) rfl) (pa_cons (pe_fld (pv 0) rfl) (pa_cons (pe_fld (pv 0) rfl) pa_nil))) (pk_cons (pe_fld (pv 0) rfl) pk_nil)))), ?_⟩
    dsimp only [cxOf, Cx.nox, Cx.wish, L2.start, List.map, List.cons_append, List.nil_append, List.length_cons, List.length_nil, Nat.reduceAdd, Nat.reduceSub, Nat.zero_add, List.replicate_succ, List.replicate_zero]
    walk_at "go"
    refine ⟨rfl, rfl, fun x dx2 nx ndx nxd => ?_⟩
    have bx : But x H (upd (upd H dx2 (.own x)) x (.ins T.C_Packet dx2 [])) := ((But.of (same_upd (o := .own x) ndx))).upd
    have nox : o ≠ x := ne_of_none hS nx
    refine ⟨x, dx2, o, g, rfl, upd_same, fun H' b => sl (b _ _ nox (bx _ _ nox hS)), fun o' H' no' nox' b e => ⟨rfl, ?_⟩⟩
    have no0 : H o' = none := by
      cases z : H o' with
      | none => rfl
      | some y => rw [bx _ _ nox' z] at no'; cases no'
    exact q x o' H' nx no0 ((bx.trans b).same nx) e
structure Rc where
  tick : Int
  number : Int
  word : Str
  pk : Pk
def RcO (CP CR : Addr) (H : Hp) (r p o : Addr) (g : Rc) : Prop := ∃ dx, H r = some (.ins CR dx (obj ky_Record [.int g.tick, .int g.number, .str g.word, .ref p])) ∧ PkO CP H p o g.pk
theorem RcO.same {CP CR : Addr} {H H' : Hp} {r p o : Addr} {g : Rc} (h : RcO CP CR H r p o g) (s : Same H H') : RcO CP CR H' r p o g := by
  obtain ⟨dx, h1, h2⟩ := h
  exact ⟨dx, s _ _ h1, h2.same s⟩
def sp_Record_init__ (CP CR : Addr) : Sp := fun vs H Q _ => ∃ (r dx p o : Addr) (g : Rc), vs = [.ref r, .int g.tick, .int g.number, .str g.word, .ref p] ∧ H r = some (.ins CR dx (obj ky_Record [])) ∧ PkO CP H p o g.pk ∧
  ∀ p' o' H', H p' = none → H o' = none → But r H H' → RcO CP CR H' r p' o' g → Q .non H'
theorem ok_Record_init__ (T : Txt K mg) : FnOk P w K mg base CX0 4 T.f_Record_init__ T.d_Record_init__ ["self", "tick", "number", "word", "packet"] (sp_Record_init__ T.C_Packet T.C_Record) := by
  refine T.F_Record_init__.ok sc_Record_init__ (fun vs H Q E h => ?_) (fun cdv A outer s H vs Q E hr h => ?_)
  · obtain ⟨r, dx, p, o, g, rfl, ho, ⟨dx2, hp, hS⟩, q⟩ := h
    rfl
  · obtain ⟨r, dx, p, o, g, rfl, ho, ⟨dx2, hp, hS⟩, q⟩ := h
    have hu := hu_of hr
    refine ⟨_, (pss_cons (ps_fld (pv 0) (pv 1) rfl)
        (pss_cons (ps_fld (pv 0) (pv 2) rfl)
        (pss_cons (ps_fld (pv 0) (pv 3) rfl)
        (pss_one (ps_fld (pv 0) (pe_meth0 (pv 4) T.k_Packet T.a_Packet_fork (ok_Packet_fork T) (hr.mono (by decide)) T.b_Packet_fork .nil pass0) rfl))))), ?_⟩
    dsimp only [cxOf, Cx.nox, Cx.wish, L2.start, List.map, List.cons_append, List.nil_append, List.length_cons, List.length_nil, Nat.reduceAdd, Nat.reduceSub, Nat.zero_add, List.replicate_succ, List.replicate_zero]
    walk_at "go"
    simp only [upd_upd, List.nil_append, List.cons_append]
    generalize z1 : upd H r _ = H1
    have b1 : But r H H1 := by rw [← z1]; exact But.refl.upd
    have e1 : H1 r = some (.ins T.C_Record dx (obj ky_Record [.int g.tick, .int g.number, .str g.word])) := (congrFun z1 r).symm.trans upd_same
    clear z1
    have npr : p ≠ r := fun z => by rw [z, ho] at hp; injection hp with hp; injection hp with h1 h2 h3; cases h3
    have nor : o ≠ r := fun z => by rw [z, ho] at hS; cases hS
    have hp1 := b1 _ _ npr hp
    have hS1 := b1 _ _ nor hS
    walk_at "go"
    refine ⟨p, o, g.pk, rfl, ⟨dx2, hp1, hS1⟩, fun p' o' H2 np' no' s2 ep => ?_⟩
    have e2 := s2 _ _ e1
    have npr' : p' ≠ r := fun z => by rw [z, e1] at np'; cases np'
    have nor' : o' ≠ r := fun z => by rw [z, e1] at no'; cases no'
    have fr : ∀ {x}, x ≠ r → H1 x = none → H x = none := fun {x} nx h => by
      cases z : H x with
      | none => rfl
      | some y => rw [b1 _ _ nx z] at h; cases h
    walk_at "go"
    simp only [upd_upd, List.nil_append, List.cons_append]
    obtain ⟨dx3, ep1, ep2⟩ := ep
    refine q p' o' _ (fr npr' np') (fr nor' no') (b1.trans (But.of s2)).upd ⟨dx, upd_same, dx3, ?_, ?_⟩
    · rw [upd_ne npr']
      exact ep1
    · rw [upd_ne nor']
      exact ep2
def nT (i : Int) : Str := Str.ofString (toString i)
def mkT (b : Bool) : Str := if b = true then "m" else "-"
def ocT (os : List Int) : Str := if os.length = 0 then "-" else Tx (hexes os)
def lineF (g : Rc) : Str := Str.empty ++ nT g.tick ++ " " ++ nT g.number ++ " " ++ g.word ++ " " ++ nT g.pk.sender ++ " " ++ nT g.pk.target ++ " " ++ mkT g.pk.marked ++ " " ++ ocT g.pk.os
structure GOk (g : Rc) : Prop where
  t0 : 0 ≤ g.tick ∧ g.tick < 10 ^ 15
  n0 : 0 ≤ g.number ∧ g.number < 10 ^ 15
  s0 : 0 ≤ g.pk.sender ∧ g.pk.sender < 10 ^ 15
  g0 : 0 ≤ g.pk.target ∧ g.pk.target < 10 ^ 15
  w0 : g.word.length ≤ 100
  o0 : octs g.pk.os
  o1 : g.pk.os.length ≤ 100
theorem nT_len {i : Int} (h : 0 ≤ i ∧ i < 10 ^ 15) : (nT i).length ≤ 1921 := itext (by omega)
theorem log15 {i : Int} (h : 0 ≤ i ∧ i < 10 ^ 15) : i.natAbs.log2 < 1920 := log_lt (by omega)
theorem mkT_len {b : Bool} : (mkT b).length = 1 := by cases b <;> decide +kernel
theorem ocT_len {os : List Int} : (ocT os).length ≤ 2 * os.length + 1 := by
  unfold ocT
  split
  · show 1 ≤ _
    omega
  · rw [Tx_len, hexes_len]
    omega
theorem sp_len : (Str.ofString " ").length = 1 := by decide +kernel
theorem lineF_len {g : Rc} (h : GOk g) : (lineF g).length ≤ 8100 := by
  have h1 := nT_len h.t0
  have h2 := nT_len h.n0
  have h3 := nT_len h.s0
  have h4 := nT_len h.g0
  have h5 := h.w0
  have h6 := h.o1
  have h7 := ocT_len (os := g.pk.os)
  have h8 := mkT_len (b := g.pk.marked)
  have h9 := sp_len
  have h0 : Str.empty.length = 0 := by decide
  unfold lineF
  simp only [PySem.Str.length_append]
  omega
def sp_write_record (CP CR : Addr) : Sp := fun vs H Q _ => ∃ (r p o : Addr) (g : Rc), vs = [.ref r] ∧ RcO CP CR H r p o g ∧ GOk g ∧ ∀ H', Same H H' → Q (.str (lineF g)) H'
theorem u_wrec {CP CR r p o : Addr} {g : Rc} {H Q E} (h : RcO CP CR H r p o g) (h2 : GOk g) (q : ∀ H', Same H H' → Q (.str (lineF g)) H') : sp_write_record CP CR ([.ref r] ++ []) H Q E := ⟨r, p, o, g, rfl, h, h2, q⟩
theorem ok_write_record (T : Txt K mg) : FnOk P w K mg base CX0 2 T.f_write_record T.d_write_record ["record"] (sp_write_record T.C_Packet T.C_Record) := by
  refine T.F_write_record.ok sc_write_record (fun vs H Q E h => ?_) (fun cdv A outer s H vs Q E hr h => ?_)
  · obtain ⟨r, p, o, g, rfl, ⟨dx, hr0, dxp, hp, hS⟩, ok, q⟩ := h
    rfl
  · obtain ⟨r, p, o, g, rfl, ⟨dx, hr0, dxp, hp, hS⟩, ok, q⟩ := h
    have hu := hu_of hr
    refine ⟨_, (pss_cons (ps_set (i := 1) sc_write_record.nd rfl (Or.inl rfl) (pe_fld (pv 0) rfl))
        (pss_cons (ps_set (i := 2) sc_write_record.nd rfl (Or.inl rfl) (pe_ifExp (pt_val (pe_fld (pv 1) rfl)) pe_str pe_str))
        (pss_cons (ps_set (i := 3) sc_write_record.nd rfl (Or.inl rfl) (pe_ifExp (pt_cmpR op_gt (pe_callB call_len_seq (by rfl) T.n_len (by decide +kernel) (pa_cons (pe_fld (pv 1) rfl) pa_nil)) pe_int (nomark _)) (pe_call (ok_to_hex T) (hr.mono (by decide)) rfl T.m_to_hex T.F_to_hex.kp T.b_to_hex .nil pass0 (pa_cons (pe_fld (pv 1) rfl) pa_nil)) pe_str))
        (pss_one (ps_ret (pe_joinedJ (.cons (pe_fmt (pe_fld (pv 0) rfl)) (.cons pe_str (.cons (pe_fmt (pe_fld (pv 0) rfl)) (.cons pe_str (.cons (pe_fmt (pe_fld (pv 0) rfl)) (.cons pe_str (.cons (pe_fmt (pe_fld (pv 1) rfl)) (.cons pe_str (.cons (pe_fmt (pe_fld (pv 1) rfl)) (.cons pe_str (.cons (pe_fmt (pv 2)) (.cons pe_str (.cons (pe_fmt (pv 3)) .nil))))))))))))))))))), ?_⟩
    dsimp only [cxOf, Cx.nox, Cx.wish, L2.start, List.map, List.cons_append, List.nil_append, List.length_cons, List.length_nil, Nat.reduceAdd, Nat.reduceSub, Nat.zero_add, List.replicate_succ, List.replicate_zero]
    have l1 := nT_len ok.t0
    have l2 := nT_len ok.n0
    have l3 := nT_len ok.s0
    have l4 := nT_len ok.g0
    have l5 := ok.w0
    have l6 := ok.o1
    have l9 := sp_len
    have l0 : Str.empty.length = 0 := by decide
    unfold nT at l1 l2 l3 l4
    have fin : ∀ (mk oc : Str) (H' : Hp), mk = mkT g.pk.marked → oc = ocT g.pk.os → Same H H' → Q (.str (Str.empty ++ nT g.tick ++ " " ++ nT g.number ++ " " ++ g.word ++ " " ++ nT g.pk.sender ++ " " ++ nT g.pk.target ++ " " ++ mk ++ " " ++ oc)) H' := fun mk oc H' e1 e2 s => by
      rw [e1, e2]
      exact q H' s
    clear q
    walk_at "go"
    cases hm : g.pk.marked
    all_goals
      rw [hm] at hp fin
      have lm : (Str.ofString "m").length = 1 := by decide +kernel
      have ld : (Str.ofString "-").length = 1 := by decide +kernel
      walk_at "go"
      refine g_len (.inl (sl hS)) ?_
      walk_at "go"
      rw [List.length_map]
      by_cases ho : g.pk.os.length = 0
      · refine g_dF (by omega) ?_
        walk_at "go"
        refine g_fmtI (log15 ok.t0) ?_
        refine g_jsE (by walk_at "fit") ?_
        walk_at "go"
        refine g_jsE (by walk_at "fit") ?_
        walk_at "go"
        refine g_fmtI (log15 ok.n0) ?_
        refine g_jsE (by walk_at "fit") ?_
        walk_at "go"
        refine g_jsE (by walk_at "fit") ?_
        walk_at "go"
        refine g_fmtS (by rw [sizeLine_eq]; omega) ?_
        refine g_jsE (by walk_at "fit") ?_
        walk_at "go"
        refine g_jsE (by walk_at "fit") ?_
        walk_at "go"
        refine g_fmtI (log15 ok.s0) ?_
        refine g_jsE (by walk_at "fit") ?_
        walk_at "go"
        refine g_jsE (by walk_at "fit") ?_
        walk_at "go"
        refine g_fmtI (log15 ok.g0) ?_
        refine g_jsE (by walk_at "fit") ?_
        walk_at "go"
        refine g_jsE (by walk_at "fit") ?_
        walk_at "go"
        refine g_fmtS (by rw [sizeLine_eq]; omega) ?_
        refine g_jsE (by walk_at "fit") ?_
        walk_at "go"
        refine g_jsE (by walk_at "fit") ?_
        walk_at "go"
        refine g_fmtS (by rw [sizeLine_eq]; omega) ?_
        refine g_jsE (by walk_at "fit") ?_
        walk_at "go"
        exact fin _ _ H rfl (by unfold ocT; rw [if_pos ho]) (fun _ _ z => z)
      · refine g_dT (by omega) ?_
        walk_at "go"
        refine u_tohex (sl hS) ok.o0 (by omega) fun H' s' => ?_
        have hr1 := s' _ _ hr0
        have hp1 := s' _ _ hp
        have lo : (Tx (hexes g.pk.os)).length ≤ 200 := by rw [Tx_len, hexes_len]; omega
        walk_at "go"
        refine g_fmtI (log15 ok.t0) ?_
        refine g_jsE (by walk_at "fit") ?_
        walk_at "go"
        refine g_jsE (by walk_at "fit") ?_
        walk_at "go"
        refine g_fmtI (log15 ok.n0) ?_
        refine g_jsE (by walk_at "fit") ?_
        walk_at "go"
        refine g_jsE (by walk_at "fit") ?_
        walk_at "go"
        refine g_fmtS (by rw [sizeLine_eq]; omega) ?_
        refine g_jsE (by walk_at "fit") ?_
        walk_at "go"
        refine g_jsE (by walk_at "fit") ?_
        walk_at "go"
        refine g_fmtI (log15 ok.s0) ?_
        refine g_jsE (by walk_at "fit") ?_
        walk_at "go"
        refine g_jsE (by walk_at "fit") ?_
        walk_at "go"
        refine g_fmtI (log15 ok.g0) ?_
        refine g_jsE (by walk_at "fit") ?_
        walk_at "go"
        refine g_jsE (by walk_at "fit") ?_
        walk_at "go"
        refine g_fmtS (by rw [sizeLine_eq]; omega) ?_
        refine g_jsE (by walk_at "fit") ?_
        walk_at "go"
        refine g_jsE (by walk_at "fit") ?_
        walk_at "go"
        refine g_fmtS (by rw [sizeLine_eq]; omega) ?_
        refine g_jsE (by walk_at "fit") ?_
        walk_at "go"
        exact fin _ _ H' rfl (by unfold ocT; rw [if_neg ho]) s'
/-- the texts of records, sign by sign -/
def TXl (gs : List Rc) : List Nat := (gs.map fun g => (lineF g ++ "\n").cps.toList).flatten
theorem TXl_snoc {gs : List Rc} {g : Rc} : Tx (TXl (gs ++ [g])) = Tx (TXl gs) ++ lineF g ++ "\n" := by
  unfold TXl
  rw [List.map_append, List.flatten_append]
  show Tx (_ ++ ((lineF g ++ "\n").cps.toList ++ [])) = _
  rw [List.append_nil, PySem.Str.append_assoc]
  generalize lineF g ++ "\n" = x
  obtain ⟨⟨l⟩⟩ := x
  generalize (gs.map fun g => (lineF g ++ "\n").cps.toList).flatten = m
  show (⟨(m ++ l).toArray⟩ : Str) = (⟨m.toArray⟩ : Str) ++ ⟨l.toArray⟩
  apply PySem.Str.ext'
  rw [PySem.Str.cps_append]
  simp
def Rcs (CP CR : Addr) (H : Hp) (rs : List Addr) (gs : List Rc) : Prop := rs.length = gs.length ∧ ∀ (i : Nat) (r : Addr) (g : Rc), rs[i]? = some r → gs[i]? = some g → ∃ p o, RcO CP CR H r p o g
theorem Rcs.same {CP CR : Addr} {H H' : Hp} {rs : List Addr} {gs : List Rc} (h : Rcs CP CR H rs gs) (s : Same H H') : Rcs CP CR H' rs gs := ⟨h.1, fun i r g e1 e2 => by
  obtain ⟨p, o, z⟩ := h.2 i r g e1 e2
  exact ⟨p, o, z.same s⟩⟩
def sp_write_records (CP CR : Addr) (K : PySem.W.Frag) : Sp := fun vs H Q _ => ∃ (a : Addr) (rs : List Addr) (gs : List Rc), vs = [.ref a] ∧ SqL K H a (rs.map V.ref) ∧ Rcs CP CR H rs gs ∧ (∀ g ∈ gs, GOk g) ∧ gs.length ≤ 100 ∧ ∀ H', Same H H' → Q (.str (Tx (TXl gs))) H'
def lns (gs : List Rc) : List (List Nat) := gs.map fun g => (lineF g ++ "\n").cps.toList
theorem lns_sum : ∀ {gs : List Rc}, (∀ g ∈ gs, GOk g) → (((lns gs).map SX.S).map (·.length)).sum ≤ 8101 * gs.length
  | [], _ => Nat.le_refl _
  | g :: gs, h => by
    have h1 := lns_sum (gs := gs) fun x hx => h x (List.mem_cons_of_mem _ hx)
    have h2 := lineF_len (h g (List.mem_cons_self ..))
    have h3 : (lineF g ++ "\n").cps.toList.length ≤ 8101 := by
      show (lineF g ++ "\n").length ≤ _
      rw [PySem.Str.length_append]
      have : (Str.ofString "\n").length = 1 := by decide +kernel
      omega
    show (SX.S (lineF g ++ "\n").cps.toList).length + (((lns gs).map SX.S).map (·.length)).sum ≤ _
    rw [SX.S_len, List.length_cons]
    omega
theorem ok_write_records (T : Txt K mg) : FnOk P w K mg base CX0 3 T.f_write_records T.d_write_records ["records"] (sp_write_records T.C_Packet T.C_Record K) := by
  refine T.F_write_records.ok sc_write_records (fun vs H Q E h => ?_) (fun cdv A outer s H vs Q E hr h => ?_)
  · obtain ⟨a, rs, gs, rfl, hS, hR, ok, hl, q⟩ := h
    rfl
  · obtain ⟨a, rs, gs, rfl, hS, hR, ok, hl, q⟩ := h
    have hu := hu_of hr
    refine ⟨_, (pss_one (ps_ret (pe_join pe_str (pe_lc (own := [("record", 1)]) (g := gName 1) (tt := tYes) rfl sc_write_records.nd (pi_list (pv 0)) (blkOk_by (N := ["records", "record"]) (sc := defScope s_write_records) (by decide +kernel)) (fun _ _ _ _ _ => (pg_name (i := 1) sc_write_records.nd rfl (Or.inl rfl))) (fun _ _ _ _ _ => pts_nil) (fun _ _ _ _ _ => (pe_op op_addS (pe_call (ok_write_record T) (hr.mono (by decide)) rfl T.m_write_record T.F_write_record.kp T.b_write_record .nil pass0 (pa_cons (pv 1) pa_nil)) pe_str)))))), ?_⟩
    dsimp only [cxOf, Cx.nox, Cx.wish, L2.start, List.map, List.cons_append, List.nil_append, List.length_cons, List.length_nil, Nat.reduceAdd, Nat.reduceSub, Nat.zero_add, List.replicate_succ, List.replicate_zero]
    walk_at "go"
    refine g_m1 ?_
    walk_at "go"
    refine ⟨⟨_, rfl⟩, ?_⟩
    walk_at "go"
    refine ⟨⟨_, hS⟩, fun D hD => ?_⟩
    refine lc_vals walk_list (((lns gs).map SX.S).map V.str) hD (by rw [List.length_map, List.length_map, List.length_map]; unfold lns; rw [List.length_map, hR.1]) (fun H s => s.seq hS) ?turn0 ?done0
    case turn0 =>
      rintro i x H1 H2 hi2 p ⟨rfl, hx⟩
      obtain ⟨r, hr0, rfl⟩ : ∃ r, rs[i]? = some r ∧ x = .ref r := map_get hx
      have hil : i < gs.length := by rw [← hR.1]; exact (List.getElem?_eq_some_iff.mp hr0).1
      have eg : gs[i]? = some (gs[i]) := List.getElem?_eq_getElem hil
      have okg := ok _ (List.getElem_mem hil)
      generalize gs[i] = g at eg okg
      obtain ⟨p2, o2, z⟩ := hR.2 i r g hr0 eg
      refine ⟨rfl, ?_⟩
      walk_at "go"
      refine u_wrec (z.same p.1) okg fun H3 s3 => ?_
      have ll := lineF_len okg
      have ln : (Str.ofString "\n").length = 1 := by decide +kernel
      walk_at "go"
      refine lc_next hD (p.same s3) (by rw [List.length_map, List.length_map]; unfold lns; rw [List.length_map]; omega) ?_
      rw [List.getElem?_map, List.getElem?_map]
      unfold lns
      rw [List.getElem?_map, eg]
      rfl
    case done0 =>
    intro H2 s2 e2
    refine ⟨Str.empty, D, (lns gs).map SX.S, rfl, rfl, .inl (sl e2), ?_, ?_⟩
    · have := lns_sum ok
      rw [List.length_map]
      show _ + (lns gs).length * 0 ≤ _
      omega
    · rw [join0]
      exact q H2 s2
end
end My
namespace My
open PySem PySem.Spec L2
local macro_rules | `(tactic| walk_at "side") => `(tactic| first | assumption | decide | omega | exact ⟨by decide, by decide⟩ | exact ⟨by decide, by decide, by decide⟩ | decide +kernel | exact cdivW (by decide +kernel) (by decide +kernel) | exact Or.inl ⟨by omega, by omega⟩ | exact Or.inr ⟨by omega, by omega⟩ | (simp only [List.length_map, List.length_cons, List.length_nil, List.length_append]; omega))
local macro_rules | `(tactic| walk_at "fact") => `(tactic| first | assumption | omega | with_reducible rfl)
local macro_rules | `(tactic| walk_at "use") => `(tactic| fail "use")
local macro_rules | `(tactic| walk_at "go1") => `(tactic| with_reducible first | refine g_seq ?_ | refine g_asg ?_ | refine g_ret ?_ | refine g_ifS ?_ | refine g_drop ?_ | refine g_star ?_ | refine g_nx ?_ | refine g_rt ?_ | refine g_bkE ?_ | refine g_ctE ?_ | refine g_next ?_ | refine g_retN ?_ | refine g_brk ?_ | refine g_ct ?_ | refine g_c ?_ | refine g_op ?_ | refine g_un ?_ | refine g_rI0 ?_ | refine g_rU ?_ | refine g_rEqI ?_ | refine g_rNeI ?_ | refine g_isN ?_ | refine g_rIsB ?_ | refine g_rNotB ?_ | refine g_test ?_ | refine g_B ?_ | refine g_bl ?_ | refine g_and ?_ | refine g_or ?_ | refine g_not ?_ | refine g_andV ?_ | refine g_orV ?_ | refine g_notV ?_ | refine g_if ?_ | refine g_chain ?_ | refine g_yes ?_ | refine g_lc ?_ | refine g_revR ?_ | refine g_rng1 ?_ | refine g_iList ?_ | refine g_nil ?_ | refine g_cons ?_ | refine g_tup ?_ | refine g_lst ?_ | refine g_call ?_ | refine g_CB ?_ | refine g_sl ?_ | refine g_noPart ?_ | refine g_part ?_ | refine g_intE ?_ | refine g_ref ?_ | refine g_fld ?_ | refine g_sfld ?_ | refine g_meth ?_ | refine g_make ?_ | refine g_prop ?_  | refine g_ipI ?_ | refine g_int1 ?_ | refine g_int1B ?_ | refine g_one ?_ | refine g_two ?_ | refine g_isiI ?_ | refine g_isiIB ?_ | refine g_isiB ?_ | refine g_BM ?_ | refine g_BM0 ?_ | refine g_sub ?_)
local macro_rules | `(tactic| walk_at "go") => `(tactic| repeat (first | walk_at "go1" | ((with_reducible refine' g_nameE ?sd_ ?_); case sd_ => dsimp only [List.set_cons_succ, List.set_cons_zero]) | ((with_reducible refine' g_var ?sd_ ?_); case sd_ => exact rfl) | ((with_reducible refine' g_aug ?sd_ ?_); case sd_ => exact rfl) | ((with_reducible refine' g_rI ?sd_ ?_); case sd_ => walk_at "side") | ((with_reducible refine' g_dT ?sd_ ?_); case sd_ => walk_at "fact") | ((with_reducible refine' g_dF ?sd_ ?_); case sd_ => walk_at "fact") | ((with_reducible refine' g_nT ?sd_ ?_); case sd_ => walk_at "fact") | ((with_reducible refine' g_nF ?sd_ ?_); case sd_ => walk_at "fact") | (with_reducible refine g_iT rfl ?_) | (with_reducible refine g_iF rfl ?_) | walk_at "use"))
local macro_rules | `(tactic| walk_at "use") => `(tactic| first | ((with_reducible refine' fd_Packet_sender ?ho_ ?hv_ ?_); (case ho_ => first | assumption | exact upd_same); (case hv_ => exact rfl)) | ((with_reducible refine' fd_Packet_target ?ho_ ?hv_ ?_); (case ho_ => first | assumption | exact upd_same); (case hv_ => exact rfl)) | ((with_reducible refine' fd_Packet_octets ?ho_ ?hv_ ?_); (case ho_ => first | assumption | exact upd_same); (case hv_ => exact rfl)) | ((with_reducible refine' fd_Packet_marked ?ho_ ?hv_ ?_); (case ho_ => first | assumption | exact upd_same); (case hv_ => exact rfl)) | ((with_reducible refine' nw_Packet_sender ?ho_ ?hv_ ?_); (case ho_ => first | assumption | exact upd_same); (case hv_ => exact rfl)) | ((with_reducible refine' nw_Packet_target ?ho_ ?hv_ ?_); (case ho_ => first | assumption | exact upd_same); (case hv_ => exact rfl)) | ((with_reducible refine' nw_Packet_octets ?ho_ ?hv_ ?_); (case ho_ => first | assumption | exact upd_same); (case hv_ => exact rfl)) | ((with_reducible refine' nw_Packet_marked ?ho_ ?hv_ ?_); (case ho_ => first | assumption | exact upd_same); (case hv_ => exact rfl)) | ((with_reducible refine' st_Packet_sender ?ho_ ?hv_ ?_); (case ho_ => first | assumption | exact upd_same); (case hv_ => exact Nat.le_of_ble_eq_true rfl)) | ((with_reducible refine' st_Packet_target ?ho_ ?hv_ ?_); (case ho_ => first | assumption | exact upd_same); (case hv_ => exact Nat.le_of_ble_eq_true rfl)) | ((with_reducible refine' st_Packet_octets ?ho_ ?hv_ ?_); (case ho_ => first | assumption | exact upd_same); (case hv_ => exact Nat.le_of_ble_eq_true rfl)) | ((with_reducible refine' st_Packet_marked ?ho_ ?hv_ ?_); (case ho_ => first | assumption | exact upd_same); (case hv_ => exact Nat.le_of_ble_eq_true rfl)) | ((with_reducible refine' me_Packet_fork ?ho_ ?_); (case ho_ => first | assumption | exact upd_same)))
local macro_rules | `(tactic| walk_at "use") => `(tactic| first | ((with_reducible refine' fd_Record_tick ?ho_ ?hv_ ?_); (case ho_ => first | assumption | exact upd_same); (case hv_ => exact rfl)) | ((with_reducible refine' fd_Record_number ?ho_ ?hv_ ?_); (case ho_ => first | assumption | exact upd_same); (case hv_ => exact rfl)) | ((with_reducible refine' fd_Record_word ?ho_ ?hv_ ?_); (case ho_ => first | assumption | exact upd_same); (case hv_ => exact rfl)) | ((with_reducible refine' fd_Record_packet ?ho_ ?hv_ ?_); (case ho_ => first | assumption | exact upd_same); (case hv_ => exact rfl)) | ((with_reducible refine' nw_Record_tick ?ho_ ?hv_ ?_); (case ho_ => first | assumption | exact upd_same); (case hv_ => exact rfl)) | ((with_reducible refine' nw_Record_number ?ho_ ?hv_ ?_); (case ho_ => first | assumption | exact upd_same); (case hv_ => exact rfl)) | ((with_reducible refine' nw_Record_word ?ho_ ?hv_ ?_); (case ho_ => first | assumption | exact upd_same); (case hv_ => exact rfl)) | ((with_reducible refine' nw_Record_packet ?ho_ ?hv_ ?_); (case ho_ => first | assumption | exact upd_same); (case hv_ => exact rfl)) | ((with_reducible refine' st_Record_tick ?ho_ ?hv_ ?_); (case ho_ => first | assumption | exact upd_same); (case hv_ => exact Nat.le_of_ble_eq_true rfl)) | ((with_reducible refine' st_Record_number ?ho_ ?hv_ ?_); (case ho_ => first | assumption | exact upd_same); (case hv_ => exact Nat.le_of_ble_eq_true rfl)) | ((with_reducible refine' st_Record_word ?ho_ ?hv_ ?_); (case ho_ => first | assumption | exact upd_same); (case hv_ => exact Nat.le_of_ble_eq_true rfl)) | ((with_reducible refine' st_Record_packet ?ho_ ?hv_ ?_); (case ho_ => first | assumption | exact upd_same); (case hv_ => exact Nat.le_of_ble_eq_true rfl)))
section
variable {P : Program} {w : World} {K : PySem.W.Frag} {mg : Str → Option Value} {base : Heap}
local macro_rules | `(tactic| walk_at "use") => `(tactic| with_reducible first | refine g_rs0 ?_ | refine g_rs1 ?_ | refine g_tryA ?_ | refine g_tryO ?_ | refine g_callS ?_ | refine g_joined ?_ | refine g_jsnil ?_ | refine g_jscons ?_ | refine g_fmt ?_)
local macro_rules | `(tactic| walk_at "fit") => `(tactic| (refine fit2 ?_; (try simp only [PySem.Str.length_append]); omega))
local macro_rules | `(tactic| walk_at "use") => `(tactic| first | ((with_reducible refine' g_addS ?sd_ ?_); case sd_ => (first | omega | (simp only [PySem.Str.length_append]; omega))) | ((with_reducible refine' g_slS ?sd_ ?_); case sd_ => omega) | (with_reducible refine g_m0 ?_))

local macro_rules | `(tactic| walk_at "use") => `(tactic| with_reducible first | refine u_isint ?_ | refine g_rEqS ?_ | refine g_rNeS ?_ | refine g_isiS ?_ | refine g_hx ?_ | refine g_m1 ?_ | refine g_makeK ?_)
def sp_l_number (K : PySem.W.Frag) : Sp := fun vs H Q _ => ∃ c : Int, vs = [.int c] ∧ ∀ n : Int, 0 ≤ n → n < 10 ^ 15 → Q (.int n) H
theorem u_number {c : Int} {H Q E} (q : ∀ n : Int, 0 ≤ n → n < 10 ^ 15 → Q (.int n) H) : sp_l_number K ([.int c] ++ []) H Q E := ⟨c, rfl, q⟩
theorem ok_l_number (T : Txt K mg) : FnOk P w K mg base CX0 1 T.f_l_number T.d_l_number ["cell"] (sp_l_number K) := by
  refine T.F_l_number.ok sc_l_number (fun vs H Q E h => ?_) (fun cdv A outer s H vs Q E hr h => ?_)
  · obtain ⟨c, rfl, q⟩ := h
    rfl
  · obtain ⟨c, rfl, q⟩ := h
    have hu := hu_of hr
    refine ⟨_, (pss_cons (ps_if (pt_cmpR op_eq (pe_op op_mod (pe_callTy call_int1 (by rfl) T.n_int (by decide +kernel) (pa_cons (pv 0) pa_nil)) pe_int) pe_int (nomark _)) (pss_one (ps_ret (pe_op op_mod (pe_op op_fdiv (pe_callTy call_int1 (by rfl) T.n_int (by decide +kernel) (pa_cons (pv 0) pa_nil)) pe_int) pe_int))) pss_nil)
        (pss_cons (ps_if (pt_cmpR op_eq (pe_op op_mod (pe_callTy call_int1 (by rfl) T.n_int (by decide +kernel) (pa_cons (pv 0) pa_nil)) pe_int) pe_int (nomark _)) (pss_one (ps_ret (pe_op op_sub (pe_op op_sub (pe_op op_pow pe_int pe_int) pe_int) (pe_op op_mod (pe_op op_fdiv (pe_callTy call_int1 (by rfl) T.n_int (by decide +kernel) (pa_cons (pv 0) pa_nil)) pe_int) pe_int)))) pss_nil)
        (pss_one (ps_ret (pe_op op_mod (pe_op op_fdiv (pe_callTy call_int1 (by rfl) T.n_int (by decide +kernel) (pa_cons (pv 0) pa_nil)) pe_int) (pe_op op_pow pe_int pe_int)))))), ?_⟩
    dsimp only [cxOf, Cx.nox, Cx.wish, L2.start, List.map, List.cons_append, List.nil_append, List.length_cons, List.length_nil, Nat.reduceAdd, Nat.reduceSub, Nat.zero_add, List.replicate_succ, List.replicate_zero]
    walk_at "go"
    refine g_ite (fun _ => ?_) (fun _ => ?_)
    · walk_at "go"
      exact q _ (by omega) (by omega)
    walk_at "go"
    refine g_ite (fun _ => ?_) (fun _ => ?_)
    · walk_at "go"
      rw [show ((10 : Int) ^ Int.toNat 15) = 1000000000000000 from rfl]
      exact q _ (by omega) (by omega)
    · walk_at "go"
      rw [show ((10 : Int) ^ Int.toNat 15) = 1000000000000000 from rfl]
      exact q _ (Int.emod_nonneg _ (by decide)) (Int.emod_lt_of_pos _ (by decide))
def wds : List Str := ["sent", "delivered", "lost", "copied", "marked", "expired"]
theorem wds_len : ∀ z ∈ wds, z.length ≤ 100 := by decide +kernel
def PtO (H : Hp) (t o : Addr) (g : Rc) : Prop := H t = some (.tup [.int g.tick, .int g.number, .str g.word, .int g.pk.sender, .int g.pk.target, .bl g.pk.marked, .ref o]) ∧ H o = some (.lst (g.pk.os.map V.int))
def sp_l_parts (K : PySem.W.Frag) : Sp := fun vs H Q _ => ∃ c m : Int, vs = [.int c, .int m] ∧ ∀ (t o : Addr) (g : Rc) (H' : Hp), H t = none → H o = none → Same H H' → PtO H' t o g → GOk g → Q (.ref t) H'
theorem u_parts {c m : Int} {H Q E} (q : ∀ (t o : Addr) (g : Rc) (H' : Hp), H t = none → H o = none → Same H H' → PtO H' t o g → GOk g → Q (.ref t) H') : sp_l_parts K ([.int c, .int m] ++ []) H Q E := ⟨c, m, rfl, q⟩
theorem ok_l_parts (T : Txt K mg) : FnOk P w K mg base CX0 2 T.f_l_parts T.d_l_parts ["cell", "more"] (sp_l_parts K) := by
  refine T.F_l_parts.ok sc_l_parts (fun vs H Q E h => ?_) (fun cdv A outer s H vs Q E hr h => ?_)
  · obtain ⟨c, m, rfl, q⟩ := h
    rfl
  · obtain ⟨c, m, rfl, q⟩ := h
    have hu := hu_of hr
    refine ⟨_, (pss_cons (ps_set (i := 2) sc_l_parts.nd rfl (Or.inl rfl) (pe_ix ix_list (pe_lst (pa_cons pe_str (pa_cons pe_str (pa_cons pe_str (pa_cons pe_str (pa_cons pe_str (pa_cons pe_str pa_nil))))))) (pe_op op_mod (pe_callTy call_int1 (by rfl) T.n_int (by decide +kernel) (pa_cons (pv 0) pa_nil)) pe_int) (fun _ _ => rfl)))
        (pss_cons (ps_set (i := 3) sc_l_parts.nd rfl (Or.inl rfl) (pe_call (ok_l_row T) (hr.mono (by decide)) rfl T.m_l_row T.F_l_row.kp T.b_l_row .nil pass0 (pa_cons (pv 1) (pa_cons (pe_op op_mod (pe_op op_fdiv (pe_callTy call_int1 (by rfl) T.n_int (by decide +kernel) (pa_cons (pv 0) pa_nil)) pe_int) pe_int) (pa_cons pe_int pa_nil)))))
        (pss_cons (ps_set (i := 4) sc_l_parts.nd rfl (Or.inl rfl) (pe_cmpR op_eq (pe_op op_mod (pe_op op_fdiv (pe_callTy call_int1 (by rfl) T.n_int (by decide +kernel) (pa_cons (pv 0) pa_nil)) pe_int) pe_int) pe_int (nomark _)))
        (pss_cons (ps_set (i := 5) sc_l_parts.nd rfl (Or.inl rfl) (pe_lst (pa_cons (pe_call (ok_l_number T) (hr.mono (by decide)) rfl T.m_l_number T.F_l_number.kp T.b_l_number .nil pass0 (pa_cons (pe_op op_fdiv (pv 0) pe_int) pa_nil)) (pa_cons (pe_call (ok_l_number T) (hr.mono (by decide)) rfl T.m_l_number T.F_l_number.kp T.b_l_number .nil pass0 (pa_cons (pe_op op_fdiv (pv 0) pe_int) pa_nil)) (pa_cons (pe_call (ok_l_number T) (hr.mono (by decide)) rfl T.m_l_number T.F_l_number.kp T.b_l_number .nil pass0 (pa_cons (pv 1) pa_nil)) (pa_cons (pe_call (ok_l_number T) (hr.mono (by decide)) rfl T.m_l_number T.F_l_number.kp T.b_l_number .nil pass0 (pa_cons (pe_op op_fdiv (pv 1) pe_int) pa_nil)) pa_nil))))))
        (pss_one (ps_ret (pe_tup (pa_cons (pe_ix ix_list (pv 5) pe_int (fun _ _ => rfl)) (pa_cons (pe_ix ix_list (pv 5) pe_int (fun _ _ => rfl)) (pa_cons (pv 2) (pa_cons (pe_ix ix_list (pv 5) pe_int (fun _ _ => rfl)) (pa_cons (pe_ix ix_list (pv 5) pe_int (fun _ _ => rfl)) (pa_cons (pv 4) (pa_cons (pv 3) pa_nil)))))))))))))), ?_⟩
    dsimp only [cxOf, Cx.nox, Cx.wish, L2.start, List.map, List.cons_append, List.nil_append, List.length_cons, List.length_nil, Nat.reduceAdd, Nat.reduceSub, Nat.zero_add, List.replicate_succ, List.replicate_zero]
    walk_at "go"
    refine ⟨by show 6 ≤ sizeLine; decide, fun lw hlw => ?_⟩
    walk_at "go"
    have d0 := Int.emod_nonneg c (show (6 : Int) ≠ 0 by decide)
    have d1 := Int.emod_lt_of_pos c (show (0 : Int) < 6 by decide)
    have hk : (c % 6).toNat < wds.length := by show _ < 6; omega
    obtain ⟨z, ez⟩ : ∃ z, wds[(c % 6).toNat]? = some z := ⟨_, List.getElem?_eq_getElem hk⟩
    have hz := wds_len z (List.mem_of_getElem? ez)
    refine g_ixL (xs := wds.map V.str) (sl upd_same) (at_of (j := (c % 6).toNat) (by omega) (by rw [List.getElem?_map, ez]; rfl)) ?_
    walk_at "go"
    generalize zl : upd H lw _ = H1
    have s1 : Same H H1 := by rw [← zl]; exact same_upd hlw
    clear zl
    refine u_row ⟨by omega, by omega, by decide, by decide⟩ fun o os H2 lo bo no s2 e2 => ?_
    walk_at "go"
    refine u_number fun n1 a1 b1 => ?_
    walk_at "go"
    refine u_number fun n2 a2 b2 => ?_
    walk_at "go"
    refine u_number fun n3 a3 b3 => ?_
    walk_at "go"
    refine u_number fun n4 a4 b4 => ?_
    walk_at "go"
    refine ⟨by show 4 ≤ sizeLine; decide, fun ln hln => ?_⟩
    generalize z3 : upd H2 ln _ = H3
    have s3 : Same H2 H3 := by rw [← z3]; exact same_upd hln
    have k3 : H3 ln = some (.lst [.int n1, .int n2, .int n3, .int n4]) := (congrFun z3 ln).symm.trans upd_same
    clear z3
    walk_at "go"
    refine g_ixL (sl k3) (at_of (j := 0) rfl rfl) ?_
    walk_at "go"
    refine g_ixL (sl k3) (at_of (j := 1) rfl rfl) ?_
    walk_at "go"
    refine g_ixL (sl k3) (at_of (j := 2) rfl rfl) ?_
    walk_at "go"
    refine g_ixL (sl k3) (at_of (j := 3) rfl rfl) ?_
    walk_at "go"
    refine ⟨by show 7 ≤ sizeLine; decide, fun t ht => ?_⟩
    have s23 := (s1.trans s2).trans s3
    refine q t o ⟨n1, n2, z, ⟨n3, n4, os, decide (c / 78 % 2 = 1)⟩⟩ _ (s23.free ht) (s1.free no) (s23.trans (same_upd ht)) ⟨upd_same, (same_upd ht) _ _ (s3 _ _ e2)⟩ ⟨⟨a1, b1⟩, ⟨a2, b2⟩, ⟨a3, b3⟩, ⟨a4, b4⟩, hz, bo, ?_⟩
    show os.length ≤ 100
    omega
def sp_l_made (CP CR : Addr) : Sp := fun vs H Q _ => ∃ (t o : Addr) (g : Rc), vs = [.ref t] ∧ PtO H t o g ∧ ∀ (r p o' : Addr) (H' : Hp), H r = none → H o' = none → Same H H' → RcO CP CR H' r p o' g → Q (.ref r) H'
theorem u_made {CP CR t o : Addr} {g : Rc} {H Q E} (h : PtO H t o g) (q : ∀ (r p o' : Addr) (H' : Hp), H r = none → H o' = none → Same H H' → RcO CP CR H' r p o' g → Q (.ref r) H') : sp_l_made CP CR ([.ref t] ++ []) H Q E := ⟨t, o, g, rfl, h, q⟩
theorem ok_l_made (T : Txt K mg) : FnOk P w K mg base CX0 6 T.f_l_made T.d_l_made ["parts"] (sp_l_made T.C_Packet T.C_Record) := by
  refine T.F_l_made.ok sc_l_made (fun vs H Q E h => ?_) (fun cdv A outer s H vs Q E hr h => ?_)
  · obtain ⟨t, o, g, rfl, ⟨ht, ho⟩, q⟩ := h
    rfl
  · obtain ⟨t, o, g, rfl, ⟨ht, ho⟩, q⟩ := h
    have hu := hu_of hr
    obtain ⟨gk_0, kb_0⟩ := kbt_0 T
    refine ⟨_, (pss_one (ps_ret (pe_make T.mk_Record (ok_Record_init__ T) (hr.mono (by decide)) rfl T.c_Record T.b_Record_init__ .nil pass0 (pa_cons (pe_ix ix_tup (pv 0) pe_int (fun _ _ => rfl)) (pa_cons (pe_ix ix_tup (pv 0) pe_int (fun _ _ => rfl)) (pa_cons (pe_ix ix_tup (pv 0) pe_int (fun _ _ => rfl)) (pa_cons (pe_makeK T.mk_Packet (ok_Packet_init__ T) (hr.mono (by decide)) rfl T.c_Packet kb_0 pass0 (pa_cons (pe_ix ix_tup (pv 0) pe_int (fun _ _ => rfl)) (pa_cons (pe_ix ix_tup (pv 0) pe_int (fun _ _ => rfl)) (pa_cons (pe_callTy call_list_of (by rfl) T.n_list (by decide +kernel) (pa_cons (pe_ix ix_tup (pv 0) pe_int (fun _ _ => rfl)) pa_nil)) pa_nil))) (pk_cons (pe_ix ix_tup (pv 0) pe_int (fun _ _ => rfl)) pk_nil)) pa_nil))))))), ?_⟩
    dsimp only [cxOf, Cx.nox, Cx.wish, L2.start, List.map, List.cons_append, List.nil_append, List.length_cons, List.length_nil, Nat.reduceAdd, Nat.reduceSub, Nat.zero_add, List.replicate_succ, List.replicate_zero]
    walk_at "go"
    refine g_ixT (st ht) (at_of (j := 0) rfl rfl) ?_
    walk_at "go"
    refine g_ixT (st ht) (at_of (j := 1) rfl rfl) ?_
    walk_at "go"
    refine g_ixT (st ht) (at_of (j := 2) rfl rfl) ?_
    walk_at "go"
    refine g_ixT (st ht) (at_of (j := 3) rfl rfl) ?_
    walk_at "go"
    refine g_ixT (st ht) (at_of (j := 4) rfl rfl) ?_
    walk_at "go"
    refine g_ixT (st ht) (at_of (j := 6) rfl rfl) ?_
    walk_at "go"
    refine ⟨o, _, rfl, .inl (sl ho), fun l1 hl1 => ?_⟩
    generalize z1 : upd H l1 _ = H1
    have s1 : Same H H1 := by rw [← z1]; exact same_upd hl1
    have k1 : H1 l1 = some (.lst (g.pk.os.map V.int)) := (congrFun z1 l1).symm.trans upd_same
    clear z1
    walk_at "go"
    refine g_ixT (st (s1 _ _ ht)) (at_of (j := 5) rfl rfl) ?_
    walk_at "go"
    refine ⟨rfl, rfl, fun x dx nx ndx nxd => ?_⟩
    have bx : But x H1 (upd (upd H1 dx (.own x)) x (.ins T.C_Packet dx [])) := ((But.of (same_upd (o := .own x) ndx))).upd
    have n1x : l1 ≠ x := ne_of_none k1 nx
    refine ⟨x, dx, l1, g.pk, rfl, upd_same, fun H' b => sl (b _ _ n1x (bx _ _ n1x k1)), fun o2 H2 no2 no2x b2 e2 => ⟨rfl, ?_⟩⟩
    have s2 : Same H1 H2 := (bx.trans b2).same nx
    walk_at "go"
    intro r dr nr ndr nrd
    have br : But r H2 (upd (upd H2 dr (.own r)) r (.ins T.C_Record dr [])) := ((But.of (same_upd (o := .own r) ndr))).upd
    obtain ⟨dp, ep1, ep2⟩ := e2
    have nxr : x ≠ r := ne_of_none ep1 nr
    have no2r : o2 ≠ r := ne_of_none ep2 nr
    refine ⟨r, dr, x, o2, g, rfl, upd_same, ⟨dp, br _ _ nxr ep1, br _ _ no2r ep2⟩, fun p' o' H3 _ no' b3 e3 => ⟨rfl, ?_⟩⟩
    have s3 : Same H2 H3 := (br.trans b3).same nr
    exact q r p' o' H3 ((s1.trans s2).free nr) ((s1.trans s2).free ((br.same nr).free no')) ((s1.trans s2).trans s3) e3
theorem at_nat {xs : List Nat} {i : Int} {j c : Nat} (e : i = (j : Int)) (h : xs[j]? = some c) : atI xs i = some c := by
  obtain ⟨hl, _⟩ := List.getElem?_eq_some_iff.mp h
  subst e
  unfold atI
  rw [ixN_nat (by omega) (by omega)]
  exact h
theorem line_join {g : Rc} {oc : Str} (e : oc = ocT g.pk.os) : Txt.join " " [nT g.tick, nT g.number, g.word, nT g.pk.sender, nT g.pk.target, mkT g.pk.marked, oc] = lineF g := by
  rw [TL.join_eq, e]
  show nT g.tick ++ (" " : Str) ++ (nT g.number ++ (" " : Str) ++ (g.word ++ (" " : Str) ++ (nT g.pk.sender ++ (" " : Str) ++ (nT g.pk.target ++ (" " : Str) ++ (mkT g.pk.marked ++ (" " : Str) ++ ocT g.pk.os))))) = _
  unfold lineF
  simp only [PySem.Str.append_assoc, PySem.Str.empty_append]
def sp_l_line (K : PySem.W.Frag) : Sp := fun vs H Q _ => ∃ (t o : Addr) (g : Rc), vs = [.ref t] ∧ PtO H t o g ∧ GOk g ∧ ∀ H', Same H H' → Q (.str (lineF g)) H'
theorem u_line {t o : Addr} {g : Rc} {H Q E} (h : PtO H t o g) (ok : GOk g) (q : ∀ H', Same H H' → Q (.str (lineF g)) H') : sp_l_line K ([.ref t] ++ []) H Q E := ⟨t, o, g, rfl, h, ok, q⟩
theorem ok_l_line (T : Txt K mg) : FnOk P w K mg base CX0 1 T.f_l_line T.d_l_line ["parts"] (sp_l_line K) := by
  refine T.F_l_line.ok sc_l_line (fun vs H Q E h => ?_) (fun cdv A outer s H vs Q E hr h => ?_)
  · obtain ⟨t, o, g, rfl, ⟨ht, ho⟩, ok, q⟩ := h
    rfl
  · obtain ⟨t, o, g, rfl, ⟨ht, ho⟩, ok, q⟩ := h
    have hu := hu_of hr
    refine ⟨_, (pss_cons (ps_set (i := 1) sc_l_line.nd rfl (Or.inr rfl) pe_str)
        (pss_cons (ps_set (i := 2) sc_l_line.nd rfl (Or.inl rfl) (pe_join pe_str (pe_lc (own := [("octet", 4)]) (g := gName 4) (tt := tYes) rfl sc_l_line.nd (pi_list (pe_ix ix_tup (pv 0) pe_int (fun _ _ => rfl))) (blkOk_by (N := ["parts", "digits", "octets", "words", "octet"]) (sc := defScope s_l_line) (by decide +kernel)) (fun _ _ _ _ _ => (pg_name (i := 4) sc_l_line.nd rfl (Or.inl rfl))) (fun _ _ _ _ _ => pts_nil) (fun _ _ _ _ _ => (pe_op op_addS (pe_ix ix_str (pv 1) (pe_op op_fdiv (pv 4) pe_int) (fun _ _ => rfl)) (pe_ix ix_str (pv 1) (pe_op op_sub (pv 4) (pe_op op_mul (pe_op op_fdiv (pv 4) pe_int) pe_int)) (fun _ _ => rfl)))))))
        (C8.pss_cut (ps_if (pt_cmpR op_eq (pv 2) pe_str (nomark _)) (pss_one (ps_set (i := 2) sc_l_line.nd rfl (Or.inl rfl) pe_str)) pss_nil)
        (pss_cons (ps_set (i := 3) sc_l_line.nd rfl (Or.inl rfl) (pe_lst (pa_cons (pe_callTy call_str_int (by rfl) T.n_str (by decide +kernel) (pa_cons (pe_ix ix_tup (pv 0) pe_int (fun _ _ => rfl)) pa_nil)) (pa_cons (pe_callTy call_str_int (by rfl) T.n_str (by decide +kernel) (pa_cons (pe_ix ix_tup (pv 0) pe_int (fun _ _ => rfl)) pa_nil)) (pa_cons (pe_ix ix_tup (pv 0) pe_int (fun _ _ => rfl)) (pa_cons (pe_callTy call_str_int (by rfl) T.n_str (by decide +kernel) (pa_cons (pe_ix ix_tup (pv 0) pe_int (fun _ _ => rfl)) pa_nil)) (pa_cons (pe_callTy call_str_int (by rfl) T.n_str (by decide +kernel) (pa_cons (pe_ix ix_tup (pv 0) pe_int (fun _ _ => rfl)) pa_nil)) (pa_cons (pe_ix ix_str pe_str (pe_callTy call_int1 (by rfl) T.n_int (by decide +kernel) (pa_cons (pe_ix ix_tup (pv 0) pe_int (fun _ _ => rfl)) pa_nil)) (fun _ _ => rfl)) (pa_cons (pv 2) pa_nil)))))))))
        (pss_one (ps_ret (pe_join pe_str (pv 3)))))))), ?_⟩
    dsimp only [cxOf, Cx.nox, Cx.wish, L2.start, List.map, List.cons_append, List.nil_append, List.length_cons, List.length_nil, Nat.reduceAdd, Nat.reduceSub, Nat.zero_add, List.replicate_succ, List.replicate_zero]
    walk_at "go"
    refine ⟨⟨_, rfl⟩, ?_⟩
    walk_at "go"
    refine g_ixT (st ht) (at_of (j := 6) rfl rfl) ?_
    refine ⟨o, rfl, ⟨_, sl ho⟩, fun D hD => ?_⟩
    refine lc_vals walk_list (((hx2 g.pk.os).map SX.S).map V.str) hD (by rw [List.length_map, List.length_map, List.length_map]; unfold hx2; rw [List.length_map]) (fun H s => s.seq (sl ho)) ?turn0 ?done0
    case turn0 =>
      rintro i x H2 H3 hi2 p ⟨rfl, hx⟩
      obtain ⟨n, hn, rfl⟩ := map_get hx
      obtain ⟨n0, n1⟩ := ok.o0 n (List.mem_of_getElem? hn)
      obtain ⟨m, rfl⟩ := Int.eq_ofNat_of_zero_le n0
      have hzd : dig16.length ≤ sizeLine := by decide +kernel
      have e1 := hxd_ish (m / 16) (by omega)
      have e2 := hxd_ish (m % 16) (by omega)
      have l1 := ok.o1
      refine ⟨rfl, ?_⟩
      walk_at "go"
      refine ⟨dig16, _, _, rfl, rfl, hzd, at_nat (j := m / 16) (by omega) e1, ?_⟩
      walk_at "go"
      refine ⟨dig16, _, _, rfl, rfl, hzd, at_nat (j := m % 16) (by omega) e2, ?_⟩
      refine g_addS (by show 1 + 1 ≤ 16777216; decide) ?_
      refine lc_next hD p (by rw [List.length_map, List.length_map]; unfold hx2; rw [List.length_map]; omega) ?_
      rw [List.getElem?_map, List.getElem?_map]
      unfold hx2
      rw [List.getElem?_map, hn]
      rfl
    case done0 =>
    intro H2 s2 e2
    have ht2 := s2 _ _ ht
    have l1 := ok.o1
    refine ⟨Str.empty, D, (hx2 g.pk.os).map SX.S, rfl, rfl, .inl (sl e2), ?_, ?_⟩
    · rw [hx2_sum, List.length_map]
      unfold hx2
      rw [List.length_map]
      show 2 * g.pk.os.length + g.pk.os.length * 0 ≤ _
      omega
    rw [join0]
    walk_at "go"
    refine g_cut (fun σ' H' => H2 = H' ∧ ∃ v4, σ' = [some (.ref t), some (.str dig16), some (.str (ocT g.pk.os)), none, v4]) ?_ ?_
    · walk_at "go"
      refine g_ite (fun h => ?_) (fun h => ?_)
      · have h0 : g.pk.os.length = 0 := by
          have := congrArg Str.length h
          have h1 : (Tx (hx2 g.pk.os).flatten).length = 2 * g.pk.os.length := by rw [Tx_len]; exact hexes_len
          rw [h1, show (Str.ofString "").length = 0 by decide +kernel] at this
          omega
        walk_at "go"
        refine ⟨rfl, none, ?_⟩
        unfold ocT
        rw [if_pos h0]
        rfl
      · have h0 : ¬ g.pk.os.length = 0 := by
          intro z
          apply h
          rw [List.eq_nil_of_length_eq_zero z]
          decide +kernel
        walk_at "go"
        refine ⟨rfl, none, ?_⟩
        unfold ocT
        rw [if_neg h0]
        rfl
    rintro σ' _ ⟨rfl, v4, rfl⟩
    walk_at "go"
    refine g_ixT (st ht2) (at_of (j := 0) rfl rfl) ?_
    walk_at "go"
    refine ⟨log15 ok.t0, ?_⟩
    walk_at "go"
    refine g_ixT (st ht2) (at_of (j := 1) rfl rfl) ?_
    walk_at "go"
    refine ⟨log15 ok.n0, ?_⟩
    walk_at "go"
    refine g_ixT (st ht2) (at_of (j := 2) rfl rfl) ?_
    walk_at "go"
    refine g_ixT (st ht2) (at_of (j := 3) rfl rfl) ?_
    walk_at "go"
    refine ⟨log15 ok.s0, ?_⟩
    walk_at "go"
    refine g_ixT (st ht2) (at_of (j := 4) rfl rfl) ?_
    walk_at "go"
    refine ⟨log15 ok.g0, ?_⟩
    walk_at "go"
    refine g_ixT (st ht2) (at_of (j := 5) rfl rfl) ?_
    walk_at "go"
    have hzm : (Str.ofString "-m").length ≤ sizeLine := by decide +kernel
    obtain ⟨c, ec1, ec2⟩ : ∃ c, atI (Str.ofString "-m").cps.toList (if g.pk.marked = true then 1 else 0) = some c ∧ (⟨#[c]⟩ : Str) = mkT g.pk.marked := by
      cases g.pk.marked
      · exact ⟨45, by decide +kernel, by decide +kernel⟩
      · exact ⟨109, by decide +kernel, by decide +kernel⟩
    refine ⟨_, _, c, rfl, rfl, hzm, ec1, ?_⟩
    rw [ec2]
    walk_at "go"
    refine ⟨by show 7 ≤ sizeLine; decide, fun lw hlw => ?_⟩
    generalize z3 : upd H2 lw _ = H3
    have s3 : Same H2 H3 := by rw [← z3]; exact same_upd hlw
    have k3 : H3 lw = some (.lst ([nT g.tick, nT g.number, g.word, nT g.pk.sender, nT g.pk.target, mkT g.pk.marked, ocT g.pk.os].map V.str)) := (congrFun z3 lw).symm.trans upd_same
    clear z3
    walk_at "go"
    refine ⟨⟨_, rfl⟩, ?_⟩
    walk_at "go"
    refine ⟨_, lw, [nT g.tick, nT g.number, g.word, nT g.pk.sender, nT g.pk.target, mkT g.pk.marked, ocT g.pk.os], rfl, rfl, .inl (sl k3), ?_, ?_⟩
    · have h1 := nT_len ok.t0
      have h2 := nT_len ok.n0
      have h3 := nT_len ok.s0
      have h4 := nT_len ok.g0
      have h5 := ok.w0
      have h7 := ocT_len (os := g.pk.os)
      have h8 := mkT_len (b := g.pk.marked)
      have h9 := sp_len
      show (nT g.tick).length + ((nT g.number).length + (g.word.length + ((nT g.pk.sender).length + ((nT g.pk.target).length + ((mkT g.pk.marked).length + ((ocT g.pk.os).length + 0)))))) + 7 * (Str.ofString " ").length ≤ _
      omega
    · rw [line_join rfl]
      exact q _ (s2.trans s3)
def sp_l_same (CP CR : Addr) : Sp := fun vs H Q _ => ∃ (r p o t o2 : Addr) (g : Rc), vs = [.ref r, .ref t] ∧ RcO CP CR H r p o g ∧ PtO H t o2 g ∧ GOk g ∧ ∀ H', Same H H' → Q (.bl true) H'
theorem u_same {CP CR r p o t o2 : Addr} {g : Rc} {H Q E} (h : RcO CP CR H r p o g) (h2 : PtO H t o2 g) (ok : GOk g) (q : ∀ H', Same H H' → Q (.bl true) H') : sp_l_same CP CR ([.ref r, .ref t] ++ []) H Q E := ⟨r, p, o, t, o2, g, rfl, h, h2, ok, q⟩
theorem ok_l_same (T : Txt K mg) : FnOk P w K mg base CX0 3 T.f_l_same T.d_l_same ["actual", "parts"] (sp_l_same T.C_Packet T.C_Record) := by
  refine T.F_l_same.ok sc_l_same (fun vs H Q E h => ?_) (fun cdv A outer s H vs Q E hr h => ?_)
  · obtain ⟨r, p, o, t, o2, g, rfl, ⟨dx, hr0, dxp, hp, hS⟩, ⟨ht, ho2⟩, ok, q⟩ := h
    rfl
  · obtain ⟨r, p, o, t, o2, g, rfl, ⟨dx, hr0, dxp, hp, hS⟩, ⟨ht, ho2⟩, ok, q⟩ := h
    have hu := hu_of hr
    refine ⟨_, (pss_cons (ps_if (PW.pt (pw_or (pt_not (pt_val (pe_callB call_isi (by rfl) T.n_isinstance (by decide +kernel) (pa_cons (pv 0) (pa_cons (pe_glob (v := .ref T.C_Record) (by rfl) T.c_Record rfl) pa_nil))))) (pw_or (pt_not (pt_val (pe_callB call_isi (by rfl) T.n_isinstance (by decide +kernel) (pa_cons (pe_fld (pv 0) rfl) (pa_cons (pe_glob (v := .ref T.C_Packet) (by rfl) T.c_Packet rfl) pa_nil))))) (pw_or1 (pt_not (pt_val (pe_callB call_isi (by rfl) T.n_isinstance (by decide +kernel) (pa_cons (pe_fld (pv 0) rfl) (pa_cons (pe_bltn (v := .ty "str") (by rfl) T.n_str (by decide +kernel) rfl) pa_nil))))))))) (pss_one (ps_ret pe_bl)) pss_nil)
        (pss_cons (ps_set (i := 2) sc_l_same.nd rfl (Or.inl rfl) (pe_lst (pa_cons (pe_fld (pv 0) rfl) (pa_cons (pe_fld (pv 0) rfl) (pa_cons (pe_fld (pe_fld (pv 0) rfl) rfl) (pa_cons (pe_fld (pe_fld (pv 0) rfl) rfl) pa_nil))))))
        (pss_cons (ps_set (i := 3) sc_l_same.nd rfl (Or.inl rfl) (pe_lst (pa_cons (pe_ix ix_tup (pv 1) pe_int (fun _ _ => rfl)) (pa_cons (pe_ix ix_tup (pv 1) pe_int (fun _ _ => rfl)) (pa_cons (pe_ix ix_tup (pv 1) pe_int (fun _ _ => rfl)) (pa_cons (pe_ix ix_tup (pv 1) pe_int (fun _ _ => rfl)) pa_nil))))))
        (pss_cons (ps_for PassesOwn.never rfl (pi_range1 (by rfl) T.n_range (pa_cons pe_int pa_nil)) (pg_name (i := 4) sc_l_same.nd rfl (Or.inl rfl)) (pss_one (ps_if (PW.pt (pw_or (pt_not (pt_val (pe_call (ok_l_is_integer T) (hr.mono (by decide)) rfl T.m_l_is_integer T.F_l_is_integer.kp T.b_l_is_integer .nil pass0 (pa_cons (pe_ix ix_list (pv 2) (pv 4) (fun _ _ => rfl)) pa_nil)))) (pw_or1 (pt_cmpR op_ne (pe_ix ix_list (pv 2) (pv 4) (fun _ _ => rfl)) (pe_ix ix_list (pv 3) (pv 4) (fun _ _ => rfl)) (nomark _))))) (pss_one (ps_ret pe_bl)) pss_nil)))
        (pss_cons (ps_if (PW.pt (pw_or (pt_cmpR op_ne (pe_fld (pv 0) rfl) (pe_ix ix_tup (pv 1) pe_int (fun _ _ => rfl)) (nomark _)) (pw_or1 (pt_not (pt_val (pe_call (ok_l_octets T) (hr.mono (by decide)) rfl T.m_l_octets T.F_l_octets.kp T.b_l_octets .nil pass0 (pa_cons (pe_fld (pe_fld (pv 0) rfl) rfl) (pa_cons (pe_ix ix_tup (pv 1) pe_int (fun _ _ => rfl)) pa_nil)))))))) (pss_one (ps_ret pe_bl)) pss_nil)
        (pss_cons (ps_if (pt_val (pe_ix ix_tup (pv 1) pe_int (fun _ _ => rfl))) (pss_one (ps_ret (pe_cmpR op_isBl (pe_fld (pe_fld (pv 0) rfl) rfl) pe_bl (nomark _)))) pss_nil)
        (pss_one (ps_ret (pe_cmpR op_isBl (pe_fld (pe_fld (pv 0) rfl) rfl) pe_bl (nomark _)))))))))), ?_⟩
    dsimp only [cxOf, Cx.nox, Cx.wish, L2.start, List.map, List.cons_append, List.nil_append, List.length_cons, List.length_nil, Nat.reduceAdd, Nat.reduceSub, Nat.zero_add, List.replicate_succ, List.replicate_zero]
    have l1 := ok.o1
    walk_at "go"
    refine g_isi (.own _) (.base (T.i_Record hr0)) (if_pos (beq_self_eq_true _)) ?_
    walk_at "go"
    refine g_isi (.own _) (.base (T.i_Packet hp)) (if_pos (beq_self_eq_true _)) ?_
    walk_at "go"
    refine ⟨by show 4 ≤ sizeLine; decide, fun la hla => ?_⟩
    generalize z1 : upd H la _ = H1
    have s1 : Same H H1 := by rw [← z1]; exact same_upd hla
    have k1 : H1 la = some (.lst ([g.tick, g.number, g.pk.sender, g.pk.target].map V.int)) := (congrFun z1 la).symm.trans upd_same
    clear z1
    have ht1 := s1 _ _ ht
    walk_at "go"
    refine g_ixT (st ht1) (at_of (j := 0) rfl rfl) ?_
    walk_at "go"
    refine g_ixT (st ht1) (at_of (j := 1) rfl rfl) ?_
    walk_at "go"
    refine g_ixT (st ht1) (at_of (j := 3) rfl rfl) ?_
    walk_at "go"
    refine g_ixT (st ht1) (at_of (j := 4) rfl rfl) ?_
    walk_at "go"
    refine ⟨by show 4 ≤ sizeLine; decide, fun lb hlb => ?_⟩
    generalize z2 : upd H1 lb _ = H2
    have s2 : Same H1 H2 := by rw [← z2]; exact same_upd hlb
    have k2 : H2 lb = some (.lst ([g.tick, g.number, g.pk.sender, g.pk.target].map V.int)) := (congrFun z2 lb).symm.trans upd_same
    clear z2
    have k12 := s2 _ _ k1
    have s12 := s1.trans s2
    have ht2 := s12 _ _ ht
    have hr2 := s12 _ _ hr0
    have hp2 := s12 _ _ hp
    walk_at "go"
    refine for_r (n := 4) 4 rfl (by decide) (by decide) (fun i σ H' => H2 = H' ∧ ∃ v, σ = [some (.ref r), some (.ref t), some (.ref la), some (.ref lb), v]) ⟨rfl, none, rfl⟩ ?turn ?done ?ev
    case ev =>
      intro R rr
      walk_at "go"
      exact rr
    case turn =>
      rintro i σ' _ hi ⟨rfl, v, rfl⟩
      obtain ⟨n, en⟩ : ∃ n, atI ([g.tick, g.number, g.pk.sender, g.pk.target].map V.int) (i : Int) = some (.int n) := by
        obtain ⟨n, e, _⟩ := atI_ints (xs := [g.tick, g.number, g.pk.sender, g.pk.target]) (i := (i : Int)) (by omega) (by show (i : Int) < 4; omega)
        exact ⟨n, e⟩
      walk_at "go"
      refine g_ixL (sl k12) en ?_
      walk_at "go"
      refine g_ixL (sl k12) en ?_
      walk_at "go"
      refine g_ixL (sl k2) en ?_
      walk_at "go"
      exact ⟨rfl, _, rfl⟩
    case done =>
    rintro σ' _ ⟨rfl, v, rfl⟩
    walk_at "go"
    refine g_ixT (st ht2) (at_of (j := 2) rfl rfl) ?_
    walk_at "go"
    refine g_ixT (st ht2) (at_of (j := 6) rfl rfl) ?_
    walk_at "go"
    refine u_octets (s12 _ _ hS) (sl (s12 _ _ ho2)) (by omega) ?_
    walk_at "go"
    refine g_ixT (st ht2) (at_of (j := 5) rfl rfl) ?_
    walk_at "go"
    cases hm : g.pk.marked
    all_goals
      rw [hm] at hp2
      walk_at "go"
      exact q _ s12
end
end My
namespace My
open PySem PySem.Spec L2
local macro_rules | `(tactic| walk_at "side") => `(tactic| first | assumption | decide | omega | exact ⟨by decide, by decide⟩ | exact ⟨by decide, by decide, by decide⟩ | decide +kernel | exact cdivW (by decide +kernel) (by decide +kernel) | exact Or.inl ⟨by omega, by omega⟩ | exact Or.inr ⟨by omega, by omega⟩ | (simp only [List.length_map, List.length_cons, List.length_nil, List.length_append]; omega))
local macro_rules | `(tactic| walk_at "fact") => `(tactic| first | assumption | omega | with_reducible rfl)
local macro_rules | `(tactic| walk_at "use") => `(tactic| fail "use")
local macro_rules | `(tactic| walk_at "go1") => `(tactic| with_reducible first | refine g_seq ?_ | refine g_asg ?_ | refine g_ret ?_ | refine g_ifS ?_ | refine g_drop ?_ | refine g_star ?_ | refine g_nx ?_ | refine g_rt ?_ | refine g_bkE ?_ | refine g_ctE ?_ | refine g_next ?_ | refine g_retN ?_ | refine g_brk ?_ | refine g_ct ?_ | refine g_c ?_ | refine g_op ?_ | refine g_un ?_ | refine g_rI0 ?_ | refine g_rU ?_ | refine g_rEqI ?_ | refine g_rNeI ?_ | refine g_isN ?_ | refine g_rIsB ?_ | refine g_rNotB ?_ | refine g_test ?_ | refine g_B ?_ | refine g_bl ?_ | refine g_and ?_ | refine g_or ?_ | refine g_not ?_ | refine g_andV ?_ | refine g_orV ?_ | refine g_notV ?_ | refine g_if ?_ | refine g_chain ?_ | refine g_yes ?_ | refine g_lc ?_ | refine g_revR ?_ | refine g_rng1 ?_ | refine g_iList ?_ | refine g_nil ?_ | refine g_cons ?_ | refine g_tup ?_ | refine g_lst ?_ | refine g_call ?_ | refine g_CB ?_ | refine g_sl ?_ | refine g_noPart ?_ | refine g_part ?_ | refine g_intE ?_ | refine g_ref ?_ | refine g_fld ?_ | refine g_sfld ?_ | refine g_meth ?_ | refine g_make ?_ | refine g_prop ?_  | refine g_ipI ?_ | refine g_int1 ?_ | refine g_int1B ?_ | refine g_one ?_ | refine g_two ?_ | refine g_isiI ?_ | refine g_isiIB ?_ | refine g_isiB ?_ | refine g_BM ?_ | refine g_BM0 ?_ | refine g_sub ?_)
local macro_rules | `(tactic| walk_at "go") => `(tactic| repeat (first | walk_at "go1" | ((with_reducible refine' g_nameE ?sd_ ?_); case sd_ => dsimp only [List.set_cons_succ, List.set_cons_zero]) | ((with_reducible refine' g_var ?sd_ ?_); case sd_ => exact rfl) | ((with_reducible refine' g_aug ?sd_ ?_); case sd_ => exact rfl) | ((with_reducible refine' g_rI ?sd_ ?_); case sd_ => walk_at "side") | ((with_reducible refine' g_dT ?sd_ ?_); case sd_ => walk_at "fact") | ((with_reducible refine' g_dF ?sd_ ?_); case sd_ => walk_at "fact") | ((with_reducible refine' g_nT ?sd_ ?_); case sd_ => walk_at "fact") | ((with_reducible refine' g_nF ?sd_ ?_); case sd_ => walk_at "fact") | (with_reducible refine g_iT rfl ?_) | (with_reducible refine g_iF rfl ?_) | walk_at "use"))
local macro_rules | `(tactic| walk_at "use") => `(tactic| first | ((with_reducible refine' fd_Packet_sender ?ho_ ?hv_ ?_); (case ho_ => first | assumption | exact upd_same); (case hv_ => exact rfl)) | ((with_reducible refine' fd_Packet_target ?ho_ ?hv_ ?_); (case ho_ => first | assumption | exact upd_same); (case hv_ => exact rfl)) | ((with_reducible refine' fd_Packet_octets ?ho_ ?hv_ ?_); (case ho_ => first | assumption | exact upd_same); (case hv_ => exact rfl)) | ((with_reducible refine' fd_Packet_marked ?ho_ ?hv_ ?_); (case ho_ => first | assumption | exact upd_same); (case hv_ => exact rfl)) | ((with_reducible refine' nw_Packet_sender ?ho_ ?hv_ ?_); (case ho_ => first | assumption | exact upd_same); (case hv_ => exact rfl)) | ((with_reducible refine' nw_Packet_target ?ho_ ?hv_ ?_); (case ho_ => first | assumption | exact upd_same); (case hv_ => exact rfl)) | ((with_reducible refine' nw_Packet_octets ?ho_ ?hv_ ?_); (case ho_ => first | assumption | exact upd_same); (case hv_ => exact rfl)) | ((with_reducible refine' nw_Packet_marked ?ho_ ?hv_ ?_); (case ho_ => first | assumption | exact upd_same); (case hv_ => exact rfl)) | ((with_reducible refine' st_Packet_sender ?ho_ ?hv_ ?_); (case ho_ => first | assumption | exact upd_same); (case hv_ => exact Nat.le_of_ble_eq_true rfl)) | ((with_reducible refine' st_Packet_target ?ho_ ?hv_ ?_); (case ho_ => first | assumption | exact upd_same); (case hv_ => exact Nat.le_of_ble_eq_true rfl)) | ((with_reducible refine' st_Packet_octets ?ho_ ?hv_ ?_); (case ho_ => first | assumption | exact upd_same); (case hv_ => exact Nat.le_of_ble_eq_true rfl)) | ((with_reducible refine' st_Packet_marked ?ho_ ?hv_ ?_); (case ho_ => first | assumption | exact upd_same); (case hv_ => exact Nat.le_of_ble_eq_true rfl)) | ((with_reducible refine' me_Packet_fork ?ho_ ?_); (case ho_ => first | assumption | exact upd_same)))
local macro_rules | `(tactic| walk_at "use") => `(tactic| first | ((with_reducible refine' fd_Record_tick ?ho_ ?hv_ ?_); (case ho_ => first | assumption | exact upd_same); (case hv_ => exact rfl)) | ((with_reducible refine' fd_Record_number ?ho_ ?hv_ ?_); (case ho_ => first | assumption | exact upd_same); (case hv_ => exact rfl)) | ((with_reducible refine' fd_Record_word ?ho_ ?hv_ ?_); (case ho_ => first | assumption | exact upd_same); (case hv_ => exact rfl)) | ((with_reducible refine' fd_Record_packet ?ho_ ?hv_ ?_); (case ho_ => first | assumption | exact upd_same); (case hv_ => exact rfl)) | ((with_reducible refine' nw_Record_tick ?ho_ ?hv_ ?_); (case ho_ => first | assumption | exact upd_same); (case hv_ => exact rfl)) | ((with_reducible refine' nw_Record_number ?ho_ ?hv_ ?_); (case ho_ => first | assumption | exact upd_same); (case hv_ => exact rfl)) | ((with_reducible refine' nw_Record_word ?ho_ ?hv_ ?_); (case ho_ => first | assumption | exact upd_same); (case hv_ => exact rfl)) | ((with_reducible refine' nw_Record_packet ?ho_ ?hv_ ?_); (case ho_ => first | assumption | exact upd_same); (case hv_ => exact rfl)) | ((with_reducible refine' st_Record_tick ?ho_ ?hv_ ?_); (case ho_ => first | assumption | exact upd_same); (case hv_ => exact Nat.le_of_ble_eq_true rfl)) | ((with_reducible refine' st_Record_number ?ho_ ?hv_ ?_); (case ho_ => first | assumption | exact upd_same); (case hv_ => exact Nat.le_of_ble_eq_true rfl)) | ((with_reducible refine' st_Record_word ?ho_ ?hv_ ?_); (case ho_ => first | assumption | exact upd_same); (case hv_ => exact Nat.le_of_ble_eq_true rfl)) | ((with_reducible refine' st_Record_packet ?ho_ ?hv_ ?_); (case ho_ => first | assumption | exact upd_same); (case hv_ => exact Nat.le_of_ble_eq_true rfl)))
section
variable {P : Program} {w : World} {K : PySem.W.Frag} {mg : Str → Option Value} {base : Heap}
local macro_rules | `(tactic| walk_at "use") => `(tactic| with_reducible first | refine g_rs0 ?_ | refine g_rs1 ?_ | refine g_tryA ?_ | refine g_tryO ?_ | refine g_callS ?_ | refine g_joined ?_ | refine g_jsnil ?_ | refine g_jscons ?_ | refine g_fmt ?_)
local macro_rules | `(tactic| walk_at "fit") => `(tactic| (refine fit2 ?_; (try simp only [PySem.Str.length_append]); omega))
local macro_rules | `(tactic| walk_at "use") => `(tactic| first | ((with_reducible refine' g_addS ?sd_ ?_); case sd_ => (first | omega | (simp only [PySem.Str.length_append]; omega))) | ((with_reducible refine' g_slS ?sd_ ?_); case sd_ => omega) | (with_reducible refine g_m0 ?_))

local macro_rules | `(tactic| walk_at "use") => `(tactic| with_reducible first | refine u_isint ?_ | refine g_rEqS ?_ | refine g_rNeS ?_ | refine g_isiS ?_ | refine g_hx ?_ | refine g_m1 ?_ | refine g_makeK ?_)
theorem TXl_len : ∀ {gs : List Rc}, (∀ g ∈ gs, GOk g) → (TXl gs).length ≤ 8101 * gs.length
  | [], _ => Nat.le_refl _
  | g :: gs, h => by
    have h1 := TXl_len (gs := gs) fun x hx => h x (List.mem_cons_of_mem _ hx)
    have h2 := lineF_len (h g (List.mem_cons_self ..))
    have h3 : (lineF g ++ "\n").cps.toList.length ≤ 8101 := by
      show (lineF g ++ "\n").length ≤ _
      rw [PySem.Str.length_append]
      have : (Str.ofString "\n").length = 1 := by decide +kernel
      omega
    show ((lineF g ++ "\n").cps.toList ++ TXl gs).length ≤ _
    rw [List.length_append, List.length_cons]
    omega
def Pts (D : Addr) (H : Hp) (ts : List Addr) (gs : List Rc) : Prop := ts.length = gs.length ∧ ∀ (i : Nat) (t : Addr) (g : Rc), ts[i]? = some t → gs[i]? = some g → ∃ o, o ≠ D ∧ t ≠ D ∧ PtO H t o g
theorem Pts.imp {D : Addr} {H H' : Hp} {ts : List Addr} {gs : List Rc} (h : Pts D H ts gs) (k : But D H H') : Pts D H' ts gs := ⟨h.1, fun i t g e1 e2 => by
  obtain ⟨o, n1, n2, z1, z2⟩ := h.2 i t g e1 e2
  exact ⟨o, n1, n2, k _ _ n2 z1, k _ _ n1 z2⟩⟩
theorem snoc_get {α : Type} {xs : List α} {x y : α} {i : Nat} (h : (xs ++ [x])[i]? = some y) : (i < xs.length ∧ xs[i]? = some y) ∨ (i = xs.length ∧ x = y) := by
  by_cases c : i < xs.length
  · rw [List.getElem?_append_left c] at h
    exact .inl ⟨c, h⟩
  · rw [List.getElem?_append_right (by omega)] at h
    obtain ⟨z, _⟩ := List.getElem?_eq_some_iff.mp h
    have : i - xs.length = 0 := by simp at z; omega
    rw [this] at h
    injection h with h
    exact .inr ⟨by omega, h⟩
theorem Pts.snoc {D : Addr} {H : Hp} {ts : List Addr} {gs : List Rc} {t o : Addr} {g : Rc} (h : Pts D H ts gs) (n1 : o ≠ D) (n2 : t ≠ D) (e : PtO H t o g) : Pts D H (ts ++ [t]) (gs ++ [g]) := by
  refine ⟨by rw [List.length_append, List.length_append, h.1]; rfl, fun i t' g' e1 e2 => ?_⟩
  rcases snoc_get e1 with ⟨c, e1⟩ | ⟨c, rfl⟩
  · rcases snoc_get e2 with ⟨_, e2⟩ | ⟨c2, _⟩
    · exact h.2 i t' g' e1 e2
    · have := h.1; omega
  · rcases snoc_get e2 with ⟨c2, _⟩ | ⟨_, rfl⟩
    · have := h.1; omega
    · exact ⟨o, n1, n2, e⟩
def RcsD (D CP CR : Addr) (H : Hp) (rs : List Addr) (gs : List Rc) : Prop := rs.length = gs.length ∧ ∀ (i : Nat) (r : Addr) (g : Rc), rs[i]? = some r → gs[i]? = some g → ∃ p o, r ≠ D ∧ p ≠ D ∧ o ≠ D ∧ RcO CP CR H r p o g
theorem RcsD.imp {D CP CR : Addr} {H H' : Hp} {rs : List Addr} {gs : List Rc} (h : RcsD D CP CR H rs gs) (k : But D H H') : RcsD D CP CR H' rs gs := ⟨h.1, fun i r g e1 e2 => by
  obtain ⟨p, o, n1, n2, n3, dx, z1, dx2, z2, z3⟩ := h.2 i r g e1 e2
  exact ⟨p, o, n1, n2, n3, dx, k _ _ n1 z1, dx2, k _ _ n2 z2, k _ _ n3 z3⟩⟩
theorem RcsD.snoc {D CP CR : Addr} {H : Hp} {rs : List Addr} {gs : List Rc} {r p o : Addr} {g : Rc} (h : RcsD D CP CR H rs gs) (n1 : r ≠ D) (n2 : p ≠ D) (n3 : o ≠ D) (e : RcO CP CR H r p o g) : RcsD D CP CR H (rs ++ [r]) (gs ++ [g]) := by
  refine ⟨by rw [List.length_append, List.length_append, h.1]; rfl, fun i r' g' e1 e2 => ?_⟩
  rcases snoc_get e1 with ⟨c, e1⟩ | ⟨c, rfl⟩
  · rcases snoc_get e2 with ⟨_, e2⟩ | ⟨c2, _⟩
    · exact h.2 i r' g' e1 e2
    · have := h.1; omega
  · rcases snoc_get e2 with ⟨c2, _⟩ | ⟨_, rfl⟩
    · have := h.1; omega
    · exact ⟨p, o, n1, n2, n3, e⟩
def sp_law (K : PySem.W.Frag) : Sp := fun vs H Q _ => ∃ (a : Addr) (ns : List Int), vs = [.ref a] ∧ SqL K H a (ns.map V.int) ∧ ns.length ≤ 63 ∧ ∀ H', Q (.bl true) H'

theorem ok_law (T : Txt K mg) : FnOk P w K mg base CX0 7 T.f_law T.d_law ["script"] (sp_law K) := by
  refine T.F_law.ok sc_law (fun vs H Q E h => ?_) (fun cdv A outer s H vs Q E hr h => ?_)
  · obtain ⟨a, ns, rfl, hS, hlen, q⟩ := h
    rfl
  · obtain ⟨a, ns, rfl, hS, hlen, q⟩ := h
    have hu := hu_of hr
    refine ⟨_, (pss_cons (ps_setLc (i := 1) (own := [("k", 4)]) (g := gName 4) (tt := tYes) rfl sc_law.nd rfl rfl (sw_true rfl rfl rfl (by decide +kernel)) (pi_range1 (by rfl) T.n_range (pa_cons (pe_callB (call_min2 rfl) (by rfl) T.n_min (by decide +kernel) (pa_cons pe_int (pa_cons (pe_op op_fdiv (pe_callB call_len_seq (by rfl) T.n_len (by decide +kernel) (pa_cons (pv 0) pa_nil)) pe_int) pa_nil))) pa_nil)) (blkOk_by (N := ["script", "parts", "records", "text", "k", "line", "given", "actual", "part"]) (sc := defScope s_law) (by decide +kernel)) (fun _ _ _ _ _ => (pg_name (i := 4) sc_law.nd rfl (Or.inl rfl))) (fun _ _ _ _ _ => pts_nil) (fun _ _ _ _ _ => (pe_call (ok_l_parts T) (hr.mono (by decide)) rfl T.m_l_parts T.F_l_parts.kp T.b_l_parts .nil pass0 (pa_cons (pe_ix (r := rIxL K) ix_list (pv 0) (pe_op op_mul pe_int (pv 4)) (fun _ _ => rfl)) (pa_cons (pe_ix (r := rIxL K) ix_list (pv 0) (pe_op op_add (pe_op op_mul pe_int (pv 4)) pe_int) (fun _ _ => rfl)) pa_nil)))))
        (pss_cons (ps_setLc (i := 2) (own := [("part", 8)]) (g := gName 8) (tt := tYes) rfl sc_law.nd rfl rfl (sw_true rfl rfl rfl (by decide +kernel)) (pi_list (pv 1)) (blkOk_by (N := ["script", "parts", "records", "text", "k", "line", "given", "actual", "part"]) (sc := defScope s_law) (by decide +kernel)) (fun _ _ _ _ _ => (pg_name (i := 8) sc_law.nd rfl (Or.inl rfl))) (fun _ _ _ _ _ => pts_nil) (fun _ _ _ _ _ => (pe_call (ok_l_made T) (hr.mono (by decide)) rfl T.m_l_made T.F_l_made.kp T.b_l_made .nil pass0 (pa_cons (pv 8) pa_nil))))
        (pss_cons (ps_set (i := 3) sc_law.nd rfl (Or.inl rfl) pe_str)
        (pss_cons (ps_for PassesOwn.never rfl (pi_range1 (by rfl) T.n_range (pa_cons (pe_callB call_len_seq (by rfl) T.n_len (by decide +kernel) (pa_cons (pv 1) pa_nil)) pa_nil)) (pg_name (i := 4) sc_law.nd rfl (Or.inl rfl)) (pss_cons (ps_set (i := 5) sc_law.nd rfl (Or.inl rfl) (pe_call (ok_write_record T) (hr.mono (by decide)) rfl T.m_write_record T.F_write_record.kp T.b_write_record .nil pass0 (pa_cons (pe_ix ix_list (pv 2) (pv 4) (fun _ _ => rfl)) pa_nil)))
        (pss_cons (ps_if (PW.pt (pw_or (pt_not (pt_val (pe_callB call_isi (by rfl) T.n_isinstance (by decide +kernel) (pa_cons (pv 5) (pa_cons (pe_bltn (v := .ty "str") (by rfl) T.n_str (by decide +kernel) rfl) pa_nil))))) (pw_or1 (pt_cmpR op_ne (pv 5) (pe_call (ok_l_line T) (hr.mono (by decide)) rfl T.m_l_line T.F_l_line.kp T.b_l_line .nil pass0 (pa_cons (pe_ix ix_list (pv 1) (pv 4) (fun _ _ => rfl)) pa_nil)) (nomark _))))) (pss_one (ps_ret pe_bl)) pss_nil)
        (pss_one (ps_set (i := 3) sc_law.nd rfl (Or.inl rfl) (pe_op op_addS (pe_op op_addS (pv 3) (pe_call (ok_l_line T) (hr.mono (by decide)) rfl T.m_l_line T.F_l_line.kp T.b_l_line .nil pass0 (pa_cons (pe_ix ix_list (pv 1) (pv 4) (fun _ _ => rfl)) pa_nil))) pe_str))))))
        (pss_cons (ps_set (i := 6) sc_law.nd rfl (Or.inl rfl) (pe_callTy call_list_of (by rfl) T.n_list (by decide +kernel) (pa_cons (pv 2) pa_nil)))
        (pss_cons (ps_set (i := 7) sc_law.nd rfl (Or.inl rfl) (pe_call (ok_write_records T) (hr.mono (by decide)) rfl T.m_write_records T.F_write_records.kp T.b_write_records .nil pass0 (pa_cons (pv 6) pa_nil)))
        (pss_cons (ps_if (PW.pt (pw_or (pt_not (pt_val (pe_callB call_isi (by rfl) T.n_isinstance (by decide +kernel) (pa_cons (pv 7) (pa_cons (pe_bltn (v := .ty "str") (by rfl) T.n_str (by decide +kernel) rfl) pa_nil))))) (pw_or (pt_cmpR op_ne (pv 7) (pv 3) (nomark _)) (pw_or1 (pt_cmpR op_ne (pe_callB call_len_seq (by rfl) T.n_len (by decide +kernel) (pa_cons (pv 6) pa_nil)) (pe_callB call_len_seq (by rfl) T.n_len (by decide +kernel) (pa_cons (pv 1) pa_nil)) (nomark _)))))) (pss_one (ps_ret pe_bl)) pss_nil)
        (pss_cons (ps_for PassesOwn.never rfl (pi_range1 (by rfl) T.n_range (pa_cons (pe_callB call_len_seq (by rfl) T.n_len (by decide +kernel) (pa_cons (pv 1) pa_nil)) pa_nil)) (pg_name (i := 4) sc_law.nd rfl (Or.inl rfl)) (pss_one (ps_if (pt_not (pt_val (pe_call (ok_l_same T) (hr.mono (by decide)) rfl T.m_l_same T.F_l_same.kp T.b_l_same .nil pass0 (pa_cons (pe_ix ix_list (pv 6) (pv 4) (fun _ _ => rfl)) (pa_cons (pe_ix ix_list (pv 1) (pv 4) (fun _ _ => rfl)) pa_nil))))) (pss_one (ps_ret pe_bl)) pss_nil)))
        (pss_one (ps_ret pe_bl)))))))))), ?_⟩
    dsimp only [cxOf, Cx.nox, Cx.wish, L2.start, List.map, List.cons_append, List.nil_append, List.length_cons, List.length_nil, Nat.reduceAdd, Nat.reduceSub, Nat.zero_add, List.replicate_succ, List.replicate_zero]
    walk_at "go"
    refine g_len (.inl hS) ?_
    walk_at "go"
    rw [List.length_map]
    obtain ⟨N, eN, hN, hN2⟩ : ∃ N : Nat, (if (ns.length : Int) / 2 < 20 then (ns.length : Int) / 2 else 20) = (N : Int) ∧ N ≤ 20 ∧ 2 * N ≤ ns.length := by
      by_cases c : (ns.length : Int) / 2 < 20
      · exact ⟨ns.length / 2, by rw [if_pos c]; omega, by omega, by omega⟩
      · exact ⟨20, by rw [if_neg c]; rfl, by omega, by omega⟩
    rw [eN]
    refine ⟨by omega, by omega, fun D hD => ?_⟩
    rw [Int.toNat_natCast]
    refine lc_it walk_range (fun i H1 => Same H H1 ∧ ∃ ts gs, H1 D = some (.lst (ts.map V.ref)) ∧ Pts D H1 ts gs ∧ gs.length = i ∧ (∀ g ∈ gs, GOk g)) ?start1 (fun _ _ _ _ => trivial) ?turn1 ?done1
    case start1 =>
      refine ⟨same_upd hD, [], [], upd_same, ⟨rfl, fun i t g h => by cases h⟩, rfl, fun g h => by cases h⟩
    case turn1 =>
      rintro i x H1 H2 hi ⟨s1, ts, gs, e1, hP, hl, ok⟩ ⟨rfl, rfl⟩
      have hS1 := s1.seq hS
      refine ⟨rfl, ?_⟩
      walk_at "go"
      refine g_ixL hS1 (atI_map (by omega) (by omega)) ?_
      walk_at "go"
      refine g_ixL hS1 (atI_map (by omega) (by omega)) ?_
      walk_at "go"
      refine u_parts fun t o g H3 nt no s3 hp okg => ?_
      have nDt : t ≠ D := fun z => by rw [z, e1] at nt; cases nt
      have nDo : o ≠ D := fun z => by rw [z, e1] at no; cases no
      refine ⟨_, s3 _ _ e1, by rw [List.length_map, hP.1]; exact szl (by omega), ?_⟩
      have bD : But D H3 (upd H3 D (.lst (ts.map V.ref ++ [V.ref t]))) := But.refl.upd
      refine ⟨?_, ts ++ [t], gs ++ [g], ?_, ?_, ?_, ?_⟩
      · intro b ob e
        exact bD _ _ (ne_of_none e hD) (s3 _ _ (s1 _ _ e))
      · rw [upd_same, List.map_append]
        rfl
      · exact ((hP.imp (But.of s3)).imp bD).snoc nDo nDt ⟨bD _ _ nDt hp.1, bD _ _ nDo hp.2⟩
      · rw [List.length_append, hl]
        rfl
      · intro g' hg
        rcases List.mem_append.mp hg with z | z
        · exact ok g' z
        · rw [List.mem_singleton.mp z]
          exact okg
    case done1 =>
    rintro H1 ⟨s1, ts, gs, e1, hP, hl, ok⟩
    walk_at "go"
    refine ⟨⟨_, sl e1⟩, fun D2 hD2 => ?_⟩
    have nDD : D ≠ D2 := ne_of_none e1 hD2
    have lts : (ts.map V.ref).length = gs.length := by rw [List.length_map, hP.1]
    refine lc_it walk_list (fun i H2 => Same H1 H2 ∧ ∃ rs, H2 D2 = some (.lst (rs.map V.ref)) ∧ RcsD D2 T.C_Packet T.C_Record H2 rs (gs.take i)) ?start2 (fun i H2 _ p => sl (p.1 _ _ e1)) ?turn2 ?done2
    case start2 =>
      exact ⟨same_upd hD2, [], upd_same, by rw [List.take_zero]; rfl, fun i r g h => by cases h⟩
    case turn2 =>
      rintro i x H2 H3 hi ⟨s2, rs, e2, hR⟩ ⟨rfl, hx⟩
      obtain ⟨t, ht, rfl⟩ : ∃ t, ts[i]? = some t ∧ x = .ref t := map_get hx
      have hil : i < gs.length := by rw [← lts]; exact hi
      have eg : gs[i]? = some (gs[i]) := List.getElem?_eq_getElem hil
      generalize gs[i] = g at eg
      obtain ⟨o, _, _, hp⟩ := hP.2 i t g ht eg
      have hp2 : PtO H3 t o g := ⟨s2 _ _ hp.1, s2 _ _ hp.2⟩
      refine ⟨rfl, ?_⟩
      walk_at "go"
      refine u_made hp2 fun r p o' H4 nr no' s4 hr4 => ?_
      have n1 : r ≠ D2 := fun z => by rw [z, e2] at nr; cases nr
      have n3 : o' ≠ D2 := fun z => by rw [z, e2] at no'; cases no'
      have n2 : p ≠ D2 := fun z => by
        obtain ⟨_, _, _, z2, _⟩ := hr4
        rw [z, s4 _ _ e2] at z2
        cases z2
      have hli : rs.length = i := by rw [hR.1, List.length_take]; omega
      refine ⟨_, s4 _ _ e2, by rw [List.length_map, hli]; exact szl (by omega), ?_⟩
      have bD : But D2 H4 (upd H4 D2 (.lst (rs.map V.ref ++ [V.ref r]))) := But.refl.upd
      refine ⟨?_, rs ++ [r], ?_, ?_⟩
      · intro b ob e
        exact bD _ _ (ne_of_none e hD2) (s4 _ _ (s2 _ _ e))
      · rw [upd_same, List.map_append]
        rfl
      · rw [List.take_add_one, eg]
        obtain ⟨dx, z1, dx2, z2, z3⟩ := hr4
        exact ((hR.imp (But.of s4)).imp bD).snoc n1 n2 n3 ⟨dx, bD _ _ n1 z1, dx2, bD _ _ n2 z2, bD _ _ n3 z3⟩
    case done2 =>
    rintro H2 ⟨s2, rs, e2, hR0⟩
    rw [lts, List.take_length] at hR0
    have e12 := s2 _ _ e1
    have hR : Rcs T.C_Packet T.C_Record H2 rs gs := ⟨hR0.1, fun i r g h1 h2 => by
      obtain ⟨p, o, _, _, _, z⟩ := hR0.2 i r g h1 h2
      exact ⟨p, o, z⟩⟩
    have hPt : ∀ (i : Nat) (t : Addr) (g : Rc), ts[i]? = some t → gs[i]? = some g → ∃ o, PtO H2 t o g := fun i t g h1 h2 => by
      obtain ⟨o, _, _, z⟩ := hP.2 i t g h1 h2
      exact ⟨o, s2 _ _ z.1, s2 _ _ z.2⟩
    have hgl : gs.length ≤ 20 := by omega
    have getk : ∀ k, k < gs.length → ∃ t r g, ts[k]? = some t ∧ rs[k]? = some r ∧ gs[k]? = some g ∧ GOk g := fun k hk =>
      ⟨ts[k]'(by rw [hP.1]; exact hk), rs[k]'(by rw [hR.1]; exact hk), gs[k], List.getElem?_eq_getElem _, List.getElem?_eq_getElem _, List.getElem?_eq_getElem _, ok _ (List.getElem_mem hk)⟩
    walk_at "go"
    refine for_r (n := (gs.length : Int)) gs.length (by omega) (by omega) (by omega) (fun i σ' H' => ∃ v4 v5, σ' = [some (.ref a), some (.ref D), some (.ref D2), some (.str (Tx (TXl (gs.take i)))), v4, v5, none, none, none] ∧ Same H2 H') ?start3 ?turn3 ?done3 ?ev3
    case start3 => exact ⟨none, none, by rw [List.take_zero]; rfl, fun _ _ z => z⟩
    case ev3 =>
      intro R r
      walk_at "go"
      refine g_len (.inl (sl e12)) ?_
      rw [lts]
      exact r
    case turn3 =>
      rintro i σ' H' hi ⟨v4, v5, rfl, s3⟩
      obtain ⟨t, r, g, h1, h2, h3, okg⟩ := getk i hi
      obtain ⟨o, hp⟩ := hPt i t g h1 h3
      obtain ⟨p, o2, hr3⟩ := hR.2 i r g h2 h3
      have gr : atI (rs.map V.ref) (i : Int) = some (.ref r) := at_of rfl (by rw [List.getElem?_map, h2]; rfl)
      have gt : atI (ts.map V.ref) (i : Int) = some (.ref t) := at_of rfl (by rw [List.getElem?_map, h1]; rfl)
      walk_at "go"
      refine g_ixL (sl (s3 _ _ e2)) gr ?_
      walk_at "go"
      refine u_wrec (hr3.same s3) okg fun H4 s4 => ?_
      have s34 := s3.trans s4
      walk_at "go"
      refine g_ixL (sl (s34 _ _ e12)) gt ?_
      walk_at "go"
      refine u_line ⟨s34 _ _ hp.1, s34 _ _ hp.2⟩ okg fun H5 s5 => ?_
      have s35 := s34.trans s5
      walk_at "go"
      refine g_ixL (sl (s35 _ _ e12)) gt ?_
      walk_at "go"
      refine u_line ⟨s35 _ _ hp.1, s35 _ _ hp.2⟩ okg fun H6 s6 => ?_
      have ll := lineF_len okg
      have lt1 : (Tx (TXl (gs.take i))).length ≤ 8101 * 20 := by
        rw [Tx_len]
        have h1 := TXl_len (gs := gs.take i) fun g' hg' => ok g' (List.mem_of_mem_take hg')
        have h2 : (gs.take i).length ≤ 20 := by rw [List.length_take]; omega
        omega
      have ln : (Str.ofString "\n").length = 1 := by decide +kernel
      refine g_addS (by omega) ?_
      walk_at "go"
      refine ⟨some (.int i), some (.str (lineF g)), ?_, s35.trans s6⟩
      rw [List.take_add_one, h3]
      show _ = [some (V.ref a), some (V.ref D), some (V.ref D2), some (V.str (Tx (TXl (gs.take i ++ [g])))), some (V.int i), some (V.str (lineF g)), none, none, none]
      rw [TXl_snoc]
    case done3 =>
    rintro σ' H' ⟨v4, v5, rfl, s3⟩
    rw [List.take_length]
    walk_at "go"
    refine ⟨D2, _, rfl, .inl (sl (s3 _ _ e2)), fun lg hlg => ?_⟩
    generalize z4 : upd H' lg _ = H4
    have s4 : Same H' H4 := by rw [← z4]; exact same_upd hlg
    have k4 : H4 lg = some (.lst (rs.map V.ref)) := (congrFun z4 lg).symm.trans upd_same
    clear z4
    walk_at "go"
    refine ⟨lg, rs, gs, rfl, sl k4, (hR.same s3).same s4, ok, by omega, fun H5 s5 => ?_⟩
    have s25 := (s3.trans s4).trans s5
    walk_at "go"
    refine g_len (.inl (sl (s5 _ _ k4))) ?_
    walk_at "go"
    refine g_len (.inl (sl (s25 _ _ e12))) ?_
    walk_at "go"
    rw [lts, List.length_map, hR.1]
    refine g_nF rfl ?_
    walk_at "go"
    refine for_r (n := (gs.length : Int)) gs.length (by omega) (by omega) (by omega) (fun i σ' H' => ∃ v4, σ' = [some (.ref a), some (.ref D), some (.ref D2), some (.str (Tx (TXl gs))), v4, v5, some (.ref lg), some (.str (Tx (TXl gs))), none] ∧ Same H5 H') ⟨v4, rfl, fun _ _ z => z⟩ ?turn4 ?done4 ?ev4
    case ev4 =>
      intro R r
      walk_at "go"
      refine g_len (.inl (sl (s25 _ _ e12))) ?_
      rw [lts]
      exact r
    case done4 =>
      rintro σ' H6 ⟨v4, rfl, s6⟩
      walk_at "go"
      exact q _
    case turn4 =>
      rintro i σ' H6 hi ⟨v4, rfl, s6⟩
      obtain ⟨t, r, g, h1, h2, h3, okg⟩ := getk i hi
      obtain ⟨o, hp⟩ := hPt i t g h1 h3
      obtain ⟨p, o2, hr3⟩ := hR.2 i r g h2 h3
      have gr : atI (rs.map V.ref) (i : Int) = some (.ref r) := at_of rfl (by rw [List.getElem?_map, h2]; rfl)
      have gt : atI (ts.map V.ref) (i : Int) = some (.ref t) := at_of rfl (by rw [List.getElem?_map, h1]; rfl)
      have s26 := s25.trans s6
      walk_at "go"
      refine g_ixL (sl (s6 _ _ (s5 _ _ k4))) gr ?_
      walk_at "go"
      refine g_ixL (sl (s26 _ _ e12)) gt ?_
      walk_at "go"
      refine u_same (hr3.same s26) ⟨s26 _ _ hp.1, s26 _ _ hp.2⟩ okg fun H7 s7 => ?_
      walk_at "go"
      exact ⟨_, rfl, s6.trans s7⟩
end
end My
namespace My
open PySem PySem.Spec L2
local macro_rules | `(tactic| walk_at "side") => `(tactic| first | assumption | decide | omega | exact ⟨by decide, by decide⟩ | exact ⟨by decide, by decide, by decide⟩ | decide +kernel | exact cdivW (by decide +kernel) (by decide +kernel) | exact Or.inl ⟨by omega, by omega⟩ | exact Or.inr ⟨by omega, by omega⟩ | (simp only [List.length_map, List.length_cons, List.length_nil, List.length_append]; omega))
local macro_rules | `(tactic| walk_at "fact") => `(tactic| first | assumption | omega | with_reducible rfl)
local macro_rules | `(tactic| walk_at "use") => `(tactic| fail "use")
local macro_rules | `(tactic| walk_at "go1") => `(tactic| with_reducible first | refine g_seq ?_ | refine g_asg ?_ | refine g_ret ?_ | refine g_ifS ?_ | refine g_drop ?_ | refine g_star ?_ | refine g_nx ?_ | refine g_rt ?_ | refine g_bkE ?_ | refine g_ctE ?_ | refine g_next ?_ | refine g_retN ?_ | refine g_brk ?_ | refine g_ct ?_ | refine g_c ?_ | refine g_op ?_ | refine g_un ?_ | refine g_rI0 ?_ | refine g_rU ?_ | refine g_rEqI ?_ | refine g_rNeI ?_ | refine g_isN ?_ | refine g_rIsB ?_ | refine g_rNotB ?_ | refine g_test ?_ | refine g_B ?_ | refine g_bl ?_ | refine g_and ?_ | refine g_or ?_ | refine g_not ?_ | refine g_andV ?_ | refine g_orV ?_ | refine g_notV ?_ | refine g_if ?_ | refine g_chain ?_ | refine g_yes ?_ | refine g_lc ?_ | refine g_revR ?_ | refine g_rng1 ?_ | refine g_iList ?_ | refine g_nil ?_ | refine g_cons ?_ | refine g_tup ?_ | refine g_lst ?_ | refine g_call ?_ | refine g_CB ?_ | refine g_sl ?_ | refine g_noPart ?_ | refine g_part ?_ | refine g_intE ?_ | refine g_ref ?_ | refine g_fld ?_ | refine g_sfld ?_ | refine g_meth ?_ | refine g_make ?_ | refine g_prop ?_  | refine g_ipI ?_ | refine g_int1 ?_ | refine g_int1B ?_ | refine g_one ?_ | refine g_two ?_ | refine g_isiI ?_ | refine g_isiIB ?_ | refine g_isiB ?_ | refine g_BM ?_ | refine g_BM0 ?_ | refine g_sub ?_)
local macro_rules | `(tactic| walk_at "go") => `(tactic| repeat (first | walk_at "go1" | ((with_reducible refine' g_nameE ?sd_ ?_); case sd_ => dsimp only [List.set_cons_succ, List.set_cons_zero]) | ((with_reducible refine' g_var ?sd_ ?_); case sd_ => exact rfl) | ((with_reducible refine' g_aug ?sd_ ?_); case sd_ => exact rfl) | ((with_reducible refine' g_rI ?sd_ ?_); case sd_ => walk_at "side") | ((with_reducible refine' g_dT ?sd_ ?_); case sd_ => walk_at "fact") | ((with_reducible refine' g_dF ?sd_ ?_); case sd_ => walk_at "fact") | ((with_reducible refine' g_nT ?sd_ ?_); case sd_ => walk_at "fact") | ((with_reducible refine' g_nF ?sd_ ?_); case sd_ => walk_at "fact") | (with_reducible refine g_iT rfl ?_) | (with_reducible refine g_iF rfl ?_) | walk_at "use"))
theorem all_mk {l : PySem.W.OpenLaw} {w : World} {K : PySem.W.Frag} {h : Heap} {mg : Str → Option Value} {fa : Addr} (X : K.In h) (G : h.Ns mainGlobals mg) (hfa : mg "law" = some (.ref fa))
    {C_Packet : Addr} {C_Record : Addr} {f_to_hex : Addr} {od_to_hex an_to_hex : Option Addr} {sl_to_hex : Array (Option Value)} {oc_to_hex kV_to_hex dc_to_hex pm_to_hex cd_to_hex ct_to_hex : Value} {f_write_record : Addr} {od_write_record an_write_record : Option Addr} {sl_write_record : Array (Option Value)} {oc_write_record kV_write_record dc_write_record pm_write_record cd_write_record ct_write_record : Value} {f_write_records : Addr} {od_write_records an_write_records : Option Addr} {sl_write_records : Array (Option Value)} {oc_write_records kV_write_records dc_write_records pm_write_records cd_write_records ct_write_records : Value} {f_Packet_init__ : Addr} {od_Packet_init__ an_Packet_init__ : Option Addr} {sl_Packet_init__ : Array (Option Value)} {oc_Packet_init__ dc_Packet_init__ pm_Packet_init__ cd_Packet_init__ ct_Packet_init__ : Value} {kd_Packet_init__ : Addr} {f_Packet_fork : Addr} {od_Packet_fork an_Packet_fork : Option Addr} {sl_Packet_fork : Array (Option Value)} {oc_Packet_fork kV_Packet_fork dc_Packet_fork pm_Packet_fork cd_Packet_fork ct_Packet_fork : Value} {f_Record_init__ : Addr} {od_Record_init__ an_Record_init__ : Option Addr} {sl_Record_init__ : Array (Option Value)} {oc_Record_init__ kV_Record_init__ dc_Record_init__ pm_Record_init__ cd_Record_init__ ct_Record_init__ : Value} {f_l_is_integer : Addr} {od_l_is_integer an_l_is_integer : Option Addr} {sl_l_is_integer : Array (Option Value)} {oc_l_is_integer kV_l_is_integer dc_l_is_integer pm_l_is_integer cd_l_is_integer ct_l_is_integer : Value} {f_l_row : Addr} {od_l_row an_l_row : Option Addr} {sl_l_row : Array (Option Value)} {oc_l_row kV_l_row dc_l_row pm_l_row cd_l_row ct_l_row : Value} {f_l_octets : Addr} {od_l_octets an_l_octets : Option Addr} {sl_l_octets : Array (Option Value)} {oc_l_octets kV_l_octets dc_l_octets pm_l_octets cd_l_octets ct_l_octets : Value} {f_l_number : Addr} {od_l_number an_l_number : Option Addr} {sl_l_number : Array (Option Value)} {oc_l_number kV_l_number dc_l_number pm_l_number cd_l_number ct_l_number : Value} {f_l_parts : Addr} {od_l_parts an_l_parts : Option Addr} {sl_l_parts : Array (Option Value)} {oc_l_parts kV_l_parts dc_l_parts pm_l_parts cd_l_parts ct_l_parts : Value} {f_l_made : Addr} {od_l_made an_l_made : Option Addr} {sl_l_made : Array (Option Value)} {oc_l_made kV_l_made dc_l_made pm_l_made cd_l_made ct_l_made : Value} {f_l_line : Addr} {od_l_line an_l_line : Option Addr} {sl_l_line : Array (Option Value)} {oc_l_line kV_l_line dc_l_line pm_l_line cd_l_line ct_l_line : Value} {f_l_same : Addr} {od_l_same an_l_same : Option Addr} {sl_l_same : Array (Option Value)} {oc_l_same kV_l_same dc_l_same pm_l_same cd_l_same ct_l_same : Value} {f_law : Addr} {od_law an_law : Option Addr} {sl_law : Array (Option Value)} {oc_law kV_law dc_law pm_law cd_law ct_law : Value}
    (c_Packet : PySem.W.nsIn K mainGlobals "Packet" = some (some (.ref C_Packet)))
    (pg_Packet : PySem.W.plainGet K C_Packet Str.empty = true)
    (hd_Packet : PySem.W.hasDictIn K C_Packet = true)
    (po_Packet : PySem.W.plainOver K C_Packet = true)
    (sa_Packet : PySem.W.findIn K (.ref C_Packet) "__setattr__" = some (some (.builtin "object.__setattr__")))
    (mk0_Packet : PySem.W.makesIn K C_Packet = true)
    (kc_Packet : PySem.W.keepIn K (.ref C_Packet) = true)
    (ha_Packet : PySem.W.findIn K (.ref C_Packet) "__class__" = some (some (.builtin "object.__class__")))
    (hm_Packet : PySem.W.mroIn K C_Packet (.type "object") = some true)
    (hn_all : PySem.W.specialIn K (.builtin "object.__class__") "__get__" = some (some (.builtin "getset_descriptor.__get__")))
    (ht_all : PySem.W.takesIn K (.builtin "object.__class__") = some true)
    (n_Packet_sender : PySem.W.findIn K (.ref C_Packet) "sender" = some none)
    (n_Packet_target : PySem.W.findIn K (.ref C_Packet) "target" = some none)
    (n_Packet_octets : PySem.W.findIn K (.ref C_Packet) "octets" = some none)
    (n_Packet_marked : PySem.W.findIn K (.ref C_Packet) "marked" = some none)
    (c_Record : PySem.W.nsIn K mainGlobals "Record" = some (some (.ref C_Record)))
    (pg_Record : PySem.W.plainGet K C_Record Str.empty = true)
    (hd_Record : PySem.W.hasDictIn K C_Record = true)
    (po_Record : PySem.W.plainOver K C_Record = true)
    (sa_Record : PySem.W.findIn K (.ref C_Record) "__setattr__" = some (some (.builtin "object.__setattr__")))
    (mk0_Record : PySem.W.makesIn K C_Record = true)
    (kc_Record : PySem.W.keepIn K (.ref C_Record) = true)
    (ha_Record : PySem.W.findIn K (.ref C_Record) "__class__" = some (some (.builtin "object.__class__")))
    (hm_Record : PySem.W.mroIn K C_Record (.type "object") = some true)
    (n_Record_tick : PySem.W.findIn K (.ref C_Record) "tick" = some none)
    (n_Record_number : PySem.W.findIn K (.ref C_Record) "number" = some none)
    (n_Record_word : PySem.W.findIn K (.ref C_Record) "word" = some none)
    (n_Record_packet : PySem.W.findIn K (.ref C_Record) "packet" = some none)
    (a_to_hex : PySem.W.nsIn K mainGlobals "to_hex" = some (some (.ref f_to_hex)))
    (l_to_hex : K.lookup f_to_hex = some ⟨oc_to_hex, od_to_hex, .func (PySem.W.fnOf "to_hex" "to_hex" (defArgs s_to_hex) (defBody s_to_hex) (defScope s_to_hex) .none kV_to_hex dc_to_hex pm_to_hex an_to_hex cd_to_hex ct_to_hex), sl_to_hex⟩)
    (cc_to_hex : PySem.W.codeIn K cd_to_hex "to_hex" = true)
    (kk_to_hex : PySem.W.keepIn K (.ref f_to_hex) = true)
    (a_write_record : PySem.W.nsIn K mainGlobals "write_record" = some (some (.ref f_write_record)))
    (l_write_record : K.lookup f_write_record = some ⟨oc_write_record, od_write_record, .func (PySem.W.fnOf "write_record" "write_record" (defArgs s_write_record) (defBody s_write_record) (defScope s_write_record) .none kV_write_record dc_write_record pm_write_record an_write_record cd_write_record ct_write_record), sl_write_record⟩)
    (cc_write_record : PySem.W.codeIn K cd_write_record "write_record" = true)
    (kk_write_record : PySem.W.keepIn K (.ref f_write_record) = true)
    (a_write_records : PySem.W.nsIn K mainGlobals "write_records" = some (some (.ref f_write_records)))
    (l_write_records : K.lookup f_write_records = some ⟨oc_write_records, od_write_records, .func (PySem.W.fnOf "write_records" "write_records" (defArgs s_write_records) (defBody s_write_records) (defScope s_write_records) .none kV_write_records dc_write_records pm_write_records an_write_records cd_write_records ct_write_records), sl_write_records⟩)
    (cc_write_records : PySem.W.codeIn K cd_write_records "write_records" = true)
    (kk_write_records : PySem.W.keepIn K (.ref f_write_records) = true)
    (a_Packet_init__ : PySem.W.findIn K (.ref C_Packet) "__init__" = some (some (.ref f_Packet_init__)))
    (i_Packet_init__ : PySem.W.isFn K (.ref f_Packet_init__) = true)
    (l_Packet_init__ : K.lookup f_Packet_init__ = some ⟨oc_Packet_init__, od_Packet_init__, .func (PySem.W.fnOf "__init__" "Packet.__init__" (defArgs s_Packet_init__) (defBody s_Packet_init__) (defScope s_Packet_init__) .none (.ref kd_Packet_init__) dc_Packet_init__ pm_Packet_init__ an_Packet_init__ cd_Packet_init__ ct_Packet_init__), sl_Packet_init__⟩)
    (kw_Packet_init___marked : PySem.W.nsIn K kd_Packet_init__ "marked" = some (some (.bool false)))
    (cc_Packet_init__ : PySem.W.codeIn K cd_Packet_init__ "Packet.__init__" = true)
    (kk_Packet_init__ : PySem.W.keepIn K (.ref f_Packet_init__) = true)
    (a_Packet_fork : PySem.W.findIn K (.ref C_Packet) "fork" = some (some (.ref f_Packet_fork)))
    (i_Packet_fork : PySem.W.isFn K (.ref f_Packet_fork) = true)
    (l_Packet_fork : K.lookup f_Packet_fork = some ⟨oc_Packet_fork, od_Packet_fork, .func (PySem.W.fnOf "fork" "Packet.fork" (defArgs s_Packet_fork) (defBody s_Packet_fork) (defScope s_Packet_fork) .none kV_Packet_fork dc_Packet_fork pm_Packet_fork an_Packet_fork cd_Packet_fork ct_Packet_fork), sl_Packet_fork⟩)
    (cc_Packet_fork : PySem.W.codeIn K cd_Packet_fork "Packet.fork" = true)
    (kk_Packet_fork : PySem.W.keepIn K (.ref f_Packet_fork) = true)
    (a_Record_init__ : PySem.W.findIn K (.ref C_Record) "__init__" = some (some (.ref f_Record_init__)))
    (i_Record_init__ : PySem.W.isFn K (.ref f_Record_init__) = true)
    (l_Record_init__ : K.lookup f_Record_init__ = some ⟨oc_Record_init__, od_Record_init__, .func (PySem.W.fnOf "__init__" "Record.__init__" (defArgs s_Record_init__) (defBody s_Record_init__) (defScope s_Record_init__) .none kV_Record_init__ dc_Record_init__ pm_Record_init__ an_Record_init__ cd_Record_init__ ct_Record_init__), sl_Record_init__⟩)
    (cc_Record_init__ : PySem.W.codeIn K cd_Record_init__ "Record.__init__" = true)
    (kk_Record_init__ : PySem.W.keepIn K (.ref f_Record_init__) = true)
    (a_l_is_integer : PySem.W.nsIn K mainGlobals "_law_is_integer" = some (some (.ref f_l_is_integer)))
    (l_l_is_integer : K.lookup f_l_is_integer = some ⟨oc_l_is_integer, od_l_is_integer, .func (PySem.W.fnOf "_law_is_integer" "_law_is_integer" (defArgs s_l_is_integer) (defBody s_l_is_integer) (defScope s_l_is_integer) .none kV_l_is_integer dc_l_is_integer pm_l_is_integer an_l_is_integer cd_l_is_integer ct_l_is_integer), sl_l_is_integer⟩)
    (cc_l_is_integer : PySem.W.codeIn K cd_l_is_integer "_law_is_integer" = true)
    (kk_l_is_integer : PySem.W.keepIn K (.ref f_l_is_integer) = true)
    (a_l_row : PySem.W.nsIn K mainGlobals "_law_row" = some (some (.ref f_l_row)))
    (l_l_row : K.lookup f_l_row = some ⟨oc_l_row, od_l_row, .func (PySem.W.fnOf "_law_row" "_law_row" (defArgs s_l_row) (defBody s_l_row) (defScope s_l_row) .none kV_l_row dc_l_row pm_l_row an_l_row cd_l_row ct_l_row), sl_l_row⟩)
    (cc_l_row : PySem.W.codeIn K cd_l_row "_law_row" = true)
    (kk_l_row : PySem.W.keepIn K (.ref f_l_row) = true)
    (a_l_octets : PySem.W.nsIn K mainGlobals "_law_octets" = some (some (.ref f_l_octets)))
    (l_l_octets : K.lookup f_l_octets = some ⟨oc_l_octets, od_l_octets, .func (PySem.W.fnOf "_law_octets" "_law_octets" (defArgs s_l_octets) (defBody s_l_octets) (defScope s_l_octets) .none kV_l_octets dc_l_octets pm_l_octets an_l_octets cd_l_octets ct_l_octets), sl_l_octets⟩)
    (cc_l_octets : PySem.W.codeIn K cd_l_octets "_law_octets" = true)
    (kk_l_octets : PySem.W.keepIn K (.ref f_l_octets) = true)
    (a_l_number : PySem.W.nsIn K mainGlobals "_law_number" = some (some (.ref f_l_number)))
    (l_l_number : K.lookup f_l_number = some ⟨oc_l_number, od_l_number, .func (PySem.W.fnOf "_law_number" "_law_number" (defArgs s_l_number) (defBody s_l_number) (defScope s_l_number) .none kV_l_number dc_l_number pm_l_number an_l_number cd_l_number ct_l_number), sl_l_number⟩)
    (cc_l_number : PySem.W.codeIn K cd_l_number "_law_number" = true)
    (kk_l_number : PySem.W.keepIn K (.ref f_l_number) = true)
    (a_l_parts : PySem.W.nsIn K mainGlobals "_law_parts" = some (some (.ref f_l_parts)))
    (l_l_parts : K.lookup f_l_parts = some ⟨oc_l_parts, od_l_parts, .func (PySem.W.fnOf "_law_parts" "_law_parts" (defArgs s_l_parts) (defBody s_l_parts) (defScope s_l_parts) .none kV_l_parts dc_l_parts pm_l_parts an_l_parts cd_l_parts ct_l_parts), sl_l_parts⟩)
    (cc_l_parts : PySem.W.codeIn K cd_l_parts "_law_parts" = true)
    (kk_l_parts : PySem.W.keepIn K (.ref f_l_parts) = true)
    (a_l_made : PySem.W.nsIn K mainGlobals "_law_made" = some (some (.ref f_l_made)))
    (l_l_made : K.lookup f_l_made = some ⟨oc_l_made, od_l_made, .func (PySem.W.fnOf "_law_made" "_law_made" (defArgs s_l_made) (defBody s_l_made) (defScope s_l_made) .none kV_l_made dc_l_made pm_l_made an_l_made cd_l_made ct_l_made), sl_l_made⟩)
    (cc_l_made : PySem.W.codeIn K cd_l_made "_law_made" = true)
    (kk_l_made : PySem.W.keepIn K (.ref f_l_made) = true)
    (a_l_line : PySem.W.nsIn K mainGlobals "_law_line" = some (some (.ref f_l_line)))
    (l_l_line : K.lookup f_l_line = some ⟨oc_l_line, od_l_line, .func (PySem.W.fnOf "_law_line" "_law_line" (defArgs s_l_line) (defBody s_l_line) (defScope s_l_line) .none kV_l_line dc_l_line pm_l_line an_l_line cd_l_line ct_l_line), sl_l_line⟩)
    (cc_l_line : PySem.W.codeIn K cd_l_line "_law_line" = true)
    (kk_l_line : PySem.W.keepIn K (.ref f_l_line) = true)
    (a_l_same : PySem.W.nsIn K mainGlobals "_law_same" = some (some (.ref f_l_same)))
    (l_l_same : K.lookup f_l_same = some ⟨oc_l_same, od_l_same, .func (PySem.W.fnOf "_law_same" "_law_same" (defArgs s_l_same) (defBody s_l_same) (defScope s_l_same) .none kV_l_same dc_l_same pm_l_same an_l_same cd_l_same ct_l_same), sl_l_same⟩)
    (cc_l_same : PySem.W.codeIn K cd_l_same "_law_same" = true)
    (kk_l_same : PySem.W.keepIn K (.ref f_l_same) = true)
    (a_law : PySem.W.nsIn K mainGlobals "law" = some (some (.ref f_law)))
    (l_law : K.lookup f_law = some ⟨oc_law, od_law, .func (PySem.W.fnOf "law" "law" (defArgs s_law) (defBody s_law) (defScope s_law) .none kV_law dc_law pm_law an_law cd_law ct_law), sl_law⟩)
    (cc_law : PySem.W.codeIn K cd_law "law" = true)
    (kk_law : PySem.W.keepIn K (.ref f_law) = true)
    (z_bool : PySem.W.nsIn K mainGlobals "bool" = some none)
    (z_int : PySem.W.nsIn K mainGlobals "int" = some none)
    (z_isinstance : PySem.W.nsIn K mainGlobals "isinstance" = some none)
    (z_len : PySem.W.nsIn K mainGlobals "len" = some none)
    (z_list : PySem.W.nsIn K mainGlobals "list" = some none)
    (z_min : PySem.W.nsIn K mainGlobals "min" = some none)
    (z_range : PySem.W.nsIn K mainGlobals "range" = some none)
    (z_str : PySem.W.nsIn K mainGlobals "str" = some none)
    : ∃ fd : FuncData, (∀ (s : Shared) (v : Value), BindsTo s fd ⟨[v], []⟩ [("script", v)]) ∧ ∀ base : Heap, K.In base → base.Ns mainGlobals mg → FnOk l.prog w K mg base CX0 7 fa fd ["script"] (sp_law K) := by
  have e := hfa.symm.trans (PySem.W.mg_of X G a_law)
  have e2 : f_law = fa := by
    injection e with e
    injection e with e
    exact e.symm
  subst e2
  have F_to_hex := fun_mk (st := s_to_hex) l_to_hex cc_to_hex kk_to_hex
  have b_to_hex := F_to_hex.binds (ps := ["octets"]) fun _ _ _ _ _ _ us hl => match us, hl with | [_], _ => rfl
  have F_write_record := fun_mk (st := s_write_record) l_write_record cc_write_record kk_write_record
  have b_write_record := F_write_record.binds (ps := ["record"]) fun _ _ _ _ _ _ us hl => match us, hl with | [_], _ => rfl
  have F_write_records := fun_mk (st := s_write_records) l_write_records cc_write_records kk_write_records
  have b_write_records := F_write_records.binds (ps := ["records"]) fun _ _ _ _ _ _ us hl => match us, hl with | [_], _ => rfl
  have F_Packet_init__ : FunD K "__init__" "Packet.__init__" (defArgs s_Packet_init__) (defBody s_Packet_init__) (defScope s_Packet_init__) [] [("marked", .bl false)] f_Packet_init__ _ := ⟨⟨_, _, _, _, _, _, _, _, _, _, rfl, l_Packet_init__, cc_Packet_init__, .inl ⟨rfl, rfl⟩, .inr ⟨kd_Packet_init__, rfl, fun q hq => by
      simp only [List.mem_cons, List.not_mem_nil, or_false] at hq
      rcases hq with rfl
      · exact ⟨_, kw_Packet_init___marked, by first | exact rfl | exact ⟨_, rfl⟩⟩⟩⟩, kk_Packet_init__⟩
  have F_Packet_fork := fun_mk (st := s_Packet_fork) l_Packet_fork cc_Packet_fork kk_Packet_fork
  have b_Packet_fork := F_Packet_fork.binds (ps := ["self"]) fun _ _ _ _ _ _ us hl => match us, hl with | [_], _ => rfl
  have F_Record_init__ := fun_mk (st := s_Record_init__) l_Record_init__ cc_Record_init__ kk_Record_init__
  have b_Record_init__ := F_Record_init__.binds (ps := ["self", "tick", "number", "word", "packet"]) fun _ _ _ _ _ _ us hl => match us, hl with | [_, _, _, _, _], _ => rfl
  have F_l_is_integer := fun_mk (st := s_l_is_integer) l_l_is_integer cc_l_is_integer kk_l_is_integer
  have b_l_is_integer := F_l_is_integer.binds (ps := ["actual"]) fun _ _ _ _ _ _ us hl => match us, hl with | [_], _ => rfl
  have F_l_row := fun_mk (st := s_l_row) l_l_row cc_l_row kk_l_row
  have b_l_row := F_l_row.binds (ps := ["cell", "size", "base"]) fun _ _ _ _ _ _ us hl => match us, hl with | [_, _, _], _ => rfl
  have F_l_octets := fun_mk (st := s_l_octets) l_l_octets cc_l_octets kk_l_octets
  have b_l_octets := F_l_octets.binds (ps := ["actual", "expected"]) fun _ _ _ _ _ _ us hl => match us, hl with | [_, _], _ => rfl
  have F_l_number := fun_mk (st := s_l_number) l_l_number cc_l_number kk_l_number
  have b_l_number := F_l_number.binds (ps := ["cell"]) fun _ _ _ _ _ _ us hl => match us, hl with | [_], _ => rfl
  have F_l_parts := fun_mk (st := s_l_parts) l_l_parts cc_l_parts kk_l_parts
  have b_l_parts := F_l_parts.binds (ps := ["cell", "more"]) fun _ _ _ _ _ _ us hl => match us, hl with | [_, _], _ => rfl
  have F_l_made := fun_mk (st := s_l_made) l_l_made cc_l_made kk_l_made
  have b_l_made := F_l_made.binds (ps := ["parts"]) fun _ _ _ _ _ _ us hl => match us, hl with | [_], _ => rfl
  have F_l_line := fun_mk (st := s_l_line) l_l_line cc_l_line kk_l_line
  have b_l_line := F_l_line.binds (ps := ["parts"]) fun _ _ _ _ _ _ us hl => match us, hl with | [_], _ => rfl
  have F_l_same := fun_mk (st := s_l_same) l_l_same cc_l_same kk_l_same
  have b_l_same := F_l_same.binds (ps := ["actual", "parts"]) fun _ _ _ _ _ _ us hl => match us, hl with | [_, _], _ => rfl
  have F_law := fun_mk (st := s_law) l_law cc_law kk_law
  have b_law := F_law.binds (ps := ["script"]) fun _ _ _ _ _ _ us hl => match us, hl with | [_], _ => rfl
  let T : Txt K mg := { C_Packet := C_Packet, C_Record := C_Record, f_to_hex := f_to_hex, d_to_hex := _, f_write_record := f_write_record, d_write_record := _, f_write_records := f_write_records, d_write_records := _, f_Packet_init__ := f_Packet_init__, d_Packet_init__ := _, f_Packet_fork := f_Packet_fork, d_Packet_fork := _, f_Record_init__ := f_Record_init__, d_Record_init__ := _, f_l_is_integer := f_l_is_integer, d_l_is_integer := _, f_l_row := f_l_row, d_l_row := _, f_l_octets := f_l_octets, d_l_octets := _, f_l_number := f_l_number, d_l_number := _, f_l_parts := f_l_parts, d_l_parts := _, f_l_made := f_l_made, d_l_made := _, f_l_line := f_l_line, d_l_line := _, f_l_same := f_l_same, d_l_same := _, f_law := f_law, d_law := _, c_Packet := PySem.W.mg_of X G c_Packet, k_Packet := ⟨pg_Packet, hd_Packet, po_Packet, sa_Packet⟩, i_Packet := fun e => .ins e ⟨pg_Packet, hd_Packet, po_Packet, sa_Packet⟩ ha_Packet hn_all ht_all hm_Packet, n_Packet_sender := n_Packet_sender, n_Packet_target := n_Packet_target, n_Packet_octets := n_Packet_octets, n_Packet_marked := n_Packet_marked, c_Record := PySem.W.mg_of X G c_Record, k_Record := ⟨pg_Record, hd_Record, po_Record, sa_Record⟩, i_Record := fun e => .ins e ⟨pg_Record, hd_Record, po_Record, sa_Record⟩ ha_Record hn_all ht_all hm_Record, n_Record_tick := n_Record_tick, n_Record_number := n_Record_number, n_Record_word := n_Record_word, n_Record_packet := n_Record_packet, F_to_hex := F_to_hex, b_to_hex := b_to_hex, m_to_hex := PySem.W.mg_of X G a_to_hex, F_write_record := F_write_record, b_write_record := b_write_record, m_write_record := PySem.W.mg_of X G a_write_record, F_write_records := F_write_records, b_write_records := b_write_records, m_write_records := PySem.W.mg_of X G a_write_records, F_Packet_init__ := F_Packet_init__, mk_Packet := ⟨mk0_Packet, a_Packet_init__, i_Packet_init__, kc_Packet⟩, F_Packet_fork := F_Packet_fork, b_Packet_fork := b_Packet_fork, a_Packet_fork := ⟨a_Packet_fork, i_Packet_fork, kk_Packet_fork⟩, F_Record_init__ := F_Record_init__, b_Record_init__ := b_Record_init__, mk_Record := ⟨mk0_Record, a_Record_init__, i_Record_init__, kc_Record⟩, F_l_is_integer := F_l_is_integer, b_l_is_integer := b_l_is_integer, m_l_is_integer := PySem.W.mg_of X G a_l_is_integer, F_l_row := F_l_row, b_l_row := b_l_row, m_l_row := PySem.W.mg_of X G a_l_row, F_l_octets := F_l_octets, b_l_octets := b_l_octets, m_l_octets := PySem.W.mg_of X G a_l_octets, F_l_number := F_l_number, b_l_number := b_l_number, m_l_number := PySem.W.mg_of X G a_l_number, F_l_parts := F_l_parts, b_l_parts := b_l_parts, m_l_parts := PySem.W.mg_of X G a_l_parts, F_l_made := F_l_made, b_l_made := b_l_made, m_l_made := PySem.W.mg_of X G a_l_made, F_l_line := F_l_line, b_l_line := b_l_line, m_l_line := PySem.W.mg_of X G a_l_line, F_l_same := F_l_same, b_l_same := b_l_same, m_l_same := PySem.W.mg_of X G a_l_same, F_law := F_law, b_law := b_law, m_law := PySem.W.mg_of X G a_law, n_bool := PySem.W.mg_none_of X G z_bool, n_int := PySem.W.mg_none_of X G z_int, n_isinstance := PySem.W.mg_none_of X G z_isinstance, n_len := PySem.W.mg_none_of X G z_len, n_list := PySem.W.mg_none_of X G z_list, n_min := PySem.W.mg_none_of X G z_min, n_range := PySem.W.mg_none_of X G z_range, n_str := PySem.W.mg_none_of X G z_str }
  exact ⟨PySem.W.fnOf "law" "law" (defArgs s_law) (defBody s_law) (defScope s_law) .none kV_law dc_law pm_law an_law cd_law ct_law, fun s v => .of_eq rfl, fun base _ _ => ok_law T⟩
theorem walk {l : PySem.W.OpenLaw} {q : Program} {loose : List Str} {XP : (Str → Option Value) → Heap → Prop} {YP : World → Heap → Prop} {d : DefRec} {K : Params → PySem.W.Frag} (hn : l.most = some 63) (hdf : d.params.defaults = [])
    (hY : ∀ (w : World) (h : Heap), YP w h → (K w.params).In h)
    (F : ∀ (w : World) (mg : Str → Option Value) (fa : Addr) (h : Heap), (K w.params).In h → h.Ns mainGlobals mg → mg d.name = some (.ref fa) →
      ∃ fd : FuncData, (∀ (s : Shared) (u : Value), BindsTo s fd ⟨[u], []⟩ [("script", u)]) ∧ ∀ base : Heap, (K w.params).In base → base.Ns mainGlobals mg → FnOk l.prog w (K w.params) mg base CX0 7 fa fd ["script"] (sp_law (K w.params))) :
    PySem.W.WalkO q loose XP YP l.row.toRowW d [] (fun f vs => PySem.call f vs) :=
  L2.walk_of (n := 63) (k := 7) (x := "script") (CX := fun _ => CX0) (sp := fun w => sp_law (K w.params)) hn (by decide) hdf ⟨rfl, by decide, by decide⟩ hY F (fun _ _ a ns hl _ hS => ⟨a, ns, rfl, hS, hl, fun _ => rfl⟩) fun _ _ _ _ _ z => z
end My
open PySem PySem.W PyProof.Rows
set_option maxRecDepth 100000 in
set_option maxHeartbeats 0 in
theorem PySem.Challenge.cw_throughline_k74_record_lines_holds : PySem.Challenge.rw_throughline_k74_record_lines.Holds := by
  w_on; o_law; k_head; (case hw => w_witness2)
  k_fill
  refine My.walk (l := PySem.Challenge.rw_throughline_k74_record_lines) rfl rfl (fun w h Y => PySem.W.kIn_of Y) ?F
  case F =>
    intro w mg fa h KX G hmg
    refine' My.all_mk KX G hmg ?c_Packet ?pg_Packet ?hd_Packet ?po_Packet ?sa_Packet ?mk0_Packet ?kc_Packet ?ha_Packet ?hm_Packet ?hn_all ?ht_all ?n_Packet_sender ?n_Packet_target ?n_Packet_octets ?n_Packet_marked ?c_Record ?pg_Record ?hd_Record ?po_Record ?sa_Record ?mk0_Record ?kc_Record ?ha_Record ?hm_Record ?n_Record_tick ?n_Record_number ?n_Record_word ?n_Record_packet ?a_to_hex ?l_to_hex ?cc_to_hex ?kk_to_hex ?a_write_record ?l_write_record ?cc_write_record ?kk_write_record ?a_write_records ?l_write_records ?cc_write_records ?kk_write_records ?a_Packet_init__ ?i_Packet_init__ ?l_Packet_init__ ?kw_Packet_init___marked ?cc_Packet_init__ ?kk_Packet_init__ ?a_Packet_fork ?i_Packet_fork ?l_Packet_fork ?cc_Packet_fork ?kk_Packet_fork ?a_Record_init__ ?i_Record_init__ ?l_Record_init__ ?cc_Record_init__ ?kk_Record_init__ ?a_l_is_integer ?l_l_is_integer ?cc_l_is_integer ?kk_l_is_integer ?a_l_row ?l_l_row ?cc_l_row ?kk_l_row ?a_l_octets ?l_l_octets ?cc_l_octets ?kk_l_octets ?a_l_number ?l_l_number ?cc_l_number ?kk_l_number ?a_l_parts ?l_l_parts ?cc_l_parts ?kk_l_parts ?a_l_made ?l_l_made ?cc_l_made ?kk_l_made ?a_l_line ?l_l_line ?cc_l_line ?kk_l_line ?a_l_same ?l_l_same ?cc_l_same ?kk_l_same ?a_law ?l_law ?cc_law ?kk_law ?z_bool ?z_int ?z_isinstance ?z_len ?z_list ?z_min ?z_range ?z_str
    (case c_Packet => k_is)
    (case pg_Packet => k_is)
    (case hd_Packet => k_is)
    (case po_Packet => k_is)
    (case sa_Packet => k_is)
    (case mk0_Packet => k_is)
    (case kc_Packet => k_is)
    (case ha_Packet => k_is)
    (case hm_Packet => k_is)
    (case hn_all => k_is)
    (case ht_all => k_is)
    (case n_Packet_sender => k_is)
    (case n_Packet_target => k_is)
    (case n_Packet_octets => k_is)
    (case n_Packet_marked => k_is)
    (case c_Record => k_is)
    (case pg_Record => k_is)
    (case hd_Record => k_is)
    (case po_Record => k_is)
    (case sa_Record => k_is)
    (case mk0_Record => k_is)
    (case kc_Record => k_is)
    (case ha_Record => k_is)
    (case hm_Record => k_is)
    (case n_Record_tick => k_is)
    (case n_Record_number => k_is)
    (case n_Record_word => k_is)
    (case n_Record_packet => k_is)
    (case a_to_hex => k_is)
    (case l_to_hex => k_is)
    (case cc_to_hex => k_is)
    (case kk_to_hex => k_is)
    (case a_write_record => k_is)
    (case l_write_record => k_is)
    (case cc_write_record => k_is)
    (case kk_write_record => k_is)
    (case a_write_records => k_is)
    (case l_write_records => k_is)
    (case cc_write_records => k_is)
    (case kk_write_records => k_is)
    (case a_Packet_init__ => k_is)
    (case i_Packet_init__ => k_is)
    (case l_Packet_init__ => k_is)
    (case kw_Packet_init___marked => k_is)
    (case cc_Packet_init__ => k_is)
    (case kk_Packet_init__ => k_is)
    (case a_Packet_fork => k_is)
    (case i_Packet_fork => k_is)
    (case l_Packet_fork => k_is)
    (case cc_Packet_fork => k_is)
    (case kk_Packet_fork => k_is)
    (case a_Record_init__ => k_is)
    (case i_Record_init__ => k_is)
    (case l_Record_init__ => k_is)
    (case cc_Record_init__ => k_is)
    (case kk_Record_init__ => k_is)
    (case a_l_is_integer => k_is)
    (case l_l_is_integer => k_is)
    (case cc_l_is_integer => k_is)
    (case kk_l_is_integer => k_is)
    (case a_l_row => k_is)
    (case l_l_row => k_is)
    (case cc_l_row => k_is)
    (case kk_l_row => k_is)
    (case a_l_octets => k_is)
    (case l_l_octets => k_is)
    (case cc_l_octets => k_is)
    (case kk_l_octets => k_is)
    (case a_l_number => k_is)
    (case l_l_number => k_is)
    (case cc_l_number => k_is)
    (case kk_l_number => k_is)
    (case a_l_parts => k_is)
    (case l_l_parts => k_is)
    (case cc_l_parts => k_is)
    (case kk_l_parts => k_is)
    (case a_l_made => k_is)
    (case l_l_made => k_is)
    (case cc_l_made => k_is)
    (case kk_l_made => k_is)
    (case a_l_line => k_is)
    (case l_l_line => k_is)
    (case cc_l_line => k_is)
    (case kk_l_line => k_is)
    (case a_l_same => k_is)
    (case l_l_same => k_is)
    (case cc_l_same => k_is)
    (case kk_l_same => k_is)
    (case a_law => k_is)
    (case l_law => k_is)
    (case cc_law => k_is)
    (case kk_law => k_is)
    (case z_bool => k_is)
    (case z_int => k_is)
    (case z_isinstance => k_is)
    (case z_len => k_is)
    (case z_list => k_is)
    (case z_min => k_is)
    (case z_range => k_is)
    (case z_str => k_is)
#print axioms PySem.Challenge.cw_throughline_k74_record_lines_holds

