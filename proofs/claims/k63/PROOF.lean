import PyProof.Rows.All
import Wide.All
import OpenK.AllK
import Wide.FinOn
import HandS.ForMost
import HandS.IsInst
import HandS.Wide
import HandS.Style
import HandS.Conv
import HandS.RevRange
import HandS.Walk
import HandS.Property
import HandS.Star
import HandS.Codes
import HandS.TupAny
import HandS.ForExc
import HandS.Small
import HandS.RaiseMore
import HandS.FStr
import HandS.ExcIs
import HandS.WrittenGet
import HandS.More
import PySem.Challenge.RW_throughline_k63_forms_of_deeds
set_option Elab.async false
set_option linter.all false
set_option maxRecDepth 100000
set_option maxHeartbeats 4000000
namespace My
open PySem PySem.Spec L2
/-! ### readings, one rule a construct -/
section
variable {K : PySem.W.Frag} {σ : St} {H : Hp} {Q : VK} {v x y z : V} {ta tb te tc : TE} {tt tu : TT} {r : R2} {D : Ends} {ts us : TS} {P : Bool → Hp → Prop} {i j : Int}
theorem g_var {i : Nat} (h : σ[i]? = some (some v)) (q : Q v H) : tVar i σ H Q := ⟨v, h, q⟩
theorem g_c (q : Q v H) : tC v σ H Q := q
theorem g_op (h : ta σ H fun x H1 => tb σ H1 fun y H2 => r x y H2 Q) : tOp r ta tb σ H Q := h
theorem g_un {r : V → Hp → VK → Prop} (h : ta σ H fun x H1 => r x H1 Q) : tUn r ta σ H Q := h
theorem g_rI0 {g : Int → Int → V} (q : Q (g i j) H) : rI0 g (.int i) (.int j) H Q := ⟨i, j, rfl, rfl, q⟩
theorem g_rI {C : Int → Int → Prop} {g : Int → Int → V} (c : C i j) (q : Q (g i j) H) : rI C g (.int i) (.int j) H Q := ⟨i, j, rfl, rfl, c, q⟩
theorem g_rU {g : Int → V} (q : Q (g i) H) : rU g (.int i) H Q := ⟨i, rfl, q⟩
theorem g_rEqI (q : Q (.bl (decide (i = j))) H) : rEq (.int i) (.int j) H Q := ⟨rfl, by rw [dec_int]; exact q⟩
theorem g_rNeI (q : Q (.bl (!decide (i = j))) H) : rNe (.int i) (.int j) H Q := ⟨rfl, by rw [dec_int]; exact q⟩
theorem g_rEq (s : scal x y = true) (q : Q (.bl (decide (x = y))) H) : rEq x y H Q := ⟨s, q⟩
theorem g_rNe (s : scal x y = true) (q : Q (.bl (!decide (x = y))) H) : rNe x y H Q := ⟨s, q⟩
theorem g_isN {A : Prop} (q : A) : V.non = V.non ∧ A := ⟨rfl, q⟩
theorem g_rIsB {a b : Bool} (q : Q (.bl (decide (a = b))) H) : rIsB (.bl a) (.bl b) H Q := ⟨a, b, rfl, rfl, q⟩
theorem g_rNotB {a b : Bool} (q : Q (.bl (!decide (a = b))) H) : rNotB (.bl a) (.bl b) H Q := ⟨a, b, rfl, rfl, q⟩
theorem g_test {t : TE} (h : t σ H fun x H' => ∃ k, x = .bl k ∧ P k H') : tTest t σ H P := h
theorem g_B {t : TE} (h : t σ H fun x H' => ∃ k, x = .bl k ∧ P k H') : tB t σ H P := h
theorem g_bl {b : Bool} {A : Bool → Prop} (q : A b) : ∃ k, V.bl b = .bl k ∧ A k := ⟨b, rfl, q⟩
theorem g_and (h : tt σ H fun c H1 => if c = true then tu σ H1 P else P false H1) : tAnd tt tu σ H P := h
theorem g_or (h : tt σ H fun c H1 => if c = true then P true H1 else tu σ H1 P) : tOr tt tu σ H P := h
theorem g_not (h : tt σ H fun c H1 => P (!c) H1) : tNot tt σ H P := h
theorem g_andV (h : ta σ H fun x H1 => ∃ c, x = .bl c ∧ if c = true then tb σ H1 Q else Q (.bl false) H1) : tAndV ta tb σ H Q := h
theorem g_orV (h : ta σ H fun x H1 => ∃ c, x = .bl c ∧ if c = true then Q (.bl true) H1 else tb σ H1 Q) : tOrV ta tb σ H Q := h
theorem g_notV (h : ta σ H fun x H1 => ∃ c, x = .bl c ∧ Q (.bl (!c)) H1) : tNotV ta σ H Q := h
theorem g_if (h : tt σ H fun c H1 => if c = true then ta σ H1 Q else tb σ H1 Q) : tIf tt ta tb σ H Q := h
theorem g_chain {r' : R2} (h : ta σ H fun x H1 => tb σ H1 fun y H2 => r x y H2 fun z H3 => ∃ k, z = .bl k ∧ (if k = true then tc σ H3 fun w' H4 => r' y w' H4 Q else Q (.bl false) H3)) : tChain r r' ta tb tc σ H Q := h
theorem g_nil {A : List V → Hp → Prop} (q : A [] H) : tNil σ H A := q
theorem g_cons {tr : TA} {A : List V → Hp → Prop} (h : ta σ H fun x H1 => tr σ H1 fun xs H2 => A (x :: xs) H2) : tCons ta tr σ H A := h
theorem g_tup {t : TA} (h : t σ H fun xs H1 => xs.length ≤ sizeLine ∧ ∀ p, H1 p = none → Q (.ref p) (upd H1 p (.tup xs))) : tTup t σ H Q := h
theorem g_lst {t : TA} (h : t σ H fun xs H1 => xs.length ≤ sizeLine ∧ ∀ p, H1 p = none → Q (.ref p) (upd H1 p (.lst xs))) : tLst t σ H Q := h
theorem g_call {sp : Sp} {dvs : List V} {E : XK} {t : TA} (h : t σ H fun vs H1 => sp (vs ++ dvs) H1 Q E) : tCall sp dvs E t σ H Q := h
theorem g_CB {r : List V → Hp → VK → Prop} {t : TA} (h : t σ H fun vs H1 => r vs H1 Q) : tCB r t σ H Q := h
theorem g_sl {r : V → Option Int → Option Int → Hp → VK → Prop} {tl th : TO} (h : te σ H fun x H1 => tl σ H1 fun l H2 => th σ H2 fun u H3 => r x l u H3 Q) : tSl r te tl th σ H Q := h
theorem g_noPart {A : Option Int → Hp → Prop} (q : A none H) : tNoPart σ H A := q
theorem g_part {A : Option Int → Hp → Prop} (h : te σ H fun x H1 => ∃ i, x = .int i ∧ A (some i) H1) : tPart te σ H A := h
theorem g_intE {A : Int → Prop} (q : A i) : ∃ k, V.int i = .int k ∧ A k := ⟨i, rfl, q⟩
theorem g_seq (h : ts { D with nx := us D } σ H) : tSeq ts us D σ H := h
theorem g_next (q : D.nx σ H) : tNext D σ H := q
theorem g_brk (q : D.bk σ H) : tBreak D σ H := q
theorem g_ct (q : D.ct σ H) : tCont D σ H := q
theorem g_asg {g : TG} (h : te σ H fun x H1 => g x σ H1 D.nx) : tAsg te g D σ H := h
theorem g_name {i : Nat} {A : St → Hp → Prop} (q : A (σ.set i (some v)) H) : gName i v σ H A := q
theorem g_aug {i : Nat} {ti : TIp} (h : σ[i]? = some (some x)) (q : te σ H fun y H1 => ti x y H1 fun z H2 => D.nx (σ.set i (some z)) H2) : tAug i te ti D σ H := ⟨x, h, q⟩
theorem g_ipI {f : Int → Int → Int} (q : Q (.int (f i j)) H) : ipI f (.int i) (.int j) H Q := ⟨i, j, rfl, rfl, q⟩
theorem g_drop (h : te σ H fun _ H1 => D.nx σ H1) : tDrop te D σ H := h
theorem g_ret (h : te σ H D.rt) : tRet te D σ H := h
theorem g_retN (q : D.rt .non H) : tRetN D σ H := q
theorem g_ifS (h : tt σ H fun b H1 => if b = true then ts D σ H1 else us D σ H1) : tIfS tt ts us D σ H := h
theorem g_for {wi : TI} {g : TG} {tb : TS} (h : wi σ H fun J H1 => ∃ W : Nat → Nat → St → Hp → Prop, (∃ m, W 0 m σ H1) ∧ ∀ i m σ H, W i m σ H →
    (J.stop i H ∧ D.nx σ H) ∨ (J.go i H ∧ ∃ N : St → Hp → Prop, (∀ σ' H', N σ' H' → ∃ m', m' < m ∧ W (i + 1) m' σ' H') ∧ ∀ x H', J.yld i H x H' → g x σ H' fun σ2 H2 => tb { D with nx := N, ct := N, bk := D.nx } σ2 H2)) : tFor wi g tb D σ H := h
theorem g_iT {c : Bool} {A B : Prop} (e : c = true) (h : A) : if c = true then A else B := by rw [if_pos e]; exact h
theorem g_iF {c : Bool} {A B : Prop} (e : c = false) (h : B) : if c = true then A else B := by rw [e]; exact iteF h
theorem g_ite {p A B : Prop} [Decidable p] (h1 : p → A) (h2 : ¬ p → B) : if decide p = true then A else B := by
  by_cases h : p
  · rw [decide_eq_true h]; exact iteT (h1 h)
  · rw [decide_eq_false h]; exact iteF (h2 h)
theorem g_iteN {p A B : Prop} [Decidable p] (h1 : ¬ p → A) (h2 : p → B) : if (!decide p) = true then A else B := by
  by_cases h : p
  · rw [decide_eq_true h]; exact iteF (h2 h)
  · rw [decide_eq_false h]; exact iteT (h1 h)
theorem g_iteB {b : Bool} {A B : Prop} (h1 : b = true → A) (h2 : b = false → B) : if b = true then A else B := by
  cases b with
  | true => exact iteT (h1 rfl)
  | false => exact iteF (h2 rfl)
theorem g_iteNB {b : Bool} {A B : Prop} (h1 : b = false → A) (h2 : b = true → B) : if (!b) = true then A else B := by
  cases b with
  | true => exact iteF (h2 rfl)
  | false => exact iteT (h1 rfl)
/-! calls of built-ins, by values -/
theorem g_int1 {A : Int → Prop} {B : Bool → Prop} (q : A i) : (∃ i', [V.int i] = [V.int i'] ∧ A i') ∨ ∃ k, [V.int i] = [V.bl k] ∧ B k := .inl ⟨i, rfl, q⟩
theorem g_int1B {b : Bool} {A : Int → Prop} {B : Bool → Prop} (q : B b) : (∃ i', [V.bl b] = [V.int i'] ∧ A i') ∨ ∃ k, [V.bl b] = [V.bl k] ∧ B k := .inr ⟨b, rfl, q⟩
theorem g_one {A : Int → Prop} (q : A i) : ∃ i', [V.int i] = [V.int i'] ∧ A i' := ⟨i, rfl, q⟩
theorem g_two {A : Int → Int → Prop} (q : A i j) : ∃ i' j', [V.int i, V.int j] = [V.int i', V.int j'] ∧ A i' j' := ⟨i, j, rfl, q⟩
theorem g_isi {c : V} {t u : Value} {b : Bool} (hc : ClsV c u) (ht : TyX K H x t) (e : PySem.W.kitOne K t u = some b) (q : Q (.bl b) H) : rIsi K [x, c] H Q := ⟨x, c, t, u, b, rfl, hc, ht, e, q⟩
theorem g_isiI (q : Q (.bl true) H) : rIsi K [.int i, .ty "int"] H Q := g_isi (.ty _) (.base (.int _)) (kit_ty (by decide +kernel)) q
theorem g_isiB {b : Bool} (q : Q (.bl true) H) : rIsi K [.bl b, .ty "bool"] H Q := g_isi (.ty _) (.base (.bl _)) (kit_ty (by decide +kernel)) q
theorem g_isiIB (q : Q (.bl false) H) : rIsi K [.int i, .ty "bool"] H Q := g_isi (.ty _) (.base (.int _)) (kit_ty (by decide +kernel)) q
theorem g_isiL {p : Addr} {xs : List V} (h : H p = some (.lst xs)) (q : Q (.bl true) H) : rIsi K [.ref p, .ty "list"] H Q := g_isi (.ty _) (.base (.lst h)) (kit_ty (by decide +kernel)) q
theorem g_isiU {p : Addr} {xs : List V} (h : H p = some (.tup xs)) (q : Q (.bl true) H) : rIsi K [.ref p, .ty "tuple"] H Q := g_isi (.ty _) (.base (.tup h)) (kit_ty (by decide +kernel)) q
theorem g_ixL {p : Addr} {xs : List V} (h : SqL K H p xs) (e : atI xs i = some v) (q : Q v H) : rIxL K (.ref p) (.int i) H Q := ⟨p, xs, i, v, rfl, rfl, h, e, q⟩
theorem g_ixT {p : Addr} {xs : List V} (h : SqT K H p xs) (e : atI xs i = some v) (q : Q v H) : rIxT K (.ref p) (.int i) H Q := ⟨p, xs, i, v, rfl, rfl, h, e, q⟩
theorem g_append {p : Addr} {xs : List V} (h : H p = some (.lst xs)) (l : xs.length < sizeLine) (q : Q .non (upd H p (.lst (xs ++ [y])))) : rAppend (.ref p) [y] H Q := ⟨p, xs, y, rfl, rfl, h, l, q⟩
theorem g_BM {T : String} {r : V → List V → Hp → VK → Prop} {t : TA} (h : te σ H fun x H1 => tyV K T x H1 ∧ t σ H1 fun xs H2 => r x xs H2 Q) : tBM K T r te t σ H Q := h
theorem g_BM0 {T : String} {r : V → List V → Hp → VK → Prop} (h : te σ H fun x H1 => tyV K T x H1 ∧ r x [] H1 Q) : tBM0 K T r te σ H Q := h
theorem ty_l {p : Addr} {xs : List V} (h : H p = some (.lst xs)) : tyV K "list" (.ref p) H := Or.inl ⟨rfl, _, Or.inl (Or.inl h)⟩
theorem g_setL {p : Addr} {xs : List V} {k : Int} {j : Nat} {A : Hp → Prop} (h : H p = some (.lst xs)) (e : ixN xs.length k = some j) (q : A (upd H p (.lst (xs.set j v)))) : rSetL (.ref p) (.int k) v H A := ⟨p, xs, k, j, rfl, rfl, h, e, q⟩
theorem g_sub {to ti : TE} {t : TSet} {A : St → Hp → Prop} (h : to σ H fun o H1 => ti σ H1 fun i H2 => t o i v H2 fun H3 => A σ H3) : gSub to ti t v σ H A := h
theorem g_len {p : Addr} {xs : List V} {A : Addr → List V → Prop} (h : SqL K H p xs ∨ SqT K H p xs) (q : A p xs) : ∃ p' ys, [V.ref p] = [V.ref p'] ∧ (SqL K H p' ys ∨ SqT K H p' ys) ∧ A p' ys := ⟨p, xs, rfl, h, q⟩
theorem g_slL {p : Addr} {xs : List V} {lo hi : Option Int} (h : SqL K H p xs) (q : ∀ l, H l = none → Q (.ref l) (upd H l (.lst (cutV xs lo hi)))) : rSlL K (.ref p) lo hi H Q := ⟨p, xs, rfl, h, q⟩
theorem g_cat {p q : Addr} {xs ys : List V} (h : H p = some (.lst xs)) (h2 : H q = some (.lst ys)) (l : xs.length + ys.length ≤ sizeLine) (k : ∀ l, H l = none → Q (.ref l) (upd H l (.lst (xs ++ ys)))) : rCat (.ref p) (.ref q) H Q := ⟨p, q, xs, ys, rfl, rfl, h, h2, l, k⟩
end
/-! ### heaps -/
theorem same_upd {H : Hp} {p : Addr} {o : HO} (h : H p = none) : Same H (upd H p o) := fun b x e => by
  rw [upd_ne (ne_of_none e h)]
  exact e
theorem sm {H H' : Hp} {p : Addr} {o : HO} (s : Same H H') (h : H p = some o) : H' p = some o := s p o h
theorem sq_upd {K : PySem.W.Frag} {H : Hp} {p a : Addr} {o : HO} {xs : List V} (n : H p = none) (h : SqL K H a xs) : SqL K (upd H p o) a xs := (same_upd n).seq h
theorem sl {K : PySem.W.Frag} {H : Hp} {a : Addr} {xs : List V} (h : H a = some (.lst xs)) : SqL K H a xs := Or.inl (Or.inl h)
theorem st {K : PySem.W.Frag} {H : Hp} {a : Addr} {xs : List V} (h : H a = some (.tup xs)) : SqT K H a xs := Or.inl (Or.inl h)
theorem Same.sqt {K : PySem.W.Frag} {H H' : Hp} {a : Addr} {xs : List V} (e : Same H H') (h : SqT K H a xs) : SqT K H' a xs := by
  rcases h with (h | ⟨o, h⟩) | h
  · exact .inl (.inl (e _ _ h))
  · exact .inl (.inr ⟨o, e _ _ h⟩)
  · exact .inr h
theorem upd_keep {H : Hp} {p b : Addr} {o o' : HO} (n : H p = none) (h : H b = some o') : upd H p o b = some o' := (same_upd n) b o' h
theorem ne_new {H : Hp} {p b : Addr} {o : HO} (h : H b = some o) (n : H p = none) : b ≠ p := ne_of_none h n
/-- H' is H but at p -/
def But (p : Addr) (H H' : Hp) : Prop := ∀ b o, b ≠ p → H b = some o → H' b = some o
theorem But.refl {p : Addr} {H : Hp} : But p H H := fun _ _ _ h => h
theorem But.of {p : Addr} {H H' : Hp} (s : Same H H') : But p H H' := fun b o _ h => s b o h
theorem But.trans {p : Addr} {H H1 H2 : Hp} (a : But p H H1) (b : But p H1 H2) : But p H H2 := fun c o n h => b c o n (a c o n h)
theorem But.upd {p : Addr} {H H' : Hp} {o : HO} (a : But p H H') : But p H (upd H' p o) := fun b o n h => by rw [upd_ne n]; exact a b o n h
theorem But.same {p : Addr} {H H' : Hp} (a : But p H H') (n : H p = none) : Same H H' := fun b o h => a b o (ne_of_none h n) h
theorem But.tr2 {p : Addr} {H H1 H2 : Hp} (s : Same H H1) (n : H p = none) (a : But p H1 H2) : Same H H2 := fun b o h => a b o (ne_of_none h n) (s b o h)
/-! ### numbers -/
theorem cdivW {a b : Int} (h : 0 < b) (h2 : b < 2 ^ 8000) : CDivW a b := by
  refine ⟨h, ?_⟩
  have e : b.natAbs < 2 ^ 8000 := by
    have : ((b.natAbs : Nat) : Int) < ((2 ^ 8000 : Nat) : Int) := by
      rw [Int.natAbs_of_nonneg (Int.le_of_lt h)]
      exact_mod_cast h2
    exact_mod_cast this
  by_cases z : b.natAbs = 0
  · rw [z]; decide
  · exact Nat.lt_of_lt_of_le (Nat.log2_lt z |>.mpr e) (by decide)
theorem sz {n : Nat} (h : n ≤ 100000) : n ≤ sizeLine := Nat.le_trans h (by decide)
theorem szl {n : Nat} (h : n < 100000) : n < sizeLine := Nat.lt_of_lt_of_le h (by decide)
/-! ### loops -/
theorem for_l {K : PySem.W.Frag} {tl : TE} {g : TG} {tb : TS} {D : Ends} {σ : St} {H : Hp} {a : Addr} {xs : List V} (Pv : Nat → St → Hp → Prop) (hs : SqL K H a xs) (h0 : Pv 0 σ H) (hl : ∀ i σ H, i ≤ xs.length → Pv i σ H → SqL K H a xs)
    (turn : ∀ i x σ H, xs[i]? = some x → Pv i σ H → g x σ H fun σ2 H2 => tb { D with nx := Pv (i + 1), ct := Pv (i + 1), bk := D.nx } σ2 H2) (hd : ∀ σ H, Pv xs.length σ H → D.nx σ H) (e : ∀ R : V → Hp → Prop, R (.ref a) H → tl σ H R) : tFor (iList K tl) g tb D σ H := by
  refine g_for ?_
  refine e _ ⟨a, rfl, ⟨_, hs⟩, ?_⟩
  exact for_list (xs := xs) Pv h0 hl turn hd
theorem for_r {ta : TA} {g : TG} {tb : TS} {D : Ends} {σ : St} {H : Hp} {n : Int} (N : Nat) (en : n.toNat = N) (b1 : -(2 ^ 62) ≤ n) (b2 : n < 2 ^ 62) (Pv : Nat → St → Hp → Prop) (h0 : Pv 0 σ H)
    (turn : ∀ (i : Nat) σ H, i < N → Pv i σ H → g (.int (i : Int)) σ H fun σ2 H2 => tb { D with nx := Pv (i + 1), ct := Pv (i + 1), bk := D.nx } σ2 H2) (hd : ∀ σ H, Pv N σ H → D.nx σ H) (e : ∀ R : List V → Hp → Prop, R [.int n] H → ta σ H R) : tFor (iRng1 ta) g tb D σ H := by
  subst en
  refine g_for ?_
  refine e _ ⟨n, rfl, b1, b2, ?_⟩
  refine for_range (lo := 0) Pv h0 (fun i σ H hi p => ?_) hd
  have z := turn i σ H hi p
  rw [Int.zero_add]
  exact z
theorem g_nx {nx : St → Hp → Prop} {rt : VK} {bk ct : St → Hp → Prop} {σ : St} {H : Hp} (q : nx σ H) : (Ends.mk nx rt bk ct).nx σ H := q
theorem g_bkE {nx : St → Hp → Prop} {rt : VK} {bk ct : St → Hp → Prop} {σ : St} {H : Hp} (q : bk σ H) : (Ends.mk nx rt bk ct).bk σ H := q
theorem g_ctE {nx : St → Hp → Prop} {rt : VK} {bk ct : St → Hp → Prop} {σ : St} {H : Hp} (q : ct σ H) : (Ends.mk nx rt bk ct).ct σ H := q
theorem g_rt {nx : St → Hp → Prop} {rt : VK} {bk ct : St → Hp → Prop} {v : V} {H : Hp} (q : rt v H) : (Ends.mk nx rt bk ct).rt v H := q
/-- a cell of the script -/
def cell (ns : List Int) (k : Int) : Int := ns.getD k.toNat 0
theorem atI_map {ns : List Int} {k : Int} (h0 : 0 ≤ k) (h : k < (ns.length : Int)) : atI (ns.map V.int) k = some (.int (cell ns k)) := by
  have e : k = ((k.toNat : Nat) : Int) := by omega
  have hl : k.toNat < ns.length := by omega
  have e2 : cell ns k = ns[k.toNat] := by
    unfold cell
    rw [List.getD_eq_getElem?_getD, List.getElem?_eq_getElem hl]; rfl
  rw [e2]
  refine at_of e ?_
  rw [List.getElem?_map, List.getElem?_eq_getElem hl]; rfl
theorem cell_out {ns : List Int} {k : Int} (h : ¬ k < (ns.length : Int)) : cell ns k = 0 := by
  unfold cell
  rw [List.getD_eq_getElem?_getD, List.getElem?_eq_none (by omega)]; rfl
theorem atI_some {xs : List V} {i : Int} (h0 : 0 ≤ i) (h : i < (xs.length : Int)) : ∃ v, xs[i.toNat]? = some v ∧ atI xs i = some v := by
  have hl : i.toNat < xs.length := by omega
  exact ⟨xs[i.toNat], List.getElem?_eq_getElem hl, at_of (by omega) (List.getElem?_eq_getElem hl)⟩
theorem atI_ints {xs : List Int} {i : Int} (h0 : 0 ≤ i) (h : i < (xs.length : Int)) : ∃ n, atI (xs.map V.int) i = some (.int n) ∧ xs[i.toNat]? = some n := by
  have hl : i.toNat < xs.length := by omega
  refine ⟨xs[i.toNat], at_of (j := i.toNat) (by omega) ?_, List.getElem?_eq_getElem hl⟩
  rw [List.getElem?_map, List.getElem?_eq_getElem hl]; rfl
theorem g_dT {p A B : Prop} [Decidable p] (h : p) (q : A) : if decide p = true then A else B := by rw [decide_eq_true h]; exact iteT q
theorem g_dF {p A B : Prop} [Decidable p] (h : ¬ p) (q : B) : if decide p = true then A else B := by rw [decide_eq_false h]; exact iteF q
theorem g_nT {p A B : Prop} [Decidable p] (h : ¬ p) (q : A) : if (!decide p) = true then A else B := by rw [decide_eq_false h]; exact iteT q
theorem g_nF {p A B : Prop} [Decidable p] (h : p) (q : B) : if (!decide p) = true then A else B := by rw [decide_eq_true h]; exact iteF q
/-! ### comprehensions: the list ys, value by value -/
theorem g_yes {σ : St} {H : Hp} {P : Bool → Hp → Prop} (q : P true H) : tYes σ H P := q
theorem g_lc {wi : TI} {g : TG} {tt : TT} {te : TE} {vs : List Nat} {σ : St} {H : Hp} {Q : VK} (h : wi σ H fun J H1 => ∀ D, H1 D = none → ∃ W : Nat → Nat → Hp → Prop, (∃ m, W 0 m (upd H1 D (.lst []))) ∧ ∀ i m H, W i m H →
  (J.stop i H ∧ Q (.ref D) H) ∨ (J.go i H ∧ ∃ Nx : Hp → Prop, (∀ H', Nx H' → ∃ m', m' < m ∧ W (i + 1) m' H') ∧ ∀ x H', J.yld i H x H' → g x (wipe σ vs) H' fun σ2 H2 => wipe σ2 vs = wipe σ vs ∧ tt σ2 H2 fun b H3 =>
    if b = true then te σ2 H3 fun y H4 => ∃ acc, H4 D = some (.lst acc) ∧ acc.length < sizeLine ∧ Nx (upd H4 D (.lst (acc ++ [y]))) else Nx H3)) : tLc wi g tt te vs σ H Q := h
theorem g_revR {ta : TE} {σ : St} {H : Hp} {R : It → Hp → Prop} (h : ta σ H fun x H1 => ∃ n : Int, x = .int n ∧ -(2 ^ 62) ≤ (0 : Int) ∧ (0 : Int) < 2 ^ 62 ∧ -(2 ^ 62) ≤ n ∧ n < 2 ^ 62 ∧ R (Itc (0 + (((n - 0).toNat : Nat) : Int) - 1) (-1) (n - 0).toNat) H1) : iRevR (tRg1 ta) σ H R := h
theorem g_rng1 {ta : TA} {σ : St} {H : Hp} {R : It → Hp → Prop} (h : ta σ H fun vs H1 => ∃ j : Int, vs = [.int j] ∧ -(2 ^ 62) ≤ j ∧ j < 2 ^ 62 ∧ R (Itr 0 j.toNat) H1) : iRng1 ta σ H R := h
theorem g_iList {K : PySem.W.Frag} {tl : TE} {σ : St} {H : Hp} {R : It → Hp → Prop} (h : tl σ H fun x H1 => ∃ a, x = .ref a ∧ (∃ xs, SqL K H1 a xs) ∧ R (Itl K a) H1) : iList K tl σ H R := h
def LcP (H1 : Hp) (D : Addr) (ys : List V) (i : Nat) (H : Hp) : Prop := Same H1 H ∧ H D = some (.lst (ys.take i))
theorem lc_vals {J : It} {n : Nat} {G : Hp → Prop} {Y : Nat → Hp → V → Hp → Prop} (w : Walk J n G Y) (ys : List V) {g : TG} {tt : TT} {te : TE} {vs : List Nat} {σ : St} {H1 : Hp} {D : Addr} {Qd : Hp → Prop} (hD : H1 D = none) (hlen : ys.length = n) (hG : ∀ H, Same H1 H → G H)
    (hs : ∀ i x H H', i < n → LcP H1 D ys i H → Y i H x H' → g x (wipe σ vs) H' fun σ2 H2 => wipe σ2 vs = wipe σ vs ∧ tt σ2 H2 fun b H3 =>
      if b = true then te σ2 H3 fun y H4 => ∃ acc, H4 D = some (.lst acc) ∧ acc.length < sizeLine ∧ LcP H1 D ys (i + 1) (upd H4 D (.lst (acc ++ [y]))) else LcP H1 D ys (i + 1) H3)
    (hd : ∀ H, Same H1 H → H D = some (.lst ys) → Qd H) :
    ∃ W : Nat → Nat → Hp → Prop, (∃ m, W 0 m (upd H1 D (.lst []))) ∧ ∀ i m H, W i m H →
      (J.stop i H ∧ Qd H) ∨ (J.go i H ∧ ∃ Nx : Hp → Prop, (∀ H', Nx H' → ∃ m', m' < m ∧ W (i + 1) m' H') ∧ ∀ x H', J.yld i H x H' → g x (wipe σ vs) H' fun σ2 H2 => wipe σ2 vs = wipe σ vs ∧ tt σ2 H2 fun b H3 =>
        if b = true then te σ2 H3 fun y H4 => ∃ acc, H4 D = some (.lst acc) ∧ acc.length < sizeLine ∧ Nx (upd H4 D (.lst (acc ++ [y]))) else Nx H3) := by
  refine lc_it w (LcP H1 D ys) ⟨same_upd hD, by rw [upd_same]; rfl⟩ (fun i H _ p => hG H p.1) hs (fun H p => hd H p.1 ?_)
  have e := p.2
  rw [← hlen, List.take_length] at e
  exact e
theorem lc_next {H1 H4 : Hp} {D : Addr} {ys : List V} {i : Nat} {y : V} (hD : H1 D = none) (p : LcP H1 D ys i H4) (hz : ys.length ≤ 100000) (hy : ys[i]? = some y) :
    ∃ acc, H4 D = some (.lst acc) ∧ acc.length < sizeLine ∧ LcP H1 D ys (i + 1) (upd H4 D (.lst (acc ++ [y]))) := by
  refine ⟨_, p.2, ?_, ?_, ?_⟩
  · rw [List.length_take]
    obtain ⟨h, _⟩ := List.getElem?_eq_some_iff.mp hy
    exact szl (by omega)
  · exact (But.of p.1).upd.same hD
  · rw [upd_same, List.take_add_one, hy]
    rfl
theorem LcP.same {H1 H4 H5 : Hp} {D : Addr} {ys : List V} {i : Nat} (p : LcP H1 D ys i H4) (s : Same H4 H5) : LcP H1 D ys i H5 := ⟨p.1.trans s, s _ _ p.2⟩
theorem map_get {α : Type} {f : α → V} {xs : List α} {i : Nat} {y : V} (h : (xs.map f)[i]? = some y) : ∃ z, xs[i]? = some z ∧ y = f z := by
  rw [List.getElem?_map] at h
  cases e : xs[i]? with
  | none => rw [e] at h; cases h
  | some z => rw [e] at h; exact ⟨z, rfl, (Option.some.inj h).symm⟩
/-! ### == of lists of ints -/
section
variable {K : PySem.W.Frag} {H : Hp} {Q : VK}
theorem dpAll_ints : ∀ {ns : List Int}, DpAll K H (ns.map V.int) (ns.map PyData.int)
  | [] => .nil
  | n :: _ => .cons (.int n) dpAll_ints
theorem lay_ints : ∀ {ns : List Int}, PyData.canLayAll0 (ns.map PyData.int) = true
  | [] => rfl
  | _ :: ns => by
    show (true && PyData.canLayAll0 (ns.map PyData.int)) = true
    rw [lay_ints]; rfl
theorem depth_ints : ∀ {ns : List Int}, PyData.depthAll (ns.map PyData.int) = 0
  | [] => rfl
  | _ :: ns => by
    show max 0 (PyData.depthAll (ns.map PyData.int)) = 0
    rw [depth_ints]; rfl
theorem shaped_ints {ns : List Int} : SeqAt.shaped (.list (ns.map PyData.int)) = true := by
  show (PyData.canLayAll0 (ns.map PyData.int) && decide (PyData.depthAll (ns.map PyData.int) + 1 ≤ 64)) = true
  rw [lay_ints, depth_ints]; rfl
theorem eqvAll_ints : ∀ {ns ms : List Int}, PyData.eqvAll (ns.map PyData.int) (ms.map PyData.int) = decide (ns = ms)
  | [], [] => rfl
  | [], _ :: _ => rfl
  | _ :: _, [] => rfl
  | n :: ns, m :: ms => by
    show ((n == m) && PyData.eqvAll (ns.map PyData.int) (ms.map PyData.int)) = decide (n :: ns = m :: ms)
    rw [eqvAll_ints, Bool.eq_iff_iff]
    simp
theorem dp_ints {a : Addr} {ns : List Int} (h : SqL K H a (ns.map V.int)) : Dp K H (.ref a) (.list (ns.map PyData.int)) := .lst h dpAll_ints
theorem g_eqL {a b : Addr} {ns ms : List Int} (h1 : SqL K H a (ns.map V.int)) (h2 : SqL K H b (ms.map V.int)) (q : Q (.bl (decide (ns = ms))) H) : rEqD K (.ref a) (.ref b) H Q :=
  ⟨_, _, dp_ints h1, dp_ints h2, shaped_ints, shaped_ints, by rw [show PyData.eqv (.list (ns.map PyData.int)) (.list (ms.map PyData.int)) = decide (ns = ms) from eqvAll_ints]; exact q⟩
theorem g_neL {a b : Addr} {ns ms : List Int} (h1 : SqL K H a (ns.map V.int)) (h2 : SqL K H b (ms.map V.int)) (q : Q (.bl (!decide (ns = ms))) H) : rNeD K (.ref a) (.ref b) H Q :=
  ⟨_, _, dp_ints h1, dp_ints h2, shaped_ints, shaped_ints, by rw [show PyData.eqv (.list (ns.map PyData.int)) (.list (ms.map PyData.int)) = decide (ns = ms) from eqvAll_ints]; exact q⟩
theorem g_sum {a : Addr} {ns : List Int} (h : SqL K H a (ns.map V.int)) (q : Q (.int ns.sum) H) : rSum K [.ref a] H Q := ⟨a, ns, rfl, h, q⟩
end
theorem ixN_nat {n : Nat} {k : Int} (h0 : 0 ≤ k) (h : k < (n : Int)) : ixN n k = some k.toNat := by
  unfold ixN
  rw [if_pos h0, if_pos h]
theorem g_ref {a : Addr} {A : Addr → Prop} (q : A a) : ∃ b, V.ref a = .ref b ∧ A b := ⟨a, rfl, q⟩
/-! ### objects: the attributes by their places -/
def obj : List Str → List V → List (Str × V)
  | k :: ks, v :: vs => (k, v) :: obj ks vs
  | _, _ => []
theorem obj_len : ∀ (ks : List Str) (vs : List V), (obj ks vs).length ≤ ks.length
  | [], _ => Nat.zero_le _
  | _ :: _, [] => Nat.zero_le _
  | _ :: ks, _ :: vs => Nat.succ_le_succ (obj_len ks vs)
theorem obj_get : ∀ {ks : List Str} {vs : List V} {i : Nat} {k : Str}, ks.Nodup → ks[i]? = some k → (obj ks vs).lookup k = vs[i]?
  | [], _, _, _, _, h => by cases h
  | k0 :: ks, [], i, k, _, _ => by simp [obj]
  | k0 :: ks, v :: vs, 0, k, _, h => by
    have e : k0 = k := Option.some.inj h
    subst e
    simp [obj]
  | k0 :: ks, v :: vs, i + 1, k, nd, h => by
    have nd' := List.nodup_cons.mp nd
    have hk : k ∈ ks := List.mem_of_getElem? h
    have ne : (k == k0) = false := by
      rw [beq_eq_false_iff_ne]
      intro e
      subst e
      exact nd'.1 hk
    show List.lookup k ((k0, v) :: obj ks vs) = vs[i]?
    rw [List.lookup_cons, ne]
    exact obj_get nd'.2 h
theorem obj_none : ∀ {ks : List Str} {vs : List V} {k : Str}, k ∉ ks → (obj ks vs).lookup k = none
  | [], _, _, _ => rfl
  | _ :: _, [], _, _ => rfl
  | k0 :: ks, v :: vs, k, h => by
    have ne : (k == k0) = false := by
      rw [beq_eq_false_iff_ne]
      intro e
      subst e
      exact h (List.mem_cons_self ..)
    show List.lookup k ((k0, v) :: obj ks vs) = none
    rw [List.lookup_cons, ne]
    exact obj_none fun z => h (List.mem_cons_of_mem _ z)
theorem obj_put : ∀ {ks : List Str} {vs : List V} {i : Nat} {k : Str} {y : V}, ks.Nodup → ks[i]? = some k → i < vs.length → putF k y (obj ks vs) = obj ks (vs.set i y)
  | [], _, _, _, _, _, h, _ => by cases h
  | _ :: _, [], _, _, _, _, _, h => by simp at h
  | k0 :: ks, v :: vs, 0, k, y, _, h, _ => by
    have e : k0 = k := Option.some.inj h
    subst e
    show (if k0 = k0 then _ else _) = _
    rw [if_pos rfl]
    rfl
  | k0 :: ks, v :: vs, i + 1, k, y, nd, h, hl => by
    have nd' := List.nodup_cons.mp nd
    have hk : k ∈ ks := List.mem_of_getElem? h
    have ne : ¬ k0 = k := by
      intro e
      subst e
      exact nd'.1 hk
    show (if k0 = k then _ else (k0, v) :: putF k y (obj ks vs)) = (k0, v) :: obj ks (vs.set i y)
    rw [if_neg ne, obj_put nd'.2 h (by simpa using hl)]
theorem obj_new : ∀ {ks : List Str} {vs : List V} {k : Str} {y : V}, ks.Nodup → ks[vs.length]? = some k → putF k y (obj ks vs) = obj ks (vs ++ [y])
  | [], _, _, _, _, h => by simp at h
  | k0 :: ks, [], k, y, _, h => by
    have e : k0 = k := Option.some.inj h
    subst e
    show [(k0, y)] = obj (k0 :: ks) [y]
    cases ks <;> rfl
  | k0 :: ks, v :: vs, k, y, nd, h => by
    have nd' := List.nodup_cons.mp nd
    have h' : ks[vs.length]? = some k := h
    have hk : k ∈ ks := List.mem_of_getElem? h'
    have ne : ¬ k0 = k := by
      intro e
      subst e
      exact nd'.1 hk
    show (if k0 = k then _ else (k0, v) :: putF k y (obj ks vs)) = (k0, v) :: obj ks (vs ++ [y])
    rw [if_neg ne, obj_new nd'.2 h']
section
variable {K : PySem.W.Frag} {σ : St} {H : Hp} {Q : VK} {v y : V} {ta tv : TE} {D : Ends} {f m : Str} {a C dx : Addr} {ks : List Str} {vs : List V} {i : Nat}
theorem g_fld (h : ta σ H fun x H1 => ∃ a C dx fs v, x = .ref a ∧ H1 a = some (.ins C dx fs) ∧ Cls K C ∧ NoAttr K C f ∧ fs.lookup f = some v ∧ Q v H1) : tFld K ta f σ H Q := h
theorem g_fldE {A : V → Prop} (ho : H a = some (.ins C dx (obj ks vs))) (c : Cls K C) (n : NoAttr K C f) (nd : ks.Nodup) (hk : ks[i]? = some f) (hv : vs[i]? = some v) (q : A v) :
    ∃ a' C' dx' fs v', V.ref a = .ref a' ∧ H a' = some (.ins C' dx' fs) ∧ Cls K C' ∧ NoAttr K C' f ∧ fs.lookup f = some v' ∧ A v' := ⟨a, C, dx, _, v, rfl, ho, c, n, (obj_get nd hk).trans hv, q⟩
theorem g_sfld (h : tv σ H fun y H1 => ta σ H1 fun x H2 => ∃ a C dx fs, x = .ref a ∧ H2 a = some (.ins C dx fs) ∧ Cls K C ∧ NoAttr K C f ∧ fs.length < 1000 ∧ D.nx σ (upd H2 a (.ins C dx (putF f y fs)))) : sFld K ta tv f D σ H := h
theorem g_putE {A : Hp → Prop} (ho : H a = some (.ins C dx (obj ks vs))) (c : Cls K C) (n : NoAttr K C f) (nd : ks.Nodup) (h1 : ks.length < 1000) (hk : ks[i]? = some f) (hv : i < vs.length) (q : A (upd H a (.ins C dx (obj ks (vs.set i y))))) :
    ∃ a' C' dx' fs, V.ref a = .ref a' ∧ H a' = some (.ins C' dx' fs) ∧ Cls K C' ∧ NoAttr K C' f ∧ fs.length < 1000 ∧ A (upd H a' (.ins C' dx' (putF f y fs))) :=
  ⟨a, C, dx, _, rfl, ho, c, n, Nat.lt_of_le_of_lt (obj_len ks vs) h1, by rw [obj_put nd hk hv]; exact q⟩
theorem g_newE {A : Hp → Prop} (ho : H a = some (.ins C dx (obj ks vs))) (c : Cls K C) (n : NoAttr K C f) (nd : ks.Nodup) (h1 : ks.length < 1000) (hk : ks[vs.length]? = some f) (q : A (upd H a (.ins C dx (obj ks (vs ++ [y]))))) :
    ∃ a' C' dx' fs, V.ref a = .ref a' ∧ H a' = some (.ins C' dx' fs) ∧ Cls K C' ∧ NoAttr K C' f ∧ fs.length < 1000 ∧ A (upd H a' (.ins C' dx' (putF f y fs))) :=
  ⟨a, C, dx, _, rfl, ho, c, n, Nat.lt_of_le_of_lt (obj_len ks vs) h1, by rw [obj_new nd hk]; exact q⟩
theorem g_meth {sp : Sp} {dvs : List V} {E : XK} {t : TA} (h : ta σ H fun x H1 => ∃ a dx fs, x = .ref a ∧ H1 a = some (.ins C dx fs) ∧ fs.lookup m = none ∧ t σ H1 fun vs H2 => sp (x :: (vs ++ dvs)) H2 Q E) : tMeth C m sp dvs E ta t σ H Q := h
theorem g_methE {A : Prop} (ho : H a = some (.ins C dx (obj ks vs))) (no : m ∉ ks) (q : A) : ∃ a' dx' fs, V.ref a = .ref a' ∧ H a' = some (.ins C dx' fs) ∧ fs.lookup m = none ∧ A := ⟨a, dx, _, rfl, ho, obj_none no, q⟩
theorem g_make {sp : Sp} {dvs : List V} {E : XK} {t : TA} (h : t σ H fun vs H1 => ∀ x dx, H1 x = none → H1 dx = none → dx ≠ x → sp (.ref x :: (vs ++ dvs)) (upd (upd H1 dx (.own x)) x (.ins C dx [])) (fun v H2 => v = .non ∧ Q (.ref x) H2) E) : tMake C sp dvs E t σ H Q := h
theorem g_prop {sp : Sp} {dvs : List V} {E : XK} (h : ta σ H fun x H1 => ∃ a dx fs, x = .ref a ∧ H1 a = some (.ins C dx fs) ∧ sp (.ref a :: dvs) H1 Q E) : tProp C sp dvs E ta σ H Q := h
theorem g_propE {A : Addr → Prop} (ho : H a = some (.ins C dx (obj ks vs))) (q : A a) : ∃ a' dx' fs, V.ref a = .ref a' ∧ H a' = some (.ins C dx' fs) ∧ A a' := ⟨a, dx, _, rfl, ho, q⟩
theorem g_absE {A : Int → Prop} {n : Int} (q : A n) : ∃ i, [V.int n] = [V.int i] ∧ A i := ⟨n, rfl, q⟩
end
/-- a slice of ints -/
theorem cut_ints (ns : List Int) (lo hi : Option Int) : ∃ ms : List Int, cutV (ns.map V.int) lo hi = ms.map V.int ∧ ms.length ≤ ns.length := by
  unfold cutV
  refine ⟨(ns.drop (HT.sIx (ns.map V.int).length 0 lo)).take (HT.sIx (ns.map V.int).length (ns.map V.int).length hi - HT.sIx (ns.map V.int).length 0 lo), ?_, ?_⟩
  · rw [List.map_take, List.map_drop]
  · rw [List.length_take, List.length_drop]
    omega
theorem g_nameE {i : Nat} {v : V} {σ σ' : St} {H : Hp} {A : St → Hp → Prop} (e : σ.set i (some v) = σ') (q : A σ' H) : gName i v σ H A := by
  subst e
  exact q
theorem but_sq {K : PySem.W.Frag} {p : Addr} {H H' : Hp} {a : Addr} {xs : List V} (e : But p H H') (n : a ≠ p) (h : SqL K H a xs) : SqL K H' a xs := by
  rcases h with (h | ⟨o, h⟩) | h
  · exact .inl (.inl (e _ _ n h))
  · exact .inl (.inr ⟨o, e _ _ n h⟩)
  · exact .inr h
theorem g_star {K : PySem.W.Frag} {te : TE} {t : TA} {σ : St} {H : Hp} {Q : List V → Hp → Prop} (h : te σ H fun x H1 => ∃ p xs, x = V.ref p ∧ (SqT K H1 p xs ∨ SqL K H1 p xs) ∧ t σ H1 fun ys H2 => Q (xs ++ ys) H2) : StX.tStar K te t σ H Q := h
theorem g_while {c : TT} {tb : TS} {D : Ends} {σ : St} {H : Hp} (W : Nat → St → Hp → Prop) (h0 : ∃ m, W m σ H) (h : ∀ m σ H, W m σ H → c σ H fun b H1 => if b = true then ∃ N : St → Hp → Prop, (∀ σ' H', N σ' H' → ∃ m', m' < m ∧ W m' σ' H') ∧ tb { D with nx := N, ct := N, bk := D.nx } σ H1 else D.nx σ H1) : tWhile c tb D σ H := ⟨W, h0, h⟩
theorem g_cut {t u : TS} {D : Ends} {σ : St} {H : Hp} (Mid : St → Hp → Prop) (h1 : t { D with nx := Mid } σ H) (h2 : ∀ σ' H', Mid σ' H' → u D σ' H') : C8.tCut t u D σ H := ⟨Mid, h1, h2⟩
theorem g_min {K : PySem.W.Frag} {a : Addr} {ns : List Int} {H : Hp} {Q : VK} (h : SqL K H a (ns.map V.int)) (h0 : 0 < ns.length) (q : ∀ m, m ∈ ns → (∀ y, y ∈ ns → m ≤ y) → Q (.int m) H) : rMin K [.ref a] H Q := ⟨a, ns, rfl, h, h0, q⟩
theorem g_max {K : PySem.W.Frag} {a : Addr} {ns : List Int} {H : Hp} {Q : VK} (h : SqL K H a (ns.map V.int)) (h0 : 0 < ns.length) (q : ∀ m, m ∈ ns → (∀ y, y ∈ ns → y ≤ m) → Q (.int m) H) : rMax K [.ref a] H Q := ⟨a, ns, rfl, h, h0, q⟩
theorem atI_nat' {xs : List V} {i : Int} {j : Nat} {v : V} (e : i = (j : Int)) (h : xs[j]? = some v) : atI xs i = some v := at_of e h
theorem ixN_last {n : Nat} (h : 0 < n) : ixN n (-1) = some (n - 1) := by
  unfold ixN
  rw [if_neg (by decide), if_pos (by omega)]
  congr 1
  omega
theorem atI_neg1 {xs : List V} {v : V} (h : xs[xs.length - 1]? = some v) : atI xs (-1) = some v := by
  obtain ⟨hl, _⟩ := List.getElem?_eq_some_iff.mp h
  unfold atI
  rw [ixN_last (by omega)]
  exact h
theorem snoc_of {α : Type} {xs : List α} (h : 0 < xs.length) : ∃ a x, xs = a ++ [x] :=
  ⟨xs.dropLast, xs.getLast (List.ne_nil_of_length_pos h), (List.dropLast_concat_getLast _).symm⟩
theorem set_last {α : Type} {a : List α} {x y : α} : (a ++ [x]).set a.length y = a ++ [y] := by
  rw [List.set_append_right _ _ (Nat.le_refl _), Nat.sub_self]
  rfl
end My
namespace My
open PySem PySem.Spec L2
local macro_rules | `(tactic| walk_at "side") => `(tactic| first | assumption | decide | omega | exact ⟨by decide, by decide⟩ | exact ⟨by decide, by decide, by decide⟩ | decide +kernel | exact cdivW (by decide +kernel) (by decide +kernel) | exact Or.inl ⟨by omega, by omega⟩ | exact Or.inr ⟨by omega, by omega⟩ | (simp only [List.length_map, List.length_cons, List.length_nil, List.length_append]; omega))
local macro_rules | `(tactic| walk_at "fact") => `(tactic| first | assumption | omega | with_reducible rfl)
local macro_rules | `(tactic| walk_at "use") => `(tactic| fail "use")
local macro_rules | `(tactic| walk_at "go1") => `(tactic| with_reducible first | refine g_seq ?_ | refine g_asg ?_ | refine g_ret ?_ | refine g_ifS ?_ | refine g_drop ?_ | refine g_star ?_ | refine g_nx ?_ | refine g_rt ?_ | refine g_bkE ?_ | refine g_ctE ?_ | refine g_next ?_ | refine g_retN ?_ | refine g_brk ?_ | refine g_ct ?_ | refine g_c ?_ | refine g_op ?_ | refine g_un ?_ | refine g_rI0 ?_ | refine g_rU ?_ | refine g_rEqI ?_ | refine g_rNeI ?_ | refine g_isN ?_ | refine g_rIsB ?_ | refine g_rNotB ?_ | refine g_test ?_ | refine g_B ?_ | refine g_bl ?_ | refine g_and ?_ | refine g_or ?_ | refine g_not ?_ | refine g_andV ?_ | refine g_orV ?_ | refine g_notV ?_ | refine g_if ?_ | refine g_chain ?_ | refine g_yes ?_ | refine g_lc ?_ | refine g_revR ?_ | refine g_rng1 ?_ | refine g_iList ?_ | refine g_nil ?_ | refine g_cons ?_ | refine g_tup ?_ | refine g_lst ?_ | refine g_call ?_ | refine g_CB ?_ | refine g_sl ?_ | refine g_noPart ?_ | refine g_part ?_ | refine g_intE ?_ | refine g_ref ?_ | refine g_fld ?_ | refine g_sfld ?_ | refine g_meth ?_ | refine g_make ?_ | refine g_prop ?_  | refine g_ipI ?_ | refine g_int1 ?_ | refine g_int1B ?_ | refine g_one ?_ | refine g_two ?_ | refine g_isiI ?_ | refine g_isiIB ?_ | refine g_isiB ?_ | refine g_BM ?_ | refine g_BM0 ?_ | refine g_sub ?_)
local macro_rules | `(tactic| walk_at "go") => `(tactic| repeat (first | walk_at "go1" | ((with_reducible refine' g_nameE ?sd_ ?_); case sd_ => dsimp only [List.set_cons_succ, List.set_cons_zero]) | ((with_reducible refine' g_var ?sd_ ?_); case sd_ => exact rfl) | ((with_reducible refine' g_aug ?sd_ ?_); case sd_ => exact rfl) | ((with_reducible refine' g_rI ?sd_ ?_); case sd_ => walk_at "side") | ((with_reducible refine' g_dT ?sd_ ?_); case sd_ => walk_at "fact") | ((with_reducible refine' g_dF ?sd_ ?_); case sd_ => walk_at "fact") | ((with_reducible refine' g_nT ?sd_ ?_); case sd_ => walk_at "fact") | ((with_reducible refine' g_nF ?sd_ ?_); case sd_ => walk_at "fact") | (with_reducible refine g_iT rfl ?_) | (with_reducible refine g_iF rfl ?_) | walk_at "use"))
def topS (i : Nat) : Stmt := PySem.Challenge.pw_throughline_k63_forms_of_deeds.main.body.getD i (.Pass ⟨0, 0, 0, 0⟩)
abbrev s_check_deed : Stmt := topS 6
abbrev s_l_start : Stmt := topS 8
abbrev s_l_digit : Stmt := topS 9
abbrev s_l_words : Stmt := topS 10
abbrev s_l_told : Stmt := topS 11
abbrev s_l_strange : Stmt := topS 12
abbrev s_law : Stmt := topS 13
theorem sc_check_deed : FnScope ["deed"] ["deed"] (defScope s_check_deed) := ⟨rfl, rfl, rfl, by decide +kernel, rfl, by decide +kernel, by decide +kernel⟩
theorem sc_l_start : FnScope ["cell", "k", "prime", "mixed"] ["cell", "k"] (defScope s_l_start) := ⟨rfl, rfl, rfl, by decide +kernel, rfl, by decide +kernel, by decide +kernel⟩
theorem sc_l_digit : FnScope ["state", "many", "digit"] ["state", "many"] (defScope s_l_digit) := ⟨rfl, rfl, rfl, by decide +kernel, rfl, by decide +kernel, by decide +kernel⟩
theorem sc_l_words : FnScope [] [] (defScope s_l_words) := ⟨rfl, rfl, rfl, by decide +kernel, rfl, by decide +kernel, by decide +kernel⟩
theorem sc_l_told : FnScope ["deed", "e"] ["deed"] (defScope s_l_told) := ⟨rfl, rfl, rfl, by decide +kernel, rfl, by decide +kernel, by decide +kernel⟩
theorem sc_l_strange : FnScope ["word", "kind"] ["word", "kind"] (defScope s_l_strange) := ⟨rfl, rfl, rfl, by decide +kernel, rfl, by decide +kernel, by decide +kernel⟩
theorem sc_law : FnScope ["script", "k", "cell", "state", "word", "size", "many", "items", "due", "j"] ["script"] (defScope s_law) := ⟨rfl, rfl, rfl, by decide +kernel, rfl, by decide +kernel, by decide +kernel⟩
structure Txt (w : World) (K : PySem.W.Frag) (mg : Str → Option Value) where
  t_ITEMS : Addr
  de_ITEMS : Array DictEntry
  dn_ITEMS : Nat
  C_ThroughlineError : Addr
  C_InvalidDeed : Addr
  C_UnknownHost : Addr
  f_check_deed : Addr
  d_check_deed : FuncData
  f_l_start : Addr
  d_l_start : FuncData
  f_l_digit : Addr
  d_l_digit : FuncData
  f_l_words : Addr
  d_l_words : FuncData
  f_l_told : Addr
  d_l_told : FuncData
  f_l_strange : Addr
  d_l_strange : FuncData
  f_law : Addr
  d_law : FuncData
  v_ITEMS : mg "ITEMS" = some (.ref t_ITEMS)
  kd_ITEMS : KDict K w t_ITEMS de_ITEMS dn_ITEMS
  ik_ITEMS_connect : ∃ u, PySem.W.nsIn K t_ITEMS (PySem.Str.ofString "connect") = some (some u) ∧ RelV (.int 5) u
  ik_ITEMS_listen : ∃ u, PySem.W.nsIn K t_ITEMS (PySem.Str.ofString "listen") = some (some u) ∧ RelV (.int 4) u
  ik_ITEMS_unlisten : ∃ u, PySem.W.nsIn K t_ITEMS (PySem.Str.ofString "unlisten") = some (some u) ∧ RelV (.int 3) u
  ik_ITEMS_accept : ∃ u, PySem.W.nsIn K t_ITEMS (PySem.Str.ofString "accept") = some (some u) ∧ RelV (.int 3) u
  ik_ITEMS_write : ∃ u, PySem.W.nsIn K t_ITEMS (PySem.Str.ofString "write") = some (some u) ∧ RelV (.int 4) u
  ik_ITEMS_read : ∃ u, PySem.W.nsIn K t_ITEMS (PySem.Str.ofString "read") = some (some u) ∧ RelV (.int 4) u
  ik_ITEMS_finish : ∃ u, PySem.W.nsIn K t_ITEMS (PySem.Str.ofString "finish") = some (some u) ∧ RelV (.int 3) u
  ik_ITEMS_abort : ∃ u, PySem.W.nsIn K t_ITEMS (PySem.Str.ofString "abort") = some (some u) ∧ RelV (.int 3) u
  ik_ITEMS_release : ∃ u, PySem.W.nsIn K t_ITEMS (PySem.Str.ofString "release") = some (some u) ∧ RelV (.int 3) u
  ik_ITEMS_restart : ∃ u, PySem.W.nsIn K t_ITEMS (PySem.Str.ofString "restart") = some (some u) ∧ RelV (.int 2) u
  ik_ITEMS_tick : ∃ u, PySem.W.nsIn K t_ITEMS (PySem.Str.ofString "tick") = some (some u) ∧ RelV (.int 1) u
  ik_ITEMS_deliver : ∃ u, PySem.W.nsIn K t_ITEMS (PySem.Str.ofString "deliver") = some (some u) ∧ RelV (.int 2) u
  ik_ITEMS_lose : ∃ u, PySem.W.nsIn K t_ITEMS (PySem.Str.ofString "lose") = some (some u) ∧ RelV (.int 2) u
  ik_ITEMS_copy : ∃ u, PySem.W.nsIn K t_ITEMS (PySem.Str.ofString "copy") = some (some u) ∧ RelV (.int 2) u
  ik_ITEMS_mark : ∃ u, PySem.W.nsIn K t_ITEMS (PySem.Str.ofString "mark") = some (some u) ∧ RelV (.int 2) u
  nk_ITEMS : ∀ z : Str, z ∉ ([PySem.Str.ofString "connect", PySem.Str.ofString "listen", PySem.Str.ofString "unlisten", PySem.Str.ofString "accept", PySem.Str.ofString "write", PySem.Str.ofString "read", PySem.Str.ofString "finish", PySem.Str.ofString "abort", PySem.Str.ofString "release", PySem.Str.ofString "restart", PySem.Str.ofString "tick", PySem.Str.ofString "deliver", PySem.Str.ofString "lose", PySem.Str.ofString "copy", PySem.Str.ofString "mark"] : List Str) → PySem.W.nsIn K t_ITEMS z = some none
  c_ThroughlineError : mg "ThroughlineError" = some (.ref C_ThroughlineError)
  c_InvalidDeed : mg "InvalidDeed" = some (.ref C_InvalidDeed)
  c_UnknownHost : mg "UnknownHost" = some (.ref C_UnknownHost)
  xP_InvalidDeed : PySem.W.excIn K C_InvalidDeed [.type "ValueError", .type "Exception", .type "BaseException", .type "object"] "ValueError.__new__" = true
  ke_InvalidDeed : PySem.W.keepIn K (.ref C_InvalidDeed) = true
  be_InvalidDeed : PySem.W.subIn K (.ref C_InvalidDeed) (.type "BaseException") = some true
  te_InvalidDeed : PySem.W.typeIn K (.ref C_InvalidDeed) = some (.type "type")
  xc_InvalidDeed : ExcC K C_InvalidDeed
  em_InvalidDeed_InvalidDeed : PySem.W.exmOne K (.ref C_InvalidDeed) (.ref C_InvalidDeed) = some true
  ko_InvalidDeed_ThroughlineError : PySem.W.kitOne K (.ref C_InvalidDeed) (.ref C_ThroughlineError) = some true
  ko_InvalidDeed_UnknownHost : PySem.W.kitOne K (.ref C_InvalidDeed) (.ref C_UnknownHost) = some false
  F_check_deed : Fun K "check_deed" "check_deed" s_check_deed f_check_deed d_check_deed
  b_check_deed : Binds K d_check_deed ["deed"] []
  m_check_deed : mg "check_deed" = some (.ref f_check_deed)
  F_l_start : Fun K "_law_start" "_law_start" s_l_start f_l_start d_l_start
  b_l_start : Binds K d_l_start ["cell", "k"] []
  m_l_start : mg "_law_start" = some (.ref f_l_start)
  F_l_digit : Fun K "_law_digit" "_law_digit" s_l_digit f_l_digit d_l_digit
  b_l_digit : Binds K d_l_digit ["state", "many"] []
  m_l_digit : mg "_law_digit" = some (.ref f_l_digit)
  F_l_words : Fun K "_law_words" "_law_words" s_l_words f_l_words d_l_words
  b_l_words : Binds K d_l_words [] []
  m_l_words : mg "_law_words" = some (.ref f_l_words)
  F_l_told : Fun K "_law_told" "_law_told" s_l_told f_l_told d_l_told
  b_l_told : Binds K d_l_told ["deed"] []
  m_l_told : mg "_law_told" = some (.ref f_l_told)
  F_l_strange : Fun K "_law_strange" "_law_strange" s_l_strange f_l_strange d_l_strange
  b_l_strange : Binds K d_l_strange ["word", "kind"] []
  m_l_strange : mg "_law_strange" = some (.ref f_l_strange)
  F_law : Fun K "law" "law" s_law f_law d_law
  b_law : Binds K d_law ["script"] []
  m_law : mg "law" = some (.ref f_law)
  n_int : mg "int" = none
  n_isinstance : mg "isinstance" = none
  n_len : mg "len" = none
  n_max : mg "max" = none
  n_min : mg "min" = none
  n_range : mg "range" = none
  n_tuple : mg "tuple" = none


end My
namespace My
open PySem PySem.Spec L2
local macro_rules | `(tactic| walk_at "side") => `(tactic| first | assumption | decide | omega | exact ⟨by decide, by decide⟩ | exact ⟨by decide, by decide, by decide⟩ | decide +kernel | exact cdivW (by decide +kernel) (by decide +kernel) | exact Or.inl ⟨by omega, by omega⟩ | exact Or.inr ⟨by omega, by omega⟩ | (simp only [List.length_map, List.length_cons, List.length_nil, List.length_append]; omega))
local macro_rules | `(tactic| walk_at "fact") => `(tactic| first | assumption | omega | with_reducible rfl)
local macro_rules | `(tactic| walk_at "use") => `(tactic| fail "use")
local macro_rules | `(tactic| walk_at "go1") => `(tactic| with_reducible first | refine g_seq ?_ | refine g_asg ?_ | refine g_ret ?_ | refine g_ifS ?_ | refine g_drop ?_ | refine g_star ?_ | refine g_nx ?_ | refine g_rt ?_ | refine g_bkE ?_ | refine g_ctE ?_ | refine g_next ?_ | refine g_retN ?_ | refine g_brk ?_ | refine g_ct ?_ | refine g_c ?_ | refine g_op ?_ | refine g_un ?_ | refine g_rI0 ?_ | refine g_rU ?_ | refine g_rEqI ?_ | refine g_rNeI ?_ | refine g_isN ?_ | refine g_rIsB ?_ | refine g_rNotB ?_ | refine g_test ?_ | refine g_B ?_ | refine g_bl ?_ | refine g_and ?_ | refine g_or ?_ | refine g_not ?_ | refine g_andV ?_ | refine g_orV ?_ | refine g_notV ?_ | refine g_if ?_ | refine g_chain ?_ | refine g_yes ?_ | refine g_lc ?_ | refine g_revR ?_ | refine g_rng1 ?_ | refine g_iList ?_ | refine g_nil ?_ | refine g_cons ?_ | refine g_tup ?_ | refine g_lst ?_ | refine g_call ?_ | refine g_CB ?_ | refine g_sl ?_ | refine g_noPart ?_ | refine g_part ?_ | refine g_intE ?_ | refine g_ref ?_ | refine g_fld ?_ | refine g_sfld ?_ | refine g_meth ?_ | refine g_make ?_ | refine g_prop ?_  | refine g_ipI ?_ | refine g_int1 ?_ | refine g_int1B ?_ | refine g_one ?_ | refine g_two ?_ | refine g_isiI ?_ | refine g_isiIB ?_ | refine g_isiB ?_ | refine g_BM ?_ | refine g_BM0 ?_ | refine g_sub ?_)
local macro_rules | `(tactic| walk_at "go") => `(tactic| repeat (first | walk_at "go1" | ((with_reducible refine' g_nameE ?sd_ ?_); case sd_ => dsimp only [List.set_cons_succ, List.set_cons_zero]) | ((with_reducible refine' g_var ?sd_ ?_); case sd_ => exact rfl) | ((with_reducible refine' g_aug ?sd_ ?_); case sd_ => exact rfl) | ((with_reducible refine' g_rI ?sd_ ?_); case sd_ => walk_at "side") | ((with_reducible refine' g_dT ?sd_ ?_); case sd_ => walk_at "fact") | ((with_reducible refine' g_dF ?sd_ ?_); case sd_ => walk_at "fact") | ((with_reducible refine' g_nT ?sd_ ?_); case sd_ => walk_at "fact") | ((with_reducible refine' g_nF ?sd_ ?_); case sd_ => walk_at "fact") | (with_reducible refine g_iT rfl ?_) | (with_reducible refine g_iF rfl ?_) | walk_at "use"))
section
variable {P : Program} {w : World} {K : PySem.W.Frag} {mg : Str → Option Value} {base : Heap}
/-! ### exceptions -/
section
variable {X : Cx} {K : PySem.W.Frag} {σ : St} {H : Hp} {Q : VK} {W : WX} {D : Ends} {C : Addr} {ta : TE} {t : St → Hp → XK → Prop}
def tRaise (t : St → Hp → XK → Prop) (W : WX) : TS := fun _ σ H => t σ H fun cls d H' => W cls d σ H'
theorem ps_rs {e : Expr} {pos : Pos} (hc : X.calm = true) (tk : Takes X W) (he : PMk X e t) : PS X (.Raise (some e) none pos) (tRaise t W) := ps_raise hc tk he
def tMk0 (C : Addr) : St → Hp → XK → Prop := fun _ H Q => Q (.ref C) none H
def tMk1 (C : Addr) (ta : TE) : St → Hp → XK → Prop := fun σ H Q => ta σ H fun _ H1 => Q (.ref C) none H1
theorem pmk_0 {x m : Str} {j : Nat} {p p2 pos : Pos} {bmB : List Value} {B newId initId : String} (F : ExcBaseFacts B newId initId bmB) (q : PySem.W.excIn X.K C bmB newId = true) (gC : X.mg x = some (.ref C)) (kC : PySem.W.keepIn X.K (.ref C) = true) (r : Raises X (.ref C)) (hg : Gl X x)
    (hdb : (x == ("__debug__" : Str)) = false := by decide) : PMk X (.Call (.Name x p) [.Constant (.str m) j p2] [] pos) (tMk0 C) := pmk_own F q gC kC r hg hdb
theorem pmk_1 {x : Str} {e : Expr} {p pos : Pos} {bmB : List Value} {B newId initId : String} (F : ExcBaseFacts B newId initId bmB) (q : PySem.W.excIn X.K C bmB newId = true) (gC : X.mg x = some (.ref C)) (kC : PySem.W.keepIn X.K (.ref C) = true) (r : Raises X (.ref C)) (hg : Gl X x)
    (he : PE X e ta) (hs : starEach [e] X.env = (false, eval e X.env) :: starEach [] X.env := by rfl) (hdb : (x == ("__debug__" : Str)) = false := by decide) : PMk X (.Call (.Name x p) [e] [] pos) (tMk1 C ta) := SkE.pmk_own1 F q gC kC r hg he hs hdb
theorem g_rs0 (q : W (.ref C) none σ H) : tRaise (tMk0 C) W D σ H := q
theorem g_rs1 (h : ta σ H fun _ H1 => W (.ref C) none σ H1) : tRaise (tMk1 C ta) W D σ H := h
def tTryA (K : PySem.W.Frag) (c : Value) (i : Nat) (tb : WX → TS) (ts : Addr → Value → Option Addr → TS) (Wout : WX) : TS := fun D σ H => tb (wAs K c i ts Wout D) D σ H
def tTryO (K : PySem.W.Frag) (c : Value) (tb : WX → TS) (ts : Addr → Value → Option Addr → TS) (Wout : WX) : TS := fun D σ H => tb (wOnly K c ts Wout D) D σ H
theorem ps_tryA {x n : Str} {c : Value} {i : Nat} {body suite : List Stmt} {b₀ : Stmt} {np pos pos' : Pos} {tb : WX → TS} {ts : Addr → Value → Option Addr → TS} {Wout : WX} (hs : X.stack = X.env :: X.outer) (hf : X.env.frame = some X.env.locals) (hN : X.N.Nodup) (hi : X.N[i]? = some n) (hln : X.env.kindOf n = some .local) (hc : Names X x c) (tk : Takes X Wout)
    (hb : ∀ (W : WX) (pn : List (Addr × Obj)) (xe : Value → Shared → Prop), Takes (X.tr pn xe) W → PassesOwn (model X.prog X.w) X.A X.env xe → PSs (X.tr pn xe) body (tb W))
    (hsu : ∀ (a : Addr) (oe : Obj) (cls : Value) (d : Option Addr) (pn : List (Addr × Obj)), Zc cls d oe → (∃ vs, oe.data = .fields vs) → PSs (X.suite a ((a, oe) :: pn)) (b₀ :: suite) (ts a cls d)) :
    PS X (.Try body [.ExceptHandler (some (.Name x np)) (some n) (b₀ :: suite) pos'] [] [] pos) (tTryA X.K c i tb ts Wout) := ps_try_as hs hf hN hi hln hc tk hb hsu
theorem ps_tryO {x : Str} {c : Value} {body suite : List Stmt} {b₀ : Stmt} {np pos pos' : Pos} {tb : WX → TS} {ts : Addr → Value → Option Addr → TS} {Wout : WX} (hs : X.stack = X.env :: X.outer) (hf : X.env.frame = some X.env.locals) (hc : Names X x c) (tk : Takes X Wout)
    (hb : ∀ (W : WX) (pn : List (Addr × Obj)) (xe : Value → Shared → Prop), Takes (X.tr pn xe) W → PassesOwn (model X.prog X.w) X.A X.env xe → PSs (X.tr pn xe) body (tb W))
    (hsu : ∀ (a : Addr) (oe : Obj) (cls : Value) (d : Option Addr) (pn : List (Addr × Obj)), Zc cls d oe → (∃ vs, oe.data = .fields vs) → PSs (X.suite a ((a, oe) :: pn)) (b₀ :: suite) (ts a cls d)) :
    PS X (.Try body [.ExceptHandler (some (.Name x np)) none (b₀ :: suite) pos'] [] [] pos) (tTryO X.K c tb ts Wout) := ps_try_only hs hf hc tk hb hsu
variable {c cls : Value} {d : Option Addr} {i : Nat} {tb : WX → TS} {ts : Addr → Value → Option Addr → TS} {Wout : WX}
theorem g_tryA (h : tb (wAs K c i ts Wout D) D σ H) : tTryA K c i tb ts Wout D σ H := h
theorem g_tryO (h : tb (wOnly K c ts Wout D) D σ H) : tTryO K c tb ts Wout D σ H := h
theorem g_caught (e : PySem.W.exmOne K cls c = some true) (h : ∀ a, H a = none → ts a cls d { nx := fun σ' H' => D.nx (σ'.set i none) H', rt := D.rt, bk := fun σ' H' => D.bk (σ'.set i none) H', ct := fun σ' H' => D.ct (σ'.set i none) H' } (σ.set i (some (.ref a))) H) :
    wAs K c i ts Wout D cls d σ H := ⟨true, e, fun _ => h, fun z => nomatch z⟩
theorem g_caughtO (e : PySem.W.exmOne K cls c = some true) (h : ∀ a, H a = none → ts a cls d D σ H) : wOnly K c ts Wout D cls d σ H := ⟨true, e, fun _ => h, fun z => nomatch z⟩
theorem g_callS {sp : Sp} {E : St → XK} {t : TA} (h : t σ H fun vs H1 => sp vs H1 Q (E σ)) : tCallS sp E t σ H Q := h
/-- isinstance(e, c), e the exception that the suite holds, of a class known later -/
def rIsE2 (K : PySem.W.Frag) (a : Addr) (cls : Value) (d : Option Addr) : List V → Hp → VK → Prop := fun xs H Q => ∃ (D : Addr) (c : V) (cv : Value) (b : Bool), cls = .ref D ∧ d = none ∧ ExcC K D ∧ xs = [.ref a, c] ∧ (∀ u, RelV c u → u = cv) ∧ PySem.W.kitOne K (.ref D) cv = some b ∧ Q (.bl b) H
theorem call_isE2 {a : Addr} {oe : Obj} {pn : List (Addr × Obj)} (hz : Zc cls d oe) (hf : ∃ vs, oe.data = .fields vs) : CallR (X.suite a ((a, oe) :: pn)) (.builtin "isinstance") (rIsE2 X.K a cls d) := by
  intro pins s σ H xs us Q I r h
  obtain ⟨D, c, cv, b, rfl, rfl, C, e1, hcv, e, q⟩ := h
  exact call_isE C hz hf pins s σ H xs us Q I r ⟨c, cv, b, e1, hcv, e, q⟩
theorem g_isER {R B a : Addr} {b : Bool} (C : ExcC K R) (e : PySem.W.kitOne K (.ref R) (.ref B) = some b) (q : Q (.bl b) H) : rIsE2 K a (.ref R) none [.ref a, .ref B] H Q := ⟨R, _, _, b, rfl, rfl, C, rfl, fun u r => by cases r; rfl, e, q⟩
theorem g_isET {R a : Addr} {T : String} {b : Bool} (C : ExcC K R) (e : PySem.W.kitOne K (.ref R) (.type T) = some b) (q : Q (.bl b) H) : rIsE2 K a (.ref R) none [.ref a, .ty T] H Q := ⟨R, _, _, b, rfl, rfl, C, rfl, fun u r => by cases r; rfl, e, q⟩
/-! f-strings -/
def tJoined (ts : List TE) : TE := fun σ H Q => tJs ts Str.empty σ H fun out H1 => Q (.str out) H1
theorem pe_joinedJ {v1 v2 : Expr} {rest : List Expr} {ts : List TE} {pos : Pos} (h : PJ X (v1 :: v2 :: rest) ts) : PE X (.JoinedStr (v1 :: v2 :: rest) pos) (tJoined ts) := pe_joined h
theorem g_joined {ts : List TE} (h : tJs ts Str.empty σ H fun out H1 => Q (.str out) H1) : tJoined ts σ H Q := h
theorem g_jsnil {acc : Str} {A : Str → Hp → Prop} (q : A acc H) : tJs [] acc σ H A := q
theorem g_jscons {acc : Str} {A : Str → Hp → Prop} {t : TE} {ts : List TE} (h : t σ H fun x H1 => ∃ y : Str, x = .str y ∧ (acc ++ y).length ≤ sizeLine ∧ tJs ts (acc ++ y) σ H1 A) : tJs (t :: ts) acc σ H A := h
theorem g_jsE {acc y : Str} {A : Str → Prop} (h1 : (acc ++ y).length ≤ sizeLine) (q : A y) : ∃ y' : Str, V.str y = .str y' ∧ (acc ++ y').length ≤ sizeLine ∧ A y' := ⟨y, rfl, h1, q⟩
def rAddS : R2 := fun x y H Q => ∃ i j : Str, x = .str i ∧ y = .str j ∧ i.length + j.length ≤ sizeLine ∧ Q (.str (i ++ j)) H
theorem op_addS : OpR X (binaryOp .Add) rAddS := op_add_str
theorem g_addS {y z : Str} (h : y.length + z.length ≤ 16777216) (q : Q (.str (y ++ z)) H) : rAddS (.str y) (.str z) H Q := ⟨y, z, rfl, rfl, by rw [sizeLine_eq]; exact h, q⟩
theorem g_slS {y : Str} {lo hi : Option Int} (h : y.length ≤ 16777216) (q : Q (.str (cutS y lo hi)) H) : rSlS (.str y) lo hi H Q := ⟨y, rfl, by rw [sizeLine_eq]; exact h, q⟩
theorem g_m0 {r : V → List V → Hp → VK → Prop} {to : TE} (h : to σ H fun x H1 => (∃ a, x = V.str a) ∧ r x [] H1 Q) : tM0 r to σ H Q := h
theorem g_fmtS {y : Str} {A : Str → Prop} {B : Int → Prop} (h : y.length ≤ sizeLine) (q : A y) : (∃ y' : Str, V.str y = .str y' ∧ y'.length ≤ sizeLine ∧ A y') ∨ ∃ i : Int, V.str y = .int i ∧ i.natAbs.log2 < 1920 ∧ B i := .inl ⟨y, rfl, h, q⟩
theorem g_fmtI {j : Int} {A : Str → Prop} {B : Int → Prop} (h : j.natAbs.log2 < 1920) (q : B j) : (∃ y' : Str, V.int j = .str y' ∧ y'.length ≤ sizeLine ∧ A y') ∨ ∃ i : Int, V.int j = .int i ∧ i.natAbs.log2 < 1920 ∧ B i := .inr ⟨j, rfl, h, q⟩
theorem g_fmt (h : ta σ H fun x H1 => (∃ y : Str, x = .str y ∧ y.length ≤ sizeLine ∧ Q (.str y) H1) ∨ ∃ i : Int, x = .int i ∧ i.natAbs.log2 < 1920 ∧ Q (.str (toString i)) H1) : tFmt ta σ H Q := h
end
theorem kit_refT {K : PySem.W.Frag} {t : Value} {C : Addr} (a : PySem.W.isClsIn K C = true) (b : PySem.W.typeIn K (.ref C) = some (.type "type")) (c : PySem.W.subIn K t (.ref C) = some true) : PySem.W.kitOne K t (.ref C) = some true := by
  unfold PySem.W.isClsIn at a
  unfold PySem.W.kitOne
  by_cases z : (t == Value.ref C) = true
  · rw [if_pos z]
  · rw [if_neg z]
    show (if ((PySem.W.clsIn K C).isSome && PySem.W.typeIn K (.ref C) == some (.type "type")) = true then PySem.W.subIn K t (.ref C) else none) = some true
    rw [a, b, if_pos (by rw [Bool.true_and]; exact beq_self_eq_true _)]
    exact c
theorem kit_refF {K : PySem.W.Frag} {R C : Addr} (a : PySem.W.isClsIn K C = true) (b : PySem.W.typeIn K (.ref C) = some (.type "type")) (c : PySem.W.subIn K (.ref R) (.ref C) = some false) (r : PySem.W.subIn K (.ref R) (.ref R) = some true) : PySem.W.kitOne K (.ref R) (.ref C) = some false := by
  unfold PySem.W.isClsIn at a
  unfold PySem.W.kitOne
  by_cases z : (Value.ref R == Value.ref C) = true
  · have e : Value.ref R = Value.ref C := beq_iff_eq.mp z
    injection e with e
    subst e
    rw [c] at r
    cases r
  · rw [if_neg z]
    show (if ((PySem.W.clsIn K C).isSome && PySem.W.typeIn K (.ref C) == some (.type "type")) = true then PySem.W.subIn K (.ref R) (.ref C) else none) = some false
    rw [a, b, if_pos (by rw [Bool.true_and]; exact beq_self_eq_true _)]
    exact c
theorem kit_tyT {K : PySem.W.Frag} {R : Addr} {T : String} {b : Bool} (a : PySem.W.kitMeta T = true) (c : PySem.W.subIn K (.ref R) (.type T) = some b) : PySem.W.kitOne K (.ref R) (.type T) = some b := by
  unfold PySem.W.kitOne
  rw [if_neg (by show ¬ (Value.ref R == Value.type T) = true; exact fun h => by cases (beq_iff_eq.mp h))]
  show (if PySem.W.kitMeta T = true then PySem.W.subIn K (.ref R) (.type T) else none) = some b
  rw [if_pos a]
  exact c
/-! a written dict with texts as keys -/
theorem ns_entry {K : PySem.W.Frag} {a : Addr} {c : Value} {d : Option Addr} {es : Array DictEntry} {n : Nat} {sl : Array (Option Value)} {x : Str} {u : Value} (h : K.lookup a = some ⟨c, d, .dict es n, sl⟩) (e : (es.toList.find? (·.key.isStr x)).map (·.val) = some u) : PySem.W.nsIn K a x = some (some u) := by
  unfold PySem.W.nsIn
  rw [h]
  dsimp only
  cases q : es.toList.find? (·.key.isStr x) with
  | none => rw [q] at e; cases e
  | some z => rw [q] at e; injection e with e; rw [← e]
theorem fit2 {a b : Str} (h : a.length + b.length ≤ 16777216) : (a ++ b).length ≤ sizeLine := by
  rw [PySem.Str.length_append, sizeLine_eq]
  exact h
theorem log_lt {n : Nat} (h : n < 2 ^ 64) : n.log2 < 1920 := by
  by_cases z : n = 0
  · subst z; decide
  · exact Nat.lt_trans (Nat.log2_lt z |>.mpr h) (by decide)
theorem itext {i : Int} (h : i.natAbs < 2 ^ 64) : (Str.ofString (toString i)).length ≤ 1921 := PyProof.Rows.int_text_len_1921 (log_lt h)
def keyS (e : DictEntry) : Option Str := match e.key with | .str s _ => some s | _ => none
theorem find_keys : ∀ {l : List DictEntry} {ks : List Str} {z : Str}, l.map keyS = ks.map some → z ∉ ks → l.find? (·.key.isStr z) = none ∧ l.any (·.refKey) = false
  | [], _, _, _, _ => ⟨rfl, rfl⟩
  | e :: l, [], _, h, _ => by cases h
  | e :: l, k :: ks, z, h, hz => by
    simp only [List.map_cons, List.cons.injEq] at h
    obtain ⟨i1, i2⟩ := find_keys (l := l) (ks := ks) (z := z) h.2 fun m => hz (List.mem_cons_of_mem _ m)
    have h1 := h.1
    unfold keyS at h1
    obtain ⟨hs, key, val⟩ := e
    dsimp only at h1 ⊢
    cases key with
    | str s t =>
      injection h1 with h1
      subst h1
      have ne : (s == z) = false := by
        rw [beq_eq_false_iff_ne]
        intro e
        exact hz (e ▸ List.mem_cons_self ..)
      refine ⟨?_, ?_⟩
      · rw [List.find?_cons]
        show (match (s == z) with | true => _ | false => _) = none
        rw [ne]
        exact i1
      · rw [List.any_cons, i2, Bool.or_false]
        rfl
    | _ => cases h1
theorem ns_out {K : PySem.W.Frag} {a : Addr} {c : Value} {d : Option Addr} {es : Array DictEntry} {n : Nat} {sl : Array (Option Value)} {z : Str} {ks : List Str} (h : K.lookup a = some ⟨c, d, .dict es n, sl⟩) (e : es.toList.map keyS = ks.map some) (hz : z ∉ ks) : PySem.W.nsIn K a z = some none := by
  obtain ⟨i1, i2⟩ := find_keys e hz
  unfold PySem.W.nsIn
  rw [h]
  dsimp only
  rw [i1]
  dsimp only
  rw [i2]
  rfl
section
variable {K : PySem.W.Frag} {H : Hp} {Q : VK}
def rInK (K : PySem.W.Frag) (d : Addr) : R2 := fun x y H Q => ∃ (z : Str) (r : Option Value), x = .str z ∧ y = .ref d ∧ PySem.W.nsIn K d z = some r ∧ Q (.bl r.isSome) H
def rNotInK (K : PySem.W.Frag) (d : Addr) : R2 := fun x y H Q => ∃ (z : Str) (r : Option Value), x = .str z ∧ y = .ref d ∧ PySem.W.nsIn K d z = some r ∧ Q (.bl (!r.isSome)) H
theorem op_inK {X : Cx} {d : Addr} {es : Array DictEntry} {n : Nat} (D : KDict X.K X.w d es n) : OpR X (compareOp .In) (rInK X.K d) := op_in_kd D
theorem op_notInK {X : Cx} {d : Addr} {es : Array DictEntry} {n : Nat} (D : KDict X.K X.w d es n) : OpR X (compareOp .NotIn) (rNotInK X.K d) := op_notIn_kd D
theorem g_inK {d : Addr} {z : Str} {u : Value} (e : PySem.W.nsIn K d z = some (some u)) (q : Q (.bl true) H) : rInK K d (.str z) (.ref d) H Q := ⟨z, _, rfl, rfl, e, q⟩
theorem g_inKn {d : Addr} {z : Str} (e : PySem.W.nsIn K d z = some none) (q : Q (.bl false) H) : rInK K d (.str z) (.ref d) H Q := ⟨z, _, rfl, rfl, e, q⟩
theorem g_notInK {d : Addr} {z : Str} {u : Value} (e : PySem.W.nsIn K d z = some (some u)) (q : Q (.bl false) H) : rNotInK K d (.str z) (.ref d) H Q := ⟨z, _, rfl, rfl, e, q⟩
theorem g_notInKn {d : Addr} {z : Str} (e : PySem.W.nsIn K d z = some none) (q : Q (.bl true) H) : rNotInK K d (.str z) (.ref d) H Q := ⟨z, _, rfl, rfl, e, q⟩
theorem g_ixK {w : World} {d : Addr} {z : Str} {u : Value} {v : V} {es : Array DictEntry} {n : Nat} (D : KDict K w d es n) (e : PySem.W.nsIn K d z = some (some u)) (r : RelV v u) (q : Q v H) : rIxD K w (.ref d) (.str z) H Q := ⟨d, z, v, rfl, rfl, ⟨es, n, u, D.at_, D.lit, e, r⟩, q⟩
end
local macro_rules | `(tactic| walk_at "use") => `(tactic| with_reducible first | refine g_rs0 ?_ | refine g_rs1 ?_ | refine g_tryA ?_ | refine g_tryO ?_ | refine g_callS ?_ | refine g_joined ?_ | refine g_jsnil ?_ | refine g_jscons ?_ | refine g_fmt ?_)
local macro_rules | `(tactic| walk_at "fit") => `(tactic| (refine fit2 ?_; (try simp only [PySem.Str.length_append]); omega))
local macro_rules | `(tactic| walk_at "use") => `(tactic| first | ((with_reducible refine' g_addS ?sd_ ?_); case sd_ => (first | omega | (simp only [PySem.Str.length_append]; omega))) | ((with_reducible refine' g_slS ?sd_ ?_); case sd_ => omega) | (with_reducible refine g_m0 ?_))


section
variable {K : PySem.W.Frag} {H : Hp} {Q : VK}
theorem dec_str {s t : Str} : decide (V.str s = V.str t) = decide (s = t) := decide_eq_decide.mpr ⟨V.str.inj, congrArg _⟩
theorem g_rEqS {s t : Str} (q : Q (.bl (decide (s = t))) H) : rEq (.str s) (.str t) H Q := g_rEq rfl (by rw [dec_str]; exact q)
theorem g_rNeS {s t : Str} (q : Q (.bl (!decide (s = t))) H) : rNe (.str s) (.str t) H Q := g_rNe rfl (by rw [dec_str]; exact q)
theorem inV_str {s : Str} : ∀ {ws : List Str}, inV (.str s) (ws.map V.str) = decide (s ∈ ws)
  | [] => (decide_eq_false (by simp)).symm
  | t :: ws => by
    show ((t == s) || inV (.str s) (ws.map V.str)) = _
    rw [inV_str, Bool.eq_iff_iff]
    simp only [Bool.or_eq_true, beq_iff_eq, decide_eq_true_eq, List.mem_cons]
    exact ⟨fun h => h.imp Eq.symm id, fun h => h.imp Eq.symm id⟩
theorem flat_strs : ∀ {ws : List Str}, (ws.map V.str).all flatV = true
  | [] => rfl
  | _ :: ws => flat_strs (ws := ws)
theorem g_inS {p : Addr} {ws : List Str} {s : Str} (h : SqT K H p (ws.map V.str)) (q : Q (.bl (decide (s ∈ ws))) H) : rIn K false (.str s) (.ref p) H Q :=
  ⟨p, _, rfl, .inr h, rfl, flat_strs, by rw [if_neg (by decide), inV_str]; exact q⟩
theorem g_isiS {s : Str} (q : Q (.bl true) H) : rIsi K [.str s, .ty "str"] H Q := g_isi (.ty _) (.base (.str _)) (kit_ty (by decide +kernel)) q
end
local macro_rules | `(tactic| walk_at "use") => `(tactic| with_reducible first | refine g_rEqS ?_ | refine g_rNeS ?_ | refine g_isiS ?_)

def sp_l_start (K : PySem.W.Frag) : Sp := fun vs H Q _ => ∃ c k : Int, vs = [.int c, .int k] ∧ ∀ p n, H p = none → Q (.ref p) (upd H p (.lst [.int n]))
theorem u_start {c k : Int} {H Q E} (q : ∀ p n, H p = none → Q (.ref p) (upd H p (.lst [.int n]))) : sp_l_start K ([.int c, .int k] ++ []) H Q E := ⟨c, k, rfl, q⟩
theorem one_ok : 1 ≤ sizeLine := by decide
theorem abs_mod {a : Int} : (a % 618970019642690137449562111).natAbs < 2 ^ 89 := by omega
theorem ok_l_start (T : Txt w K mg) : FnOk P w K mg base CX0 1 T.f_l_start T.d_l_start ["cell", "k"] (sp_l_start K) := by
  refine T.F_l_start.ok sc_l_start (fun vs H Q E h => ?_) (fun cdv A outer s H vs Q E hr h => ?_)
  · obtain ⟨c, k, rfl, q⟩ := h
    rfl
  · obtain ⟨c, k, rfl, q⟩ := h
    have hu := hu_of hr
    refine ⟨_, (pss_cons (ps_set (i := 2) sc_l_start.nd rfl (Or.inl rfl) pe_int)
        (pss_cons (ps_if (pt_chain op_lt op_lt (pe_un un_neg pe_int) (pv 0) pe_int) (pss_cons (ps_set (i := 3) sc_l_start.nd rfl (Or.inl rfl) (pe_op op_mod (pe_callTy call_int1 (by rfl) T.n_int (by decide +kernel) (pa_cons (pe_op op_add (pe_op op_mul (pv 0) pe_int) (pe_op op_mul (pe_op op_add (pv 1) pe_int) pe_int)) pa_nil)) (pv 2)))
        (pss_one (ps_ret (pe_lst (pa_cons (pe_op op_mod (pe_callTy call_int1 (by rfl) T.n_int (by decide +kernel) (pa_cons (pe_op op_add (pe_op op_add (pe_op op_mulW (pv 3) (pv 3)) (pe_op op_mul pe_int (pv 3))) (pv 1)) pa_nil)) (pv 2)) pa_nil))))) pss_nil)
        (pss_one (ps_ret (pe_lst (pa_cons (pv 0) pa_nil)))))), ?_⟩
    dsimp only [cxOf, Cx.nox, Cx.wish, L2.start, List.map, List.cons_append, List.nil_append, List.length_cons, List.length_nil, Nat.reduceAdd, Nat.reduceSub, Nat.zero_add, List.replicate_succ, List.replicate_zero]
    walk_at "go"
    refine g_ite (fun c1 => ?_) (fun c1 => ?_)
    · walk_at "go"
      refine g_ite (fun c2 => ?_) (fun c2 => ?_)
      · walk_at "go"
        refine g_rI (wide_mul abs_mod abs_mod (by decide) (by decide) (by decide)) ?_
        walk_at "go"
        exact ⟨one_ok, fun p hp => q p _ hp⟩
      · walk_at "go"
        exact ⟨one_ok, fun p hp => q p _ hp⟩
    · walk_at "go"
      exact ⟨one_ok, fun p hp => q p _ hp⟩
theorem lt8000 {m : Int} (h : m < 18446744073709551616) : m < 2 ^ 8000 := Int.lt_trans h (by decide +kernel)
def sp_l_digit (K : PySem.W.Frag) : Sp := fun vs H Q _ => ∃ (p : Addr) (n m : Int), vs = [.ref p, .int m] ∧ H p = some (.lst [.int n]) ∧ 0 < m ∧ m < 18446744073709551616 ∧ Q (.int (n % m)) (upd H p (.lst [.int (n / m)]))
theorem u_digit {p : Addr} {n m : Int} {H Q E} (h : H p = some (.lst [.int n])) (h0 : 0 < m) (h1 : m < 18446744073709551616) (q : Q (.int (n % m)) (upd H p (.lst [.int (n / m)]))) : sp_l_digit K ([.ref p, .int m] ++ []) H Q E := ⟨p, n, m, rfl, h, h0, h1, q⟩
theorem ok_l_digit (T : Txt w K mg) : FnOk P w K mg base CX0 1 T.f_l_digit T.d_l_digit ["state", "many"] (sp_l_digit K) := by
  refine T.F_l_digit.ok sc_l_digit (fun vs H Q E h => ?_) (fun cdv A outer s H vs Q E hr h => ?_)
  · obtain ⟨p, n, m, rfl, hp, h0, h1, q⟩ := h
    rfl
  · obtain ⟨p, n, m, rfl, hp, h0, h1, q⟩ := h
    have hu := hu_of hr
    refine ⟨_, (pss_cons (ps_set (i := 2) sc_l_digit.nd rfl (Or.inl rfl) (pe_op op_mod (pe_callTy call_int1 (by rfl) T.n_int (by decide +kernel) (pa_cons (pe_ix ix_list (pv 0) pe_int (fun _ _ => rfl)) pa_nil)) (pv 1)))
        (pss_cons (ps_asg (pe_op op_fdivW (pe_ix ix_list (pv 0) pe_int (fun _ _ => rfl)) (pv 1)) (pg_sub (pv 0) pe_int set_list))
        (pss_one (ps_ret (pv 2))))), ?_⟩
    dsimp only [cxOf, Cx.nox, Cx.wish, L2.start, List.map, List.cons_append, List.nil_append, List.length_cons, List.length_nil, Nat.reduceAdd, Nat.reduceSub, Nat.zero_add, List.replicate_succ, List.replicate_zero]
    walk_at "go"
    refine g_ixL (sl hp) (at_of (j := 0) rfl rfl) ?_
    walk_at "go"
    refine g_ixL (sl hp) (at_of (j := 0) rfl rfl) ?_
    walk_at "go"
    refine g_rI (cdivW h0 (lt8000 h1)) ?_
    walk_at "go"
    refine g_setL (j := 0) hp rfl ?_
    walk_at "go"
    exact q

/-- [_law_digit(state, m) for j in range(cnt)] -/
theorem lc_digs {σ : St} {H1 : Hp} {p : Addr} {n m : Int} {cnt is j : Nat} {D : Addr} {Qd : Hp → Prop} (hD : H1 D = none) (hp : H1 p = some (.lst [.int n])) (h0 : 0 < m) (h1 : m < 18446744073709551616) (hc : cnt ≤ 100000)
    (hσ : ∀ x, ((wipe σ [j]).set j (some x))[is]? = some (some (.ref p)))
    (q : ∀ (H' : Hp) (us : List Int) (n' : Int), But p H1 H' → H' D = some (.lst (us.map V.int)) → H' p = some (.lst [.int n']) → us.length = cnt → (∀ u ∈ us, 0 ≤ u ∧ u < m) → Qd H') :
    ∃ W : Nat → Nat → Hp → Prop, (∃ m, W 0 m (upd H1 D (.lst []))) ∧ ∀ i m0 H, W i m0 H →
      ((Itr 0 cnt).stop i H ∧ Qd H) ∨ ((Itr 0 cnt).go i H ∧ ∃ Nx : Hp → Prop, (∀ H', Nx H' → ∃ m', m' < m0 ∧ W (i + 1) m' H') ∧ ∀ x H', (Itr 0 cnt).yld i H x H' → gName j x (wipe σ [j]) H' fun σ2 H2 => wipe σ2 [j] = wipe σ [j] ∧ tYes σ2 H2 fun b H3 =>
        if b = true then tCall (sp_l_digit K) [] E0 (tCons (tVar is) (tCons (tC (.int m)) tNil)) σ2 H3 fun y H4 => ∃ acc, H4 D = some (.lst acc) ∧ acc.length < sizeLine ∧ Nx (upd H4 D (.lst (acc ++ [y]))) else Nx H3) := by
  have nDp : p ≠ D := ne_of_none hp hD
  refine lc_it walk_range (fun i H => But p H1 H ∧ ∃ (us : List Int) (n' : Int), H D = some (.lst (us.map V.int)) ∧ H p = some (.lst [.int n']) ∧ us.length = i ∧ (∀ u ∈ us, 0 ≤ u ∧ u < m)) ?_ (fun _ _ _ _ => trivial) ?_ ?_
  · refine ⟨But.of (same_upd hD), [], n, upd_same, (same_upd hD) _ _ hp, rfl, fun u z => nomatch z⟩
  · rintro i x H H' hi ⟨bt, us, n', hu, hn, hl, hb⟩ ⟨rfl, rfl⟩
    refine ⟨?_, ?_⟩
    · show ((σ.set j none).set j (some _)).set j none = σ.set j none
      rw [List.set_set, List.set_set]
    refine g_yes ?_
    refine iteT ?_
    refine g_call ?_
    refine g_cons ?_
    refine g_var (hσ _) ?_
    refine g_cons ?_
    refine g_c ?_
    refine g_nil ?_
    refine u_digit hn h0 h1 ?_
    refine ⟨us.map V.int, ?_, ?_, ?_⟩
    · rw [upd_ne (Ne.symm nDp)]
      exact hu
    · rw [List.length_map]
      exact szl (by omega)
    · refine ⟨?_, us ++ [n' % m], n' / m, ?_, ?_, ?_, ?_⟩
      · intro b o nb e
        by_cases z : b = D
        · rw [z, hD] at e; cases e
        · rw [upd_ne z, upd_ne nb]
          exact bt b o nb e
      · rw [upd_same, List.map_append]
        rfl
      · rw [upd_ne nDp, upd_same]
      · rw [List.length_append, hl]
        rfl
      · intro u hu
        rcases List.mem_append.mp hu with z | z
        · exact hb u z
        · rw [List.mem_singleton.mp z]
          exact ⟨Int.emod_nonneg _ (by omega), Int.emod_lt_of_pos _ h0⟩
  · rintro H ⟨bt, us, n', hu, hn, hl, hb⟩
    exact q H us n' bt hu hn hl hb

theorem g_gtup {K : PySem.W.Frag} {n : Nat} {t : List V → St → Hp → (St → Hp → Prop) → Prop} {a : Addr} {xs : List V} {σ : St} {H : Hp} {Q : St → Hp → Prop} (h : SqT K H a xs) (l : xs.length = n) (q : t xs σ H Q) : gTup K n t (.ref a) σ H Q := ⟨a, xs, rfl, h, l, q⟩
theorem g_gcons {t : TG} {u : List V → St → Hp → (St → Hp → Prop) → Prop} {v : V} {r : List V} {σ : St} {H : Hp} {Q : St → Hp → Prop} (h : t v σ H fun σ' H' => u r σ' H' Q) : gCons t u (v :: r) σ H Q := ⟨v, r, rfl, h⟩
theorem g_gnil {σ : St} {H : Hp} {Q : St → Hp → Prop} (q : Q σ H) : gNil [] σ H Q := ⟨rfl, q⟩
local macro_rules | `(tactic| walk_at "use") => `(tactic| with_reducible first | refine g_gcons ?_ | refine g_gnil ?_)

def items : List (Str × Int) := [("connect", 5), ("listen", 4), ("unlisten", 3), ("accept", 3), ("write", 4), ("read", 4), ("finish", 3), ("abort", 3), ("release", 3), ("restart", 2), ("tick", 1), ("deliver", 2), ("lose", 2), ("copy", 2), ("mark", 2)]
theorem ik_all (T : Txt w K mg) : ∀ z n, (z, n) ∈ items → ∃ u, PySem.W.nsIn K T.t_ITEMS z = some (some u) ∧ RelV (.int n) u := by
  intro z n h
  simp only [items, List.mem_cons, Prod.mk.injEq, List.not_mem_nil, or_false] at h
  rcases h with ⟨rfl, rfl⟩ | ⟨rfl, rfl⟩ | ⟨rfl, rfl⟩ | ⟨rfl, rfl⟩ | ⟨rfl, rfl⟩ | ⟨rfl, rfl⟩ | ⟨rfl, rfl⟩ | ⟨rfl, rfl⟩ | ⟨rfl, rfl⟩ | ⟨rfl, rfl⟩ | ⟨rfl, rfl⟩ | ⟨rfl, rfl⟩ | ⟨rfl, rfl⟩ | ⟨rfl, rfl⟩ | ⟨rfl, rfl⟩
  · exact T.ik_ITEMS_connect
  · exact T.ik_ITEMS_listen
  · exact T.ik_ITEMS_unlisten
  · exact T.ik_ITEMS_accept
  · exact T.ik_ITEMS_write
  · exact T.ik_ITEMS_read
  · exact T.ik_ITEMS_finish
  · exact T.ik_ITEMS_abort
  · exact T.ik_ITEMS_release
  · exact T.ik_ITEMS_restart
  · exact T.ik_ITEMS_tick
  · exact T.ik_ITEMS_deliver
  · exact T.ik_ITEMS_lose
  · exact T.ik_ITEMS_copy
  · exact T.ik_ITEMS_mark
def ws : List Str := items.map (·.1)
theorem w_short : ∀ z n, (z, n) ∈ items → z.length ≤ 8 := by
  have h : ∀ x ∈ items, x.1.length ≤ 8 := by decide +kernel
  exact fun z n m => h (z, n) m
def sp_check (K : PySem.W.Frag) (C : Addr) : Sp := fun vs H Q E => ∃ a xs, vs = [.ref a] ∧ SqT K H a xs ∧
  ((xs = [] ∧ E (.ref C) none H) ∨ ∃ z r, xs = .str z :: r ∧ r.length ≤ 100 ∧ ((z ∉ ws ∧ E (.ref C) none H) ∨ ∃ n, (z, n) ∈ items ∧ ((n = r.length + 1 ∧ Q .non H) ∨ (n ≠ r.length + 1 ∧ E (.ref C) none H))))
theorem ok_check_deed (T : Txt w K mg) : FnOk P w K mg base (L2.CX P w) 1 T.f_check_deed T.d_check_deed ["deed"] (sp_check K T.C_InvalidDeed) := by
  refine T.F_check_deed.okX sc_check_deed (fun vs H Q E h => ?_) (fun cdv A outer s H vs Q E hr h => ?_)
  · obtain ⟨a, xs, rfl, hS, q⟩ := h
    rfl
  · obtain ⟨a, xs, rfl, hS, q⟩ := h
    have hu := hu_of hr
    refine ⟨_, (pss_cons (ps_if (pt_cmpR op_eq (pe_callB call_len_seq (by rfl) T.n_len (by decide +kernel) (pa_cons (pv 0) pa_nil)) pe_int (nomark _)) (pss_one (ps_rs rfl (takes_of rfl rfl rfl rfl) (pmk_0 PySem.F.excBase_ValueError T.xP_InvalidDeed T.c_InvalidDeed T.ke_InvalidDeed (raises_own T.be_InvalidDeed T.te_InvalidDeed) rfl))) pss_nil)
        (pss_cons (ps_if (pt_cmpR (op_notInK T.kd_ITEMS) (pe_ix ix_tup (pv 0) pe_int (fun _ _ => rfl)) (pe_glob (v := .ref T.t_ITEMS) (by rfl) T.v_ITEMS rfl) (by with_unfolding_all rfl)) (pss_one (ps_rs rfl (takes_of rfl rfl rfl rfl) (pmk_0 PySem.F.excBase_ValueError T.xP_InvalidDeed T.c_InvalidDeed T.ke_InvalidDeed (raises_own T.be_InvalidDeed T.te_InvalidDeed) rfl))) pss_nil)
        (pss_one (ps_if (pt_cmpR op_ne (pe_callB call_len_seq (by rfl) T.n_len (by decide +kernel) (pa_cons (pv 0) pa_nil)) (pe_ix ix_kdict (pe_glob (v := .ref T.t_ITEMS) (by rfl) T.v_ITEMS rfl) (pe_ix ix_tup (pv 0) pe_int (fun _ _ => rfl)) (fun _ _ => rfl)) (nomark _)) (pss_one (ps_rs rfl (takes_of rfl rfl rfl rfl) (pmk_1 PySem.F.excBase_ValueError T.xP_InvalidDeed T.c_InvalidDeed T.ke_InvalidDeed (raises_own T.be_InvalidDeed T.te_InvalidDeed) rfl (pe_joinedJ (.cons (pe_fmt (pe_ix ix_tup (pv 0) pe_int (fun _ _ => rfl))) (.cons pe_str (.cons (pe_fmt (pe_callB call_len_seq (by rfl) T.n_len (by decide +kernel) (pa_cons (pv 0) pa_nil))) (.cons pe_str .nil)))))))) pss_nil)))), ?_⟩
    dsimp only [cxOf, Cx.nox, Cx.wish, L2.start, List.map, List.cons_append, List.nil_append, List.length_cons, List.length_nil, Nat.reduceAdd, Nat.reduceSub, Nat.zero_add, List.replicate_succ, List.replicate_zero]
    walk_at "go"
    refine g_len (.inr hS) ?_
    rcases q with ⟨rfl, q⟩ | ⟨z, r, rfl, hr1, q⟩
    · walk_at "go"
      exact q
    walk_at "go"
    refine g_ixT hS (at_of (j := 0) rfl rfl) ?_
    walk_at "go"
    rcases q with ⟨hz, q⟩ | ⟨n, hm, q⟩
    · refine g_notInKn (T.nk_ITEMS z (by exact hz)) ?_
      walk_at "go"
      exact q
    obtain ⟨u, hu, ru⟩ := ik_all T z n hm
    refine g_notInK hu ?_
    walk_at "go"
    refine g_len (.inr hS) ?_
    walk_at "go"
    refine g_ixT hS (at_of (j := 0) rfl rfl) ?_
    walk_at "go"
    refine g_ixK T.kd_ITEMS hu ru ?_
    walk_at "go"
    have wz := w_short z n hm
    rcases q with ⟨en, q⟩ | ⟨en, q⟩
    · rw [decide_eq_true (by rw [en, List.length_cons]; omega)]
      walk_at "go"
      exact q
    · rw [decide_eq_false (by rw [List.length_cons]; omega)]
      walk_at "go"
      refine g_ixT hS (at_of (j := 0) rfl rfl) ?_
      have e0 : Str.empty.length = 0 := by decide
      have e1 : (Str.ofString " with ").length = 6 := by decide +kernel
      have e2 : (Str.ofString " items").length = 6 := by decide +kernel
      have e3 := itext (i := ((V.str z :: r).length : Int)) (by rw [List.length_cons]; omega)
      refine g_fmtS (Nat.le_trans wz (by decide)) ?_
      refine g_jsE (by walk_at "fit") ?_
      walk_at "go"
      refine g_jsE (by walk_at "fit") ?_
      walk_at "go"
      refine g_len (.inr hS) ?_
      refine g_fmtI (by have : (((V.str z :: r).length : Int)).natAbs < 2 ^ 64 := by (rw [List.length_cons]; omega)
                        exact log_lt this) ?_
      refine g_jsE (by walk_at "fit") ?_
      walk_at "go"
      refine g_jsE (by walk_at "fit") ?_
      walk_at "go"
      exact q
def tW (x : Str × Int) : TE := tTup (tCons (tC (.str x.1)) (tCons (tC (.int x.2)) tNil))
def tWs (l : List (Str × Int)) : TA := l.foldr (fun x t => tCons (tW x) t) tNil
theorem two_ok : 2 ≤ sizeLine := by decide
theorem g_ws {σ : St} : ∀ {l : List (Str × Int)} {H : Hp} {A : List V → Hp → Prop}, (∀ (qs : List Addr) (H' : Hp), Same H H' → qs.length = l.length → (∀ (i : Nat) (x : Str × Int), l[i]? = some x → ∃ q, qs[i]? = some q ∧ H' q = some (.tup [.str x.1, .int x.2])) → A (qs.map V.ref) H') → tWs l σ H A
  | [], H, A, h => h [] H (fun _ _ z => z) rfl (fun i x z => by cases z)
  | x :: l, H, A, h => by
    show tCons (tW x) (tWs l) σ H A
    refine g_cons ?_
    refine g_tup ?_
    refine g_cons ?_
    refine g_c ?_
    refine g_cons ?_
    refine g_c ?_
    refine g_nil ?_
    refine ⟨two_ok, fun p hp => ?_⟩
    refine g_ws fun qs H' sm hl hq => ?_
    refine h (p :: qs) H' (fun b o e => sm b o ((same_upd hp) b o e)) (by rw [List.length_cons, List.length_cons, hl]) fun i y e => ?_
    cases i with
    | zero =>
      injection e with e
      subst e
      exact ⟨p, rfl, sm p _ upd_same⟩
    | succ i => exact hq i y e
def wl : List (Str × Int) := [("tick", 1), ("restart", 2), ("deliver", 2), ("lose", 2), ("copy", 2), ("mark", 2), ("unlisten", 3), ("accept", 3), ("finish", 3), ("abort", 3), ("release", 3), ("listen", 4), ("write", 4), ("read", 4), ("connect", 5)]
theorem wl_items : ∀ x ∈ wl, x ∈ items := by decide +kernel
def sp_l_words (K : PySem.W.Frag) : Sp := fun vs H Q _ => vs = [] ∧ ∀ (p : Addr) (qs : List Addr) (H' : Hp) (_ : Same H H') (_ : H p = none) (_ : H' p = some (.lst (qs.map V.ref))) (_ : qs.length = 15) (_ : ∀ (i : Nat) (x : Str × Int), wl[i]? = some x → ∃ q, qs[i]? = some q ∧ H' q = some (.tup [.str x.1, .int x.2])), Q (.ref p) H'
theorem u_words {H Q E} (q : ∀ (p : Addr) (qs : List Addr) (H' : Hp) (_ : Same H H') (_ : H p = none) (_ : H' p = some (.lst (qs.map V.ref))) (_ : qs.length = 15) (_ : ∀ (i : Nat) (x : Str × Int), wl[i]? = some x → ∃ q, qs[i]? = some q ∧ H' q = some (.tup [.str x.1, .int x.2])), Q (.ref p) H') : sp_l_words K ([] ++ []) H Q E := ⟨rfl, q⟩
theorem ok_l_words (T : Txt w K mg) : FnOk P w K mg base CX0 1 T.f_l_words T.d_l_words [] (sp_l_words K) := by
  refine T.F_l_words.ok sc_l_words (fun vs H Q E h => ?_) (fun cdv A outer s H vs Q E hr h => ?_)
  · obtain ⟨rfl, q⟩ := h
    rfl
  · obtain ⟨rfl, q⟩ := h
    have hu := hu_of hr
    refine ⟨_, (pss_one (ps_ret (pe_lst (pa_cons (pe_tup (pa_cons pe_str (pa_cons pe_int pa_nil))) (pa_cons (pe_tup (pa_cons pe_str (pa_cons pe_int pa_nil))) (pa_cons (pe_tup (pa_cons pe_str (pa_cons pe_int pa_nil))) (pa_cons (pe_tup (pa_cons pe_str (pa_cons pe_int pa_nil))) (pa_cons (pe_tup (pa_cons pe_str (pa_cons pe_int pa_nil))) (pa_cons (pe_tup (pa_cons pe_str (pa_cons pe_int pa_nil))) (pa_cons (pe_tup (pa_cons pe_str (pa_cons pe_int pa_nil))) (pa_cons (pe_tup (pa_cons pe_str (pa_cons pe_int pa_nil))) (pa_cons (pe_tup (pa_cons pe_str (pa_cons pe_int pa_nil))) (pa_cons (pe_tup (pa_cons pe_str (pa_cons pe_int pa_nil))) (pa_cons (pe_tup (pa_cons pe_str (pa_cons pe_int pa_nil))) (pa_cons (pe_tup (pa_cons pe_str (pa_cons pe_int pa_nil))) (pa_cons (pe_tup (pa_cons pe_str (pa_cons pe_int pa_nil))) (pa_cons (pe_tup (pa_cons pe_str (pa_cons pe_int pa_nil))) (pa_cons (pe_tup (pa_cons pe_str (pa_cons pe_int pa_nil))) pa_nil)))))))))))))))))), ?_⟩
    dsimp only [cxOf, Cx.nox, Cx.wish, L2.start, List.map, List.cons_append, List.nil_append, List.length_cons, List.length_nil, Nat.reduceAdd, Nat.reduceSub, Nat.zero_add, List.replicate_succ, List.replicate_zero]
    show tRet (tLst (tWs wl)) _ _ _
    refine g_ret ?_
    refine g_lst ?_
    refine g_ws (l := wl) fun qs H' sm hl hq => ?_
    refine ⟨by rw [List.length_map, hl]; decide, fun p hp => ?_⟩
    have n0 : H p = none := by
      cases e : H p with
      | none => rfl
      | some o => rw [sm p o e] at hp; cases hp
    exact q p qs _ (fun b o e => (same_upd hp) b o (sm b o e)) n0 upd_same hl fun i x e => by
      obtain ⟨z, e1, e2⟩ := hq i x e
      exact ⟨z, e1, (same_upd hp) _ _ e2⟩
def sp_told (K : PySem.W.Frag) : Sp := fun vs H Q _ => ∃ a xs, vs = [.ref a] ∧ SqT K H a xs ∧
  ((xs = [] ∧ Q (.str "invalid") H) ∨ ∃ z r, xs = .str z :: r ∧ r.length ≤ 100 ∧ ((z ∉ ws ∧ Q (.str "invalid") H) ∨ ∃ n, (z, n) ∈ items ∧ ((n = r.length + 1 ∧ Q (.bl true) H) ∨ (n ≠ r.length + 1 ∧ Q (.str "invalid") H))))
theorem ck_mono {a : Addr} {xs : List V} {C : Addr} {H : Hp} {Q : VK} {E : XK} {A B : Prop} (h : (xs = [] ∧ A) ∨ ∃ z r, xs = .str z :: r ∧ r.length ≤ 100 ∧ ((z ∉ ws ∧ A) ∨ ∃ n, (z, n) ∈ items ∧ ((n = r.length + 1 ∧ B) ∨ (n ≠ r.length + 1 ∧ A)))) (hS : SqT K H a xs) (e : A → E (.ref C) none H) (q : B → Q .non H) : sp_check K C ([.ref a] ++ []) H Q E := by
  refine ⟨a, xs, rfl, hS, ?_⟩
  rcases h with ⟨h1, h2⟩ | ⟨z, r, h1, h2, h3⟩
  · exact .inl ⟨h1, e h2⟩
  · refine .inr ⟨z, r, h1, h2, ?_⟩
    rcases h3 with ⟨h3, h4⟩ | ⟨n, h3, h4⟩
    · exact .inl ⟨h3, e h4⟩
    · refine .inr ⟨n, h3, ?_⟩
      rcases h4 with ⟨h4, h5⟩ | ⟨h4, h5⟩
      · exact .inl ⟨h4, q h5⟩
      · exact .inr ⟨h4, e h5⟩
theorem ok_l_told (T : Txt w K mg) : FnOk P w K mg base CX0 2 T.f_l_told T.d_l_told ["deed"] (sp_told K) := by
  refine T.F_l_told.ok sc_l_told (fun vs H Q E h => ?_) (fun cdv A outer s H vs Q E hr h => ?_)
  · obtain ⟨a, xs, rfl, hS, q⟩ := h
    rfl
  · obtain ⟨a, xs, rfl, hS, q⟩ := h
    have hu := hu_of hr
    refine ⟨_, (pss_one (ps_tryA (i := 1) rfl rfl sc_l_told.nd rfl rfl ⟨rfl, by decide, .inl T.c_InvalidDeed⟩ takes0 (fun W pn xe tk po_ => (pss_one (ps_ret (pe_cmpR op_isN (pe_callS (ok_check_deed T) (hr.mono (by decide)) rfl T.m_check_deed T.F_check_deed.kp T.b_check_deed (fun σ => passAt tk σ) (pa_cons (pv 0) pa_nil)) pe_non (nomark _))))) (fun a oe cls d pn hz_ hf_ => (pss_cons (ps_if (PW.pt (pw_and (pt_val (pe_callB (call_isE2 hz_ hf_) (by rfl) T.n_isinstance (by decide +kernel) (pa_cons (pv 1) (pa_cons (pe_glob (v := .ref T.C_ThroughlineError) (by rfl) T.c_ThroughlineError rfl) pa_nil)))) (pw_and1 (pt_not (pt_val (pe_callB (call_isE2 hz_ hf_) (by rfl) T.n_isinstance (by decide +kernel) (pa_cons (pv 1) (pa_cons (pe_glob (v := .ref T.C_UnknownHost) (by rfl) T.c_UnknownHost rfl) pa_nil)))))))) (pss_one (ps_ret pe_str)) pss_nil)
        (pss_one (ps_ret pe_str)))))), ?_⟩
    dsimp only [cxOf, Cx.nox, Cx.wish, L2.start, List.map, List.cons_append, List.nil_append, List.length_cons, List.length_nil, Nat.reduceAdd, Nat.reduceSub, Nat.zero_add, List.replicate_succ, List.replicate_zero]
    walk_at "go"
    refine ck_mono q hS (fun q => ?_) (fun q => ?_)
    · refine g_caught T.em_InvalidDeed_InvalidDeed fun e he => ?_
      walk_at "go"
      refine g_isER T.xc_InvalidDeed T.ko_InvalidDeed_ThroughlineError ?_
      dsimp only [List.set_cons_succ, List.set_cons_zero]
      walk_at "go"
      refine g_isER T.xc_InvalidDeed T.ko_InvalidDeed_UnknownHost ?_
      walk_at "go"
      exact q
    · walk_at "go"
      exact q
theorem st_not : ∀ w ∈ ws, (w ++ "s") ∉ ws ∧ cutS w (some 1) none ∉ ws ∧ Txt.upper w ∉ ws ∧ w.length ≤ 8 := by decide +kernel
theorem st_not2 : ("" : Str) ∉ ws ∧ ("ticks" : Str) ∉ ws ∧ ("deliver " : Str) ∉ ws := by decide +kernel
def sp_l_strange (K : PySem.W.Frag) : Sp := fun vs H Q _ => ∃ (z : Str) (k : Int), vs = [.str z, .int k] ∧ z ∈ ws ∧ 0 ≤ k ∧ k < 6 ∧ ∀ H' z', Same H H' → z' ∉ ws → Q (.str z') H'
theorem u_strange {z : Str} {k : Int} {H Q E} (h : z ∈ ws) (h0 : 0 ≤ k) (h1 : k < 6) (q : ∀ H' z', Same H H' → z' ∉ ws → Q (.str z') H') : sp_l_strange K ([.str z, .int k] ++ []) H Q E := ⟨z, k, rfl, h, h0, h1, q⟩
theorem ok_l_strange (T : Txt w K mg) : FnOk P w K mg base CX0 1 T.f_l_strange T.d_l_strange ["word", "kind"] (sp_l_strange K) := by
  refine T.F_l_strange.ok sc_l_strange (fun vs H Q E h => ?_) (fun cdv A outer s H vs Q E hr h => ?_)
  · obtain ⟨z, k, rfl, hz, h0, h1, q⟩ := h
    rfl
  · obtain ⟨z, k, rfl, hz, h0, h1, q⟩ := h
    have hu := hu_of hr
    refine ⟨_, (pss_one (ps_ret (pe_ix ix_tup (pe_tup (pa_cons (pe_op op_addS (pv 0) pe_str) (pa_cons (pe_slice sl_str (pv 0) (po_some pe_int) po_none) (pa_cons (pe_m0 PySem.F.slot_str_upper PySem.F.type_str_upper mt_upper (pv 0)) (pa_cons pe_str (pa_cons pe_str (pa_cons pe_str pa_nil))))))) (pv 1) (fun _ _ => rfl)))), ?_⟩
    dsimp only [cxOf, Cx.nox, Cx.wish, L2.start, List.map, List.cons_append, List.nil_append, List.length_cons, List.length_nil, Nat.reduceAdd, Nat.reduceSub, Nat.zero_add, List.replicate_succ, List.replicate_zero]
    obtain ⟨s1, s2, s3, s4⟩ := st_not z hz
    obtain ⟨s5, s6, s7⟩ := st_not2
    have e1 : (Str.ofString "s").length = 1 := by decide +kernel
    walk_at "go"
    refine ⟨⟨z, rfl⟩, z, rfl, rfl, by omega, ?_⟩
    walk_at "go"
    refine ⟨by show 6 ≤ sizeLine; decide, fun p hp => ?_⟩
    walk_at "go"
    obtain rfl | rfl | rfl | rfl | rfl | rfl : k = 0 ∨ k = 1 ∨ k = 2 ∨ k = 3 ∨ k = 4 ∨ k = 5 := by omega
    · exact g_ixT (st upd_same) (at_of (j := 0) rfl rfl) (q _ _ (same_upd hp) s1)
    · exact g_ixT (st upd_same) (at_of (j := 1) rfl rfl) (q _ _ (same_upd hp) s2)
    · exact g_ixT (st upd_same) (at_of (j := 2) rfl rfl) (q _ _ (same_upd hp) s3)
    · exact g_ixT (st upd_same) (at_of (j := 3) rfl rfl) (q _ _ (same_upd hp) s5)
    · exact g_ixT (st upd_same) (at_of (j := 4) rfl rfl) (q _ _ (same_upd hp) s6)
    · exact g_ixT (st upd_same) (at_of (j := 5) rfl rfl) (q _ _ (same_upd hp) s7)
theorem u_told {a : Addr} {xs : List V} {H Q E} (hS : SqT K H a xs) (h : (xs = [] ∧ Q (.str "invalid") H) ∨ ∃ z r, xs = .str z :: r ∧ r.length ≤ 100 ∧ ((z ∉ ws ∧ Q (.str "invalid") H) ∨ ∃ n, (z, n) ∈ items ∧ ((n = r.length + 1 ∧ Q (.bl true) H) ∨ (n ≠ r.length + 1 ∧ Q (.str "invalid") H)))) : sp_told K ([.ref a] ++ []) H Q E := ⟨a, xs, rfl, hS, h⟩
def sp_law (K : PySem.W.Frag) : Sp := fun vs H Q _ => ∃ (a : Addr) (ns : List Int), vs = [.ref a] ∧ SqL K H a (ns.map V.int) ∧ ns.length ≤ 63 ∧ ∀ H', Q (.bl true) H'

theorem ok_law (T : Txt w K mg) : FnOk P w K mg base CX0 3 T.f_law T.d_law ["script"] (sp_law K) := by
  refine T.F_law.ok sc_law (fun vs H Q E h => ?_) (fun cdv A outer s H vs Q E hr h => ?_)
  · obtain ⟨a, ns, rfl, hS, hlen, q⟩ := h
    rfl
  · obtain ⟨a, ns, rfl, hS, hlen, q⟩ := h
    have hu := hu_of hr
    refine ⟨_, (pss_cons (ps_if (pt_cmpR op_ne (pe_call (ok_l_told T) (hr.mono (by decide)) rfl T.m_l_told T.F_l_told.kp T.b_l_told .nil pass0 (pa_cons (pe_tup pa_nil) pa_nil)) pe_str (nomark _)) (pss_one (ps_ret pe_bl)) pss_nil)
        (pss_cons (ps_for PassesOwn.never rfl (pi_range1 (by rfl) T.n_range (pa_cons (pe_callB (call_min2 rfl) (by rfl) T.n_min (by decide +kernel) (pa_cons pe_int (pa_cons (pe_callB (call_max2 rfl) (by rfl) T.n_max (by decide +kernel) (pa_cons pe_int (pa_cons (pe_callB call_len_seq (by rfl) T.n_len (by decide +kernel) (pa_cons (pv 0) pa_nil)) pa_nil))) pa_nil))) pa_nil)) (pg_name (i := 1) sc_law.nd rfl (Or.inl rfl)) (pss_cons (ps_set (i := 2) sc_law.nd rfl (Or.inl rfl) pe_int)
        (C8.pss_cut (ps_if (pt_cmpR op_lt (pv 1) (pe_callB call_len_seq (by rfl) T.n_len (by decide +kernel) (pa_cons (pv 0) pa_nil)) (nomark _)) (pss_one (ps_set (i := 2) sc_law.nd rfl (Or.inl rfl) (pe_ix ix_list (pv 0) (pv 1) (fun _ _ => rfl)))) pss_nil)
        (pss_cons (ps_set (i := 3) sc_law.nd rfl (Or.inr rfl) (pe_call (ok_l_start T) (hr.mono (by decide)) rfl T.m_l_start T.F_l_start.kp T.b_l_start .nil pass0 (pa_cons (pv 2) (pa_cons (pv 1) pa_nil))))
        (pss_cons (ps_asg (pe_ix ix_list (pe_call0 (ok_l_words T) (hr.mono (by decide)) rfl T.m_l_words T.F_l_words.kp T.b_l_words .nil pass0) (pe_call (ok_l_digit T) (hr.mono (by decide)) rfl T.m_l_digit T.F_l_digit.kp T.b_l_digit .nil pass0 (pa_cons (pv 3) (pa_cons pe_int pa_nil))) (fun _ _ => rfl)) (pg_tup rfl (pgs_cons (pg_name (i := 4) sc_law.nd rfl (Or.inl rfl)) (pgs_cons (pg_name (i := 5) sc_law.nd rfl (Or.inl rfl)) pgs_nil))))
        (pss_cons (ps_set (i := 6) sc_law.nd rfl (Or.inl rfl) (pv 5))
        (C8.pss_cut (ps_if (pt_cmpR op_eq (pe_call (ok_l_digit T) (hr.mono (by decide)) rfl T.m_l_digit T.F_l_digit.kp T.b_l_digit .nil pass0 (pa_cons (pv 3) (pa_cons pe_int pa_nil))) pe_int (nomark _)) (pss_one (ps_set (i := 6) sc_law.nd rfl (Or.inl rfl) (pe_op op_add pe_int (pe_call (ok_l_digit T) (hr.mono (by decide)) rfl T.m_l_digit T.F_l_digit.kp T.b_l_digit .nil pass0 (pa_cons (pv 3) (pa_cons pe_int pa_nil)))))) pss_nil)
        (pss_cons (ps_set (i := 7) sc_law.nd rfl (Or.inl rfl) (pe_op op_cat (pe_lst (pa_cons (pv 4) pa_nil)) (pe_lc (own := [("j", 9)]) (g := gName 9) (tt := tYes) rfl sc_law.nd (pi_range1 (by rfl) T.n_range (pa_cons (pe_op op_sub (pv 6) pe_int) pa_nil)) (blkOk_by (N := ["script", "k", "cell", "state", "word", "size", "many", "items", "due", "j"]) (sc := defScope s_law) (by decide +kernel)) (fun _ _ _ _ _ => (pg_name (i := 9) sc_law.nd rfl (Or.inl rfl))) (fun _ _ _ _ _ => pts_nil) (fun _ _ _ _ _ => (pe_call (ok_l_digit T) (hr.mono (by decide)) rfl T.m_l_digit T.F_l_digit.kp T.b_l_digit .nil pass0 (pa_cons (pv 3) (pa_cons pe_int pa_nil)))))))
        (pss_cons (ps_set (i := 8) sc_law.nd rfl (Or.inl rfl) pe_bl)
        (C8.pss_cut (ps_if (pt_cmpR op_ne (pv 6) (pv 5) (nomark _)) (pss_one (ps_set (i := 8) sc_law.nd rfl (Or.inl rfl) pe_str)) pss_nil)
        (pss_cons (ps_if (pt_cmpR op_ne (pe_call (ok_l_told T) (hr.mono (by decide)) rfl T.m_l_told T.F_l_told.kp T.b_l_told .nil pass0 (pa_cons (pe_callTy call_tuple_of (by rfl) T.n_tuple (by decide +kernel) (pa_cons (pv 7) pa_nil)) pa_nil)) (pv 8) (nomark _)) (pss_one (ps_ret pe_bl)) pss_nil)
        (pss_cons (ps_asg (pe_call (ok_l_strange T) (hr.mono (by decide)) rfl T.m_l_strange T.F_l_strange.kp T.b_l_strange .nil pass0 (pa_cons (pv 4) (pa_cons (pe_call (ok_l_digit T) (hr.mono (by decide)) rfl T.m_l_digit T.F_l_digit.kp T.b_l_digit .nil pass0 (pa_cons (pv 3) (pa_cons pe_int pa_nil))) pa_nil))) (pg_sub (pv 7) pe_int set_list))
        (pss_one (ps_if (pt_cmpR op_ne (pe_call (ok_l_told T) (hr.mono (by decide)) rfl T.m_l_told T.F_l_told.kp T.b_l_told .nil pass0 (pa_cons (pe_callTy call_tuple_of (by rfl) T.n_tuple (by decide +kernel) (pa_cons (pv 7) pa_nil)) pa_nil)) pe_str (nomark _)) (pss_one (ps_ret pe_bl)) pss_nil))))))))))))))
        (pss_one (ps_ret pe_bl)))), ?_⟩
    dsimp only [cxOf, Cx.nox, Cx.wish, L2.start, List.map, List.cons_append, List.nil_append, List.length_cons, List.length_nil, Nat.reduceAdd, Nat.reduceSub, Nat.zero_add, List.replicate_succ, List.replicate_zero]
    walk_at "go"
    refine ⟨by decide, fun p0 hp0 => ?_⟩
    walk_at "go"
    refine u_told (st upd_same) (.inl ⟨rfl, ?_⟩)
    walk_at "go"
    generalize z0 : upd H p0 _ = H0
    have s0 : Same H H0 := by rw [← z0]; exact same_upd hp0
    clear z0
    obtain ⟨N, eN, hN⟩ : ∃ N : Nat, (if (if (ns.length : Int) > 8 then (ns.length : Int) else 8) < 62 then (if (ns.length : Int) > 8 then (ns.length : Int) else 8) else 62) = (N : Int) ∧ N ≤ 62 := by
      refine ⟨(if (if (ns.length : Int) > 8 then (ns.length : Int) else 8) < 62 then (if (ns.length : Int) > 8 then (ns.length : Int) else 8) else 62).toNat, ?_, ?_⟩ <;> (split <;> split <;> omega)
    refine for_r (n := (N : Int)) N (by omega) (by omega) (by omega) (fun i σ H' => Same H H' ∧ ∃ v1 v2 v3 v4 v5 v6 v7 v8 v9, σ = [some (.ref a), v1, v2, v3, v4, v5, v6, v7, v8, v9]) ?start ?turn ?done ?ev
    case start => exact ⟨s0, _, _, _, _, _, _, _, _, _, rfl⟩
    case ev =>
      intro R r
      walk_at "go"
      refine g_len (.inl (s0.seq hS)) ?_
      walk_at "go"
      rw [List.length_map, eN]
      exact r
    case done =>
      rintro σ' H' ⟨sm, v1, v2, v3, v4, v5, v6, v7, v8, v9, rfl⟩
      walk_at "go"
      exact q _
    case turn =>
      rintro i σ' H' hi ⟨sm, v1, v2, v3, v4, v5, v6, v7, v8, v9, rfl⟩
      have hS' := sm.seq hS
      walk_at "go"
      refine g_cut (fun σ' H0 => H' = H0 ∧ ∃ c : Int, σ' = [some (.ref a), some (.int i), some (.int c), v3, v4, v5, v6, v7, v8, v9]) ?_ ?_
      · walk_at "go"
        refine g_len (.inl hS') ?_
        walk_at "go"
        rw [List.length_map]
        refine g_ite (fun h => ?_) (fun h => ?_)
        · walk_at "go"
          refine g_ixL hS' (atI_map (by omega) h) ?_
          walk_at "go"
          exact ⟨rfl, _, rfl⟩
        · walk_at "go"
          exact ⟨rfl, _, rfl⟩
      rintro σ' _ ⟨rfl, c, rfl⟩
      walk_at "go"
      refine u_start fun p n hp => ?_
      walk_at "go"
      generalize z1 : upd H' p _ = H1
      have s1 : Same H' H1 := by rw [← z1]; exact same_upd hp
      have k1 : H1 p = some (.lst [.int n]) := (congrFun z1 p).symm.trans upd_same
      clear z1
      refine u_words fun pw qs H2 s2 n2 e2 l2 f2 => ?_
      walk_at "go"
      refine u_digit (s2 _ _ k1) (by decide) (by decide) ?_
      have d0 : 0 ≤ n % 15 := Int.emod_nonneg _ (by decide)
      have d1 : n % 15 < 15 := Int.emod_lt_of_pos _ (by decide)
      obtain ⟨j, ej, hj⟩ : ∃ j : Nat, n % 15 = (j : Int) ∧ j < 15 := ⟨(n % 15).toNat, by omega, by omega⟩
      obtain ⟨⟨z, sz⟩, ex⟩ : ∃ x, wl[j]? = some x := ⟨wl[j]'hj, List.getElem?_eq_getElem hj⟩
      obtain ⟨qq, e3, e4⟩ := f2 j _ ex
      have hm : (z, sz) ∈ items := wl_items _ (List.mem_of_getElem? ex)
      have hb : 1 ≤ sz ∧ sz ≤ 5 ∧ z.length ≤ 8 := by
        have : ∀ x ∈ items, 1 ≤ x.2 ∧ x.2 ≤ 5 ∧ x.1.length ≤ 8 := by decide +kernel
        exact this _ hm
      have hz : z ∈ ws := List.mem_map.mpr ⟨_, hm, rfl⟩
      have npw : pw ≠ p := fun z => by rw [z, k1] at n2; cases n2
      have nq : qq ≠ p := fun z => by
        rw [z, s2 _ _ k1] at e4
        cases e4
      generalize z3 : upd H2 p _ = H3
      have b3 : But p H2 H3 := by rw [← z3]; exact But.refl.upd
      have k3 : H3 p = some (.lst [.int (n / 15)]) := (congrFun z3 p).symm.trans upd_same
      clear z3
      refine g_ixL (sl (b3 _ _ npw e2)) (at_of (j := j) ej (by rw [List.getElem?_map, e3]; rfl)) ?_
      walk_at "go"
      refine g_gtup (st (b3 _ _ nq e4)) rfl ?_
      walk_at "go"
      generalize n / 15 = n3 at k3
      have c3 : But p H' H3 := (But.of (s1.trans s2)).trans b3
      refine g_cut (fun σ' H4 => But p H' H4 ∧ ∃ (m n4 : Int), H4 p = some (.lst [.int n4]) ∧ 1 ≤ m ∧ m ≤ 7 ∧ σ' = [some (.ref a), some (.int i), some (.int c), some (.ref p), some (.str z), some (.int sz), some (.int m), v7, v8, v9]) ?_ ?_
      · walk_at "go"
        refine u_digit k3 (by decide) (by decide) ?_
        walk_at "go"
        refine g_ite (fun h => ?_) (fun h => ?_)
        · walk_at "go"
          refine u_digit upd_same (by decide) (by decide) ?_
          walk_at "go"
          refine ⟨c3.upd.upd, _, _, upd_same, ?_, ?_, rfl⟩
          · have := Int.emod_nonneg (n3 / 3) (show (7 : Int) ≠ 0 by decide); omega
          · have := Int.emod_lt_of_pos (n3 / 3) (show (0 : Int) < 7 by decide); omega
        · walk_at "go"
          exact ⟨c3.upd, _, _, upd_same, by omega, by omega, rfl⟩
      rintro σ' H4 ⟨c4, m, n4, k4, m0, m1, rfl⟩
      walk_at "go"
      refine ⟨by show 1 ≤ sizeLine; decide, fun l1 hl1 => ?_⟩
      generalize z5 : upd H4 l1 _ = H5
      have s5 : Same H4 H5 := by rw [← z5]; exact same_upd hl1
      have k5 : H5 l1 = some (.lst [.str z]) := (congrFun z5 l1).symm.trans upd_same
      clear z5
      walk_at "go"
      refine ⟨by omega, by omega, fun D hD => ?_⟩
      refine lc_digs hD (s5 _ _ k4) (by decide) (by decide) (by omega) (fun x => rfl) fun H6 us n6 b6 e6 k6 l6 _ => ?_
      have nl1 : l1 ≠ p := fun z => by rw [z, k4] at hl1; cases hl1
      refine g_cat (b6 _ _ nl1 k5) e6 ?_ fun l2 hl2 => ?_
      · rw [List.length_map, l6]
        exact My.sz (by show 1 + _ ≤ _; omega)
      generalize z7 : upd H6 l2 _ = H7
      have s7 : Same H6 H7 := by rw [← z7]; exact same_upd hl2
      have k7 : H7 l2 = some (.lst ([.str z] ++ us.map V.int)) := (congrFun z7 l2).symm.trans upd_same
      clear z7
      have np2 : l2 ≠ p := fun z => by rw [z, k6] at hl2; cases hl2
      walk_at "go"
      have c7 : But p H' H7 := ((c4.trans (But.of s5)).trans b6).trans (But.of s7)
      have l6' : (us.map V.int).length = (m - 1).toNat := by rw [List.length_map, l6]
      refine g_cut (fun σ' H8 => H7 = H8 ∧ ∃ d : V, ((sz = m ∧ d = .bl true) ∨ (sz ≠ m ∧ d = .str "invalid")) ∧ σ' = [some (.ref a), some (.int i), some (.int c), some (.ref p), some (.str z), some (.int sz), some (.int m), some (.ref l2), some d, v9]) ?_ ?_
      · walk_at "go"
        refine g_iteN (fun h => ?_) (fun h => ?_)
        · walk_at "go"
          exact ⟨rfl, _, .inr ⟨fun z => h z.symm, rfl⟩, rfl⟩
        · walk_at "go"
          exact ⟨rfl, _, .inl ⟨h.symm, rfl⟩, rfl⟩
      rintro σ' _ ⟨rfl, d, hd, rfl⟩
      walk_at "go"
      refine ⟨l2, _, rfl, .inl ⟨sl k7, fun l3 hl3 => ?_⟩⟩
      walk_at "go"
      generalize z8 : upd H7 l3 _ = H8
      have s8 : Same H7 H8 := by rw [← z8]; exact same_upd hl3
      have k8 : H8 l3 = some (.tup ([.str z] ++ us.map V.int)) := (congrFun z8 l3).symm.trans upd_same
      clear z8
      have c8 := c7.trans (But.of s8)
      refine u_told (st k8) (.inr ⟨z, us.map V.int, rfl, by omega, .inr ⟨sz, hm, ?_⟩⟩)
      have goal_ : ∀ A B : Prop, (sz = m → A) → (sz ≠ m → B) → (sz = ((us.map V.int).length : Int) + 1 ∧ A) ∨ (sz ≠ ((us.map V.int).length : Int) + 1 ∧ B) := by
        intro A B h1 h2
        by_cases e : sz = m
        · exact .inl ⟨by omega, h1 e⟩
        · exact .inr ⟨by omega, h2 e⟩
      refine goal_ _ _ (fun e => ?_) (fun e => ?_)
      all_goals
        rcases hd with ⟨e', rfl⟩ | ⟨e', rfl⟩
        all_goals first | exact absurd e' e | exact absurd e e' | skip
        walk_at "go"
        first | (refine g_rNe rfl ?_) | skip
        walk_at "go"
        refine u_digit (s8 _ _ (s7 _ _ k6)) (by decide) (by decide) ?_
        walk_at "go"
        refine u_strange hz (Int.emod_nonneg _ (by decide)) (Int.emod_lt_of_pos _ (by decide)) fun H9 z' s9 hz' => ?_
        walk_at "go"
        have k9 : H9 l2 = some (.lst (.str z :: us.map V.int)) := by
          refine s9 _ _ ?_
          rw [upd_ne np2]
          exact s8 _ _ k7
        have c9 : But p H' H9 := (c8.upd).trans (But.of s9)
        refine g_setL (j := 0) k9 (ixN_nat (Int.le_refl 0) (by rw [List.length_cons]; omega)) ?_
        walk_at "go"
        generalize z10 : upd H9 l2 _ = H10
        have k10 : H10 l2 = some (.lst (.str z' :: us.map V.int)) := (congrFun z10 l2).symm.trans upd_same
        have c10 : Same H H10 := by
          intro b o e
          have e1 := sm b o e
          have nb : b ≠ p := fun z => by rw [z, hp] at e1; cases e1
          have e6 : H6 b = some o := ((c4.trans (But.of s5)).trans b6) b o nb e1
          have nb2 : b ≠ l2 := fun z => by rw [z, hl2] at e6; cases e6
          rw [← z10, upd_ne nb2]
          exact c9 b o nb e1
        clear z10
        refine ⟨l2, _, rfl, .inl ⟨sl k10, fun l4 hl4 => ?_⟩⟩
        walk_at "go"
        refine u_told (st upd_same) (.inr ⟨z', us.map V.int, rfl, by omega, .inl ⟨hz', ?_⟩⟩)
        walk_at "go"
        exact ⟨c10.trans (same_upd hl4), _, _, _, _, _, _, _, _, _, rfl⟩
end
end My
namespace My
open PySem PySem.Spec L2
local macro_rules | `(tactic| walk_at "side") => `(tactic| first | assumption | decide | omega | exact ⟨by decide, by decide⟩ | exact ⟨by decide, by decide, by decide⟩ | decide +kernel | exact cdivW (by decide +kernel) (by decide +kernel) | exact Or.inl ⟨by omega, by omega⟩ | exact Or.inr ⟨by omega, by omega⟩ | (simp only [List.length_map, List.length_cons, List.length_nil, List.length_append]; omega))
local macro_rules | `(tactic| walk_at "fact") => `(tactic| first | assumption | omega | with_reducible rfl)
local macro_rules | `(tactic| walk_at "use") => `(tactic| fail "use")
local macro_rules | `(tactic| walk_at "go1") => `(tactic| with_reducible first | refine g_seq ?_ | refine g_asg ?_ | refine g_ret ?_ | refine g_ifS ?_ | refine g_drop ?_ | refine g_star ?_ | refine g_nx ?_ | refine g_rt ?_ | refine g_bkE ?_ | refine g_ctE ?_ | refine g_next ?_ | refine g_retN ?_ | refine g_brk ?_ | refine g_ct ?_ | refine g_c ?_ | refine g_op ?_ | refine g_un ?_ | refine g_rI0 ?_ | refine g_rU ?_ | refine g_rEqI ?_ | refine g_rNeI ?_ | refine g_isN ?_ | refine g_rIsB ?_ | refine g_rNotB ?_ | refine g_test ?_ | refine g_B ?_ | refine g_bl ?_ | refine g_and ?_ | refine g_or ?_ | refine g_not ?_ | refine g_andV ?_ | refine g_orV ?_ | refine g_notV ?_ | refine g_if ?_ | refine g_chain ?_ | refine g_yes ?_ | refine g_lc ?_ | refine g_revR ?_ | refine g_rng1 ?_ | refine g_iList ?_ | refine g_nil ?_ | refine g_cons ?_ | refine g_tup ?_ | refine g_lst ?_ | refine g_call ?_ | refine g_CB ?_ | refine g_sl ?_ | refine g_noPart ?_ | refine g_part ?_ | refine g_intE ?_ | refine g_ref ?_ | refine g_fld ?_ | refine g_sfld ?_ | refine g_meth ?_ | refine g_make ?_ | refine g_prop ?_  | refine g_ipI ?_ | refine g_int1 ?_ | refine g_int1B ?_ | refine g_one ?_ | refine g_two ?_ | refine g_isiI ?_ | refine g_isiIB ?_ | refine g_isiB ?_ | refine g_BM ?_ | refine g_BM0 ?_ | refine g_sub ?_)
local macro_rules | `(tactic| walk_at "go") => `(tactic| repeat (first | walk_at "go1" | ((with_reducible refine' g_nameE ?sd_ ?_); case sd_ => dsimp only [List.set_cons_succ, List.set_cons_zero]) | ((with_reducible refine' g_var ?sd_ ?_); case sd_ => exact rfl) | ((with_reducible refine' g_aug ?sd_ ?_); case sd_ => exact rfl) | ((with_reducible refine' g_rI ?sd_ ?_); case sd_ => walk_at "side") | ((with_reducible refine' g_dT ?sd_ ?_); case sd_ => walk_at "fact") | ((with_reducible refine' g_dF ?sd_ ?_); case sd_ => walk_at "fact") | ((with_reducible refine' g_nT ?sd_ ?_); case sd_ => walk_at "fact") | ((with_reducible refine' g_nF ?sd_ ?_); case sd_ => walk_at "fact") | (with_reducible refine g_iT rfl ?_) | (with_reducible refine g_iF rfl ?_) | walk_at "use"))
theorem all_mk {l : PySem.W.OpenLaw} {w : World} {K : PySem.W.Frag} {h : Heap} {mg : Str → Option Value} {fa : Addr} (X : K.In h) (G : h.Ns mainGlobals mg) (hfa : mg "law" = some (.ref fa))
    {t_ITEMS : Addr} {dn_ITEMS : Nat} {hk_ITEMS_0 : Int} {tk_ITEMS_0 : Tok} {tt_ITEMS_0 : Tok} {hk_ITEMS_1 : Int} {tk_ITEMS_1 : Tok} {tt_ITEMS_1 : Tok} {hk_ITEMS_2 : Int} {tk_ITEMS_2 : Tok} {tt_ITEMS_2 : Tok} {hk_ITEMS_3 : Int} {tk_ITEMS_3 : Tok} {tt_ITEMS_3 : Tok} {hk_ITEMS_4 : Int} {tk_ITEMS_4 : Tok} {tt_ITEMS_4 : Tok} {hk_ITEMS_5 : Int} {tk_ITEMS_5 : Tok} {tt_ITEMS_5 : Tok} {hk_ITEMS_6 : Int} {tk_ITEMS_6 : Tok} {tt_ITEMS_6 : Tok} {hk_ITEMS_7 : Int} {tk_ITEMS_7 : Tok} {tt_ITEMS_7 : Tok} {hk_ITEMS_8 : Int} {tk_ITEMS_8 : Tok} {tt_ITEMS_8 : Tok} {hk_ITEMS_9 : Int} {tk_ITEMS_9 : Tok} {tt_ITEMS_9 : Tok} {hk_ITEMS_10 : Int} {tk_ITEMS_10 : Tok} {tt_ITEMS_10 : Tok} {hk_ITEMS_11 : Int} {tk_ITEMS_11 : Tok} {tt_ITEMS_11 : Tok} {hk_ITEMS_12 : Int} {tk_ITEMS_12 : Tok} {tt_ITEMS_12 : Tok} {hk_ITEMS_13 : Int} {tk_ITEMS_13 : Tok} {tt_ITEMS_13 : Tok} {hk_ITEMS_14 : Int} {tk_ITEMS_14 : Tok} {tt_ITEMS_14 : Tok} {C_ThroughlineError : Addr} {C_InvalidDeed : Addr} {C_UnknownHost : Addr} {f_check_deed : Addr} {od_check_deed an_check_deed : Option Addr} {sl_check_deed : Array (Option Value)} {oc_check_deed kV_check_deed dc_check_deed pm_check_deed cd_check_deed ct_check_deed : Value} {f_l_start : Addr} {od_l_start an_l_start : Option Addr} {sl_l_start : Array (Option Value)} {oc_l_start kV_l_start dc_l_start pm_l_start cd_l_start ct_l_start : Value} {f_l_digit : Addr} {od_l_digit an_l_digit : Option Addr} {sl_l_digit : Array (Option Value)} {oc_l_digit kV_l_digit dc_l_digit pm_l_digit cd_l_digit ct_l_digit : Value} {f_l_words : Addr} {od_l_words an_l_words : Option Addr} {sl_l_words : Array (Option Value)} {oc_l_words kV_l_words dc_l_words pm_l_words cd_l_words ct_l_words : Value} {f_l_told : Addr} {od_l_told an_l_told : Option Addr} {sl_l_told : Array (Option Value)} {oc_l_told kV_l_told dc_l_told pm_l_told cd_l_told ct_l_told : Value} {f_l_strange : Addr} {od_l_strange an_l_strange : Option Addr} {sl_l_strange : Array (Option Value)} {oc_l_strange kV_l_strange dc_l_strange pm_l_strange cd_l_strange ct_l_strange : Value} {f_law : Addr} {od_law an_law : Option Addr} {sl_law : Array (Option Value)} {oc_law kV_law dc_law pm_law cd_law ct_law : Value}
    (v_ITEMS : PySem.W.nsIn K mainGlobals "ITEMS" = some (some (.ref t_ITEMS)))
    (dk_ITEMS : K.lookup t_ITEMS = some ⟨.type "dict", none, .dict #[⟨hk_ITEMS_0, .str (PySem.Str.ofString "connect") tk_ITEMS_0, .int 5 tt_ITEMS_0⟩, ⟨hk_ITEMS_1, .str (PySem.Str.ofString "listen") tk_ITEMS_1, .int 4 tt_ITEMS_1⟩, ⟨hk_ITEMS_2, .str (PySem.Str.ofString "unlisten") tk_ITEMS_2, .int 3 tt_ITEMS_2⟩, ⟨hk_ITEMS_3, .str (PySem.Str.ofString "accept") tk_ITEMS_3, .int 3 tt_ITEMS_3⟩, ⟨hk_ITEMS_4, .str (PySem.Str.ofString "write") tk_ITEMS_4, .int 4 tt_ITEMS_4⟩, ⟨hk_ITEMS_5, .str (PySem.Str.ofString "read") tk_ITEMS_5, .int 4 tt_ITEMS_5⟩, ⟨hk_ITEMS_6, .str (PySem.Str.ofString "finish") tk_ITEMS_6, .int 3 tt_ITEMS_6⟩, ⟨hk_ITEMS_7, .str (PySem.Str.ofString "abort") tk_ITEMS_7, .int 3 tt_ITEMS_7⟩, ⟨hk_ITEMS_8, .str (PySem.Str.ofString "release") tk_ITEMS_8, .int 3 tt_ITEMS_8⟩, ⟨hk_ITEMS_9, .str (PySem.Str.ofString "restart") tk_ITEMS_9, .int 2 tt_ITEMS_9⟩, ⟨hk_ITEMS_10, .str (PySem.Str.ofString "tick") tk_ITEMS_10, .int 1 tt_ITEMS_10⟩, ⟨hk_ITEMS_11, .str (PySem.Str.ofString "deliver") tk_ITEMS_11, .int 2 tt_ITEMS_11⟩, ⟨hk_ITEMS_12, .str (PySem.Str.ofString "lose") tk_ITEMS_12, .int 2 tt_ITEMS_12⟩, ⟨hk_ITEMS_13, .str (PySem.Str.ofString "copy") tk_ITEMS_13, .int 2 tt_ITEMS_13⟩, ⟨hk_ITEMS_14, .str (PySem.Str.ofString "mark") tk_ITEMS_14, .int 2 tt_ITEMS_14⟩] dn_ITEMS, #[]⟩)
    (lit_ITEMS : PySem.W.KeysLit w.params [⟨hk_ITEMS_0, .str (PySem.Str.ofString "connect") tk_ITEMS_0, .int 5 tt_ITEMS_0⟩, ⟨hk_ITEMS_1, .str (PySem.Str.ofString "listen") tk_ITEMS_1, .int 4 tt_ITEMS_1⟩, ⟨hk_ITEMS_2, .str (PySem.Str.ofString "unlisten") tk_ITEMS_2, .int 3 tt_ITEMS_2⟩, ⟨hk_ITEMS_3, .str (PySem.Str.ofString "accept") tk_ITEMS_3, .int 3 tt_ITEMS_3⟩, ⟨hk_ITEMS_4, .str (PySem.Str.ofString "write") tk_ITEMS_4, .int 4 tt_ITEMS_4⟩, ⟨hk_ITEMS_5, .str (PySem.Str.ofString "read") tk_ITEMS_5, .int 4 tt_ITEMS_5⟩, ⟨hk_ITEMS_6, .str (PySem.Str.ofString "finish") tk_ITEMS_6, .int 3 tt_ITEMS_6⟩, ⟨hk_ITEMS_7, .str (PySem.Str.ofString "abort") tk_ITEMS_7, .int 3 tt_ITEMS_7⟩, ⟨hk_ITEMS_8, .str (PySem.Str.ofString "release") tk_ITEMS_8, .int 3 tt_ITEMS_8⟩, ⟨hk_ITEMS_9, .str (PySem.Str.ofString "restart") tk_ITEMS_9, .int 2 tt_ITEMS_9⟩, ⟨hk_ITEMS_10, .str (PySem.Str.ofString "tick") tk_ITEMS_10, .int 1 tt_ITEMS_10⟩, ⟨hk_ITEMS_11, .str (PySem.Str.ofString "deliver") tk_ITEMS_11, .int 2 tt_ITEMS_11⟩, ⟨hk_ITEMS_12, .str (PySem.Str.ofString "lose") tk_ITEMS_12, .int 2 tt_ITEMS_12⟩, ⟨hk_ITEMS_13, .str (PySem.Str.ofString "copy") tk_ITEMS_13, .int 2 tt_ITEMS_13⟩, ⟨hk_ITEMS_14, .str (PySem.Str.ofString "mark") tk_ITEMS_14, .int 2 tt_ITEMS_14⟩])
    (low_ITEMS : (t_ITEMS == PySem.sysModules) = false)
    (c_ThroughlineError : PySem.W.nsIn K mainGlobals "ThroughlineError" = some (some (.ref C_ThroughlineError)))
    (be_ThroughlineError : PySem.W.subIn K (.ref C_ThroughlineError) (.type "BaseException") = some true)
    (te_ThroughlineError : PySem.W.typeIn K (.ref C_ThroughlineError) = some (.type "type"))
    (hd_ThroughlineError : PySem.W.hasDictIn K C_ThroughlineError = true)
    (ic_ThroughlineError : PySem.W.isClsIn K C_ThroughlineError = true)
    (c_InvalidDeed : PySem.W.nsIn K mainGlobals "InvalidDeed" = some (some (.ref C_InvalidDeed)))
    (be_InvalidDeed : PySem.W.subIn K (.ref C_InvalidDeed) (.type "BaseException") = some true)
    (te_InvalidDeed : PySem.W.typeIn K (.ref C_InvalidDeed) = some (.type "type"))
    (hd_InvalidDeed : PySem.W.hasDictIn K C_InvalidDeed = true)
    (ic_InvalidDeed : PySem.W.isClsIn K C_InvalidDeed = true)
    (c_UnknownHost : PySem.W.nsIn K mainGlobals "UnknownHost" = some (some (.ref C_UnknownHost)))
    (be_UnknownHost : PySem.W.subIn K (.ref C_UnknownHost) (.type "BaseException") = some true)
    (te_UnknownHost : PySem.W.typeIn K (.ref C_UnknownHost) = some (.type "type"))
    (hd_UnknownHost : PySem.W.hasDictIn K C_UnknownHost = true)
    (ic_UnknownHost : PySem.W.isClsIn K C_UnknownHost = true)
    (xP_InvalidDeed : PySem.W.excIn K C_InvalidDeed [.type "ValueError", .type "Exception", .type "BaseException", .type "object"] "ValueError.__new__" = true)
    (ke_InvalidDeed : PySem.W.keepIn K (.ref C_InvalidDeed) = true)
    (xg_InvalidDeed : PySem.W.findIn K (.ref C_InvalidDeed) "__getattribute__" = some (some (.builtin "BaseException.__getattribute__")))
    (xk_InvalidDeed : PySem.W.findIn K (.ref C_InvalidDeed) "__getattr__" = some none)
    (xa_InvalidDeed : PySem.W.findIn K (.ref C_InvalidDeed) "__class__" = some (some (.builtin "object.__class__")))
    (xm_InvalidDeed : PySem.W.mroIn K C_InvalidDeed (.type "object") = some true)
    (hn_all : PySem.W.specialIn K (.builtin "object.__class__") "__get__" = some (some (.builtin "getset_descriptor.__get__")))
    (ht_all : PySem.W.takesIn K (.builtin "object.__class__") = some true)
    (su_InvalidDeed_InvalidDeed : PySem.W.subIn K (.ref C_InvalidDeed) (.ref C_InvalidDeed) = some true)
    (su_InvalidDeed_ThroughlineError : PySem.W.subIn K (.ref C_InvalidDeed) (.ref C_ThroughlineError) = some true)
    (su_InvalidDeed_UnknownHost : PySem.W.subIn K (.ref C_InvalidDeed) (.ref C_UnknownHost) = some false)
    (sr_InvalidDeed : PySem.W.subIn K (.ref C_InvalidDeed) (.ref C_InvalidDeed) = some true)
    (a_check_deed : PySem.W.nsIn K mainGlobals "check_deed" = some (some (.ref f_check_deed)))
    (l_check_deed : K.lookup f_check_deed = some ⟨oc_check_deed, od_check_deed, .func (PySem.W.fnOf "check_deed" "check_deed" (defArgs s_check_deed) (defBody s_check_deed) (defScope s_check_deed) .none kV_check_deed dc_check_deed pm_check_deed an_check_deed cd_check_deed ct_check_deed), sl_check_deed⟩)
    (cc_check_deed : PySem.W.codeIn K cd_check_deed "check_deed" = true)
    (kk_check_deed : PySem.W.keepIn K (.ref f_check_deed) = true)
    (a_l_start : PySem.W.nsIn K mainGlobals "_law_start" = some (some (.ref f_l_start)))
    (l_l_start : K.lookup f_l_start = some ⟨oc_l_start, od_l_start, .func (PySem.W.fnOf "_law_start" "_law_start" (defArgs s_l_start) (defBody s_l_start) (defScope s_l_start) .none kV_l_start dc_l_start pm_l_start an_l_start cd_l_start ct_l_start), sl_l_start⟩)
    (cc_l_start : PySem.W.codeIn K cd_l_start "_law_start" = true)
    (kk_l_start : PySem.W.keepIn K (.ref f_l_start) = true)
    (a_l_digit : PySem.W.nsIn K mainGlobals "_law_digit" = some (some (.ref f_l_digit)))
    (l_l_digit : K.lookup f_l_digit = some ⟨oc_l_digit, od_l_digit, .func (PySem.W.fnOf "_law_digit" "_law_digit" (defArgs s_l_digit) (defBody s_l_digit) (defScope s_l_digit) .none kV_l_digit dc_l_digit pm_l_digit an_l_digit cd_l_digit ct_l_digit), sl_l_digit⟩)
    (cc_l_digit : PySem.W.codeIn K cd_l_digit "_law_digit" = true)
    (kk_l_digit : PySem.W.keepIn K (.ref f_l_digit) = true)
    (a_l_words : PySem.W.nsIn K mainGlobals "_law_words" = some (some (.ref f_l_words)))
    (l_l_words : K.lookup f_l_words = some ⟨oc_l_words, od_l_words, .func (PySem.W.fnOf "_law_words" "_law_words" (defArgs s_l_words) (defBody s_l_words) (defScope s_l_words) .none kV_l_words dc_l_words pm_l_words an_l_words cd_l_words ct_l_words), sl_l_words⟩)
    (cc_l_words : PySem.W.codeIn K cd_l_words "_law_words" = true)
    (kk_l_words : PySem.W.keepIn K (.ref f_l_words) = true)
    (a_l_told : PySem.W.nsIn K mainGlobals "_law_told" = some (some (.ref f_l_told)))
    (l_l_told : K.lookup f_l_told = some ⟨oc_l_told, od_l_told, .func (PySem.W.fnOf "_law_told" "_law_told" (defArgs s_l_told) (defBody s_l_told) (defScope s_l_told) .none kV_l_told dc_l_told pm_l_told an_l_told cd_l_told ct_l_told), sl_l_told⟩)
    (cc_l_told : PySem.W.codeIn K cd_l_told "_law_told" = true)
    (kk_l_told : PySem.W.keepIn K (.ref f_l_told) = true)
    (a_l_strange : PySem.W.nsIn K mainGlobals "_law_strange" = some (some (.ref f_l_strange)))
    (l_l_strange : K.lookup f_l_strange = some ⟨oc_l_strange, od_l_strange, .func (PySem.W.fnOf "_law_strange" "_law_strange" (defArgs s_l_strange) (defBody s_l_strange) (defScope s_l_strange) .none kV_l_strange dc_l_strange pm_l_strange an_l_strange cd_l_strange ct_l_strange), sl_l_strange⟩)
    (cc_l_strange : PySem.W.codeIn K cd_l_strange "_law_strange" = true)
    (kk_l_strange : PySem.W.keepIn K (.ref f_l_strange) = true)
    (a_law : PySem.W.nsIn K mainGlobals "law" = some (some (.ref f_law)))
    (l_law : K.lookup f_law = some ⟨oc_law, od_law, .func (PySem.W.fnOf "law" "law" (defArgs s_law) (defBody s_law) (defScope s_law) .none kV_law dc_law pm_law an_law cd_law ct_law), sl_law⟩)
    (cc_law : PySem.W.codeIn K cd_law "law" = true)
    (kk_law : PySem.W.keepIn K (.ref f_law) = true)
    (z_int : PySem.W.nsIn K mainGlobals "int" = some none)
    (z_isinstance : PySem.W.nsIn K mainGlobals "isinstance" = some none)
    (z_len : PySem.W.nsIn K mainGlobals "len" = some none)
    (z_max : PySem.W.nsIn K mainGlobals "max" = some none)
    (z_min : PySem.W.nsIn K mainGlobals "min" = some none)
    (z_range : PySem.W.nsIn K mainGlobals "range" = some none)
    (z_tuple : PySem.W.nsIn K mainGlobals "tuple" = some none)
    : ∃ fd : FuncData, (∀ (s : Shared) (v : Value), BindsTo s fd ⟨[v], []⟩ [("script", v)]) ∧ ∀ base : Heap, K.In base → base.Ns mainGlobals mg → FnOk l.prog w K mg base CX0 3 fa fd ["script"] (sp_law K) := by
  have e := hfa.symm.trans (PySem.W.mg_of X G a_law)
  have e2 : f_law = fa := by
    injection e with e
    injection e with e
    exact e.symm
  subst e2
  have F_check_deed := fun_mk (st := s_check_deed) l_check_deed cc_check_deed kk_check_deed
  have b_check_deed := F_check_deed.binds (ps := ["deed"]) fun _ _ _ _ _ _ us hl => match us, hl with | [_], _ => rfl
  have F_l_start := fun_mk (st := s_l_start) l_l_start cc_l_start kk_l_start
  have b_l_start := F_l_start.binds (ps := ["cell", "k"]) fun _ _ _ _ _ _ us hl => match us, hl with | [_, _], _ => rfl
  have F_l_digit := fun_mk (st := s_l_digit) l_l_digit cc_l_digit kk_l_digit
  have b_l_digit := F_l_digit.binds (ps := ["state", "many"]) fun _ _ _ _ _ _ us hl => match us, hl with | [_, _], _ => rfl
  have F_l_words := fun_mk (st := s_l_words) l_l_words cc_l_words kk_l_words
  have b_l_words := F_l_words.binds (ps := []) fun _ _ _ _ _ _ us hl => match us, hl with | [], _ => rfl
  have F_l_told := fun_mk (st := s_l_told) l_l_told cc_l_told kk_l_told
  have b_l_told := F_l_told.binds (ps := ["deed"]) fun _ _ _ _ _ _ us hl => match us, hl with | [_], _ => rfl
  have F_l_strange := fun_mk (st := s_l_strange) l_l_strange cc_l_strange kk_l_strange
  have b_l_strange := F_l_strange.binds (ps := ["word", "kind"]) fun _ _ _ _ _ _ us hl => match us, hl with | [_, _], _ => rfl
  have F_law := fun_mk (st := s_law) l_law cc_law kk_law
  have b_law := F_law.binds (ps := ["script"]) fun _ _ _ _ _ _ us hl => match us, hl with | [_], _ => rfl
  let T : Txt w K mg := { t_ITEMS := t_ITEMS, de_ITEMS := _, dn_ITEMS := _, C_ThroughlineError := C_ThroughlineError, C_InvalidDeed := C_InvalidDeed, C_UnknownHost := C_UnknownHost, f_check_deed := f_check_deed, d_check_deed := _, f_l_start := f_l_start, d_l_start := _, f_l_digit := f_l_digit, d_l_digit := _, f_l_words := f_l_words, d_l_words := _, f_l_told := f_l_told, d_l_told := _, f_l_strange := f_l_strange, d_l_strange := _, f_law := f_law, d_law := _, v_ITEMS := PySem.W.mg_of X G v_ITEMS, kd_ITEMS := ⟨dk_ITEMS, lit_ITEMS, low_ITEMS⟩, ik_ITEMS_connect := ⟨.int 5 tt_ITEMS_0, ns_entry dk_ITEMS (by kernel_rfl), ⟨tt_ITEMS_0, rfl⟩⟩, ik_ITEMS_listen := ⟨.int 4 tt_ITEMS_1, ns_entry dk_ITEMS (by kernel_rfl), ⟨tt_ITEMS_1, rfl⟩⟩, ik_ITEMS_unlisten := ⟨.int 3 tt_ITEMS_2, ns_entry dk_ITEMS (by kernel_rfl), ⟨tt_ITEMS_2, rfl⟩⟩, ik_ITEMS_accept := ⟨.int 3 tt_ITEMS_3, ns_entry dk_ITEMS (by kernel_rfl), ⟨tt_ITEMS_3, rfl⟩⟩, ik_ITEMS_write := ⟨.int 4 tt_ITEMS_4, ns_entry dk_ITEMS (by kernel_rfl), ⟨tt_ITEMS_4, rfl⟩⟩, ik_ITEMS_read := ⟨.int 4 tt_ITEMS_5, ns_entry dk_ITEMS (by kernel_rfl), ⟨tt_ITEMS_5, rfl⟩⟩, ik_ITEMS_finish := ⟨.int 3 tt_ITEMS_6, ns_entry dk_ITEMS (by kernel_rfl), ⟨tt_ITEMS_6, rfl⟩⟩, ik_ITEMS_abort := ⟨.int 3 tt_ITEMS_7, ns_entry dk_ITEMS (by kernel_rfl), ⟨tt_ITEMS_7, rfl⟩⟩, ik_ITEMS_release := ⟨.int 3 tt_ITEMS_8, ns_entry dk_ITEMS (by kernel_rfl), ⟨tt_ITEMS_8, rfl⟩⟩, ik_ITEMS_restart := ⟨.int 2 tt_ITEMS_9, ns_entry dk_ITEMS (by kernel_rfl), ⟨tt_ITEMS_9, rfl⟩⟩, ik_ITEMS_tick := ⟨.int 1 tt_ITEMS_10, ns_entry dk_ITEMS (by kernel_rfl), ⟨tt_ITEMS_10, rfl⟩⟩, ik_ITEMS_deliver := ⟨.int 2 tt_ITEMS_11, ns_entry dk_ITEMS (by kernel_rfl), ⟨tt_ITEMS_11, rfl⟩⟩, ik_ITEMS_lose := ⟨.int 2 tt_ITEMS_12, ns_entry dk_ITEMS (by kernel_rfl), ⟨tt_ITEMS_12, rfl⟩⟩, ik_ITEMS_copy := ⟨.int 2 tt_ITEMS_13, ns_entry dk_ITEMS (by kernel_rfl), ⟨tt_ITEMS_13, rfl⟩⟩, ik_ITEMS_mark := ⟨.int 2 tt_ITEMS_14, ns_entry dk_ITEMS (by kernel_rfl), ⟨tt_ITEMS_14, rfl⟩⟩, nk_ITEMS := fun z hz => ns_out dk_ITEMS rfl hz, c_ThroughlineError := PySem.W.mg_of X G c_ThroughlineError, c_InvalidDeed := PySem.W.mg_of X G c_InvalidDeed, c_UnknownHost := PySem.W.mg_of X G c_UnknownHost, xP_InvalidDeed := xP_InvalidDeed, ke_InvalidDeed := ke_InvalidDeed, be_InvalidDeed := be_InvalidDeed, te_InvalidDeed := te_InvalidDeed, xc_InvalidDeed := ⟨xg_InvalidDeed, xk_InvalidDeed, be_InvalidDeed, hd_InvalidDeed, xa_InvalidDeed, hn_all, ht_all, xm_InvalidDeed⟩, em_InvalidDeed_InvalidDeed := PySem.W.exm_ref be_InvalidDeed hd_InvalidDeed te_InvalidDeed su_InvalidDeed_InvalidDeed, ko_InvalidDeed_ThroughlineError := kit_refT ic_ThroughlineError te_ThroughlineError su_InvalidDeed_ThroughlineError, ko_InvalidDeed_UnknownHost := kit_refF ic_UnknownHost te_UnknownHost su_InvalidDeed_UnknownHost sr_InvalidDeed, F_check_deed := F_check_deed, b_check_deed := b_check_deed, m_check_deed := PySem.W.mg_of X G a_check_deed, F_l_start := F_l_start, b_l_start := b_l_start, m_l_start := PySem.W.mg_of X G a_l_start, F_l_digit := F_l_digit, b_l_digit := b_l_digit, m_l_digit := PySem.W.mg_of X G a_l_digit, F_l_words := F_l_words, b_l_words := b_l_words, m_l_words := PySem.W.mg_of X G a_l_words, F_l_told := F_l_told, b_l_told := b_l_told, m_l_told := PySem.W.mg_of X G a_l_told, F_l_strange := F_l_strange, b_l_strange := b_l_strange, m_l_strange := PySem.W.mg_of X G a_l_strange, F_law := F_law, b_law := b_law, m_law := PySem.W.mg_of X G a_law, n_int := PySem.W.mg_none_of X G z_int, n_isinstance := PySem.W.mg_none_of X G z_isinstance, n_len := PySem.W.mg_none_of X G z_len, n_max := PySem.W.mg_none_of X G z_max, n_min := PySem.W.mg_none_of X G z_min, n_range := PySem.W.mg_none_of X G z_range, n_tuple := PySem.W.mg_none_of X G z_tuple }
  exact ⟨PySem.W.fnOf "law" "law" (defArgs s_law) (defBody s_law) (defScope s_law) .none kV_law dc_law pm_law an_law cd_law ct_law, fun s v => .of_eq rfl, fun base _ _ => ok_law T⟩
theorem walk {l : PySem.W.OpenLaw} {q : Program} {loose : List Str} {XP : (Str → Option Value) → Heap → Prop} {YP : World → Heap → Prop} {d : DefRec} {K : Params → PySem.W.Frag} (hn : l.most = some 63) (hdf : d.params.defaults = [])
    (hY : ∀ (w : World) (h : Heap), YP w h → (K w.params).In h)
    (F : ∀ (w : World) (mg : Str → Option Value) (fa : Addr) (h : Heap), (K w.params).In h → h.Ns mainGlobals mg → mg d.name = some (.ref fa) →
      ∃ fd : FuncData, (∀ (s : Shared) (u : Value), BindsTo s fd ⟨[u], []⟩ [("script", u)]) ∧ ∀ base : Heap, (K w.params).In base → base.Ns mainGlobals mg → FnOk l.prog w (K w.params) mg base CX0 3 fa fd ["script"] (sp_law (K w.params))) :
    PySem.W.WalkO q loose XP YP l.row.toRowW d [] (fun f vs => PySem.call f vs) :=
  L2.walk_of (n := 63) (k := 3) (x := "script") (CX := fun _ => CX0) (sp := fun w => sp_law (K w.params)) hn (by decide) hdf ⟨rfl, by decide, by decide⟩ hY F (fun _ _ a ns hl _ hS => ⟨a, ns, rfl, hS, hl, fun _ => rfl⟩) fun _ _ _ _ _ z => z
end My
open PySem PySem.W PyProof.Rows
set_option maxRecDepth 100000 in
set_option maxHeartbeats 0 in
theorem PySem.Challenge.cw_throughline_k63_forms_of_deeds_holds : PySem.Challenge.rw_throughline_k63_forms_of_deeds.Holds := by
  w_on; o_law; k_head; (case hw => w_witness2)
  k_fill
  refine My.walk (l := PySem.Challenge.rw_throughline_k63_forms_of_deeds) rfl rfl (fun w h Y => PySem.W.kIn_of Y) ?F
  case F =>
    intro w mg fa h KX G hmg
    refine' My.all_mk KX G hmg ?v_ITEMS ?dk_ITEMS ?lit_ITEMS ?low_ITEMS ?c_ThroughlineError ?be_ThroughlineError ?te_ThroughlineError ?hd_ThroughlineError ?ic_ThroughlineError ?c_InvalidDeed ?be_InvalidDeed ?te_InvalidDeed ?hd_InvalidDeed ?ic_InvalidDeed ?c_UnknownHost ?be_UnknownHost ?te_UnknownHost ?hd_UnknownHost ?ic_UnknownHost ?xP_InvalidDeed ?ke_InvalidDeed ?xg_InvalidDeed ?xk_InvalidDeed ?xa_InvalidDeed ?xm_InvalidDeed ?hn_all ?ht_all ?su_InvalidDeed_InvalidDeed ?su_InvalidDeed_ThroughlineError ?su_InvalidDeed_UnknownHost ?sr_InvalidDeed ?a_check_deed ?l_check_deed ?cc_check_deed ?kk_check_deed ?a_l_start ?l_l_start ?cc_l_start ?kk_l_start ?a_l_digit ?l_l_digit ?cc_l_digit ?kk_l_digit ?a_l_words ?l_l_words ?cc_l_words ?kk_l_words ?a_l_told ?l_l_told ?cc_l_told ?kk_l_told ?a_l_strange ?l_l_strange ?cc_l_strange ?kk_l_strange ?a_law ?l_law ?cc_law ?kk_law ?z_int ?z_isinstance ?z_len ?z_max ?z_min ?z_range ?z_tuple
    (case v_ITEMS => k_is)
    (case dk_ITEMS => k_is)
    (case lit_ITEMS => exact ⟨⟨_, _, rfl, rfl⟩, ⟨_, _, rfl, rfl⟩, ⟨_, _, rfl, rfl⟩, ⟨_, _, rfl, rfl⟩, ⟨_, _, rfl, rfl⟩, ⟨_, _, rfl, rfl⟩, ⟨_, _, rfl, rfl⟩, ⟨_, _, rfl, rfl⟩, ⟨_, _, rfl, rfl⟩, ⟨_, _, rfl, rfl⟩, ⟨_, _, rfl, rfl⟩, ⟨_, _, rfl, rfl⟩, ⟨_, _, rfl, rfl⟩, ⟨_, _, rfl, rfl⟩, ⟨_, _, rfl, rfl⟩, trivial⟩)
    (case low_ITEMS => first | rfl | decide)
    (case c_ThroughlineError => k_is)
    (case be_ThroughlineError => k_is)
    (case te_ThroughlineError => k_is)
    (case hd_ThroughlineError => k_is)
    (case ic_ThroughlineError => k_is)
    (case c_InvalidDeed => k_is)
    (case be_InvalidDeed => k_is)
    (case te_InvalidDeed => k_is)
    (case hd_InvalidDeed => k_is)
    (case ic_InvalidDeed => k_is)
    (case c_UnknownHost => k_is)
    (case be_UnknownHost => k_is)
    (case te_UnknownHost => k_is)
    (case hd_UnknownHost => k_is)
    (case ic_UnknownHost => k_is)
    (case xP_InvalidDeed => k_exc)
    (case ke_InvalidDeed => k_is)
    (case xg_InvalidDeed => k_is)
    (case xk_InvalidDeed => k_is)
    (case xa_InvalidDeed => k_is)
    (case xm_InvalidDeed => k_is)
    (case hn_all => k_is)
    (case ht_all => k_is)
    (case su_InvalidDeed_InvalidDeed => first | k_is | rfl)
    (case su_InvalidDeed_ThroughlineError => first | k_is | rfl)
    (case su_InvalidDeed_UnknownHost => first | k_is | rfl)
    (case sr_InvalidDeed => first | rfl | k_is)
    (case a_check_deed => k_is)
    (case l_check_deed => k_is)
    (case cc_check_deed => k_is)
    (case kk_check_deed => k_is)
    (case a_l_start => k_is)
    (case l_l_start => k_is)
    (case cc_l_start => k_is)
    (case kk_l_start => k_is)
    (case a_l_digit => k_is)
    (case l_l_digit => k_is)
    (case cc_l_digit => k_is)
    (case kk_l_digit => k_is)
    (case a_l_words => k_is)
    (case l_l_words => k_is)
    (case cc_l_words => k_is)
    (case kk_l_words => k_is)
    (case a_l_told => k_is)
    (case l_l_told => k_is)
    (case cc_l_told => k_is)
    (case kk_l_told => k_is)
    (case a_l_strange => k_is)
    (case l_l_strange => k_is)
    (case cc_l_strange => k_is)
    (case kk_l_strange => k_is)
    (case a_law => k_is)
    (case l_law => k_is)
    (case cc_law => k_is)
    (case kk_law => k_is)
    (case z_int => k_is)
    (case z_isinstance => k_is)
    (case z_len => k_is)
    (case z_max => k_is)
    (case z_min => k_is)
    (case z_range => k_is)
    (case z_tuple => k_is)
#print axioms PySem.Challenge.cw_throughline_k63_forms_of_deeds_holds

