import PyProof.Rows.All
import Wide.All
import OpenK.AllK
import Wide.FinOn
import HandS.ForMost
import HandS.IsInst
import HandS.Wide
import HandS.Style
import HandS.Conv
import HandS.RevRange
import HandS.Walk
import HandS.Property
import HandS.Star
import HandS.Codes
import HandS.TupAny
import HandS.WideBits
import HandS.MakeKwOnly
import HandS.Defaults
import HandS.Iter
import HandS.Small
import HandS.More
import HandS.Flow
import PySem.Challenge.RW_throughline_k60_verdicts
set_option Elab.async false
set_option linter.all false
set_option maxRecDepth 100000
set_option maxHeartbeats 4000000
namespace My
open PySem PySem.Spec L2
/-! ### readings, one rule a construct -/
section
variable {K : PySem.W.Frag} {σ : St} {H : Hp} {Q : VK} {v x y z : V} {ta tb te tc : TE} {tt tu : TT} {r : R2} {D : Ends} {ts us : TS} {P : Bool → Hp → Prop} {i j : Int}
theorem g_var {i : Nat} (h : σ[i]? = some (some v)) (q : Q v H) : tVar i σ H Q := ⟨v, h, q⟩
theorem g_c (q : Q v H) : tC v σ H Q := q
theorem g_op (h : ta σ H fun x H1 => tb σ H1 fun y H2 => r x y H2 Q) : tOp r ta tb σ H Q := h
theorem g_un {r : V → Hp → VK → Prop} (h : ta σ H fun x H1 => r x H1 Q) : tUn r ta σ H Q := h
theorem g_rI0 {g : Int → Int → V} (q : Q (g i j) H) : rI0 g (.int i) (.int j) H Q := ⟨i, j, rfl, rfl, q⟩
theorem g_rI {C : Int → Int → Prop} {g : Int → Int → V} (c : C i j) (q : Q (g i j) H) : rI C g (.int i) (.int j) H Q := ⟨i, j, rfl, rfl, c, q⟩
theorem g_rU {g : Int → V} (q : Q (g i) H) : rU g (.int i) H Q := ⟨i, rfl, q⟩
theorem g_rEqI (q : Q (.bl (decide (i = j))) H) : rEq (.int i) (.int j) H Q := ⟨rfl, by rw [dec_int]; exact q⟩
theorem g_rNeI (q : Q (.bl (!decide (i = j))) H) : rNe (.int i) (.int j) H Q := ⟨rfl, by rw [dec_int]; exact q⟩
theorem g_rEq (s : scal x y = true) (q : Q (.bl (decide (x = y))) H) : rEq x y H Q := ⟨s, q⟩
theorem g_rNe (s : scal x y = true) (q : Q (.bl (!decide (x = y))) H) : rNe x y H Q := ⟨s, q⟩
theorem g_isN {A : Prop} (q : A) : V.non = V.non ∧ A := ⟨rfl, q⟩
theorem g_rIsB {a b : Bool} (q : Q (.bl (decide (a = b))) H) : rIsB (.bl a) (.bl b) H Q := ⟨a, b, rfl, rfl, q⟩
theorem g_rNotB {a b : Bool} (q : Q (.bl (!decide (a = b))) H) : rNotB (.bl a) (.bl b) H Q := ⟨a, b, rfl, rfl, q⟩
theorem g_test {t : TE} (h : t σ H fun x H' => ∃ k, x = .bl k ∧ P k H') : tTest t σ H P := h
theorem g_B {t : TE} (h : t σ H fun x H' => ∃ k, x = .bl k ∧ P k H') : tB t σ H P := h
theorem g_bl {b : Bool} {A : Bool → Prop} (q : A b) : ∃ k, V.bl b = .bl k ∧ A k := ⟨b, rfl, q⟩
theorem g_and (h : tt σ H fun c H1 => if c = true then tu σ H1 P else P false H1) : tAnd tt tu σ H P := h
theorem g_or (h : tt σ H fun c H1 => if c = true then P true H1 else tu σ H1 P) : tOr tt tu σ H P := h
theorem g_not (h : tt σ H fun c H1 => P (!c) H1) : tNot tt σ H P := h
theorem g_andV (h : ta σ H fun x H1 => ∃ c, x = .bl c ∧ if c = true then tb σ H1 Q else Q (.bl false) H1) : tAndV ta tb σ H Q := h
theorem g_orV (h : ta σ H fun x H1 => ∃ c, x = .bl c ∧ if c = true then Q (.bl true) H1 else tb σ H1 Q) : tOrV ta tb σ H Q := h
theorem g_notV (h : ta σ H fun x H1 => ∃ c, x = .bl c ∧ Q (.bl (!c)) H1) : tNotV ta σ H Q := h
theorem g_if (h : tt σ H fun c H1 => if c = true then ta σ H1 Q else tb σ H1 Q) : tIf tt ta tb σ H Q := h
theorem g_chain {r' : R2} (h : ta σ H fun x H1 => tb σ H1 fun y H2 => r x y H2 fun z H3 => ∃ k, z = .bl k ∧ (if k = true then tc σ H3 fun w' H4 => r' y w' H4 Q else Q (.bl false) H3)) : tChain r r' ta tb tc σ H Q := h
theorem g_nil {A : List V → Hp → Prop} (q : A [] H) : tNil σ H A := q
theorem g_cons {tr : TA} {A : List V → Hp → Prop} (h : ta σ H fun x H1 => tr σ H1 fun xs H2 => A (x :: xs) H2) : tCons ta tr σ H A := h
theorem g_tup {t : TA} (h : t σ H fun xs H1 => xs.length ≤ sizeLine ∧ ∀ p, H1 p = none → Q (.ref p) (upd H1 p (.tup xs))) : tTup t σ H Q := h
theorem g_lst {t : TA} (h : t σ H fun xs H1 => xs.length ≤ sizeLine ∧ ∀ p, H1 p = none → Q (.ref p) (upd H1 p (.lst xs))) : tLst t σ H Q := h
theorem g_call {sp : Sp} {dvs : List V} {E : XK} {t : TA} (h : t σ H fun vs H1 => sp (vs ++ dvs) H1 Q E) : tCall sp dvs E t σ H Q := h
theorem g_CB {r : List V → Hp → VK → Prop} {t : TA} (h : t σ H fun vs H1 => r vs H1 Q) : tCB r t σ H Q := h
theorem g_sl {r : V → Option Int → Option Int → Hp → VK → Prop} {tl th : TO} (h : te σ H fun x H1 => tl σ H1 fun l H2 => th σ H2 fun u H3 => r x l u H3 Q) : tSl r te tl th σ H Q := h
theorem g_noPart {A : Option Int → Hp → Prop} (q : A none H) : tNoPart σ H A := q
theorem g_part {A : Option Int → Hp → Prop} (h : te σ H fun x H1 => ∃ i, x = .int i ∧ A (some i) H1) : tPart te σ H A := h
theorem g_intE {A : Int → Prop} (q : A i) : ∃ k, V.int i = .int k ∧ A k := ⟨i, rfl, q⟩
theorem g_seq (h : ts { D with nx := us D } σ H) : tSeq ts us D σ H := h
theorem g_next (q : D.nx σ H) : tNext D σ H := q
theorem g_brk (q : D.bk σ H) : tBreak D σ H := q
theorem g_ct (q : D.ct σ H) : tCont D σ H := q
theorem g_asg {g : TG} (h : te σ H fun x H1 => g x σ H1 D.nx) : tAsg te g D σ H := h
theorem g_name {i : Nat} {A : St → Hp → Prop} (q : A (σ.set i (some v)) H) : gName i v σ H A := q
theorem g_aug {i : Nat} {ti : TIp} (h : σ[i]? = some (some x)) (q : te σ H fun y H1 => ti x y H1 fun z H2 => D.nx (σ.set i (some z)) H2) : tAug i te ti D σ H := ⟨x, h, q⟩
theorem g_ipI {f : Int → Int → Int} (q : Q (.int (f i j)) H) : ipI f (.int i) (.int j) H Q := ⟨i, j, rfl, rfl, q⟩
theorem g_drop (h : te σ H fun _ H1 => D.nx σ H1) : tDrop te D σ H := h
theorem g_ret (h : te σ H D.rt) : tRet te D σ H := h
theorem g_retN (q : D.rt .non H) : tRetN D σ H := q
theorem g_ifS (h : tt σ H fun b H1 => if b = true then ts D σ H1 else us D σ H1) : tIfS tt ts us D σ H := h
theorem g_for {wi : TI} {g : TG} {tb : TS} (h : wi σ H fun J H1 => ∃ W : Nat → Nat → St → Hp → Prop, (∃ m, W 0 m σ H1) ∧ ∀ i m σ H, W i m σ H →
    (J.stop i H ∧ D.nx σ H) ∨ (J.go i H ∧ ∃ N : St → Hp → Prop, (∀ σ' H', N σ' H' → ∃ m', m' < m ∧ W (i + 1) m' σ' H') ∧ ∀ x H', J.yld i H x H' → g x σ H' fun σ2 H2 => tb { D with nx := N, ct := N, bk := D.nx } σ2 H2)) : tFor wi g tb D σ H := h
theorem g_iT {c : Bool} {A B : Prop} (e : c = true) (h : A) : if c = true then A else B := by rw [if_pos e]; exact h
theorem g_iF {c : Bool} {A B : Prop} (e : c = false) (h : B) : if c = true then A else B := by rw [e]; exact iteF h
theorem g_ite {p A B : Prop} [Decidable p] (h1 : p → A) (h2 : ¬ p → B) : if decide p = true then A else B := by
  by_cases h : p
  · rw [decide_eq_true h]; exact iteT (h1 h)
  · rw [decide_eq_false h]; exact iteF (h2 h)
theorem g_iteN {p A B : Prop} [Decidable p] (h1 : ¬ p → A) (h2 : p → B) : if (!decide p) = true then A else B := by
  by_cases h : p
  · rw [decide_eq_true h]; exact iteF (h2 h)
  · rw [decide_eq_false h]; exact iteT (h1 h)
theorem g_iteB {b : Bool} {A B : Prop} (h1 : b = true → A) (h2 : b = false → B) : if b = true then A else B := by
  cases b with
  | true => exact iteT (h1 rfl)
  | false => exact iteF (h2 rfl)
theorem g_iteNB {b : Bool} {A B : Prop} (h1 : b = false → A) (h2 : b = true → B) : if (!b) = true then A else B := by
  cases b with
  | true => exact iteF (h2 rfl)
  | false => exact iteT (h1 rfl)
/-! calls of built-ins, by values -/
theorem g_int1 {A : Int → Prop} {B : Bool → Prop} (q : A i) : (∃ i', [V.int i] = [V.int i'] ∧ A i') ∨ ∃ k, [V.int i] = [V.bl k] ∧ B k := .inl ⟨i, rfl, q⟩
theorem g_int1B {b : Bool} {A : Int → Prop} {B : Bool → Prop} (q : B b) : (∃ i', [V.bl b] = [V.int i'] ∧ A i') ∨ ∃ k, [V.bl b] = [V.bl k] ∧ B k := .inr ⟨b, rfl, q⟩
theorem g_one {A : Int → Prop} (q : A i) : ∃ i', [V.int i] = [V.int i'] ∧ A i' := ⟨i, rfl, q⟩
theorem g_two {A : Int → Int → Prop} (q : A i j) : ∃ i' j', [V.int i, V.int j] = [V.int i', V.int j'] ∧ A i' j' := ⟨i, j, rfl, q⟩
theorem g_isi {c : V} {t u : Value} {b : Bool} (hc : ClsV c u) (ht : TyX K H x t) (e : PySem.W.kitOne K t u = some b) (q : Q (.bl b) H) : rIsi K [x, c] H Q := ⟨x, c, t, u, b, rfl, hc, ht, e, q⟩
theorem g_isiI (q : Q (.bl true) H) : rIsi K [.int i, .ty "int"] H Q := g_isi (.ty _) (.base (.int _)) (kit_ty (by decide +kernel)) q
theorem g_isiB {b : Bool} (q : Q (.bl true) H) : rIsi K [.bl b, .ty "bool"] H Q := g_isi (.ty _) (.base (.bl _)) (kit_ty (by decide +kernel)) q
theorem g_isiIB (q : Q (.bl false) H) : rIsi K [.int i, .ty "bool"] H Q := g_isi (.ty _) (.base (.int _)) (kit_ty (by decide +kernel)) q
theorem g_isiL {p : Addr} {xs : List V} (h : H p = some (.lst xs)) (q : Q (.bl true) H) : rIsi K [.ref p, .ty "list"] H Q := g_isi (.ty _) (.base (.lst h)) (kit_ty (by decide +kernel)) q
theorem g_isiU {p : Addr} {xs : List V} (h : H p = some (.tup xs)) (q : Q (.bl true) H) : rIsi K [.ref p, .ty "tuple"] H Q := g_isi (.ty _) (.base (.tup h)) (kit_ty (by decide +kernel)) q
theorem g_ixL {p : Addr} {xs : List V} (h : SqL K H p xs) (e : atI xs i = some v) (q : Q v H) : rIxL K (.ref p) (.int i) H Q := ⟨p, xs, i, v, rfl, rfl, h, e, q⟩
theorem g_ixT {p : Addr} {xs : List V} (h : SqT K H p xs) (e : atI xs i = some v) (q : Q v H) : rIxT K (.ref p) (.int i) H Q := ⟨p, xs, i, v, rfl, rfl, h, e, q⟩
theorem g_append {p : Addr} {xs : List V} (h : H p = some (.lst xs)) (l : xs.length < sizeLine) (q : Q .non (upd H p (.lst (xs ++ [y])))) : rAppend (.ref p) [y] H Q := ⟨p, xs, y, rfl, rfl, h, l, q⟩
theorem g_BM {T : String} {r : V → List V → Hp → VK → Prop} {t : TA} (h : te σ H fun x H1 => tyV K T x H1 ∧ t σ H1 fun xs H2 => r x xs H2 Q) : tBM K T r te t σ H Q := h
theorem g_BM0 {T : String} {r : V → List V → Hp → VK → Prop} (h : te σ H fun x H1 => tyV K T x H1 ∧ r x [] H1 Q) : tBM0 K T r te σ H Q := h
theorem ty_l {p : Addr} {xs : List V} (h : H p = some (.lst xs)) : tyV K "list" (.ref p) H := Or.inl ⟨rfl, _, Or.inl (Or.inl h)⟩
theorem g_setL {p : Addr} {xs : List V} {k : Int} {j : Nat} {A : Hp → Prop} (h : H p = some (.lst xs)) (e : ixN xs.length k = some j) (q : A (upd H p (.lst (xs.set j v)))) : rSetL (.ref p) (.int k) v H A := ⟨p, xs, k, j, rfl, rfl, h, e, q⟩
theorem g_sub {to ti : TE} {t : TSet} {A : St → Hp → Prop} (h : to σ H fun o H1 => ti σ H1 fun i H2 => t o i v H2 fun H3 => A σ H3) : gSub to ti t v σ H A := h
theorem g_len {p : Addr} {xs : List V} {A : Addr → List V → Prop} (h : SqL K H p xs ∨ SqT K H p xs) (q : A p xs) : ∃ p' ys, [V.ref p] = [V.ref p'] ∧ (SqL K H p' ys ∨ SqT K H p' ys) ∧ A p' ys := ⟨p, xs, rfl, h, q⟩
theorem g_slL {p : Addr} {xs : List V} {lo hi : Option Int} (h : SqL K H p xs) (q : ∀ l, H l = none → Q (.ref l) (upd H l (.lst (cutV xs lo hi)))) : rSlL K (.ref p) lo hi H Q := ⟨p, xs, rfl, h, q⟩
theorem g_cat {p q : Addr} {xs ys : List V} (h : H p = some (.lst xs)) (h2 : H q = some (.lst ys)) (l : xs.length + ys.length ≤ sizeLine) (k : ∀ l, H l = none → Q (.ref l) (upd H l (.lst (xs ++ ys)))) : rCat (.ref p) (.ref q) H Q := ⟨p, q, xs, ys, rfl, rfl, h, h2, l, k⟩
end
/-! ### heaps -/
theorem same_upd {H : Hp} {p : Addr} {o : HO} (h : H p = none) : Same H (upd H p o) := fun b x e => by
  rw [upd_ne (ne_of_none e h)]
  exact e
theorem sm {H H' : Hp} {p : Addr} {o : HO} (s : Same H H') (h : H p = some o) : H' p = some o := s p o h
theorem sq_upd {K : PySem.W.Frag} {H : Hp} {p a : Addr} {o : HO} {xs : List V} (n : H p = none) (h : SqL K H a xs) : SqL K (upd H p o) a xs := (same_upd n).seq h
theorem sl {K : PySem.W.Frag} {H : Hp} {a : Addr} {xs : List V} (h : H a = some (.lst xs)) : SqL K H a xs := Or.inl (Or.inl h)
theorem st {K : PySem.W.Frag} {H : Hp} {a : Addr} {xs : List V} (h : H a = some (.tup xs)) : SqT K H a xs := Or.inl (Or.inl h)
theorem Same.sqt {K : PySem.W.Frag} {H H' : Hp} {a : Addr} {xs : List V} (e : Same H H') (h : SqT K H a xs) : SqT K H' a xs := by
  rcases h with (h | ⟨o, h⟩) | h
  · exact .inl (.inl (e _ _ h))
  · exact .inl (.inr ⟨o, e _ _ h⟩)
  · exact .inr h
theorem upd_keep {H : Hp} {p b : Addr} {o o' : HO} (n : H p = none) (h : H b = some o') : upd H p o b = some o' := (same_upd n) b o' h
theorem ne_new {H : Hp} {p b : Addr} {o : HO} (h : H b = some o) (n : H p = none) : b ≠ p := ne_of_none h n
/-- H' is H but at p -/
def But (p : Addr) (H H' : Hp) : Prop := ∀ b o, b ≠ p → H b = some o → H' b = some o
theorem But.refl {p : Addr} {H : Hp} : But p H H := fun _ _ _ h => h
theorem But.of {p : Addr} {H H' : Hp} (s : Same H H') : But p H H' := fun b o _ h => s b o h
theorem But.trans {p : Addr} {H H1 H2 : Hp} (a : But p H H1) (b : But p H1 H2) : But p H H2 := fun c o n h => b c o n (a c o n h)
theorem But.upd {p : Addr} {H H' : Hp} {o : HO} (a : But p H H') : But p H (upd H' p o) := fun b o n h => by rw [upd_ne n]; exact a b o n h
theorem But.same {p : Addr} {H H' : Hp} (a : But p H H') (n : H p = none) : Same H H' := fun b o h => a b o (ne_of_none h n) h
theorem But.tr2 {p : Addr} {H H1 H2 : Hp} (s : Same H H1) (n : H p = none) (a : But p H1 H2) : Same H H2 := fun b o h => a b o (ne_of_none h n) (s b o h)
/-! ### numbers -/
theorem cdivW {a b : Int} (h : 0 < b) (h2 : b < 2 ^ 8000) : CDivW a b := by
  refine ⟨h, ?_⟩
  have e : b.natAbs < 2 ^ 8000 := by
    have : ((b.natAbs : Nat) : Int) < ((2 ^ 8000 : Nat) : Int) := by
      rw [Int.natAbs_of_nonneg (Int.le_of_lt h)]
      exact_mod_cast h2
    exact_mod_cast this
  by_cases z : b.natAbs = 0
  · rw [z]; decide
  · exact Nat.lt_of_lt_of_le (Nat.log2_lt z |>.mpr e) (by decide)
theorem sz {n : Nat} (h : n ≤ 100000) : n ≤ sizeLine := Nat.le_trans h (by decide)
theorem szl {n : Nat} (h : n < 100000) : n < sizeLine := Nat.lt_of_lt_of_le h (by decide)
/-! ### loops -/
theorem for_l {K : PySem.W.Frag} {tl : TE} {g : TG} {tb : TS} {D : Ends} {σ : St} {H : Hp} {a : Addr} {xs : List V} (Pv : Nat → St → Hp → Prop) (hs : SqL K H a xs) (h0 : Pv 0 σ H) (hl : ∀ i σ H, i ≤ xs.length → Pv i σ H → SqL K H a xs)
    (turn : ∀ i x σ H, xs[i]? = some x → Pv i σ H → g x σ H fun σ2 H2 => tb { D with nx := Pv (i + 1), ct := Pv (i + 1), bk := D.nx } σ2 H2) (hd : ∀ σ H, Pv xs.length σ H → D.nx σ H) (e : ∀ R : V → Hp → Prop, R (.ref a) H → tl σ H R) : tFor (iList K tl) g tb D σ H := by
  refine g_for ?_
  refine e _ ⟨a, rfl, ⟨_, hs⟩, ?_⟩
  exact for_list (xs := xs) Pv h0 hl turn hd
theorem for_r {ta : TA} {g : TG} {tb : TS} {D : Ends} {σ : St} {H : Hp} {n : Int} (N : Nat) (en : n.toNat = N) (b1 : -(2 ^ 62) ≤ n) (b2 : n < 2 ^ 62) (Pv : Nat → St → Hp → Prop) (h0 : Pv 0 σ H)
    (turn : ∀ (i : Nat) σ H, i < N → Pv i σ H → g (.int (i : Int)) σ H fun σ2 H2 => tb { D with nx := Pv (i + 1), ct := Pv (i + 1), bk := D.nx } σ2 H2) (hd : ∀ σ H, Pv N σ H → D.nx σ H) (e : ∀ R : List V → Hp → Prop, R [.int n] H → ta σ H R) : tFor (iRng1 ta) g tb D σ H := by
  subst en
  refine g_for ?_
  refine e _ ⟨n, rfl, b1, b2, ?_⟩
  refine for_range (lo := 0) Pv h0 (fun i σ H hi p => ?_) hd
  have z := turn i σ H hi p
  rw [Int.zero_add]
  exact z
theorem g_nx {nx : St → Hp → Prop} {rt : VK} {bk ct : St → Hp → Prop} {σ : St} {H : Hp} (q : nx σ H) : (Ends.mk nx rt bk ct).nx σ H := q
theorem g_bkE {nx : St → Hp → Prop} {rt : VK} {bk ct : St → Hp → Prop} {σ : St} {H : Hp} (q : bk σ H) : (Ends.mk nx rt bk ct).bk σ H := q
theorem g_ctE {nx : St → Hp → Prop} {rt : VK} {bk ct : St → Hp → Prop} {σ : St} {H : Hp} (q : ct σ H) : (Ends.mk nx rt bk ct).ct σ H := q
theorem g_rt {nx : St → Hp → Prop} {rt : VK} {bk ct : St → Hp → Prop} {v : V} {H : Hp} (q : rt v H) : (Ends.mk nx rt bk ct).rt v H := q
/-- a cell of the script -/
def cell (ns : List Int) (k : Int) : Int := ns.getD k.toNat 0
theorem atI_map {ns : List Int} {k : Int} (h0 : 0 ≤ k) (h : k < (ns.length : Int)) : atI (ns.map V.int) k = some (.int (cell ns k)) := by
  have e : k = ((k.toNat : Nat) : Int) := by omega
  have hl : k.toNat < ns.length := by omega
  have e2 : cell ns k = ns[k.toNat] := by
    unfold cell
    rw [List.getD_eq_getElem?_getD, List.getElem?_eq_getElem hl]; rfl
  rw [e2]
  refine at_of e ?_
  rw [List.getElem?_map, List.getElem?_eq_getElem hl]; rfl
theorem cell_out {ns : List Int} {k : Int} (h : ¬ k < (ns.length : Int)) : cell ns k = 0 := by
  unfold cell
  rw [List.getD_eq_getElem?_getD, List.getElem?_eq_none (by omega)]; rfl
theorem atI_some {xs : List V} {i : Int} (h0 : 0 ≤ i) (h : i < (xs.length : Int)) : ∃ v, xs[i.toNat]? = some v ∧ atI xs i = some v := by
  have hl : i.toNat < xs.length := by omega
  exact ⟨xs[i.toNat], List.getElem?_eq_getElem hl, at_of (by omega) (List.getElem?_eq_getElem hl)⟩
theorem atI_ints {xs : List Int} {i : Int} (h0 : 0 ≤ i) (h : i < (xs.length : Int)) : ∃ n, atI (xs.map V.int) i = some (.int n) ∧ xs[i.toNat]? = some n := by
  have hl : i.toNat < xs.length := by omega
  refine ⟨xs[i.toNat], at_of (j := i.toNat) (by omega) ?_, List.getElem?_eq_getElem hl⟩
  rw [List.getElem?_map, List.getElem?_eq_getElem hl]; rfl
theorem g_dT {p A B : Prop} [Decidable p] (h : p) (q : A) : if decide p = true then A else B := by rw [decide_eq_true h]; exact iteT q
theorem g_dF {p A B : Prop} [Decidable p] (h : ¬ p) (q : B) : if decide p = true then A else B := by rw [decide_eq_false h]; exact iteF q
theorem g_nT {p A B : Prop} [Decidable p] (h : ¬ p) (q : A) : if (!decide p) = true then A else B := by rw [decide_eq_false h]; exact iteT q
theorem g_nF {p A B : Prop} [Decidable p] (h : p) (q : B) : if (!decide p) = true then A else B := by rw [decide_eq_true h]; exact iteF q
/-! ### comprehensions: the list ys, value by value -/
theorem g_yes {σ : St} {H : Hp} {P : Bool → Hp → Prop} (q : P true H) : tYes σ H P := q
theorem g_lc {wi : TI} {g : TG} {tt : TT} {te : TE} {vs : List Nat} {σ : St} {H : Hp} {Q : VK} (h : wi σ H fun J H1 => ∀ D, H1 D = none → ∃ W : Nat → Nat → Hp → Prop, (∃ m, W 0 m (upd H1 D (.lst []))) ∧ ∀ i m H, W i m H →
  (J.stop i H ∧ Q (.ref D) H) ∨ (J.go i H ∧ ∃ Nx : Hp → Prop, (∀ H', Nx H' → ∃ m', m' < m ∧ W (i + 1) m' H') ∧ ∀ x H', J.yld i H x H' → g x (wipe σ vs) H' fun σ2 H2 => wipe σ2 vs = wipe σ vs ∧ tt σ2 H2 fun b H3 =>
    if b = true then te σ2 H3 fun y H4 => ∃ acc, H4 D = some (.lst acc) ∧ acc.length < sizeLine ∧ Nx (upd H4 D (.lst (acc ++ [y]))) else Nx H3)) : tLc wi g tt te vs σ H Q := h
theorem g_revR {ta : TE} {σ : St} {H : Hp} {R : It → Hp → Prop} (h : ta σ H fun x H1 => ∃ n : Int, x = .int n ∧ -(2 ^ 62) ≤ (0 : Int) ∧ (0 : Int) < 2 ^ 62 ∧ -(2 ^ 62) ≤ n ∧ n < 2 ^ 62 ∧ R (Itc (0 + (((n - 0).toNat : Nat) : Int) - 1) (-1) (n - 0).toNat) H1) : iRevR (tRg1 ta) σ H R := h
theorem g_rng1 {ta : TA} {σ : St} {H : Hp} {R : It → Hp → Prop} (h : ta σ H fun vs H1 => ∃ j : Int, vs = [.int j] ∧ -(2 ^ 62) ≤ j ∧ j < 2 ^ 62 ∧ R (Itr 0 j.toNat) H1) : iRng1 ta σ H R := h
theorem g_iList {K : PySem.W.Frag} {tl : TE} {σ : St} {H : Hp} {R : It → Hp → Prop} (h : tl σ H fun x H1 => ∃ a, x = .ref a ∧ (∃ xs, SqL K H1 a xs) ∧ R (Itl K a) H1) : iList K tl σ H R := h
def LcP (H1 : Hp) (D : Addr) (ys : List V) (i : Nat) (H : Hp) : Prop := Same H1 H ∧ H D = some (.lst (ys.take i))
theorem lc_vals {J : It} {n : Nat} {G : Hp → Prop} {Y : Nat → Hp → V → Hp → Prop} (w : Walk J n G Y) (ys : List V) {g : TG} {tt : TT} {te : TE} {vs : List Nat} {σ : St} {H1 : Hp} {D : Addr} {Qd : Hp → Prop} (hD : H1 D = none) (hlen : ys.length = n) (hG : ∀ H, Same H1 H → G H)
    (hs : ∀ i x H H', i < n → LcP H1 D ys i H → Y i H x H' → g x (wipe σ vs) H' fun σ2 H2 => wipe σ2 vs = wipe σ vs ∧ tt σ2 H2 fun b H3 =>
      if b = true then te σ2 H3 fun y H4 => ∃ acc, H4 D = some (.lst acc) ∧ acc.length < sizeLine ∧ LcP H1 D ys (i + 1) (upd H4 D (.lst (acc ++ [y]))) else LcP H1 D ys (i + 1) H3)
    (hd : ∀ H, Same H1 H → H D = some (.lst ys) → Qd H) :
    ∃ W : Nat → Nat → Hp → Prop, (∃ m, W 0 m (upd H1 D (.lst []))) ∧ ∀ i m H, W i m H →
      (J.stop i H ∧ Qd H) ∨ (J.go i H ∧ ∃ Nx : Hp → Prop, (∀ H', Nx H' → ∃ m', m' < m ∧ W (i + 1) m' H') ∧ ∀ x H', J.yld i H x H' → g x (wipe σ vs) H' fun σ2 H2 => wipe σ2 vs = wipe σ vs ∧ tt σ2 H2 fun b H3 =>
        if b = true then te σ2 H3 fun y H4 => ∃ acc, H4 D = some (.lst acc) ∧ acc.length < sizeLine ∧ Nx (upd H4 D (.lst (acc ++ [y]))) else Nx H3) := by
  refine lc_it w (LcP H1 D ys) ⟨same_upd hD, by rw [upd_same]; rfl⟩ (fun i H _ p => hG H p.1) hs (fun H p => hd H p.1 ?_)
  have e := p.2
  rw [← hlen, List.take_length] at e
  exact e
theorem lc_next {H1 H4 : Hp} {D : Addr} {ys : List V} {i : Nat} {y : V} (hD : H1 D = none) (p : LcP H1 D ys i H4) (hz : ys.length ≤ 100000) (hy : ys[i]? = some y) :
    ∃ acc, H4 D = some (.lst acc) ∧ acc.length < sizeLine ∧ LcP H1 D ys (i + 1) (upd H4 D (.lst (acc ++ [y]))) := by
  refine ⟨_, p.2, ?_, ?_, ?_⟩
  · rw [List.length_take]
    obtain ⟨h, _⟩ := List.getElem?_eq_some_iff.mp hy
    exact szl (by omega)
  · exact (But.of p.1).upd.same hD
  · rw [upd_same, List.take_add_one, hy]
    rfl
theorem LcP.same {H1 H4 H5 : Hp} {D : Addr} {ys : List V} {i : Nat} (p : LcP H1 D ys i H4) (s : Same H4 H5) : LcP H1 D ys i H5 := ⟨p.1.trans s, s _ _ p.2⟩
theorem map_get {α : Type} {f : α → V} {xs : List α} {i : Nat} {y : V} (h : (xs.map f)[i]? = some y) : ∃ z, xs[i]? = some z ∧ y = f z := by
  rw [List.getElem?_map] at h
  cases e : xs[i]? with
  | none => rw [e] at h; cases h
  | some z => rw [e] at h; exact ⟨z, rfl, (Option.some.inj h).symm⟩
/-! ### == of lists of ints -/
section
variable {K : PySem.W.Frag} {H : Hp} {Q : VK}
theorem dpAll_ints : ∀ {ns : List Int}, DpAll K H (ns.map V.int) (ns.map PyData.int)
  | [] => .nil
  | n :: _ => .cons (.int n) dpAll_ints
theorem lay_ints : ∀ {ns : List Int}, PyData.canLayAll0 (ns.map PyData.int) = true
  | [] => rfl
  | _ :: ns => by
    show (true && PyData.canLayAll0 (ns.map PyData.int)) = true
    rw [lay_ints]; rfl
theorem depth_ints : ∀ {ns : List Int}, PyData.depthAll (ns.map PyData.int) = 0
  | [] => rfl
  | _ :: ns => by
    show max 0 (PyData.depthAll (ns.map PyData.int)) = 0
    rw [depth_ints]; rfl
theorem shaped_ints {ns : List Int} : SeqAt.shaped (.list (ns.map PyData.int)) = true := by
  show (PyData.canLayAll0 (ns.map PyData.int) && decide (PyData.depthAll (ns.map PyData.int) + 1 ≤ 64)) = true
  rw [lay_ints, depth_ints]; rfl
theorem eqvAll_ints : ∀ {ns ms : List Int}, PyData.eqvAll (ns.map PyData.int) (ms.map PyData.int) = decide (ns = ms)
  | [], [] => rfl
  | [], _ :: _ => rfl
  | _ :: _, [] => rfl
  | n :: ns, m :: ms => by
    show ((n == m) && PyData.eqvAll (ns.map PyData.int) (ms.map PyData.int)) = decide (n :: ns = m :: ms)
    rw [eqvAll_ints, Bool.eq_iff_iff]
    simp
theorem dp_ints {a : Addr} {ns : List Int} (h : SqL K H a (ns.map V.int)) : Dp K H (.ref a) (.list (ns.map PyData.int)) := .lst h dpAll_ints
theorem g_eqL {a b : Addr} {ns ms : List Int} (h1 : SqL K H a (ns.map V.int)) (h2 : SqL K H b (ms.map V.int)) (q : Q (.bl (decide (ns = ms))) H) : rEqD K (.ref a) (.ref b) H Q :=
  ⟨_, _, dp_ints h1, dp_ints h2, shaped_ints, shaped_ints, by rw [show PyData.eqv (.list (ns.map PyData.int)) (.list (ms.map PyData.int)) = decide (ns = ms) from eqvAll_ints]; exact q⟩
theorem g_neL {a b : Addr} {ns ms : List Int} (h1 : SqL K H a (ns.map V.int)) (h2 : SqL K H b (ms.map V.int)) (q : Q (.bl (!decide (ns = ms))) H) : rNeD K (.ref a) (.ref b) H Q :=
  ⟨_, _, dp_ints h1, dp_ints h2, shaped_ints, shaped_ints, by rw [show PyData.eqv (.list (ns.map PyData.int)) (.list (ms.map PyData.int)) = decide (ns = ms) from eqvAll_ints]; exact q⟩
theorem g_sum {a : Addr} {ns : List Int} (h : SqL K H a (ns.map V.int)) (q : Q (.int ns.sum) H) : rSum K [.ref a] H Q := ⟨a, ns, rfl, h, q⟩
end
theorem ixN_nat {n : Nat} {k : Int} (h0 : 0 ≤ k) (h : k < (n : Int)) : ixN n k = some k.toNat := by
  unfold ixN
  rw [if_pos h0, if_pos h]
theorem g_ref {a : Addr} {A : Addr → Prop} (q : A a) : ∃ b, V.ref a = .ref b ∧ A b := ⟨a, rfl, q⟩
/-! ### objects: the attributes by their places -/
def obj : List Str → List V → List (Str × V)
  | k :: ks, v :: vs => (k, v) :: obj ks vs
  | _, _ => []
theorem obj_len : ∀ (ks : List Str) (vs : List V), (obj ks vs).length ≤ ks.length
  | [], _ => Nat.zero_le _
  | _ :: _, [] => Nat.zero_le _
  | _ :: ks, _ :: vs => Nat.succ_le_succ (obj_len ks vs)
theorem obj_get : ∀ {ks : List Str} {vs : List V} {i : Nat} {k : Str}, ks.Nodup → ks[i]? = some k → (obj ks vs).lookup k = vs[i]?
  | [], _, _, _, _, h => by cases h
  | k0 :: ks, [], i, k, _, _ => by simp [obj]
  | k0 :: ks, v :: vs, 0, k, _, h => by
    have e : k0 = k := Option.some.inj h
    subst e
    simp [obj]
  | k0 :: ks, v :: vs, i + 1, k, nd, h => by
    have nd' := List.nodup_cons.mp nd
    have hk : k ∈ ks := List.mem_of_getElem? h
    have ne : (k == k0) = false := by
      rw [beq_eq_false_iff_ne]
      intro e
      subst e
      exact nd'.1 hk
    show List.lookup k ((k0, v) :: obj ks vs) = vs[i]?
    rw [List.lookup_cons, ne]
    exact obj_get nd'.2 h
theorem obj_none : ∀ {ks : List Str} {vs : List V} {k : Str}, k ∉ ks → (obj ks vs).lookup k = none
  | [], _, _, _ => rfl
  | _ :: _, [], _, _ => rfl
  | k0 :: ks, v :: vs, k, h => by
    have ne : (k == k0) = false := by
      rw [beq_eq_false_iff_ne]
      intro e
      subst e
      exact h (List.mem_cons_self ..)
    show List.lookup k ((k0, v) :: obj ks vs) = none
    rw [List.lookup_cons, ne]
    exact obj_none fun z => h (List.mem_cons_of_mem _ z)
theorem obj_put : ∀ {ks : List Str} {vs : List V} {i : Nat} {k : Str} {y : V}, ks.Nodup → ks[i]? = some k → i < vs.length → putF k y (obj ks vs) = obj ks (vs.set i y)
  | [], _, _, _, _, _, h, _ => by cases h
  | _ :: _, [], _, _, _, _, _, h => by simp at h
  | k0 :: ks, v :: vs, 0, k, y, _, h, _ => by
    have e : k0 = k := Option.some.inj h
    subst e
    show (if k0 = k0 then _ else _) = _
    rw [if_pos rfl]
    rfl
  | k0 :: ks, v :: vs, i + 1, k, y, nd, h, hl => by
    have nd' := List.nodup_cons.mp nd
    have hk : k ∈ ks := List.mem_of_getElem? h
    have ne : ¬ k0 = k := by
      intro e
      subst e
      exact nd'.1 hk
    show (if k0 = k then _ else (k0, v) :: putF k y (obj ks vs)) = (k0, v) :: obj ks (vs.set i y)
    rw [if_neg ne, obj_put nd'.2 h (by simpa using hl)]
theorem obj_new : ∀ {ks : List Str} {vs : List V} {k : Str} {y : V}, ks.Nodup → ks[vs.length]? = some k → putF k y (obj ks vs) = obj ks (vs ++ [y])
  | [], _, _, _, _, h => by simp at h
  | k0 :: ks, [], k, y, _, h => by
    have e : k0 = k := Option.some.inj h
    subst e
    show [(k0, y)] = obj (k0 :: ks) [y]
    cases ks <;> rfl
  | k0 :: ks, v :: vs, k, y, nd, h => by
    have nd' := List.nodup_cons.mp nd
    have h' : ks[vs.length]? = some k := h
    have hk : k ∈ ks := List.mem_of_getElem? h'
    have ne : ¬ k0 = k := by
      intro e
      subst e
      exact nd'.1 hk
    show (if k0 = k then _ else (k0, v) :: putF k y (obj ks vs)) = (k0, v) :: obj ks (vs ++ [y])
    rw [if_neg ne, obj_new nd'.2 h']
section
variable {K : PySem.W.Frag} {σ : St} {H : Hp} {Q : VK} {v y : V} {ta tv : TE} {D : Ends} {f m : Str} {a C dx : Addr} {ks : List Str} {vs : List V} {i : Nat}
theorem g_fld (h : ta σ H fun x H1 => ∃ a C dx fs v, x = .ref a ∧ H1 a = some (.ins C dx fs) ∧ Cls K C ∧ NoAttr K C f ∧ fs.lookup f = some v ∧ Q v H1) : tFld K ta f σ H Q := h
theorem g_fldE {A : V → Prop} (ho : H a = some (.ins C dx (obj ks vs))) (c : Cls K C) (n : NoAttr K C f) (nd : ks.Nodup) (hk : ks[i]? = some f) (hv : vs[i]? = some v) (q : A v) :
    ∃ a' C' dx' fs v', V.ref a = .ref a' ∧ H a' = some (.ins C' dx' fs) ∧ Cls K C' ∧ NoAttr K C' f ∧ fs.lookup f = some v' ∧ A v' := ⟨a, C, dx, _, v, rfl, ho, c, n, (obj_get nd hk).trans hv, q⟩
theorem g_sfld (h : tv σ H fun y H1 => ta σ H1 fun x H2 => ∃ a C dx fs, x = .ref a ∧ H2 a = some (.ins C dx fs) ∧ Cls K C ∧ NoAttr K C f ∧ fs.length < 1000 ∧ D.nx σ (upd H2 a (.ins C dx (putF f y fs)))) : sFld K ta tv f D σ H := h
theorem g_putE {A : Hp → Prop} (ho : H a = some (.ins C dx (obj ks vs))) (c : Cls K C) (n : NoAttr K C f) (nd : ks.Nodup) (h1 : ks.length < 1000) (hk : ks[i]? = some f) (hv : i < vs.length) (q : A (upd H a (.ins C dx (obj ks (vs.set i y))))) :
    ∃ a' C' dx' fs, V.ref a = .ref a' ∧ H a' = some (.ins C' dx' fs) ∧ Cls K C' ∧ NoAttr K C' f ∧ fs.length < 1000 ∧ A (upd H a' (.ins C' dx' (putF f y fs))) :=
  ⟨a, C, dx, _, rfl, ho, c, n, Nat.lt_of_le_of_lt (obj_len ks vs) h1, by rw [obj_put nd hk hv]; exact q⟩
theorem g_newE {A : Hp → Prop} (ho : H a = some (.ins C dx (obj ks vs))) (c : Cls K C) (n : NoAttr K C f) (nd : ks.Nodup) (h1 : ks.length < 1000) (hk : ks[vs.length]? = some f) (q : A (upd H a (.ins C dx (obj ks (vs ++ [y]))))) :
    ∃ a' C' dx' fs, V.ref a = .ref a' ∧ H a' = some (.ins C' dx' fs) ∧ Cls K C' ∧ NoAttr K C' f ∧ fs.length < 1000 ∧ A (upd H a' (.ins C' dx' (putF f y fs))) :=
  ⟨a, C, dx, _, rfl, ho, c, n, Nat.lt_of_le_of_lt (obj_len ks vs) h1, by rw [obj_new nd hk]; exact q⟩
theorem g_meth {sp : Sp} {dvs : List V} {E : XK} {t : TA} (h : ta σ H fun x H1 => ∃ a dx fs, x = .ref a ∧ H1 a = some (.ins C dx fs) ∧ fs.lookup m = none ∧ t σ H1 fun vs H2 => sp (x :: (vs ++ dvs)) H2 Q E) : tMeth C m sp dvs E ta t σ H Q := h
theorem g_methE {A : Prop} (ho : H a = some (.ins C dx (obj ks vs))) (no : m ∉ ks) (q : A) : ∃ a' dx' fs, V.ref a = .ref a' ∧ H a' = some (.ins C dx' fs) ∧ fs.lookup m = none ∧ A := ⟨a, dx, _, rfl, ho, obj_none no, q⟩
theorem g_make {sp : Sp} {dvs : List V} {E : XK} {t : TA} (h : t σ H fun vs H1 => ∀ x dx, H1 x = none → H1 dx = none → dx ≠ x → sp (.ref x :: (vs ++ dvs)) (upd (upd H1 dx (.own x)) x (.ins C dx [])) (fun v H2 => v = .non ∧ Q (.ref x) H2) E) : tMake C sp dvs E t σ H Q := h
theorem g_prop {sp : Sp} {dvs : List V} {E : XK} (h : ta σ H fun x H1 => ∃ a dx fs, x = .ref a ∧ H1 a = some (.ins C dx fs) ∧ sp (.ref a :: dvs) H1 Q E) : tProp C sp dvs E ta σ H Q := h
theorem g_propE {A : Addr → Prop} (ho : H a = some (.ins C dx (obj ks vs))) (q : A a) : ∃ a' dx' fs, V.ref a = .ref a' ∧ H a' = some (.ins C dx' fs) ∧ A a' := ⟨a, dx, _, rfl, ho, q⟩
theorem g_absE {A : Int → Prop} {n : Int} (q : A n) : ∃ i, [V.int n] = [V.int i] ∧ A i := ⟨n, rfl, q⟩
end
/-- a slice of ints -/
theorem cut_ints (ns : List Int) (lo hi : Option Int) : ∃ ms : List Int, cutV (ns.map V.int) lo hi = ms.map V.int ∧ ms.length ≤ ns.length := by
  unfold cutV
  refine ⟨(ns.drop (HT.sIx (ns.map V.int).length 0 lo)).take (HT.sIx (ns.map V.int).length (ns.map V.int).length hi - HT.sIx (ns.map V.int).length 0 lo), ?_, ?_⟩
  · rw [List.map_take, List.map_drop]
  · rw [List.length_take, List.length_drop]
    omega
theorem g_nameE {i : Nat} {v : V} {σ σ' : St} {H : Hp} {A : St → Hp → Prop} (e : σ.set i (some v) = σ') (q : A σ' H) : gName i v σ H A := by
  subst e
  exact q
theorem but_sq {K : PySem.W.Frag} {p : Addr} {H H' : Hp} {a : Addr} {xs : List V} (e : But p H H') (n : a ≠ p) (h : SqL K H a xs) : SqL K H' a xs := by
  rcases h with (h | ⟨o, h⟩) | h
  · exact .inl (.inl (e _ _ n h))
  · exact .inl (.inr ⟨o, e _ _ n h⟩)
  · exact .inr h
theorem g_star {K : PySem.W.Frag} {te : TE} {t : TA} {σ : St} {H : Hp} {Q : List V → Hp → Prop} (h : te σ H fun x H1 => ∃ p xs, x = V.ref p ∧ (SqT K H1 p xs ∨ SqL K H1 p xs) ∧ t σ H1 fun ys H2 => Q (xs ++ ys) H2) : StX.tStar K te t σ H Q := h
theorem g_while {c : TT} {tb : TS} {D : Ends} {σ : St} {H : Hp} (W : Nat → St → Hp → Prop) (h0 : ∃ m, W m σ H) (h : ∀ m σ H, W m σ H → c σ H fun b H1 => if b = true then ∃ N : St → Hp → Prop, (∀ σ' H', N σ' H' → ∃ m', m' < m ∧ W m' σ' H') ∧ tb { D with nx := N, ct := N, bk := D.nx } σ H1 else D.nx σ H1) : tWhile c tb D σ H := ⟨W, h0, h⟩
theorem g_cut {t u : TS} {D : Ends} {σ : St} {H : Hp} (Mid : St → Hp → Prop) (h1 : t { D with nx := Mid } σ H) (h2 : ∀ σ' H', Mid σ' H' → u D σ' H') : C8.tCut t u D σ H := ⟨Mid, h1, h2⟩
theorem g_min {K : PySem.W.Frag} {a : Addr} {ns : List Int} {H : Hp} {Q : VK} (h : SqL K H a (ns.map V.int)) (h0 : 0 < ns.length) (q : ∀ m, m ∈ ns → (∀ y, y ∈ ns → m ≤ y) → Q (.int m) H) : rMin K [.ref a] H Q := ⟨a, ns, rfl, h, h0, q⟩
theorem g_max {K : PySem.W.Frag} {a : Addr} {ns : List Int} {H : Hp} {Q : VK} (h : SqL K H a (ns.map V.int)) (h0 : 0 < ns.length) (q : ∀ m, m ∈ ns → (∀ y, y ∈ ns → y ≤ m) → Q (.int m) H) : rMax K [.ref a] H Q := ⟨a, ns, rfl, h, h0, q⟩
theorem atI_nat' {xs : List V} {i : Int} {j : Nat} {v : V} (e : i = (j : Int)) (h : xs[j]? = some v) : atI xs i = some v := at_of e h
theorem ixN_last {n : Nat} (h : 0 < n) : ixN n (-1) = some (n - 1) := by
  unfold ixN
  rw [if_neg (by decide), if_pos (by omega)]
  congr 1
  omega
theorem atI_neg1 {xs : List V} {v : V} (h : xs[xs.length - 1]? = some v) : atI xs (-1) = some v := by
  obtain ⟨hl, _⟩ := List.getElem?_eq_some_iff.mp h
  unfold atI
  rw [ixN_last (by omega)]
  exact h
theorem snoc_of {α : Type} {xs : List α} (h : 0 < xs.length) : ∃ a x, xs = a ++ [x] :=
  ⟨xs.dropLast, xs.getLast (List.ne_nil_of_length_pos h), (List.dropLast_concat_getLast _).symm⟩
theorem set_last {α : Type} {a : List α} {x y : α} : (a ++ [x]).set a.length y = a ++ [y] := by
  rw [List.set_append_right _ _ (Nat.le_refl _), Nat.sub_self]
  rfl
end My
namespace My
open PySem PySem.Spec L2
local macro_rules | `(tactic| walk_at "side") => `(tactic| first | assumption | decide | omega | exact ⟨by decide, by decide⟩ | exact ⟨by decide, by decide, by decide⟩ | decide +kernel | exact cdivW (by decide +kernel) (by decide +kernel) | exact Or.inl ⟨by omega, by omega⟩ | exact Or.inr ⟨by omega, by omega⟩ | (simp only [List.length_map, List.length_cons, List.length_nil, List.length_append]; omega))
local macro_rules | `(tactic| walk_at "fact") => `(tactic| first | assumption | omega | with_reducible rfl)
local macro_rules | `(tactic| walk_at "use") => `(tactic| fail "use")
local macro_rules | `(tactic| walk_at "go1") => `(tactic| with_reducible first | refine g_seq ?_ | refine g_asg ?_ | refine g_ret ?_ | refine g_ifS ?_ | refine g_drop ?_ | refine g_star ?_ | refine g_nx ?_ | refine g_rt ?_ | refine g_bkE ?_ | refine g_ctE ?_ | refine g_next ?_ | refine g_retN ?_ | refine g_brk ?_ | refine g_ct ?_ | refine g_c ?_ | refine g_op ?_ | refine g_un ?_ | refine g_rI0 ?_ | refine g_rU ?_ | refine g_rEqI ?_ | refine g_rNeI ?_ | refine g_isN ?_ | refine g_rIsB ?_ | refine g_rNotB ?_ | refine g_test ?_ | refine g_B ?_ | refine g_bl ?_ | refine g_and ?_ | refine g_or ?_ | refine g_not ?_ | refine g_andV ?_ | refine g_orV ?_ | refine g_notV ?_ | refine g_if ?_ | refine g_chain ?_ | refine g_yes ?_ | refine g_lc ?_ | refine g_revR ?_ | refine g_rng1 ?_ | refine g_iList ?_ | refine g_nil ?_ | refine g_cons ?_ | refine g_tup ?_ | refine g_lst ?_ | refine g_call ?_ | refine g_CB ?_ | refine g_sl ?_ | refine g_noPart ?_ | refine g_part ?_ | refine g_intE ?_ | refine g_ref ?_ | refine g_fld ?_ | refine g_sfld ?_ | refine g_meth ?_ | refine g_make ?_ | refine g_prop ?_  | refine g_ipI ?_ | refine g_int1 ?_ | refine g_int1B ?_ | refine g_one ?_ | refine g_two ?_ | refine g_isiI ?_ | refine g_isiIB ?_ | refine g_isiB ?_ | refine g_BM ?_ | refine g_BM0 ?_ | refine g_sub ?_)
local macro_rules | `(tactic| walk_at "go") => `(tactic| repeat (first | walk_at "go1" | ((with_reducible refine' g_nameE ?sd_ ?_); case sd_ => dsimp only [List.set_cons_succ, List.set_cons_zero]) | ((with_reducible refine' g_var ?sd_ ?_); case sd_ => exact rfl) | ((with_reducible refine' g_aug ?sd_ ?_); case sd_ => exact rfl) | ((with_reducible refine' g_rI ?sd_ ?_); case sd_ => walk_at "side") | ((with_reducible refine' g_dT ?sd_ ?_); case sd_ => walk_at "fact") | ((with_reducible refine' g_dF ?sd_ ?_); case sd_ => walk_at "fact") | ((with_reducible refine' g_nT ?sd_ ?_); case sd_ => walk_at "fact") | ((with_reducible refine' g_nF ?sd_ ?_); case sd_ => walk_at "fact") | (with_reducible refine g_iT rfl ?_) | (with_reducible refine g_iF rfl ?_) | walk_at "use"))
def topS (i : Nat) : Stmt := PySem.Challenge.pw_throughline_k60_verdicts.main.body.getD i (.Pass ⟨0, 0, 0, 0⟩)
abbrev s_next_seed : Stmt := topS 2
abbrev s_draw : Stmt := topS 3
abbrev s_Verdict_init__ : Stmt := inClass (topS 6) 0
abbrev s_Verdict_arrivals : Stmt := inClass (topS 6) 1
abbrev s_Verdict_eq__ : Stmt := inClass (topS 6) 2
abbrev s_Verdict_fields : Stmt := inClass (topS 6) 3
abbrev s_Faults_init__ : Stmt := inClass (topS 7) 0
abbrev s_Faults_judge : Stmt := inClass (topS 7) 1
abbrev s_Faults_applies : Stmt := inClass (topS 7) 2
abbrev s_Faults_apply : Stmt := inClass (topS 7) 3
abbrev s_Faults_draw : Stmt := inClass (topS 7) 4
abbrev s_Rule_init__ : Stmt := inClass (topS 9) 0
abbrev s_Rule_considers : Stmt := inClass (topS 9) 1
abbrev s_Rule_fork : Stmt := inClass (topS 9) 2
abbrev s_l_cell : Stmt := topS 11
abbrev s_l_is_integer : Stmt := topS 12
abbrev s_l_start : Stmt := topS 13
abbrev s_l_digit : Stmt := topS 14
abbrev s_l_rule : Stmt := topS 15
abbrev s_l_made : Stmt := topS 16
abbrev s_l_draw : Stmt := topS 17
abbrev s_l_admits : Stmt := topS 18
abbrev s_l_applies : Stmt := topS 19
abbrev s_l_due : Stmt := topS 20
abbrev s_l_same : Stmt := topS 21
abbrev s_l_equal : Stmt := topS 22
abbrev s_l_packet : Stmt := topS 23
abbrev s_law : Stmt := topS 24
theorem sc_next_seed : FnScope ["seed"] ["seed"] (defScope s_next_seed) := ⟨rfl, rfl, rfl, by decide +kernel, rfl, by decide +kernel, by decide +kernel⟩
theorem sc_draw : FnScope ["seed", "below"] ["seed", "below"] (defScope s_draw) := ⟨rfl, rfl, rfl, by decide +kernel, rfl, by decide +kernel, by decide +kernel⟩
theorem sc_Verdict_init__ : FnScope ["self", "lost", "marked", "copies", "delay"] ["self", "lost", "marked", "copies", "delay"] (defScope s_Verdict_init__) := ⟨rfl, rfl, rfl, by decide +kernel, rfl, by decide +kernel, by decide +kernel⟩
theorem sc_Verdict_arrivals : FnScope ["self"] ["self"] (defScope s_Verdict_arrivals) := ⟨rfl, rfl, rfl, by decide +kernel, rfl, by decide +kernel, by decide +kernel⟩
theorem sc_Verdict_eq__ : FnScope ["self", "other"] ["self", "other"] (defScope s_Verdict_eq__) := ⟨rfl, rfl, rfl, by decide +kernel, rfl, by decide +kernel, by decide +kernel⟩
theorem sc_Verdict_fields : FnScope ["self"] ["self"] (defScope s_Verdict_fields) := ⟨rfl, rfl, rfl, by decide +kernel, rfl, by decide +kernel, by decide +kernel⟩
theorem sc_Faults_init__ : FnScope ["self", "rules", "seed", "_", "rule"] ["self", "rules", "seed"] (defScope s_Faults_init__) := ⟨rfl, rfl, rfl, by decide +kernel, rfl, by decide +kernel, by decide +kernel⟩
theorem sc_Faults_judge : FnScope ["self", "sender", "target", "birth", "verdict", "at", "rule"] ["self", "sender", "target", "birth"] (defScope s_Faults_judge) := ⟨rfl, rfl, rfl, by decide +kernel, rfl, by decide +kernel, by decide +kernel⟩
theorem sc_Faults_applies : FnScope ["self", "rule", "count"] ["self", "rule", "count"] (defScope s_Faults_applies) := ⟨rfl, rfl, rfl, by decide +kernel, rfl, by decide +kernel, by decide +kernel⟩
theorem sc_Faults_apply : FnScope ["self", "rule", "verdict"] ["self", "rule", "verdict"] (defScope s_Faults_apply) := ⟨rfl, rfl, rfl, by decide +kernel, rfl, by decide +kernel, by decide +kernel⟩
theorem sc_Faults_draw : FnScope ["self", "below", "number"] ["self", "below"] (defScope s_Faults_draw) := ⟨rfl, rfl, rfl, by decide +kernel, rfl, by decide +kernel, by decide +kernel⟩
theorem sc_Rule_init__ : FnScope ["self", "fault", "amount", "until", "sender", "target", "ticks", "nth", "chance"] ["self", "fault", "amount", "until", "sender", "target", "ticks", "nth", "chance"] (defScope s_Rule_init__) := ⟨rfl, rfl, rfl, by decide +kernel, rfl, by decide +kernel, by decide +kernel⟩
theorem sc_Rule_considers : FnScope ["self", "sender", "target", "birth"] ["self", "sender", "target", "birth"] (defScope s_Rule_considers) := ⟨rfl, rfl, rfl, by decide +kernel, rfl, by decide +kernel, by decide +kernel⟩
theorem sc_Rule_fork : FnScope ["self"] ["self"] (defScope s_Rule_fork) := ⟨rfl, rfl, rfl, by decide +kernel, rfl, by decide +kernel, by decide +kernel⟩
theorem sc_l_cell : FnScope ["script", "k"] ["script", "k"] (defScope s_l_cell) := ⟨rfl, rfl, rfl, by decide +kernel, rfl, by decide +kernel, by decide +kernel⟩
theorem sc_l_is_integer : FnScope ["told"] ["told"] (defScope s_l_is_integer) := ⟨rfl, rfl, rfl, by decide +kernel, rfl, by decide +kernel, by decide +kernel⟩
theorem sc_l_start : FnScope ["cell", "k", "prime", "mixed"] ["cell", "k"] (defScope s_l_start) := ⟨rfl, rfl, rfl, by decide +kernel, rfl, by decide +kernel, by decide +kernel⟩
theorem sc_l_digit : FnScope ["state", "many", "digit"] ["state", "many"] (defScope s_l_digit) := ⟨rfl, rfl, rfl, by decide +kernel, rfl, by decide +kernel, by decide +kernel⟩
theorem sc_l_rule : FnScope ["state", "wide", "fault", "amount", "until", "rule", "shown", "low"] ["state", "wide"] (defScope s_l_rule) := ⟨rfl, rfl, rfl, by decide +kernel, rfl, by decide +kernel, by decide +kernel⟩
theorem sc_l_made : FnScope ["rule"] ["rule"] (defScope s_l_made) := ⟨rfl, rfl, rfl, by decide +kernel, rfl, by decide +kernel, by decide +kernel⟩
theorem sc_l_draw : FnScope ["state", "below"] ["state", "below"] (defScope s_l_draw) := ⟨rfl, rfl, rfl, by decide +kernel, rfl, by decide +kernel, by decide +kernel⟩
theorem sc_l_admits : FnScope ["rule", "packet"] ["rule", "packet"] (defScope s_l_admits) := ⟨rfl, rfl, rfl, by decide +kernel, rfl, by decide +kernel, by decide +kernel⟩
theorem sc_l_applies : FnScope ["rule", "counts", "k", "state"] ["rule", "counts", "k", "state"] (defScope s_l_applies) := ⟨rfl, rfl, rfl, by decide +kernel, rfl, by decide +kernel, by decide +kernel⟩
theorem sc_l_due : FnScope ["rules", "counts", "state", "packet", "due", "k", "rule"] ["rules", "counts", "state", "packet"] (defScope s_l_due) := ⟨rfl, rfl, rfl, by decide +kernel, rfl, by decide +kernel, by decide +kernel⟩
theorem sc_l_same : FnScope ["told", "due"] ["told", "due"] (defScope s_l_same) := ⟨rfl, rfl, rfl, by decide +kernel, rfl, by decide +kernel, by decide +kernel⟩
theorem sc_l_equal : FnScope ["told", "due"] ["told", "due"] (defScope s_l_equal) := ⟨rfl, rfl, rfl, by decide +kernel, rfl, by decide +kernel, by decide +kernel⟩
theorem sc_l_packet : FnScope ["cell", "k", "wide", "state"] ["cell", "k", "wide"] (defScope s_l_packet) := ⟨rfl, rfl, rfl, by decide +kernel, rfl, by decide +kernel, by decide +kernel⟩
theorem sc_law : FnScope ["script", "first", "wide", "rules", "state", "counts", "given", "faults", "k", "packet", "due", "told", "rule"] ["script"] (defScope s_law) := ⟨rfl, rfl, rfl, by decide +kernel, rfl, by decide +kernel, by decide +kernel⟩
structure Txt (K : PySem.W.Frag) (mg : Str → Option Value) where
  t_CIRCLE : Tok
  t_CHANCES : Tok
  C_Verdict : Addr
  C_Faults : Addr
  C_Rule : Addr
  f_next_seed : Addr
  d_next_seed : FuncData
  f_draw : Addr
  d_draw : FuncData
  f_Verdict_init__ : Addr
  d_Verdict_init__ : FuncData
  f_Verdict_arrivals : Addr
  d_Verdict_arrivals : FuncData
  p0_Verdict_arrivals : Addr
  f_Verdict_eq__ : Addr
  d_Verdict_eq__ : FuncData
  f_Verdict_fields : Addr
  d_Verdict_fields : FuncData
  f_Faults_init__ : Addr
  d_Faults_init__ : FuncData
  f_Faults_judge : Addr
  d_Faults_judge : FuncData
  f_Faults_applies : Addr
  d_Faults_applies : FuncData
  f_Faults_apply : Addr
  d_Faults_apply : FuncData
  f_Faults_draw : Addr
  d_Faults_draw : FuncData
  f_Rule_init__ : Addr
  d_Rule_init__ : FuncData
  f_Rule_considers : Addr
  d_Rule_considers : FuncData
  f_Rule_fork : Addr
  d_Rule_fork : FuncData
  f_l_cell : Addr
  d_l_cell : FuncData
  f_l_is_integer : Addr
  d_l_is_integer : FuncData
  f_l_start : Addr
  d_l_start : FuncData
  f_l_digit : Addr
  d_l_digit : FuncData
  f_l_rule : Addr
  d_l_rule : FuncData
  f_l_made : Addr
  d_l_made : FuncData
  f_l_draw : Addr
  d_l_draw : FuncData
  f_l_admits : Addr
  d_l_admits : FuncData
  f_l_applies : Addr
  d_l_applies : FuncData
  f_l_due : Addr
  d_l_due : FuncData
  f_l_same : Addr
  d_l_same : FuncData
  f_l_equal : Addr
  d_l_equal : FuncData
  f_l_packet : Addr
  d_l_packet : FuncData
  f_law : Addr
  d_law : FuncData
  v_CIRCLE : mg "CIRCLE" = some (.int 4294967296 t_CIRCLE)
  v_CHANCES : mg "CHANCES" = some (.int 1000 t_CHANCES)
  c_Verdict : mg "Verdict" = some (.ref C_Verdict)
  k_Verdict : Cls K C_Verdict
  i_Verdict : ∀ {H : Hp} {a dx : Addr} {fs : List (Str × V)}, H a = some (.ins C_Verdict dx fs) → TyOf K H (.ref a) (.ref C_Verdict)
  q_Verdict : PySem.W.subIn K (.type "int") (.ref C_Verdict) = some false
  ki_Verdict : PySem.W.kitOne K (.type "int") (.ref C_Verdict) = some false
  n_Verdict_lost : NoAttr K C_Verdict "lost"
  n_Verdict_marked : NoAttr K C_Verdict "marked"
  n_Verdict_copies : NoAttr K C_Verdict "copies"
  n_Verdict_delay : NoAttr K C_Verdict "delay"
  c_Faults : mg "Faults" = some (.ref C_Faults)
  k_Faults : Cls K C_Faults
  n_Faults_seed : NoAttr K C_Faults "seed"
  n_Faults_counts : NoAttr K C_Faults "counts"
  n_Faults__rules : NoAttr K C_Faults "_rules"
  c_Rule : mg "Rule" = some (.ref C_Rule)
  k_Rule : Cls K C_Rule
  i_Rule : ∀ {H : Hp} {a dx : Addr} {fs : List (Str × V)}, H a = some (.ins C_Rule dx fs) → TyOf K H (.ref a) (.ref C_Rule)
  n_Rule_fault : NoAttr K C_Rule "fault"
  n_Rule_amount : NoAttr K C_Rule "amount"
  n_Rule_until : NoAttr K C_Rule "until"
  n_Rule_sender : NoAttr K C_Rule "sender"
  n_Rule_target : NoAttr K C_Rule "target"
  n_Rule_ticks : NoAttr K C_Rule "ticks"
  n_Rule_nth : NoAttr K C_Rule "nth"
  n_Rule_chance : NoAttr K C_Rule "chance"
  F_next_seed : Fun K "next_seed" "next_seed" s_next_seed f_next_seed d_next_seed
  b_next_seed : Binds K d_next_seed ["seed"] []
  m_next_seed : mg "next_seed" = some (.ref f_next_seed)
  F_draw : Fun K "draw" "draw" s_draw f_draw d_draw
  b_draw : Binds K d_draw ["seed", "below"] []
  m_draw : mg "draw" = some (.ref f_draw)
  F_Verdict_init__ : FunD K "__init__" "Verdict.__init__" (defArgs s_Verdict_init__) (defBody s_Verdict_init__) (defScope s_Verdict_init__) [] [("lost", .bl false), ("marked", .bl false), ("copies", .int 0), ("delay", .int 1)] f_Verdict_init__ d_Verdict_init__
  mk_Verdict : Mk K C_Verdict f_Verdict_init__
  F_Verdict_arrivals : Fun K "arrivals" "Verdict.arrivals" s_Verdict_arrivals f_Verdict_arrivals d_Verdict_arrivals
  b_Verdict_arrivals : Binds K d_Verdict_arrivals ["self"] []
  p_Verdict_arrivals : PropOf K C_Verdict "arrivals" p0_Verdict_arrivals f_Verdict_arrivals
  F_Verdict_eq__ : Fun K "__eq__" "Verdict.__eq__" s_Verdict_eq__ f_Verdict_eq__ d_Verdict_eq__
  b_Verdict_eq__ : Binds K d_Verdict_eq__ ["self", "other"] []
  a_Verdict_eq__ : Meth K C_Verdict "__eq__" f_Verdict_eq__
  F_Verdict_fields : Fun K "_fields" "Verdict._fields" s_Verdict_fields f_Verdict_fields d_Verdict_fields
  b_Verdict_fields : Binds K d_Verdict_fields ["self"] []
  a_Verdict_fields : Meth K C_Verdict "_fields" f_Verdict_fields
  F_Faults_init__ : FunD K "__init__" "Faults.__init__" (defArgs s_Faults_init__) (defBody s_Faults_init__) (defScope s_Faults_init__) [] [] f_Faults_init__ d_Faults_init__
  mk_Faults : Mk K C_Faults f_Faults_init__
  F_Faults_judge : Fun K "judge" "Faults.judge" s_Faults_judge f_Faults_judge d_Faults_judge
  b_Faults_judge : Binds K d_Faults_judge ["self", "sender", "target", "birth"] []
  a_Faults_judge : Meth K C_Faults "judge" f_Faults_judge
  F_Faults_applies : Fun K "_applies" "Faults._applies" s_Faults_applies f_Faults_applies d_Faults_applies
  b_Faults_applies : Binds K d_Faults_applies ["self", "rule", "count"] []
  a_Faults_applies : Meth K C_Faults "_applies" f_Faults_applies
  F_Faults_apply : Fun K "_apply" "Faults._apply" s_Faults_apply f_Faults_apply d_Faults_apply
  b_Faults_apply : Binds K d_Faults_apply ["self", "rule", "verdict"] []
  a_Faults_apply : Meth K C_Faults "_apply" f_Faults_apply
  F_Faults_draw : Fun K "_draw" "Faults._draw" s_Faults_draw f_Faults_draw d_Faults_draw
  b_Faults_draw : Binds K d_Faults_draw ["self", "below"] []
  a_Faults_draw : Meth K C_Faults "_draw" f_Faults_draw
  F_Rule_init__ : FunD K "__init__" "Rule.__init__" (defArgs s_Rule_init__) (defBody s_Rule_init__) (defScope s_Rule_init__) [] [("amount", .int 0), ("until", .int 0), ("sender", .non), ("target", .non), ("ticks", .non), ("nth", .non), ("chance", .non)] f_Rule_init__ d_Rule_init__
  mk_Rule : Mk K C_Rule f_Rule_init__
  F_Rule_considers : Fun K "considers" "Rule.considers" s_Rule_considers f_Rule_considers d_Rule_considers
  b_Rule_considers : Binds K d_Rule_considers ["self", "sender", "target", "birth"] []
  a_Rule_considers : Meth K C_Rule "considers" f_Rule_considers
  F_Rule_fork : Fun K "fork" "Rule.fork" s_Rule_fork f_Rule_fork d_Rule_fork
  b_Rule_fork : Binds K d_Rule_fork ["self"] []
  a_Rule_fork : Meth K C_Rule "fork" f_Rule_fork
  F_l_cell : Fun K "_law_cell" "_law_cell" s_l_cell f_l_cell d_l_cell
  b_l_cell : Binds K d_l_cell ["script", "k"] []
  m_l_cell : mg "_law_cell" = some (.ref f_l_cell)
  F_l_is_integer : Fun K "_law_is_integer" "_law_is_integer" s_l_is_integer f_l_is_integer d_l_is_integer
  b_l_is_integer : Binds K d_l_is_integer ["told"] []
  m_l_is_integer : mg "_law_is_integer" = some (.ref f_l_is_integer)
  F_l_start : Fun K "_law_start" "_law_start" s_l_start f_l_start d_l_start
  b_l_start : Binds K d_l_start ["cell", "k"] []
  m_l_start : mg "_law_start" = some (.ref f_l_start)
  F_l_digit : Fun K "_law_digit" "_law_digit" s_l_digit f_l_digit d_l_digit
  b_l_digit : Binds K d_l_digit ["state", "many"] []
  m_l_digit : mg "_law_digit" = some (.ref f_l_digit)
  F_l_rule : Fun K "_law_rule" "_law_rule" s_l_rule f_l_rule d_l_rule
  b_l_rule : Binds K d_l_rule ["state", "wide"] []
  m_l_rule : mg "_law_rule" = some (.ref f_l_rule)
  F_l_made : Fun K "_law_made" "_law_made" s_l_made f_l_made d_l_made
  b_l_made : Binds K d_l_made ["rule"] []
  m_l_made : mg "_law_made" = some (.ref f_l_made)
  F_l_draw : Fun K "_law_draw" "_law_draw" s_l_draw f_l_draw d_l_draw
  b_l_draw : Binds K d_l_draw ["state", "below"] []
  m_l_draw : mg "_law_draw" = some (.ref f_l_draw)
  F_l_admits : Fun K "_law_admits" "_law_admits" s_l_admits f_l_admits d_l_admits
  b_l_admits : Binds K d_l_admits ["rule", "packet"] []
  m_l_admits : mg "_law_admits" = some (.ref f_l_admits)
  F_l_applies : Fun K "_law_applies" "_law_applies" s_l_applies f_l_applies d_l_applies
  b_l_applies : Binds K d_l_applies ["rule", "counts", "k", "state"] []
  m_l_applies : mg "_law_applies" = some (.ref f_l_applies)
  F_l_due : Fun K "_law_due" "_law_due" s_l_due f_l_due d_l_due
  b_l_due : Binds K d_l_due ["rules", "counts", "state", "packet"] []
  m_l_due : mg "_law_due" = some (.ref f_l_due)
  F_l_same : Fun K "_law_same" "_law_same" s_l_same f_l_same d_l_same
  b_l_same : Binds K d_l_same ["told", "due"] []
  m_l_same : mg "_law_same" = some (.ref f_l_same)
  F_l_equal : Fun K "_law_equal" "_law_equal" s_l_equal f_l_equal d_l_equal
  b_l_equal : Binds K d_l_equal ["told", "due"] []
  m_l_equal : mg "_law_equal" = some (.ref f_l_equal)
  F_l_packet : Fun K "_law_packet" "_law_packet" s_l_packet f_l_packet d_l_packet
  b_l_packet : Binds K d_l_packet ["cell", "k", "wide"] []
  m_l_packet : mg "_law_packet" = some (.ref f_l_packet)
  F_law : Fun K "law" "law" s_law f_law d_law
  b_law : Binds K d_law ["script"] []
  m_law : mg "law" = some (.ref f_law)
  n_bool : mg "bool" = none
  n_enumerate : mg "enumerate" = none
  n_int : mg "int" = none
  n_isinstance : mg "isinstance" = none
  n_len : mg "len" = none
  n_list : mg "list" = none
  n_max : mg "max" = none
  n_min : mg "min" = none
  n_range : mg "range" = none
def ky_Verdict : List Str := ["lost", "marked", "copies", "delay"]
theorem nd_Verdict : ky_Verdict.Nodup := by decide +kernel
section
variable {K : PySem.W.Frag} {mg : Str → Option Value} {T : Txt K mg} {H : Hp} {a dx : Addr} {vs : List V} {v y : V}
theorem fd_Verdict_lost {A : V → Prop} (ho : H a = some (.ins T.C_Verdict dx (obj ky_Verdict vs))) (hv : vs[0]? = some v) (q : A v) : ∃ a' C' dx' fs v', V.ref a = .ref a' ∧ H a' = some (.ins C' dx' fs) ∧ Cls K C' ∧ NoAttr K C' "lost" ∧ fs.lookup ("lost" : Str) = some v' ∧ A v' := g_fldE ho T.k_Verdict T.n_Verdict_lost nd_Verdict rfl hv q
theorem st_Verdict_lost {A : Hp → Prop} (ho : H a = some (.ins T.C_Verdict dx (obj ky_Verdict vs))) (hv : 0 < vs.length) (q : A (upd H a (.ins T.C_Verdict dx (obj ky_Verdict (vs.set 0 y))))) : ∃ a' C' dx' fs, V.ref a = .ref a' ∧ H a' = some (.ins C' dx' fs) ∧ Cls K C' ∧ NoAttr K C' "lost" ∧ fs.length < 1000 ∧ A (upd H a' (.ins C' dx' (putF "lost" y fs))) := g_putE ho T.k_Verdict T.n_Verdict_lost nd_Verdict (by decide) rfl hv q
theorem nw_Verdict_lost {A : Hp → Prop} (ho : H a = some (.ins T.C_Verdict dx (obj ky_Verdict vs))) (hv : vs.length = 0) (q : A (upd H a (.ins T.C_Verdict dx (obj ky_Verdict (vs ++ [y]))))) : ∃ a' C' dx' fs, V.ref a = .ref a' ∧ H a' = some (.ins C' dx' fs) ∧ Cls K C' ∧ NoAttr K C' "lost" ∧ fs.length < 1000 ∧ A (upd H a' (.ins C' dx' (putF "lost" y fs))) := g_newE ho T.k_Verdict T.n_Verdict_lost nd_Verdict (by decide) (by rw [hv]; rfl) q
theorem fd_Verdict_marked {A : V → Prop} (ho : H a = some (.ins T.C_Verdict dx (obj ky_Verdict vs))) (hv : vs[1]? = some v) (q : A v) : ∃ a' C' dx' fs v', V.ref a = .ref a' ∧ H a' = some (.ins C' dx' fs) ∧ Cls K C' ∧ NoAttr K C' "marked" ∧ fs.lookup ("marked" : Str) = some v' ∧ A v' := g_fldE ho T.k_Verdict T.n_Verdict_marked nd_Verdict rfl hv q
theorem st_Verdict_marked {A : Hp → Prop} (ho : H a = some (.ins T.C_Verdict dx (obj ky_Verdict vs))) (hv : 1 < vs.length) (q : A (upd H a (.ins T.C_Verdict dx (obj ky_Verdict (vs.set 1 y))))) : ∃ a' C' dx' fs, V.ref a = .ref a' ∧ H a' = some (.ins C' dx' fs) ∧ Cls K C' ∧ NoAttr K C' "marked" ∧ fs.length < 1000 ∧ A (upd H a' (.ins C' dx' (putF "marked" y fs))) := g_putE ho T.k_Verdict T.n_Verdict_marked nd_Verdict (by decide) rfl hv q
theorem nw_Verdict_marked {A : Hp → Prop} (ho : H a = some (.ins T.C_Verdict dx (obj ky_Verdict vs))) (hv : vs.length = 1) (q : A (upd H a (.ins T.C_Verdict dx (obj ky_Verdict (vs ++ [y]))))) : ∃ a' C' dx' fs, V.ref a = .ref a' ∧ H a' = some (.ins C' dx' fs) ∧ Cls K C' ∧ NoAttr K C' "marked" ∧ fs.length < 1000 ∧ A (upd H a' (.ins C' dx' (putF "marked" y fs))) := g_newE ho T.k_Verdict T.n_Verdict_marked nd_Verdict (by decide) (by rw [hv]; rfl) q
theorem fd_Verdict_copies {A : V → Prop} (ho : H a = some (.ins T.C_Verdict dx (obj ky_Verdict vs))) (hv : vs[2]? = some v) (q : A v) : ∃ a' C' dx' fs v', V.ref a = .ref a' ∧ H a' = some (.ins C' dx' fs) ∧ Cls K C' ∧ NoAttr K C' "copies" ∧ fs.lookup ("copies" : Str) = some v' ∧ A v' := g_fldE ho T.k_Verdict T.n_Verdict_copies nd_Verdict rfl hv q
theorem st_Verdict_copies {A : Hp → Prop} (ho : H a = some (.ins T.C_Verdict dx (obj ky_Verdict vs))) (hv : 2 < vs.length) (q : A (upd H a (.ins T.C_Verdict dx (obj ky_Verdict (vs.set 2 y))))) : ∃ a' C' dx' fs, V.ref a = .ref a' ∧ H a' = some (.ins C' dx' fs) ∧ Cls K C' ∧ NoAttr K C' "copies" ∧ fs.length < 1000 ∧ A (upd H a' (.ins C' dx' (putF "copies" y fs))) := g_putE ho T.k_Verdict T.n_Verdict_copies nd_Verdict (by decide) rfl hv q
theorem nw_Verdict_copies {A : Hp → Prop} (ho : H a = some (.ins T.C_Verdict dx (obj ky_Verdict vs))) (hv : vs.length = 2) (q : A (upd H a (.ins T.C_Verdict dx (obj ky_Verdict (vs ++ [y]))))) : ∃ a' C' dx' fs, V.ref a = .ref a' ∧ H a' = some (.ins C' dx' fs) ∧ Cls K C' ∧ NoAttr K C' "copies" ∧ fs.length < 1000 ∧ A (upd H a' (.ins C' dx' (putF "copies" y fs))) := g_newE ho T.k_Verdict T.n_Verdict_copies nd_Verdict (by decide) (by rw [hv]; rfl) q
theorem fd_Verdict_delay {A : V → Prop} (ho : H a = some (.ins T.C_Verdict dx (obj ky_Verdict vs))) (hv : vs[3]? = some v) (q : A v) : ∃ a' C' dx' fs v', V.ref a = .ref a' ∧ H a' = some (.ins C' dx' fs) ∧ Cls K C' ∧ NoAttr K C' "delay" ∧ fs.lookup ("delay" : Str) = some v' ∧ A v' := g_fldE ho T.k_Verdict T.n_Verdict_delay nd_Verdict rfl hv q
theorem st_Verdict_delay {A : Hp → Prop} (ho : H a = some (.ins T.C_Verdict dx (obj ky_Verdict vs))) (hv : 3 < vs.length) (q : A (upd H a (.ins T.C_Verdict dx (obj ky_Verdict (vs.set 3 y))))) : ∃ a' C' dx' fs, V.ref a = .ref a' ∧ H a' = some (.ins C' dx' fs) ∧ Cls K C' ∧ NoAttr K C' "delay" ∧ fs.length < 1000 ∧ A (upd H a' (.ins C' dx' (putF "delay" y fs))) := g_putE ho T.k_Verdict T.n_Verdict_delay nd_Verdict (by decide) rfl hv q
theorem nw_Verdict_delay {A : Hp → Prop} (ho : H a = some (.ins T.C_Verdict dx (obj ky_Verdict vs))) (hv : vs.length = 3) (q : A (upd H a (.ins T.C_Verdict dx (obj ky_Verdict (vs ++ [y]))))) : ∃ a' C' dx' fs, V.ref a = .ref a' ∧ H a' = some (.ins C' dx' fs) ∧ Cls K C' ∧ NoAttr K C' "delay" ∧ fs.length < 1000 ∧ A (upd H a' (.ins C' dx' (putF "delay" y fs))) := g_newE ho T.k_Verdict T.n_Verdict_delay nd_Verdict (by decide) (by rw [hv]; rfl) q
theorem me_Verdict_eq__ {A : Prop} (ho : H a = some (.ins T.C_Verdict dx (obj ky_Verdict vs))) (q : A) : ∃ a' dx' fs, V.ref a = .ref a' ∧ H a' = some (.ins T.C_Verdict dx' fs) ∧ fs.lookup ("__eq__" : Str) = none ∧ A := g_methE ho (by decide +kernel) q
theorem me_Verdict_fields {A : Prop} (ho : H a = some (.ins T.C_Verdict dx (obj ky_Verdict vs))) (q : A) : ∃ a' dx' fs, V.ref a = .ref a' ∧ H a' = some (.ins T.C_Verdict dx' fs) ∧ fs.lookup ("_fields" : Str) = none ∧ A := g_methE ho (by decide +kernel) q
end
def ky_Faults : List Str := ["seed", "counts", "_rules"]
theorem nd_Faults : ky_Faults.Nodup := by decide +kernel
section
variable {K : PySem.W.Frag} {mg : Str → Option Value} {T : Txt K mg} {H : Hp} {a dx : Addr} {vs : List V} {v y : V}
theorem fd_Faults_seed {A : V → Prop} (ho : H a = some (.ins T.C_Faults dx (obj ky_Faults vs))) (hv : vs[0]? = some v) (q : A v) : ∃ a' C' dx' fs v', V.ref a = .ref a' ∧ H a' = some (.ins C' dx' fs) ∧ Cls K C' ∧ NoAttr K C' "seed" ∧ fs.lookup ("seed" : Str) = some v' ∧ A v' := g_fldE ho T.k_Faults T.n_Faults_seed nd_Faults rfl hv q
theorem st_Faults_seed {A : Hp → Prop} (ho : H a = some (.ins T.C_Faults dx (obj ky_Faults vs))) (hv : 0 < vs.length) (q : A (upd H a (.ins T.C_Faults dx (obj ky_Faults (vs.set 0 y))))) : ∃ a' C' dx' fs, V.ref a = .ref a' ∧ H a' = some (.ins C' dx' fs) ∧ Cls K C' ∧ NoAttr K C' "seed" ∧ fs.length < 1000 ∧ A (upd H a' (.ins C' dx' (putF "seed" y fs))) := g_putE ho T.k_Faults T.n_Faults_seed nd_Faults (by decide) rfl hv q
theorem nw_Faults_seed {A : Hp → Prop} (ho : H a = some (.ins T.C_Faults dx (obj ky_Faults vs))) (hv : vs.length = 0) (q : A (upd H a (.ins T.C_Faults dx (obj ky_Faults (vs ++ [y]))))) : ∃ a' C' dx' fs, V.ref a = .ref a' ∧ H a' = some (.ins C' dx' fs) ∧ Cls K C' ∧ NoAttr K C' "seed" ∧ fs.length < 1000 ∧ A (upd H a' (.ins C' dx' (putF "seed" y fs))) := g_newE ho T.k_Faults T.n_Faults_seed nd_Faults (by decide) (by rw [hv]; rfl) q
theorem fd_Faults_counts {A : V → Prop} (ho : H a = some (.ins T.C_Faults dx (obj ky_Faults vs))) (hv : vs[1]? = some v) (q : A v) : ∃ a' C' dx' fs v', V.ref a = .ref a' ∧ H a' = some (.ins C' dx' fs) ∧ Cls K C' ∧ NoAttr K C' "counts" ∧ fs.lookup ("counts" : Str) = some v' ∧ A v' := g_fldE ho T.k_Faults T.n_Faults_counts nd_Faults rfl hv q
theorem st_Faults_counts {A : Hp → Prop} (ho : H a = some (.ins T.C_Faults dx (obj ky_Faults vs))) (hv : 1 < vs.length) (q : A (upd H a (.ins T.C_Faults dx (obj ky_Faults (vs.set 1 y))))) : ∃ a' C' dx' fs, V.ref a = .ref a' ∧ H a' = some (.ins C' dx' fs) ∧ Cls K C' ∧ NoAttr K C' "counts" ∧ fs.length < 1000 ∧ A (upd H a' (.ins C' dx' (putF "counts" y fs))) := g_putE ho T.k_Faults T.n_Faults_counts nd_Faults (by decide) rfl hv q
theorem nw_Faults_counts {A : Hp → Prop} (ho : H a = some (.ins T.C_Faults dx (obj ky_Faults vs))) (hv : vs.length = 1) (q : A (upd H a (.ins T.C_Faults dx (obj ky_Faults (vs ++ [y]))))) : ∃ a' C' dx' fs, V.ref a = .ref a' ∧ H a' = some (.ins C' dx' fs) ∧ Cls K C' ∧ NoAttr K C' "counts" ∧ fs.length < 1000 ∧ A (upd H a' (.ins C' dx' (putF "counts" y fs))) := g_newE ho T.k_Faults T.n_Faults_counts nd_Faults (by decide) (by rw [hv]; rfl) q
theorem fd_Faults__rules {A : V → Prop} (ho : H a = some (.ins T.C_Faults dx (obj ky_Faults vs))) (hv : vs[2]? = some v) (q : A v) : ∃ a' C' dx' fs v', V.ref a = .ref a' ∧ H a' = some (.ins C' dx' fs) ∧ Cls K C' ∧ NoAttr K C' "_rules" ∧ fs.lookup ("_rules" : Str) = some v' ∧ A v' := g_fldE ho T.k_Faults T.n_Faults__rules nd_Faults rfl hv q
theorem st_Faults__rules {A : Hp → Prop} (ho : H a = some (.ins T.C_Faults dx (obj ky_Faults vs))) (hv : 2 < vs.length) (q : A (upd H a (.ins T.C_Faults dx (obj ky_Faults (vs.set 2 y))))) : ∃ a' C' dx' fs, V.ref a = .ref a' ∧ H a' = some (.ins C' dx' fs) ∧ Cls K C' ∧ NoAttr K C' "_rules" ∧ fs.length < 1000 ∧ A (upd H a' (.ins C' dx' (putF "_rules" y fs))) := g_putE ho T.k_Faults T.n_Faults__rules nd_Faults (by decide) rfl hv q
theorem nw_Faults__rules {A : Hp → Prop} (ho : H a = some (.ins T.C_Faults dx (obj ky_Faults vs))) (hv : vs.length = 2) (q : A (upd H a (.ins T.C_Faults dx (obj ky_Faults (vs ++ [y]))))) : ∃ a' C' dx' fs, V.ref a = .ref a' ∧ H a' = some (.ins C' dx' fs) ∧ Cls K C' ∧ NoAttr K C' "_rules" ∧ fs.length < 1000 ∧ A (upd H a' (.ins C' dx' (putF "_rules" y fs))) := g_newE ho T.k_Faults T.n_Faults__rules nd_Faults (by decide) (by rw [hv]; rfl) q
theorem me_Faults_judge {A : Prop} (ho : H a = some (.ins T.C_Faults dx (obj ky_Faults vs))) (q : A) : ∃ a' dx' fs, V.ref a = .ref a' ∧ H a' = some (.ins T.C_Faults dx' fs) ∧ fs.lookup ("judge" : Str) = none ∧ A := g_methE ho (by decide +kernel) q
theorem me_Faults_applies {A : Prop} (ho : H a = some (.ins T.C_Faults dx (obj ky_Faults vs))) (q : A) : ∃ a' dx' fs, V.ref a = .ref a' ∧ H a' = some (.ins T.C_Faults dx' fs) ∧ fs.lookup ("_applies" : Str) = none ∧ A := g_methE ho (by decide +kernel) q
theorem me_Faults_apply {A : Prop} (ho : H a = some (.ins T.C_Faults dx (obj ky_Faults vs))) (q : A) : ∃ a' dx' fs, V.ref a = .ref a' ∧ H a' = some (.ins T.C_Faults dx' fs) ∧ fs.lookup ("_apply" : Str) = none ∧ A := g_methE ho (by decide +kernel) q
theorem me_Faults_draw {A : Prop} (ho : H a = some (.ins T.C_Faults dx (obj ky_Faults vs))) (q : A) : ∃ a' dx' fs, V.ref a = .ref a' ∧ H a' = some (.ins T.C_Faults dx' fs) ∧ fs.lookup ("_draw" : Str) = none ∧ A := g_methE ho (by decide +kernel) q
end
def ky_Rule : List Str := ["fault", "amount", "until", "sender", "target", "ticks", "nth", "chance"]
theorem nd_Rule : ky_Rule.Nodup := by decide +kernel
section
variable {K : PySem.W.Frag} {mg : Str → Option Value} {T : Txt K mg} {H : Hp} {a dx : Addr} {vs : List V} {v y : V}
theorem fd_Rule_fault {A : V → Prop} (ho : H a = some (.ins T.C_Rule dx (obj ky_Rule vs))) (hv : vs[0]? = some v) (q : A v) : ∃ a' C' dx' fs v', V.ref a = .ref a' ∧ H a' = some (.ins C' dx' fs) ∧ Cls K C' ∧ NoAttr K C' "fault" ∧ fs.lookup ("fault" : Str) = some v' ∧ A v' := g_fldE ho T.k_Rule T.n_Rule_fault nd_Rule rfl hv q
theorem st_Rule_fault {A : Hp → Prop} (ho : H a = some (.ins T.C_Rule dx (obj ky_Rule vs))) (hv : 0 < vs.length) (q : A (upd H a (.ins T.C_Rule dx (obj ky_Rule (vs.set 0 y))))) : ∃ a' C' dx' fs, V.ref a = .ref a' ∧ H a' = some (.ins C' dx' fs) ∧ Cls K C' ∧ NoAttr K C' "fault" ∧ fs.length < 1000 ∧ A (upd H a' (.ins C' dx' (putF "fault" y fs))) := g_putE ho T.k_Rule T.n_Rule_fault nd_Rule (by decide) rfl hv q
theorem nw_Rule_fault {A : Hp → Prop} (ho : H a = some (.ins T.C_Rule dx (obj ky_Rule vs))) (hv : vs.length = 0) (q : A (upd H a (.ins T.C_Rule dx (obj ky_Rule (vs ++ [y]))))) : ∃ a' C' dx' fs, V.ref a = .ref a' ∧ H a' = some (.ins C' dx' fs) ∧ Cls K C' ∧ NoAttr K C' "fault" ∧ fs.length < 1000 ∧ A (upd H a' (.ins C' dx' (putF "fault" y fs))) := g_newE ho T.k_Rule T.n_Rule_fault nd_Rule (by decide) (by rw [hv]; rfl) q
theorem fd_Rule_amount {A : V → Prop} (ho : H a = some (.ins T.C_Rule dx (obj ky_Rule vs))) (hv : vs[1]? = some v) (q : A v) : ∃ a' C' dx' fs v', V.ref a = .ref a' ∧ H a' = some (.ins C' dx' fs) ∧ Cls K C' ∧ NoAttr K C' "amount" ∧ fs.lookup ("amount" : Str) = some v' ∧ A v' := g_fldE ho T.k_Rule T.n_Rule_amount nd_Rule rfl hv q
theorem st_Rule_amount {A : Hp → Prop} (ho : H a = some (.ins T.C_Rule dx (obj ky_Rule vs))) (hv : 1 < vs.length) (q : A (upd H a (.ins T.C_Rule dx (obj ky_Rule (vs.set 1 y))))) : ∃ a' C' dx' fs, V.ref a = .ref a' ∧ H a' = some (.ins C' dx' fs) ∧ Cls K C' ∧ NoAttr K C' "amount" ∧ fs.length < 1000 ∧ A (upd H a' (.ins C' dx' (putF "amount" y fs))) := g_putE ho T.k_Rule T.n_Rule_amount nd_Rule (by decide) rfl hv q
theorem nw_Rule_amount {A : Hp → Prop} (ho : H a = some (.ins T.C_Rule dx (obj ky_Rule vs))) (hv : vs.length = 1) (q : A (upd H a (.ins T.C_Rule dx (obj ky_Rule (vs ++ [y]))))) : ∃ a' C' dx' fs, V.ref a = .ref a' ∧ H a' = some (.ins C' dx' fs) ∧ Cls K C' ∧ NoAttr K C' "amount" ∧ fs.length < 1000 ∧ A (upd H a' (.ins C' dx' (putF "amount" y fs))) := g_newE ho T.k_Rule T.n_Rule_amount nd_Rule (by decide) (by rw [hv]; rfl) q
theorem fd_Rule_until {A : V → Prop} (ho : H a = some (.ins T.C_Rule dx (obj ky_Rule vs))) (hv : vs[2]? = some v) (q : A v) : ∃ a' C' dx' fs v', V.ref a = .ref a' ∧ H a' = some (.ins C' dx' fs) ∧ Cls K C' ∧ NoAttr K C' "until" ∧ fs.lookup ("until" : Str) = some v' ∧ A v' := g_fldE ho T.k_Rule T.n_Rule_until nd_Rule rfl hv q
theorem st_Rule_until {A : Hp → Prop} (ho : H a = some (.ins T.C_Rule dx (obj ky_Rule vs))) (hv : 2 < vs.length) (q : A (upd H a (.ins T.C_Rule dx (obj ky_Rule (vs.set 2 y))))) : ∃ a' C' dx' fs, V.ref a = .ref a' ∧ H a' = some (.ins C' dx' fs) ∧ Cls K C' ∧ NoAttr K C' "until" ∧ fs.length < 1000 ∧ A (upd H a' (.ins C' dx' (putF "until" y fs))) := g_putE ho T.k_Rule T.n_Rule_until nd_Rule (by decide) rfl hv q
theorem nw_Rule_until {A : Hp → Prop} (ho : H a = some (.ins T.C_Rule dx (obj ky_Rule vs))) (hv : vs.length = 2) (q : A (upd H a (.ins T.C_Rule dx (obj ky_Rule (vs ++ [y]))))) : ∃ a' C' dx' fs, V.ref a = .ref a' ∧ H a' = some (.ins C' dx' fs) ∧ Cls K C' ∧ NoAttr K C' "until" ∧ fs.length < 1000 ∧ A (upd H a' (.ins C' dx' (putF "until" y fs))) := g_newE ho T.k_Rule T.n_Rule_until nd_Rule (by decide) (by rw [hv]; rfl) q
theorem fd_Rule_sender {A : V → Prop} (ho : H a = some (.ins T.C_Rule dx (obj ky_Rule vs))) (hv : vs[3]? = some v) (q : A v) : ∃ a' C' dx' fs v', V.ref a = .ref a' ∧ H a' = some (.ins C' dx' fs) ∧ Cls K C' ∧ NoAttr K C' "sender" ∧ fs.lookup ("sender" : Str) = some v' ∧ A v' := g_fldE ho T.k_Rule T.n_Rule_sender nd_Rule rfl hv q
theorem st_Rule_sender {A : Hp → Prop} (ho : H a = some (.ins T.C_Rule dx (obj ky_Rule vs))) (hv : 3 < vs.length) (q : A (upd H a (.ins T.C_Rule dx (obj ky_Rule (vs.set 3 y))))) : ∃ a' C' dx' fs, V.ref a = .ref a' ∧ H a' = some (.ins C' dx' fs) ∧ Cls K C' ∧ NoAttr K C' "sender" ∧ fs.length < 1000 ∧ A (upd H a' (.ins C' dx' (putF "sender" y fs))) := g_putE ho T.k_Rule T.n_Rule_sender nd_Rule (by decide) rfl hv q
theorem nw_Rule_sender {A : Hp → Prop} (ho : H a = some (.ins T.C_Rule dx (obj ky_Rule vs))) (hv : vs.length = 3) (q : A (upd H a (.ins T.C_Rule dx (obj ky_Rule (vs ++ [y]))))) : ∃ a' C' dx' fs, V.ref a = .ref a' ∧ H a' = some (.ins C' dx' fs) ∧ Cls K C' ∧ NoAttr K C' "sender" ∧ fs.length < 1000 ∧ A (upd H a' (.ins C' dx' (putF "sender" y fs))) := g_newE ho T.k_Rule T.n_Rule_sender nd_Rule (by decide) (by rw [hv]; rfl) q
theorem fd_Rule_target {A : V → Prop} (ho : H a = some (.ins T.C_Rule dx (obj ky_Rule vs))) (hv : vs[4]? = some v) (q : A v) : ∃ a' C' dx' fs v', V.ref a = .ref a' ∧ H a' = some (.ins C' dx' fs) ∧ Cls K C' ∧ NoAttr K C' "target" ∧ fs.lookup ("target" : Str) = some v' ∧ A v' := g_fldE ho T.k_Rule T.n_Rule_target nd_Rule rfl hv q
theorem st_Rule_target {A : Hp → Prop} (ho : H a = some (.ins T.C_Rule dx (obj ky_Rule vs))) (hv : 4 < vs.length) (q : A (upd H a (.ins T.C_Rule dx (obj ky_Rule (vs.set 4 y))))) : ∃ a' C' dx' fs, V.ref a = .ref a' ∧ H a' = some (.ins C' dx' fs) ∧ Cls K C' ∧ NoAttr K C' "target" ∧ fs.length < 1000 ∧ A (upd H a' (.ins C' dx' (putF "target" y fs))) := g_putE ho T.k_Rule T.n_Rule_target nd_Rule (by decide) rfl hv q
theorem nw_Rule_target {A : Hp → Prop} (ho : H a = some (.ins T.C_Rule dx (obj ky_Rule vs))) (hv : vs.length = 4) (q : A (upd H a (.ins T.C_Rule dx (obj ky_Rule (vs ++ [y]))))) : ∃ a' C' dx' fs, V.ref a = .ref a' ∧ H a' = some (.ins C' dx' fs) ∧ Cls K C' ∧ NoAttr K C' "target" ∧ fs.length < 1000 ∧ A (upd H a' (.ins C' dx' (putF "target" y fs))) := g_newE ho T.k_Rule T.n_Rule_target nd_Rule (by decide) (by rw [hv]; rfl) q
theorem fd_Rule_ticks {A : V → Prop} (ho : H a = some (.ins T.C_Rule dx (obj ky_Rule vs))) (hv : vs[5]? = some v) (q : A v) : ∃ a' C' dx' fs v', V.ref a = .ref a' ∧ H a' = some (.ins C' dx' fs) ∧ Cls K C' ∧ NoAttr K C' "ticks" ∧ fs.lookup ("ticks" : Str) = some v' ∧ A v' := g_fldE ho T.k_Rule T.n_Rule_ticks nd_Rule rfl hv q
theorem st_Rule_ticks {A : Hp → Prop} (ho : H a = some (.ins T.C_Rule dx (obj ky_Rule vs))) (hv : 5 < vs.length) (q : A (upd H a (.ins T.C_Rule dx (obj ky_Rule (vs.set 5 y))))) : ∃ a' C' dx' fs, V.ref a = .ref a' ∧ H a' = some (.ins C' dx' fs) ∧ Cls K C' ∧ NoAttr K C' "ticks" ∧ fs.length < 1000 ∧ A (upd H a' (.ins C' dx' (putF "ticks" y fs))) := g_putE ho T.k_Rule T.n_Rule_ticks nd_Rule (by decide) rfl hv q
theorem nw_Rule_ticks {A : Hp → Prop} (ho : H a = some (.ins T.C_Rule dx (obj ky_Rule vs))) (hv : vs.length = 5) (q : A (upd H a (.ins T.C_Rule dx (obj ky_Rule (vs ++ [y]))))) : ∃ a' C' dx' fs, V.ref a = .ref a' ∧ H a' = some (.ins C' dx' fs) ∧ Cls K C' ∧ NoAttr K C' "ticks" ∧ fs.length < 1000 ∧ A (upd H a' (.ins C' dx' (putF "ticks" y fs))) := g_newE ho T.k_Rule T.n_Rule_ticks nd_Rule (by decide) (by rw [hv]; rfl) q
theorem fd_Rule_nth {A : V → Prop} (ho : H a = some (.ins T.C_Rule dx (obj ky_Rule vs))) (hv : vs[6]? = some v) (q : A v) : ∃ a' C' dx' fs v', V.ref a = .ref a' ∧ H a' = some (.ins C' dx' fs) ∧ Cls K C' ∧ NoAttr K C' "nth" ∧ fs.lookup ("nth" : Str) = some v' ∧ A v' := g_fldE ho T.k_Rule T.n_Rule_nth nd_Rule rfl hv q
theorem st_Rule_nth {A : Hp → Prop} (ho : H a = some (.ins T.C_Rule dx (obj ky_Rule vs))) (hv : 6 < vs.length) (q : A (upd H a (.ins T.C_Rule dx (obj ky_Rule (vs.set 6 y))))) : ∃ a' C' dx' fs, V.ref a = .ref a' ∧ H a' = some (.ins C' dx' fs) ∧ Cls K C' ∧ NoAttr K C' "nth" ∧ fs.length < 1000 ∧ A (upd H a' (.ins C' dx' (putF "nth" y fs))) := g_putE ho T.k_Rule T.n_Rule_nth nd_Rule (by decide) rfl hv q
theorem nw_Rule_nth {A : Hp → Prop} (ho : H a = some (.ins T.C_Rule dx (obj ky_Rule vs))) (hv : vs.length = 6) (q : A (upd H a (.ins T.C_Rule dx (obj ky_Rule (vs ++ [y]))))) : ∃ a' C' dx' fs, V.ref a = .ref a' ∧ H a' = some (.ins C' dx' fs) ∧ Cls K C' ∧ NoAttr K C' "nth" ∧ fs.length < 1000 ∧ A (upd H a' (.ins C' dx' (putF "nth" y fs))) := g_newE ho T.k_Rule T.n_Rule_nth nd_Rule (by decide) (by rw [hv]; rfl) q
theorem fd_Rule_chance {A : V → Prop} (ho : H a = some (.ins T.C_Rule dx (obj ky_Rule vs))) (hv : vs[7]? = some v) (q : A v) : ∃ a' C' dx' fs v', V.ref a = .ref a' ∧ H a' = some (.ins C' dx' fs) ∧ Cls K C' ∧ NoAttr K C' "chance" ∧ fs.lookup ("chance" : Str) = some v' ∧ A v' := g_fldE ho T.k_Rule T.n_Rule_chance nd_Rule rfl hv q
theorem st_Rule_chance {A : Hp → Prop} (ho : H a = some (.ins T.C_Rule dx (obj ky_Rule vs))) (hv : 7 < vs.length) (q : A (upd H a (.ins T.C_Rule dx (obj ky_Rule (vs.set 7 y))))) : ∃ a' C' dx' fs, V.ref a = .ref a' ∧ H a' = some (.ins C' dx' fs) ∧ Cls K C' ∧ NoAttr K C' "chance" ∧ fs.length < 1000 ∧ A (upd H a' (.ins C' dx' (putF "chance" y fs))) := g_putE ho T.k_Rule T.n_Rule_chance nd_Rule (by decide) rfl hv q
theorem nw_Rule_chance {A : Hp → Prop} (ho : H a = some (.ins T.C_Rule dx (obj ky_Rule vs))) (hv : vs.length = 7) (q : A (upd H a (.ins T.C_Rule dx (obj ky_Rule (vs ++ [y]))))) : ∃ a' C' dx' fs, V.ref a = .ref a' ∧ H a' = some (.ins C' dx' fs) ∧ Cls K C' ∧ NoAttr K C' "chance" ∧ fs.length < 1000 ∧ A (upd H a' (.ins C' dx' (putF "chance" y fs))) := g_newE ho T.k_Rule T.n_Rule_chance nd_Rule (by decide) (by rw [hv]; rfl) q
theorem me_Rule_considers {A : Prop} (ho : H a = some (.ins T.C_Rule dx (obj ky_Rule vs))) (q : A) : ∃ a' dx' fs, V.ref a = .ref a' ∧ H a' = some (.ins T.C_Rule dx' fs) ∧ fs.lookup ("considers" : Str) = none ∧ A := g_methE ho (by decide +kernel) q
theorem me_Rule_fork {A : Prop} (ho : H a = some (.ins T.C_Rule dx (obj ky_Rule vs))) (q : A) : ∃ a' dx' fs, V.ref a = .ref a' ∧ H a' = some (.ins T.C_Rule dx' fs) ∧ fs.lookup ("fork" : Str) = none ∧ A := g_methE ho (by decide +kernel) q
end
local macro_rules | `(tactic| walk_at "use") => `(tactic| first | ((with_reducible refine' fd_Verdict_lost ?ho_ ?hv_ ?_); (case ho_ => first | assumption | exact upd_same); (case hv_ => exact rfl)) | ((with_reducible refine' fd_Verdict_marked ?ho_ ?hv_ ?_); (case ho_ => first | assumption | exact upd_same); (case hv_ => exact rfl)) | ((with_reducible refine' fd_Verdict_copies ?ho_ ?hv_ ?_); (case ho_ => first | assumption | exact upd_same); (case hv_ => exact rfl)) | ((with_reducible refine' fd_Verdict_delay ?ho_ ?hv_ ?_); (case ho_ => first | assumption | exact upd_same); (case hv_ => exact rfl)) | ((with_reducible refine' nw_Verdict_lost ?ho_ ?hv_ ?_); (case ho_ => first | assumption | exact upd_same); (case hv_ => exact rfl)) | ((with_reducible refine' nw_Verdict_marked ?ho_ ?hv_ ?_); (case ho_ => first | assumption | exact upd_same); (case hv_ => exact rfl)) | ((with_reducible refine' nw_Verdict_copies ?ho_ ?hv_ ?_); (case ho_ => first | assumption | exact upd_same); (case hv_ => exact rfl)) | ((with_reducible refine' nw_Verdict_delay ?ho_ ?hv_ ?_); (case ho_ => first | assumption | exact upd_same); (case hv_ => exact rfl)) | ((with_reducible refine' st_Verdict_lost ?ho_ ?hv_ ?_); (case ho_ => first | assumption | exact upd_same); (case hv_ => exact Nat.le_of_ble_eq_true rfl)) | ((with_reducible refine' st_Verdict_marked ?ho_ ?hv_ ?_); (case ho_ => first | assumption | exact upd_same); (case hv_ => exact Nat.le_of_ble_eq_true rfl)) | ((with_reducible refine' st_Verdict_copies ?ho_ ?hv_ ?_); (case ho_ => first | assumption | exact upd_same); (case hv_ => exact Nat.le_of_ble_eq_true rfl)) | ((with_reducible refine' st_Verdict_delay ?ho_ ?hv_ ?_); (case ho_ => first | assumption | exact upd_same); (case hv_ => exact Nat.le_of_ble_eq_true rfl)) | ((with_reducible refine' me_Verdict_eq__ ?ho_ ?_); (case ho_ => first | assumption | exact upd_same)) | ((with_reducible refine' me_Verdict_fields ?ho_ ?_); (case ho_ => first | assumption | exact upd_same)))
local macro_rules | `(tactic| walk_at "use") => `(tactic| first | ((with_reducible refine' fd_Faults_seed ?ho_ ?hv_ ?_); (case ho_ => first | assumption | exact upd_same); (case hv_ => exact rfl)) | ((with_reducible refine' fd_Faults_counts ?ho_ ?hv_ ?_); (case ho_ => first | assumption | exact upd_same); (case hv_ => exact rfl)) | ((with_reducible refine' fd_Faults__rules ?ho_ ?hv_ ?_); (case ho_ => first | assumption | exact upd_same); (case hv_ => exact rfl)) | ((with_reducible refine' nw_Faults_seed ?ho_ ?hv_ ?_); (case ho_ => first | assumption | exact upd_same); (case hv_ => exact rfl)) | ((with_reducible refine' nw_Faults_counts ?ho_ ?hv_ ?_); (case ho_ => first | assumption | exact upd_same); (case hv_ => exact rfl)) | ((with_reducible refine' nw_Faults__rules ?ho_ ?hv_ ?_); (case ho_ => first | assumption | exact upd_same); (case hv_ => exact rfl)) | ((with_reducible refine' st_Faults_seed ?ho_ ?hv_ ?_); (case ho_ => first | assumption | exact upd_same); (case hv_ => exact Nat.le_of_ble_eq_true rfl)) | ((with_reducible refine' st_Faults_counts ?ho_ ?hv_ ?_); (case ho_ => first | assumption | exact upd_same); (case hv_ => exact Nat.le_of_ble_eq_true rfl)) | ((with_reducible refine' st_Faults__rules ?ho_ ?hv_ ?_); (case ho_ => first | assumption | exact upd_same); (case hv_ => exact Nat.le_of_ble_eq_true rfl)) | ((with_reducible refine' me_Faults_judge ?ho_ ?_); (case ho_ => first | assumption | exact upd_same)) | ((with_reducible refine' me_Faults_applies ?ho_ ?_); (case ho_ => first | assumption | exact upd_same)) | ((with_reducible refine' me_Faults_apply ?ho_ ?_); (case ho_ => first | assumption | exact upd_same)) | ((with_reducible refine' me_Faults_draw ?ho_ ?_); (case ho_ => first | assumption | exact upd_same)))
local macro_rules | `(tactic| walk_at "use") => `(tactic| first | ((with_reducible refine' fd_Rule_fault ?ho_ ?hv_ ?_); (case ho_ => first | assumption | exact upd_same); (case hv_ => exact rfl)) | ((with_reducible refine' fd_Rule_amount ?ho_ ?hv_ ?_); (case ho_ => first | assumption | exact upd_same); (case hv_ => exact rfl)) | ((with_reducible refine' fd_Rule_until ?ho_ ?hv_ ?_); (case ho_ => first | assumption | exact upd_same); (case hv_ => exact rfl)) | ((with_reducible refine' fd_Rule_sender ?ho_ ?hv_ ?_); (case ho_ => first | assumption | exact upd_same); (case hv_ => exact rfl)) | ((with_reducible refine' fd_Rule_target ?ho_ ?hv_ ?_); (case ho_ => first | assumption | exact upd_same); (case hv_ => exact rfl)) | ((with_reducible refine' fd_Rule_ticks ?ho_ ?hv_ ?_); (case ho_ => first | assumption | exact upd_same); (case hv_ => exact rfl)) | ((with_reducible refine' fd_Rule_nth ?ho_ ?hv_ ?_); (case ho_ => first | assumption | exact upd_same); (case hv_ => exact rfl)) | ((with_reducible refine' fd_Rule_chance ?ho_ ?hv_ ?_); (case ho_ => first | assumption | exact upd_same); (case hv_ => exact rfl)) | ((with_reducible refine' nw_Rule_fault ?ho_ ?hv_ ?_); (case ho_ => first | assumption | exact upd_same); (case hv_ => exact rfl)) | ((with_reducible refine' nw_Rule_amount ?ho_ ?hv_ ?_); (case ho_ => first | assumption | exact upd_same); (case hv_ => exact rfl)) | ((with_reducible refine' nw_Rule_until ?ho_ ?hv_ ?_); (case ho_ => first | assumption | exact upd_same); (case hv_ => exact rfl)) | ((with_reducible refine' nw_Rule_sender ?ho_ ?hv_ ?_); (case ho_ => first | assumption | exact upd_same); (case hv_ => exact rfl)) | ((with_reducible refine' nw_Rule_target ?ho_ ?hv_ ?_); (case ho_ => first | assumption | exact upd_same); (case hv_ => exact rfl)) | ((with_reducible refine' nw_Rule_ticks ?ho_ ?hv_ ?_); (case ho_ => first | assumption | exact upd_same); (case hv_ => exact rfl)) | ((with_reducible refine' nw_Rule_nth ?ho_ ?hv_ ?_); (case ho_ => first | assumption | exact upd_same); (case hv_ => exact rfl)) | ((with_reducible refine' nw_Rule_chance ?ho_ ?hv_ ?_); (case ho_ => first | assumption | exact upd_same); (case hv_ => exact rfl)) | ((with_reducible refine' st_Rule_fault ?ho_ ?hv_ ?_); (case ho_ => first | assumption | exact upd_same); (case hv_ => exact Nat.le_of_ble_eq_true rfl)) | ((with_reducible refine' st_Rule_amount ?ho_ ?hv_ ?_); (case ho_ => first | assumption | exact upd_same); (case hv_ => exact Nat.le_of_ble_eq_true rfl)) | ((with_reducible refine' st_Rule_until ?ho_ ?hv_ ?_); (case ho_ => first | assumption | exact upd_same); (case hv_ => exact Nat.le_of_ble_eq_true rfl)) | ((with_reducible refine' st_Rule_sender ?ho_ ?hv_ ?_); (case ho_ => first | assumption | exact upd_same); (case hv_ => exact Nat.le_of_ble_eq_true rfl)) | ((with_reducible refine' st_Rule_target ?ho_ ?hv_ ?_); (case ho_ => first | assumption | exact upd_same); (case hv_ => exact Nat.le_of_ble_eq_true rfl)) | ((with_reducible refine' st_Rule_ticks ?ho_ ?hv_ ?_); (case ho_ => first | assumption | exact upd_same); (case hv_ => exact Nat.le_of_ble_eq_true rfl)) | ((with_reducible refine' st_Rule_nth ?ho_ ?hv_ ?_); (case ho_ => first | assumption | exact upd_same); (case hv_ => exact Nat.le_of_ble_eq_true rfl)) | ((with_reducible refine' st_Rule_chance ?ho_ ?hv_ ?_); (case ho_ => first | assumption | exact upd_same); (case hv_ => exact Nat.le_of_ble_eq_true rfl)) | ((with_reducible refine' me_Rule_considers ?ho_ ?_); (case ho_ => first | assumption | exact upd_same)) | ((with_reducible refine' me_Rule_fork ?ho_ ?_); (case ho_ => first | assumption | exact upd_same)))
end My
namespace My
open PySem PySem.Spec L2
local macro_rules | `(tactic| walk_at "side") => `(tactic| first | assumption | decide | omega | exact ⟨by decide, by decide⟩ | exact ⟨by decide, by decide, by decide⟩ | decide +kernel | exact cdivW (by decide +kernel) (by decide +kernel) | exact Or.inl ⟨by omega, by omega⟩ | exact Or.inr ⟨by omega, by omega⟩ | (simp only [List.length_map, List.length_cons, List.length_nil, List.length_append]; omega))
local macro_rules | `(tactic| walk_at "fact") => `(tactic| first | assumption | omega | with_reducible rfl)
local macro_rules | `(tactic| walk_at "use") => `(tactic| fail "use")
local macro_rules | `(tactic| walk_at "go1") => `(tactic| with_reducible first | refine g_seq ?_ | refine g_asg ?_ | refine g_ret ?_ | refine g_ifS ?_ | refine g_drop ?_ | refine g_star ?_ | refine g_nx ?_ | refine g_rt ?_ | refine g_bkE ?_ | refine g_ctE ?_ | refine g_next ?_ | refine g_retN ?_ | refine g_brk ?_ | refine g_ct ?_ | refine g_c ?_ | refine g_op ?_ | refine g_un ?_ | refine g_rI0 ?_ | refine g_rU ?_ | refine g_rEqI ?_ | refine g_rNeI ?_ | refine g_isN ?_ | refine g_rIsB ?_ | refine g_rNotB ?_ | refine g_test ?_ | refine g_B ?_ | refine g_bl ?_ | refine g_and ?_ | refine g_or ?_ | refine g_not ?_ | refine g_andV ?_ | refine g_orV ?_ | refine g_notV ?_ | refine g_if ?_ | refine g_chain ?_ | refine g_yes ?_ | refine g_lc ?_ | refine g_revR ?_ | refine g_rng1 ?_ | refine g_iList ?_ | refine g_nil ?_ | refine g_cons ?_ | refine g_tup ?_ | refine g_lst ?_ | refine g_call ?_ | refine g_CB ?_ | refine g_sl ?_ | refine g_noPart ?_ | refine g_part ?_ | refine g_intE ?_ | refine g_ref ?_ | refine g_fld ?_ | refine g_sfld ?_ | refine g_meth ?_ | refine g_make ?_ | refine g_prop ?_  | refine g_ipI ?_ | refine g_int1 ?_ | refine g_int1B ?_ | refine g_one ?_ | refine g_two ?_ | refine g_isiI ?_ | refine g_isiIB ?_ | refine g_isiB ?_ | refine g_BM ?_ | refine g_BM0 ?_ | refine g_sub ?_)
local macro_rules | `(tactic| walk_at "go") => `(tactic| repeat (first | walk_at "go1" | ((with_reducible refine' g_nameE ?sd_ ?_); case sd_ => dsimp only [List.set_cons_succ, List.set_cons_zero]) | ((with_reducible refine' g_var ?sd_ ?_); case sd_ => exact rfl) | ((with_reducible refine' g_aug ?sd_ ?_); case sd_ => exact rfl) | ((with_reducible refine' g_rI ?sd_ ?_); case sd_ => walk_at "side") | ((with_reducible refine' g_dT ?sd_ ?_); case sd_ => walk_at "fact") | ((with_reducible refine' g_dF ?sd_ ?_); case sd_ => walk_at "fact") | ((with_reducible refine' g_nT ?sd_ ?_); case sd_ => walk_at "fact") | ((with_reducible refine' g_nF ?sd_ ?_); case sd_ => walk_at "fact") | (with_reducible refine g_iT rfl ?_) | (with_reducible refine g_iF rfl ?_) | walk_at "use"))
local macro_rules | `(tactic| walk_at "use") => `(tactic| first | ((with_reducible refine' fd_Verdict_lost ?ho_ ?hv_ ?_); (case ho_ => first | assumption | exact upd_same); (case hv_ => exact rfl)) | ((with_reducible refine' fd_Verdict_marked ?ho_ ?hv_ ?_); (case ho_ => first | assumption | exact upd_same); (case hv_ => exact rfl)) | ((with_reducible refine' fd_Verdict_copies ?ho_ ?hv_ ?_); (case ho_ => first | assumption | exact upd_same); (case hv_ => exact rfl)) | ((with_reducible refine' fd_Verdict_delay ?ho_ ?hv_ ?_); (case ho_ => first | assumption | exact upd_same); (case hv_ => exact rfl)) | ((with_reducible refine' nw_Verdict_lost ?ho_ ?hv_ ?_); (case ho_ => first | assumption | exact upd_same); (case hv_ => exact rfl)) | ((with_reducible refine' nw_Verdict_marked ?ho_ ?hv_ ?_); (case ho_ => first | assumption | exact upd_same); (case hv_ => exact rfl)) | ((with_reducible refine' nw_Verdict_copies ?ho_ ?hv_ ?_); (case ho_ => first | assumption | exact upd_same); (case hv_ => exact rfl)) | ((with_reducible refine' nw_Verdict_delay ?ho_ ?hv_ ?_); (case ho_ => first | assumption | exact upd_same); (case hv_ => exact rfl)) | ((with_reducible refine' st_Verdict_lost ?ho_ ?hv_ ?_); (case ho_ => first | assumption | exact upd_same); (case hv_ => exact Nat.le_of_ble_eq_true rfl)) | ((with_reducible refine' st_Verdict_marked ?ho_ ?hv_ ?_); (case ho_ => first | assumption | exact upd_same); (case hv_ => exact Nat.le_of_ble_eq_true rfl)) | ((with_reducible refine' st_Verdict_copies ?ho_ ?hv_ ?_); (case ho_ => first | assumption | exact upd_same); (case hv_ => exact Nat.le_of_ble_eq_true rfl)) | ((with_reducible refine' st_Verdict_delay ?ho_ ?hv_ ?_); (case ho_ => first | assumption | exact upd_same); (case hv_ => exact Nat.le_of_ble_eq_true rfl)) | ((with_reducible refine' me_Verdict_eq__ ?ho_ ?_); (case ho_ => first | assumption | exact upd_same)) | ((with_reducible refine' me_Verdict_fields ?ho_ ?_); (case ho_ => first | assumption | exact upd_same)))
local macro_rules | `(tactic| walk_at "use") => `(tactic| first | ((with_reducible refine' fd_Faults_seed ?ho_ ?hv_ ?_); (case ho_ => first | assumption | exact upd_same); (case hv_ => exact rfl)) | ((with_reducible refine' fd_Faults_counts ?ho_ ?hv_ ?_); (case ho_ => first | assumption | exact upd_same); (case hv_ => exact rfl)) | ((with_reducible refine' fd_Faults__rules ?ho_ ?hv_ ?_); (case ho_ => first | assumption | exact upd_same); (case hv_ => exact rfl)) | ((with_reducible refine' nw_Faults_seed ?ho_ ?hv_ ?_); (case ho_ => first | assumption | exact upd_same); (case hv_ => exact rfl)) | ((with_reducible refine' nw_Faults_counts ?ho_ ?hv_ ?_); (case ho_ => first | assumption | exact upd_same); (case hv_ => exact rfl)) | ((with_reducible refine' nw_Faults__rules ?ho_ ?hv_ ?_); (case ho_ => first | assumption | exact upd_same); (case hv_ => exact rfl)) | ((with_reducible refine' st_Faults_seed ?ho_ ?hv_ ?_); (case ho_ => first | assumption | exact upd_same); (case hv_ => exact Nat.le_of_ble_eq_true rfl)) | ((with_reducible refine' st_Faults_counts ?ho_ ?hv_ ?_); (case ho_ => first | assumption | exact upd_same); (case hv_ => exact Nat.le_of_ble_eq_true rfl)) | ((with_reducible refine' st_Faults__rules ?ho_ ?hv_ ?_); (case ho_ => first | assumption | exact upd_same); (case hv_ => exact Nat.le_of_ble_eq_true rfl)) | ((with_reducible refine' me_Faults_judge ?ho_ ?_); (case ho_ => first | assumption | exact upd_same)) | ((with_reducible refine' me_Faults_applies ?ho_ ?_); (case ho_ => first | assumption | exact upd_same)) | ((with_reducible refine' me_Faults_apply ?ho_ ?_); (case ho_ => first | assumption | exact upd_same)) | ((with_reducible refine' me_Faults_draw ?ho_ ?_); (case ho_ => first | assumption | exact upd_same)))
local macro_rules | `(tactic| walk_at "use") => `(tactic| first | ((with_reducible refine' fd_Rule_fault ?ho_ ?hv_ ?_); (case ho_ => first | assumption | exact upd_same); (case hv_ => exact rfl)) | ((with_reducible refine' fd_Rule_amount ?ho_ ?hv_ ?_); (case ho_ => first | assumption | exact upd_same); (case hv_ => exact rfl)) | ((with_reducible refine' fd_Rule_until ?ho_ ?hv_ ?_); (case ho_ => first | assumption | exact upd_same); (case hv_ => exact rfl)) | ((with_reducible refine' fd_Rule_sender ?ho_ ?hv_ ?_); (case ho_ => first | assumption | exact upd_same); (case hv_ => exact rfl)) | ((with_reducible refine' fd_Rule_target ?ho_ ?hv_ ?_); (case ho_ => first | assumption | exact upd_same); (case hv_ => exact rfl)) | ((with_reducible refine' fd_Rule_ticks ?ho_ ?hv_ ?_); (case ho_ => first | assumption | exact upd_same); (case hv_ => exact rfl)) | ((with_reducible refine' fd_Rule_nth ?ho_ ?hv_ ?_); (case ho_ => first | assumption | exact upd_same); (case hv_ => exact rfl)) | ((with_reducible refine' fd_Rule_chance ?ho_ ?hv_ ?_); (case ho_ => first | assumption | exact upd_same); (case hv_ => exact rfl)) | ((with_reducible refine' nw_Rule_fault ?ho_ ?hv_ ?_); (case ho_ => first | assumption | exact upd_same); (case hv_ => exact rfl)) | ((with_reducible refine' nw_Rule_amount ?ho_ ?hv_ ?_); (case ho_ => first | assumption | exact upd_same); (case hv_ => exact rfl)) | ((with_reducible refine' nw_Rule_until ?ho_ ?hv_ ?_); (case ho_ => first | assumption | exact upd_same); (case hv_ => exact rfl)) | ((with_reducible refine' nw_Rule_sender ?ho_ ?hv_ ?_); (case ho_ => first | assumption | exact upd_same); (case hv_ => exact rfl)) | ((with_reducible refine' nw_Rule_target ?ho_ ?hv_ ?_); (case ho_ => first | assumption | exact upd_same); (case hv_ => exact rfl)) | ((with_reducible refine' nw_Rule_ticks ?ho_ ?hv_ ?_); (case ho_ => first | assumption | exact upd_same); (case hv_ => exact rfl)) | ((with_reducible refine' nw_Rule_nth ?ho_ ?hv_ ?_); (case ho_ => first | assumption | exact upd_same); (case hv_ => exact rfl)) | ((with_reducible refine' nw_Rule_chance ?ho_ ?hv_ ?_); (case ho_ => first | assumption | exact upd_same); (case hv_ => exact rfl)) | ((with_reducible refine' st_Rule_fault ?ho_ ?hv_ ?_); (case ho_ => first | assumption | exact upd_same); (case hv_ => exact Nat.le_of_ble_eq_true rfl)) | ((with_reducible refine' st_Rule_amount ?ho_ ?hv_ ?_); (case ho_ => first | assumption | exact upd_same); (case hv_ => exact Nat.le_of_ble_eq_true rfl)) | ((with_reducible refine' st_Rule_until ?ho_ ?hv_ ?_); (case ho_ => first | assumption | exact upd_same); (case hv_ => exact Nat.le_of_ble_eq_true rfl)) | ((with_reducible refine' st_Rule_sender ?ho_ ?hv_ ?_); (case ho_ => first | assumption | exact upd_same); (case hv_ => exact Nat.le_of_ble_eq_true rfl)) | ((with_reducible refine' st_Rule_target ?ho_ ?hv_ ?_); (case ho_ => first | assumption | exact upd_same); (case hv_ => exact Nat.le_of_ble_eq_true rfl)) | ((with_reducible refine' st_Rule_ticks ?ho_ ?hv_ ?_); (case ho_ => first | assumption | exact upd_same); (case hv_ => exact Nat.le_of_ble_eq_true rfl)) | ((with_reducible refine' st_Rule_nth ?ho_ ?hv_ ?_); (case ho_ => first | assumption | exact upd_same); (case hv_ => exact Nat.le_of_ble_eq_true rfl)) | ((with_reducible refine' st_Rule_chance ?ho_ ?hv_ ?_); (case ho_ => first | assumption | exact upd_same); (case hv_ => exact Nat.le_of_ble_eq_true rfl)) | ((with_reducible refine' me_Rule_considers ?ho_ ?_); (case ho_ => first | assumption | exact upd_same)) | ((with_reducible refine' me_Rule_fork ?ho_ ?_); (case ho_ => first | assumption | exact upd_same)))
section
variable {P : Program} {w : World} {K : PySem.W.Frag} {mg : Str → Option Value} {base : Heap}
/-! an attribute among the targets of a tuple -/
section
variable {X : Cx} {K : PySem.W.Frag} {o : Expr} {ta : TE} {f : Str} {pos : Pos}
def gFld (K : PySem.W.Frag) (ta : TE) (f : Str) : TG := fun v σ H Q => ta σ H fun x H2 => ∃ a C dx fs, x = .ref a ∧ H2 a = some (.ins C dx fs) ∧ Cls K C ∧ NoAttr K C f ∧ fs.length < 1000 ∧ Q σ (upd H2 a (.ins C dx (putF f v fs)))
theorem pg_fld (ho : PE X o ta) : PG X (.Attribute o f pos) (gFld X.K ta f) := by
  refine ⟨fun pins s σ H v u Q I r h => ?_⟩
  rw [assign_Attribute]
  refine wpAny_bind (wpAny_holding (thn (ho.run pins s σ H _ I h) fun ov s1 ⟨x, H1, I1, r1, q1⟩ => ?_))
  obtain ⟨a, C, dx, fs, ex, ea, c, n, l, q⟩ := q1
  subst ex
  obtain rfl : ov = Value.ref a := r1
  refine wpAny_bind (wpAny_standAt (wpAny_bind (wpAny_holding (setattr_ok I1 ea c n l r fun s3 I3 => ?_))))
  exact wpAny_release ⟨σ, _, I3, q⟩
theorem g_gfld {σ : St} {H : Hp} {v : V} {Q : St → Hp → Prop} (h : ta σ H fun x H2 => ∃ a C dx fs, x = .ref a ∧ H2 a = some (.ins C dx fs) ∧ Cls K C ∧ NoAttr K C f ∧ fs.length < 1000 ∧ Q σ (upd H2 a (.ins C dx (putF f v fs)))) : gFld K ta f v σ H Q := h
theorem g_gfldV {σ : St} {H : Hp} {v : V} {Q : St → Hp → Prop} {i j : Nat} {a C dx : Addr} {ks : List Str} {vs : List V} (hσ : σ[i]? = some (some (.ref a))) (ho : H a = some (.ins C dx (obj ks vs))) (c : Cls K C) (n : NoAttr K C f) (nd : ks.Nodup) (h1 : ks.length < 1000) (hk : ks[j]? = some f) (hv : j < vs.length)
    (q : Q σ (upd H a (.ins C dx (obj ks (vs.set j v))))) : gFld K (tVar i) f v σ H Q :=
  ⟨_, hσ, a, C, dx, _, rfl, ho, c, n, Nat.lt_of_le_of_lt (obj_len ks vs) h1, by rw [obj_put nd hk hv]; exact q⟩
end
/-! `xs[i] += n` -/
section
variable {X : Cx}
theorem get_list : PGet X (rIxL X.K) := by
  intro pins s σ H o i ov iv Q I ro ri h
  obtain ⟨p, xs, k, z, rfl, rfl, hq, he, q⟩ := h
  cases ro
  obtain ⟨t, rfl⟩ := ri
  obtain ⟨its, r, pl, hz⟩ := I.list hq
  obtain ⟨j, h1, h2, h3, h4, h5⟩ := atI_get he
  obtain ⟨w, ew, rw'⟩ := r.get h2
  have hl := r.length
  have hn := line63
  have fin : EP X pins σ Q w s := ⟨z, H, I, rw', q⟩
  by_cases h0 : 0 ≤ k
  · have hj : k.toNat = j := by
      rw [seqIndex_of h0 h5] at h1
      exact Option.some.inj h1
    exact wpAny_getItem_list pl.isList h0 (by omega) (by rw [hj]; simpa using ew) fin
  · have hj : (k + (its.toArray.size : Int)).toNat = j := by
      rw [seqIndex_neg (by omega) h4] at h1
      rw [List.size_toArray, ← hl]
      exact Option.some.inj h1
    exact wpAny_getItem_list_neg pl.isList (by omega) (by rw [List.size_toArray] <;> omega) (by omega) (by rw [hj]; simpa using ew) fin
theorem g_augS {to ti te : TE} {tget : V → V → Hp → VK → Prop} {tip : TIp} {tset : TSet} {D : Ends} {σ : St} {H : Hp} (h : to σ H fun o H1 => ti σ H1 fun i H2 => tget o i H2 fun x H3 => te σ H3 fun y H4 => tip x y H4 fun z H5 => tset o i z H5 fun H6 => D.nx σ H6) : tAugS to ti te tget tip tset D σ H := h
end
local macro_rules | `(tactic| walk_at "use") => `(tactic| with_reducible first | refine g_augS ?_)
/-! `o.f += n` -/
section
variable {K : PySem.W.Frag} {f : Str}
theorem g_fldaug {tv : TE} {rd : V → V → Hp → VK → Prop} {D : Ends} {σ : St} {H : Hp} {i j : Nat} {a C dx : Addr} {ks : List Str} {vs : List V} {v : V} (hσ : σ[i]? = some (some (.ref a))) (ho : H a = some (.ins C dx (obj ks vs))) (c : Cls K C) (n : NoAttr K C f) (nd : ks.Nodup) (hk : ks[j]? = some f) (hv : vs[j]? = some v)
    (h : tv σ H fun y H2 => rd v y H2 fun z H3 => ∃ dx' fs', H3 a = some (.ins C dx' fs') ∧ fs'.length < 1000 ∧ D.nx σ (upd H3 a (.ins C dx' (putF f z fs')))) : sFldAug K (tVar i) tv rd f D σ H :=
  ⟨_, hσ, a, C, dx, _, v, rfl, ho, c, n, (obj_get nd hk).trans hv, h⟩
theorem g_fldaugE {H : Hp} {j : Nat} {a C dx : Addr} {ks : List Str} {vs : List V} {z : V} {A : Hp → Prop} (ho : H a = some (.ins C dx (obj ks vs))) (nd : ks.Nodup) (h1 : ks.length < 1000) (hk : ks[j]? = some f) (hv : j < vs.length) (q : A (upd H a (.ins C dx (obj ks (vs.set j z))))) :
    ∃ dx' fs', H a = some (.ins C dx' fs') ∧ fs'.length < 1000 ∧ A (upd H a (.ins C dx' (putF f z fs'))) := ⟨dx, _, ho, Nat.lt_of_le_of_lt (obj_len ks vs) h1, by rw [obj_put nd hk hv]; exact q⟩
end

/-! ### x == y by an own __eq__, whatever it answers -/
def rEqO (C : Addr) (OK : V → Hp → Prop) (sp : Sp) (E : XK) : R2 := fun x y H Q => ∃ a dx fs, x = .ref a ∧ H a = some (.ins C dx fs) ∧ OK y H ∧ sp [x, y] H (fun v H' => ∃ b, v = .bl b ∧ Q (.bl b) H') E
/-- what may stand on the right: an instance of the class, or an int -/
def EqR (C : Addr) : V → Hp → Prop := fun y H => (∃ b dy gs, y = .ref b ∧ H b = some (.ins C dy gs)) ∨ ∃ i, y = .int i
theorem op_eqO {X : Cx} {CX : CXT} {n : Nat} {C f : Addr} {fd : FuncData} {ps : List Str} {sp : Sp} {E : XK} (F : FnOk X.prog X.w X.K X.mg X.base CX n f fd ps sp) (hr : Room n X.A)
    (hm : Meth X.K C "__eq__" f) (hi : PySem.W.subIn X.K (.type "int") (.ref C) = some false) (hb : Binds X.K fd ps []) (hx : Passes CX X E) : OpR X (compareOp .Eq) (rEqO C (EqR C) sp E) := by
  obtain ⟨hs, hf, _⟩ := hm
  intro pins s σ H x y v u Q I rx ry hq
  obtain ⟨a, dx, fs, rfl, ha, hy, hsp⟩ := hq
  cases rx
  show wpAny (model X.prog X.w) X.A (richCompare .Eq (.ref a) u) (EP X pins σ Q) X.xe s
  obtain ⟨mA, J, _⟩ := ins_get I.hok ha
  obtain ⟨od, J, _⟩ := J.look
  obtain ⟨m, hF⟩ := I.fr
  have hl := F.len _ _ _ _ hsp
  have r2 : Vals [V.ref a, y] [Value.ref a, u] := .cons rfl (.cons ry .nil)
  have main : wpAny (model X.prog X.w) X.A (call (.ref f) [.ref a, u]) (PySem.W.CmpBack (EP X pins σ Q)) X.xe s := by
    refine wpAny_call (codeAny_mono (F.run X.A X.stack s H ⟨[.ref a, u], []⟩ [.ref a, u] [.ref a, y] _ E hr I.env0 (by
      have := hb s [.ref a, u] I.kIn (by simpa using hl)
      simpa using this) r2 hsp) fun r s' hq => ?_)
    cases r with
    | error e => exact hx pins σ H s e s' I hq
    | ok fl =>
      cases fl with
      | ret w =>
        obtain ⟨z, H', I', rz, b, ez, q⟩ := I.after hq
        subst ez
        cases rz
        exact ⟨.bl b, H', I', rfl, q⟩
      | next => exact False.elim hq
      | brk => exact False.elim hq
      | cont => exact False.elim hq
  rcases hy with ⟨b, dy, gs, rfl, hb'⟩ | ⟨i, rfl⟩
  · cases ry
    obtain ⟨mB, J', _⟩ := ins_get I.hok hb'
    obtain ⟨od', J', _⟩ := J'.look
    exact PySem.W.cmp_K (op := .Eq) (tb := .ref C) hr.units0 hF I.ok.mod.kin J J'.type (by simp [PySem.W.notFirst]) hs hf main
  · obtain ⟨t, rfl⟩ := ry
    exact PySem.W.cmp_K (op := .Eq) (tb := .type "int") hr.units0 hF I.ok.mod.kin J (PySem.W.Looks.of_pure rfl) (by unfold PySem.W.notFirst; rw [hi]; rfl) hs hf main
theorem kit_own {K : PySem.W.Frag} {T : String} {C : Addr} (a : PySem.W.isClsIn K C = true) (b : PySem.W.typeIn K (.ref C) = some (.type "type")) (c : PySem.W.subIn K (.type T) (.ref C) = some false) : PySem.W.kitOne K (.type T) (.ref C) = some false := by
  unfold PySem.W.isClsIn at a
  unfold PySem.W.kitOne
  rw [if_neg (by show ¬ (Value.type T == Value.ref C) = true; exact fun h => by cases (beq_iff_eq.mp h))]
  show (if ((PySem.W.clsIn K C).isSome && PySem.W.typeIn K (.ref C) == some (.type "type")) = true then PySem.W.subIn K (.type T) (.ref C) else none) = some false
  rw [a, b, if_pos (by rw [Bool.true_and]; exact beq_self_eq_true _)]
  exact c

theorem kb_pure {K : PySem.W.Frag} {x qual : Str} {params : Arguments} {body : List Stmt} {scope : Scope} {kws : List (Str × V)} {f : Addr} {fd : FuncData} {ps : List Str} (F : FunD K x qual params body scope [] kws f fd) (n : Nat) (ks : List Str) (g : {α : Type} → List α → List α → List α)
    (hrel : ∀ {vs zs : List V} {us ws : List Value}, Vals vs us → Vals zs ws → Vals (g vs zs) (g us ws))
    (h : ∀ (kV doc pm : Value) (an : Option Addr) (cdv ct : Value) (us ws : List Value), us.length = n → ws.length = ks.length → bindArgs (PySem.W.fnOf x qual params body scope .none kV doc pm an cdv ct) ⟨us, ks.zip ws⟩ = pure (ps.zip (g us ws))) :
    KBn K fd ps n ks (fun us ws => g us ws) (fun vs zs => g vs zs) := by
  obtain ⟨oc, od, dV, kV, doc, pm, an, cdv, ct, osl, rfl, lk, hcd, hD, hK⟩ := F.ex
  rcases hD with ⟨_, rfl⟩ | ⟨e, _⟩
  · exact ⟨fun s us ws X l1 l2 => .of_eq (h kV doc pm an cdv ct us ws l1 l2), fun r1 r2 => hrel r1 r2⟩
  · exact absurd rfl e
theorem pe_callN0 {X : Cx} {CX : CXT} {k : Nat} {f : Addr} {fd : FuncData} {ps ks : List Str} {sp : Sp} {E : XK} {x : Str} {p pos : Pos} {kws : List Keyword} {tk : TA} {g : List Value → List Value → List Value} {gV : List V → List V → List V} (F : FnOk X.prog X.w X.K X.mg X.base CX k f fd ps sp) (hr : Room k X.A) (hg : Gl X x) (hm : X.mg x = some (.ref f)) (hk : PySem.W.keepIn X.K (.ref f) = true) (hb : KBn X.K fd ps 0 ks g gV) (hx : Passes CX X E)
    (hkw : PK X kws tk) (hall : (backToKw pos (keywordEach kws X.env)).all (·.1.isSome) = true := by rfl) (hks : (backToKw pos (keywordEach kws X.env)).filterMap (·.1) = ks := by rfl)
    (hdb : (x == ("__debug__" : Str)) = false := by decide)
    (hpl : ((backTo pos (starEach [] X.env)).any (·.1) || (backToKw pos (keywordEach kws X.env)).any (·.1.isNone)) = false := by rfl) :
    PE X (.Call (.Name x p) [] kws pos) (tCallN 0 ks.length sp gV E tNil tk) := by
  refine ⟨fun pins s σ H Q I h => ?_⟩
  refine wpAny_Call_Name_kw (ld_glob I hg hm ?_ hdb)
  refine PySem.W.callWith_KW0 (h₀ := X.base) I.ok.mod.kin hk hall ?_ hpl
  refine thn (hkw.run pos pins s σ H _ I h) fun ws s2 ⟨zs, H2, I2, rz, l1, l2, q2⟩ => ⟨I2.kIn, ?_⟩
  rw [hks]
  exact run_fnN (us := []) (vs := []) F hr hb hx I2 .nil rz rfl l2 q2
theorem g_callN {n m : Nat} {sp : Sp} {gV : List V → List V → List V} {E : XK} {t tk : TA} {σ : St} {H : Hp} {Q : VK} (h : t σ H fun vs H1 => tk σ H1 fun zs H2 => vs.length = n ∧ zs.length = m ∧ sp (gV vs zs) H2 Q E) : tCallN n m sp gV E t tk σ H Q := h
local macro_rules | `(tactic| walk_at "use") => `(tactic| with_reducible refine g_callN ?_)

theorem g_makeK {C : Addr} {n m : Nat} {sp : Sp} {gV : List V → List V → List V} {E : XK} {t tk : TA} {σ : St} {H : Hp} {Q : VK} (h : t σ H fun vs H1 => tk σ H1 fun zs H2 => vs.length = n ∧ zs.length = m ∧
  ∀ x dx, H2 x = none → H2 dx = none → dx ≠ x → sp (gV (.ref x :: vs) zs) (upd (upd H2 dx (.own x)) x (.ins C dx [])) (fun v H3 => v = .non ∧ Q (.ref x) H3) E) : tMakeK C n m sp gV E t tk σ H Q := h
local macro_rules | `(tactic| walk_at "use") => `(tactic| with_reducible refine g_makeK ?_)

def sp_l_is_integer (K : PySem.W.Frag) : Sp := fun vs H Q _ => ∃ (n : Int), vs = [.int n] ∧ Q (.bl true) H
theorem u_isint {n : Int} {H Q E} (q : Q (.bl true) H) : sp_l_is_integer K ([.int n] ++ []) H Q E := ⟨n, rfl, q⟩
theorem ok_l_is_integer (T : Txt K mg) : FnOk P w K mg base CX0 1 T.f_l_is_integer T.d_l_is_integer ["told"] (sp_l_is_integer K) := by
  refine T.F_l_is_integer.ok sc_l_is_integer (fun vs H Q E h => ?_) (fun cdv A outer s H vs Q E hr h => ?_)
  · obtain ⟨n, rfl, q⟩ := h
    rfl
  · obtain ⟨n, rfl, q⟩ := h
    have hu := hu_of hr
    refine ⟨_, (pss_one (ps_ret (pe_and (pe_callB call_isi (by rfl) T.n_isinstance (by decide +kernel) (pa_cons (pv 0) (pa_cons (pe_bltn (v := .ty "int") (by rfl) T.n_int (by decide +kernel) rfl) pa_nil))) (pe_one (pe_not (pe_callB call_isi (by rfl) T.n_isinstance (by decide +kernel) (pa_cons (pv 0) (pa_cons (pe_bltn (v := .ty "bool") (by rfl) T.n_bool (by decide +kernel) rfl) pa_nil)))))))), ?_⟩
    dsimp only [cxOf, Cx.nox, Cx.wish, L2.start, List.map, List.cons_append, List.nil_append, List.length_cons, List.length_nil, Nat.reduceAdd, Nat.reduceSub, Nat.zero_add, List.replicate_succ, List.replicate_zero]
    walk_at "go"
    exact q
local macro_rules | `(tactic| walk_at "use") => `(tactic| with_reducible refine u_isint ?_)

def sp_l_cell (K : PySem.W.Frag) : Sp := fun vs H Q _ => ∃ (a : Addr) (ns : List Int) (k : Int), vs = [.ref a, .int k] ∧ SqL K H a (ns.map V.int) ∧ 0 ≤ k ∧ Q (.int (cell ns k)) H
theorem u_cell {a : Addr} {ns : List Int} {k : Int} {H Q E} (h : SqL K H a (ns.map V.int)) (h0 : 0 ≤ k) (q : Q (.int (cell ns k)) H) : sp_l_cell K ([.ref a, .int k] ++ []) H Q E := ⟨a, ns, k, rfl, h, h0, q⟩
theorem ok_l_cell (T : Txt K mg) : FnOk P w K mg base CX0 1 T.f_l_cell T.d_l_cell ["script", "k"] (sp_l_cell K) := by
  refine T.F_l_cell.ok sc_l_cell (fun vs H Q E h => ?_) (fun cdv A outer s H vs Q E hr h => ?_)
  · obtain ⟨a, ns, k, rfl, hS, h0, q⟩ := h
    rfl
  · obtain ⟨a, ns, k, rfl, hS, h0, q⟩ := h
    have hu := hu_of hr
    refine ⟨_, (pss_cons (ps_if (pt_cmpR op_lt (pv 1) (pe_callB call_len_seq (by rfl) T.n_len (by decide +kernel) (pa_cons (pv 0) pa_nil)) (nomark _)) (pss_one (ps_ret (pe_ix ix_list (pv 0) (pv 1) (fun _ _ => rfl)))) pss_nil)
        (pss_one (ps_ret pe_int))), ?_⟩
    dsimp only [cxOf, Cx.nox, Cx.wish, L2.start, List.map, List.cons_append, List.nil_append, List.length_cons, List.length_nil, Nat.reduceAdd, Nat.reduceSub, Nat.zero_add, List.replicate_succ, List.replicate_zero]
    walk_at "go"
    refine g_len (.inl hS) ?_
    walk_at "go"
    rw [List.length_map]
    refine g_ite (fun h => ?_) (fun h => ?_)
    · walk_at "go"
      refine g_ixL hS (atI_map h0 h) ?_
      exact q
    · walk_at "go"
      rw [cell_out h] at q
      exact q
local macro_rules | `(tactic| walk_at "use") => `(tactic| with_reducible refine u_cell (by assumption) (by decide) ?_)

def sp_l_start (K : PySem.W.Frag) : Sp := fun vs H Q _ => ∃ c k : Int, vs = [.int c, .int k] ∧ ∀ p n, H p = none → Q (.ref p) (upd H p (.lst [.int n]))
theorem u_start {c k : Int} {H Q E} (q : ∀ p n, H p = none → Q (.ref p) (upd H p (.lst [.int n]))) : sp_l_start K ([.int c, .int k] ++ []) H Q E := ⟨c, k, rfl, q⟩
theorem one_ok : 1 ≤ sizeLine := by decide
theorem abs_mod {a : Int} : (a % 618970019642690137449562111).natAbs < 2 ^ 89 := by omega
theorem ok_l_start (T : Txt K mg) : FnOk P w K mg base CX0 1 T.f_l_start T.d_l_start ["cell", "k"] (sp_l_start K) := by
  refine T.F_l_start.ok sc_l_start (fun vs H Q E h => ?_) (fun cdv A outer s H vs Q E hr h => ?_)
  · obtain ⟨c, k, rfl, q⟩ := h
    rfl
  · obtain ⟨c, k, rfl, q⟩ := h
    have hu := hu_of hr
    refine ⟨_, (pss_cons (ps_set (i := 2) sc_l_start.nd rfl (Or.inl rfl) pe_int)
        (pss_cons (ps_if (pt_chain op_lt op_lt (pe_un un_neg pe_int) (pv 0) pe_int) (pss_cons (ps_set (i := 3) sc_l_start.nd rfl (Or.inl rfl) (pe_op op_mod (pe_callTy call_int1 (by rfl) T.n_int (by decide +kernel) (pa_cons (pe_op op_add (pe_op op_mul (pv 0) pe_int) (pe_op op_mul (pe_op op_add (pv 1) pe_int) pe_int)) pa_nil)) (pv 2)))
        (pss_one (ps_ret (pe_lst (pa_cons (pe_op op_mod (pe_callTy call_int1 (by rfl) T.n_int (by decide +kernel) (pa_cons (pe_op op_add (pe_op op_add (pe_op op_mulW (pv 3) (pv 3)) (pe_op op_mul pe_int (pv 3))) (pv 1)) pa_nil)) (pv 2)) pa_nil))))) pss_nil)
        (pss_one (ps_ret (pe_lst (pa_cons (pv 0) pa_nil)))))), ?_⟩
    dsimp only [cxOf, Cx.nox, Cx.wish, L2.start, List.map, List.cons_append, List.nil_append, List.length_cons, List.length_nil, Nat.reduceAdd, Nat.reduceSub, Nat.zero_add, List.replicate_succ, List.replicate_zero]
    walk_at "go"
    refine g_ite (fun c1 => ?_) (fun c1 => ?_)
    · walk_at "go"
      refine g_ite (fun c2 => ?_) (fun c2 => ?_)
      · walk_at "go"
        refine g_rI (wide_mul abs_mod abs_mod (by decide) (by decide) (by decide)) ?_
        walk_at "go"
        exact ⟨one_ok, fun p hp => q p _ hp⟩
      · walk_at "go"
        exact ⟨one_ok, fun p hp => q p _ hp⟩
    · walk_at "go"
      exact ⟨one_ok, fun p hp => q p _ hp⟩
theorem lt8000 {m : Int} (h : m < 18446744073709551616) : m < 2 ^ 8000 := Int.lt_trans h (by decide +kernel)
def sp_l_digit (K : PySem.W.Frag) : Sp := fun vs H Q _ => ∃ (p : Addr) (n m : Int), vs = [.ref p, .int m] ∧ H p = some (.lst [.int n]) ∧ 0 < m ∧ m < 18446744073709551616 ∧ Q (.int (n % m)) (upd H p (.lst [.int (n / m)]))
theorem u_digit {p : Addr} {n m : Int} {H Q E} (h : H p = some (.lst [.int n])) (h0 : 0 < m) (h1 : m < 18446744073709551616) (q : Q (.int (n % m)) (upd H p (.lst [.int (n / m)]))) : sp_l_digit K ([.ref p, .int m] ++ []) H Q E := ⟨p, n, m, rfl, h, h0, h1, q⟩
theorem ok_l_digit (T : Txt K mg) : FnOk P w K mg base CX0 1 T.f_l_digit T.d_l_digit ["state", "many"] (sp_l_digit K) := by
  refine T.F_l_digit.ok sc_l_digit (fun vs H Q E h => ?_) (fun cdv A outer s H vs Q E hr h => ?_)
  · obtain ⟨p, n, m, rfl, hp, h0, h1, q⟩ := h
    rfl
  · obtain ⟨p, n, m, rfl, hp, h0, h1, q⟩ := h
    have hu := hu_of hr
    refine ⟨_, (pss_cons (ps_set (i := 2) sc_l_digit.nd rfl (Or.inl rfl) (pe_op op_mod (pe_callTy call_int1 (by rfl) T.n_int (by decide +kernel) (pa_cons (pe_ix ix_list (pv 0) pe_int (fun _ _ => rfl)) pa_nil)) (pv 1)))
        (pss_cons (ps_asg (pe_op op_fdivW (pe_ix ix_list (pv 0) pe_int (fun _ _ => rfl)) (pv 1)) (pg_sub (pv 0) pe_int set_list))
        (pss_one (ps_ret (pv 2))))), ?_⟩
    dsimp only [cxOf, Cx.nox, Cx.wish, L2.start, List.map, List.cons_append, List.nil_append, List.length_cons, List.length_nil, Nat.reduceAdd, Nat.reduceSub, Nat.zero_add, List.replicate_succ, List.replicate_zero]
    walk_at "go"
    refine g_ixL (sl hp) (at_of (j := 0) rfl rfl) ?_
    walk_at "go"
    refine g_ixL (sl hp) (at_of (j := 0) rfl rfl) ?_
    walk_at "go"
    refine g_rI (cdivW h0 (lt8000 h1)) ?_
    walk_at "go"
    refine g_setL (j := 0) hp rfl ?_
    walk_at "go"
    exact q

/-- [_law_digit(state, m) for j in range(cnt)] -/
theorem lc_digs {σ : St} {H1 : Hp} {p : Addr} {n m : Int} {cnt is j : Nat} {D : Addr} {Qd : Hp → Prop} (hD : H1 D = none) (hp : H1 p = some (.lst [.int n])) (h0 : 0 < m) (h1 : m < 18446744073709551616) (hc : cnt ≤ 100000)
    (hσ : ∀ x, ((wipe σ [j]).set j (some x))[is]? = some (some (.ref p)))
    (q : ∀ (H' : Hp) (us : List Int) (n' : Int), But p H1 H' → H' D = some (.lst (us.map V.int)) → H' p = some (.lst [.int n']) → us.length = cnt → (∀ u ∈ us, 0 ≤ u ∧ u < m) → Qd H') :
    ∃ W : Nat → Nat → Hp → Prop, (∃ m, W 0 m (upd H1 D (.lst []))) ∧ ∀ i m0 H, W i m0 H →
      ((Itr 0 cnt).stop i H ∧ Qd H) ∨ ((Itr 0 cnt).go i H ∧ ∃ Nx : Hp → Prop, (∀ H', Nx H' → ∃ m', m' < m0 ∧ W (i + 1) m' H') ∧ ∀ x H', (Itr 0 cnt).yld i H x H' → gName j x (wipe σ [j]) H' fun σ2 H2 => wipe σ2 [j] = wipe σ [j] ∧ tYes σ2 H2 fun b H3 =>
        if b = true then tCall (sp_l_digit K) [] E0 (tCons (tVar is) (tCons (tC (.int m)) tNil)) σ2 H3 fun y H4 => ∃ acc, H4 D = some (.lst acc) ∧ acc.length < sizeLine ∧ Nx (upd H4 D (.lst (acc ++ [y]))) else Nx H3) := by
  have nDp : p ≠ D := ne_of_none hp hD
  refine lc_it walk_range (fun i H => But p H1 H ∧ ∃ (us : List Int) (n' : Int), H D = some (.lst (us.map V.int)) ∧ H p = some (.lst [.int n']) ∧ us.length = i ∧ (∀ u ∈ us, 0 ≤ u ∧ u < m)) ?_ (fun _ _ _ _ => trivial) ?_ ?_
  · refine ⟨But.of (same_upd hD), [], n, upd_same, (same_upd hD) _ _ hp, rfl, fun u z => nomatch z⟩
  · rintro i x H H' hi ⟨bt, us, n', hu, hn, hl, hb⟩ ⟨rfl, rfl⟩
    refine ⟨?_, ?_⟩
    · show ((σ.set j none).set j (some _)).set j none = σ.set j none
      rw [List.set_set, List.set_set]
    refine g_yes ?_
    refine iteT ?_
    refine g_call ?_
    refine g_cons ?_
    refine g_var (hσ _) ?_
    refine g_cons ?_
    refine g_c ?_
    refine g_nil ?_
    refine u_digit hn h0 h1 ?_
    refine ⟨us.map V.int, ?_, ?_, ?_⟩
    · rw [upd_ne (Ne.symm nDp)]
      exact hu
    · rw [List.length_map]
      exact szl (by omega)
    · refine ⟨?_, us ++ [n' % m], n' / m, ?_, ?_, ?_, ?_⟩
      · intro b o nb e
        by_cases z : b = D
        · rw [z, hD] at e; cases e
        · rw [upd_ne z, upd_ne nb]
          exact bt b o nb e
      · rw [upd_same, List.map_append]
        rfl
      · rw [upd_ne nDp, upd_same]
      · rw [List.length_append, hl]
        rfl
      · intro u hu
        rcases List.mem_append.mp hu with z | z
        · exact hb u z
        · rw [List.mem_singleton.mp z]
          exact ⟨Int.emod_nonneg _ (by omega), Int.emod_lt_of_pos _ h0⟩
  · rintro H ⟨bt, us, n', hu, hn, hl, hb⟩
    exact q H us n' bt hu hn hl hb

section
variable {K : PySem.W.Frag} {H : Hp} {Q : VK}
theorem dec_str {s t : Str} : decide (V.str s = V.str t) = decide (s = t) := decide_eq_decide.mpr ⟨V.str.inj, congrArg _⟩
theorem g_rEqS {s t : Str} (q : Q (.bl (decide (s = t))) H) : rEq (.str s) (.str t) H Q := g_rEq rfl (by rw [dec_str]; exact q)
theorem g_rNeS {s t : Str} (q : Q (.bl (!decide (s = t))) H) : rNe (.str s) (.str t) H Q := g_rNe rfl (by rw [dec_str]; exact q)
theorem inV_str {s : Str} : ∀ {ws : List Str}, inV (.str s) (ws.map V.str) = decide (s ∈ ws)
  | [] => (decide_eq_false (by simp)).symm
  | t :: ws => by
    show ((t == s) || inV (.str s) (ws.map V.str)) = _
    rw [inV_str, Bool.eq_iff_iff]
    simp only [Bool.or_eq_true, beq_iff_eq, decide_eq_true_eq, List.mem_cons]
    exact ⟨fun h => h.imp Eq.symm id, fun h => h.imp Eq.symm id⟩
theorem flat_strs : ∀ {ws : List Str}, (ws.map V.str).all flatV = true
  | [] => rfl
  | _ :: ws => flat_strs (ws := ws)
theorem g_inS {p : Addr} {ws : List Str} {s : Str} (h : SqT K H p (ws.map V.str)) (q : Q (.bl (decide (s ∈ ws))) H) : rIn K false (.str s) (.ref p) H Q :=
  ⟨p, _, rfl, .inr h, rfl, flat_strs, by rw [if_neg (by decide), inV_str]; exact q⟩
theorem g_isiS {s : Str} (q : Q (.bl true) H) : rIsi K [.str s, .ty "str"] H Q := g_isi (.ty _) (.base (.str _)) (kit_ty (by decide +kernel)) q
end
local macro_rules | `(tactic| walk_at "use") => `(tactic| with_reducible first | refine g_rEqS ?_ | refine g_rNeS ?_ | refine g_isiS ?_)

/-! ### lists of pairs in the heap -/
def tupP (p : Int × Int) : HO := .tup [.int p.1, .int p.2]
def Prs (H : Hp) (vs : List V) (ps : List (Int × Int)) : Prop := vs.length = ps.length ∧ ∀ (i : Nat) p, ps[i]? = some p → ∃ t, vs[i]? = some (V.ref t) ∧ H t = some (tupP p)
theorem Prs.nil {H : Hp} : Prs H [] [] := ⟨rfl, fun i p h => by simp at h⟩
theorem Prs.same {H H' : Hp} {vs : List V} {ps : List (Int × Int)} (h : Prs H vs ps) (s : Same H H') : Prs H' vs ps := ⟨h.1, fun i p e => by
  obtain ⟨t, h1, h2⟩ := h.2 i p e
  exact ⟨t, h1, s _ _ h2⟩⟩
theorem Prs.but {H H' : Hp} {vs : List V} {ps : List (Int × Int)} {a : Addr} {xs : List V} (h : Prs H vs ps) (s : But a H H') (e : H a = some (.lst xs)) : Prs H' vs ps := ⟨h.1, fun i p e2 => by
  obtain ⟨t, h1, h2⟩ := h.2 i p e2
  exact ⟨t, h1, s _ _ (fun z => by rw [z, e] at h2; cases h2) h2⟩⟩
theorem Prs.butD {H H' : Hp} {vs : List V} {ps : List (Int × Int)} {a : Addr} {kvs : List (Key × V)} (h : Prs H vs ps) (s : But a H H') (e : H a = some (.dK kvs)) : Prs H' vs ps := ⟨h.1, fun i p e2 => by
  obtain ⟨t, h1, h2⟩ := h.2 i p e2
  exact ⟨t, h1, s _ _ (fun z => by rw [z, e] at h2; cases h2) h2⟩⟩
theorem Prs.drop {H : Hp} {vs : List V} {ps : List (Int × Int)} (h : Prs H vs ps) (k : Nat) : Prs H (vs.drop k) (ps.drop k) := ⟨by rw [List.length_drop, List.length_drop, h.1], fun i p e => by
  rw [List.getElem?_drop] at e ⊢
  exact h.2 _ p e⟩
theorem Prs.take {H : Hp} {vs : List V} {ps : List (Int × Int)} (h : Prs H vs ps) (k : Nat) : Prs H (vs.take k) (ps.take k) := ⟨by rw [List.length_take, List.length_take, h.1], fun i p e => by
  rw [List.getElem?_take] at e ⊢
  split at e
  · rw [if_pos (by assumption)]
    exact h.2 _ p e
  · cases e⟩
theorem Prs.app {H : Hp} {vs us : List V} {ps qs : List (Int × Int)} (h : Prs H vs ps) (h' : Prs H us qs) : Prs H (vs ++ us) (ps ++ qs) := ⟨by rw [List.length_append, List.length_append, h.1, h'.1], fun i p e => by
  by_cases hi : i < ps.length
  · rw [List.getElem?_append_left hi] at e
    rw [List.getElem?_append_left (by rw [h.1]; exact hi)]
    exact h.2 i p e
  · rw [List.getElem?_append_right (by omega)] at e
    rw [List.getElem?_append_right (by rw [h.1]; omega), h.1]
    exact h'.2 _ p e⟩
theorem Prs.one {H : Hp} {t : Addr} {p : Int × Int} (h : H t = some (tupP p)) : Prs H [V.ref t] [p] := ⟨rfl, fun i q e => by
  match i, e with
  | 0, e => exact ⟨t, rfl, by rw [← Option.some.inj e]; exact h⟩⟩
theorem Prs.cons {H : Hp} {t : Addr} {p : Int × Int} {vs : List V} {ps : List (Int × Int)} (h : H t = some (tupP p)) (h' : Prs H vs ps) : Prs H (V.ref t :: vs) (p :: ps) := (Prs.one h).app h'
theorem Prs.set {H : Hp} {t : Addr} {p : Int × Int} {vs : List V} {ps : List (Int × Int)} (h' : Prs H vs ps) (j : Nat) (h : H t = some (tupP p)) : Prs H (vs.set j (V.ref t)) (ps.set j p) := ⟨by rw [List.length_set, List.length_set, h'.1], fun i q e => by
  by_cases hij : j = i
  · subst hij
    have hl : j < ps.length := by
      obtain ⟨z, _⟩ := List.getElem?_eq_some_iff.mp e
      rw [List.length_set] at z
      exact z
    rw [List.getElem?_set_self hl] at e
    rw [List.getElem?_set_self (by rw [h'.1]; exact hl)]
    exact ⟨t, rfl, by rw [← Option.some.inj e]; exact h⟩
  · rw [List.getElem?_set_ne hij] at e ⊢
    exact h'.2 i q e⟩
theorem cut_nat {xs : List V} {a b : Nat} (hab : a ≤ b) (hb : b ≤ xs.length) : cutV xs (some (a : Int)) (some (b : Int)) = (xs.drop a).take (b - a) := by
  unfold cutV
  rw [HT.sIx_nat, HT.sIx_nat, Nat.min_eq_left (a := a) (by omega), Nat.min_eq_left hb]
theorem cut_to {xs : List V} {b : Nat} (hb : b ≤ xs.length) : cutV xs none (some (b : Int)) = xs.take b := by
  unfold cutV
  rw [HT.sIx_none, HT.sIx_nat, Nat.min_eq_left hb, List.drop_zero, Nat.sub_zero]
theorem cut_from {xs : List V} {a : Nat} (ha : a ≤ xs.length) : cutV xs (some (a : Int)) none = xs.drop a := by
  unfold cutV
  rw [HT.sIx_nat, HT.sIx_none, Nat.min_eq_left ha]
  exact List.take_of_length_le (by rw [List.length_drop]; omega)
/-! == of lists of pairs -/
section
variable {K : PySem.W.Frag} {H : Hp}
def datP (p : Int × Int) : PyData := .tuple [.int p.1, .int p.2]
theorem dp_pair {t : Addr} {p : Int × Int} (h : H t = some (tupP p)) : Dp K H (.ref t) (datP p) := .tup (st h) (.cons (.int _) (.cons (.int _) .nil))
theorem dpAll_pairs : ∀ {vs : List V} {ps : List (Int × Int)}, Prs H vs ps → DpAll K H vs (ps.map datP)
  | [], [], _ => .nil
  | [], _ :: _, h => by have := h.1; simp at this
  | _ :: _, [], h => by have := h.1; simp at this
  | v :: vs, p :: ps, h => by
    obtain ⟨t, h1, h2⟩ := h.2 0 p rfl
    have e : v = V.ref t := Option.some.inj h1
    subst e
    exact .cons (dp_pair h2) (dpAll_pairs (h.drop 1))
theorem lay_pairs : ∀ {ps : List (Int × Int)}, PyData.canLayAll0 (ps.map datP) = true
  | [] => rfl
  | p :: ps => by
    show ((true && (true && true)) && PyData.canLayAll0 (ps.map datP)) = true
    rw [lay_pairs]; rfl
theorem depth_pairs : ∀ {ps : List (Int × Int)}, PyData.depthAll (ps.map datP) ≤ 1
  | [] => by show 0 ≤ 1; decide
  | p :: ps => by
    show max (max 0 (max 0 0) + 1) (PyData.depthAll (ps.map datP)) ≤ 1
    have := depth_pairs (ps := ps)
    omega
theorem shaped_pairs {ps : List (Int × Int)} : SeqAt.shaped (.list (ps.map datP)) = true := by
  show (PyData.canLayAll0 (ps.map datP) && decide (PyData.depthAll (ps.map datP) + 1 ≤ 64)) = true
  have := depth_pairs (ps := ps)
  rw [lay_pairs, decide_eq_true (by omega)]; rfl
theorem eqv_pair {p q : Int × Int} : PyData.eqv (datP p) (datP q) = decide (p = q) := by
  show ((p.1 == q.1) && ((p.2 == q.2) && true)) = decide (p = q)
  rw [Bool.eq_iff_iff]
  simp [Prod.ext_iff]
theorem eqvAll_pairs : ∀ {ps qs : List (Int × Int)}, PyData.eqvAll (ps.map datP) (qs.map datP) = decide (ps = qs)
  | [], [] => rfl
  | [], _ :: _ => rfl
  | _ :: _, [] => rfl
  | p :: ps, q :: qs => by
    show (PyData.eqv (datP p) (datP q) && PyData.eqvAll (ps.map datP) (qs.map datP)) = decide (p :: ps = q :: qs)
    rw [eqvAll_pairs, eqv_pair, Bool.eq_iff_iff]
    simp
theorem g_nePL {Q : VK} {a b : Addr} {vs us : List V} {ps qs : List (Int × Int)} (h1 : SqL K H a vs) (p1 : Prs H vs ps) (h2 : SqL K H b us) (p2 : Prs H us qs) (q : Q (.bl (!decide (ps = qs))) H) : rNeD K (.ref a) (.ref b) H Q :=
  ⟨.list (ps.map datP), .list (qs.map datP), .lst h1 (dpAll_pairs p1), .lst h2 (dpAll_pairs p2), shaped_pairs, shaped_pairs, by rw [show PyData.eqv (.list (ps.map datP)) (.list (qs.map datP)) = decide (ps = qs) from eqvAll_pairs]; exact q⟩
theorem g_eqPL {Q : VK} {a b : Addr} {vs us : List V} {ps qs : List (Int × Int)} (h1 : SqL K H a vs) (p1 : Prs H vs ps) (h2 : SqL K H b us) (p2 : Prs H us qs) (q : Q (.bl (decide (ps = qs))) H) : rEqD K (.ref a) (.ref b) H Q :=
  ⟨.list (ps.map datP), .list (qs.map datP), .lst h1 (dpAll_pairs p1), .lst h2 (dpAll_pairs p2), shaped_pairs, shaped_pairs, by rw [show PyData.eqv (.list (ps.map datP)) (.list (qs.map datP)) = decide (ps = qs) from eqvAll_pairs]; exact q⟩
theorem g_neP {Q : VK} {a b : Addr} {p r : Int × Int} (h1 : H a = some (tupP p)) (h2 : H b = some (tupP r)) (q : Q (.bl (!decide (p = r))) H) : rNeD K (.ref a) (.ref b) H Q :=
  ⟨datP p, datP r, dp_pair h1, dp_pair h2, rfl, rfl, by rw [eqv_pair]; exact q⟩
end

/-- None or an int -/
def oV : Option Int → V
  | none => .non
  | some i => .int i
/-- None or a pair -/
def StV (H : Hp) : V → Option (Int × Int) → Prop
  | v, none => v = .non
  | v, some p => ∃ t, v = .ref t ∧ H t = some (tupP p)
theorem StV.same {H H' : Hp} {v : V} {o : Option (Int × Int)} (h : StV H v o) (s : Same H H') : StV H' v o := by
  cases o with
  | none => exact h
  | some p =>
    obtain ⟨t, e, h⟩ := h
    exact ⟨t, e, s _ _ h⟩
theorem StV.butD {H H' : Hp} {v : V} {o : Option (Int × Int)} {a : Addr} {kvs : List (Key × V)} (h : StV H v o) (s : But a H H') (e : H a = some (.dK kvs)) : StV H' v o := by
  cases o with
  | none => exact h
  | some p =>
    obtain ⟨t, e1, h⟩ := h
    exact ⟨t, e1, s _ _ (fun z => by rw [z, e] at h; cases h) h⟩

def nxt (s : Int) : Int := (1664525 * s + 1013904223) % 4294967296
def sp_next_seed (K : PySem.W.Frag) : Sp := fun vs H Q _ => ∃ s : Int, vs = [.int s] ∧ Q (.int (nxt s)) H
theorem u_next {s : Int} {H Q E} (q : Q (.int (nxt s)) H) : sp_next_seed K ([.int s] ++ []) H Q E := ⟨s, rfl, q⟩
theorem ok_next_seed (T : Txt K mg) : FnOk P w K mg base CX0 1 T.f_next_seed T.d_next_seed ["seed"] (sp_next_seed K) := by
  refine T.F_next_seed.ok sc_next_seed (fun vs H Q E h => ?_) (fun cdv A outer s H vs Q E hr h => ?_)
  · obtain ⟨s, rfl, q⟩ := h
    rfl
  · obtain ⟨s, rfl, q⟩ := h
    have hu := hu_of hr
    refine ⟨_, (pss_one (ps_ret (pe_op op_mod (pe_op op_add (pe_op op_mul pe_int (pv 0)) pe_int) (pe_glob (v := .int 4294967296) (by rfl) T.v_CIRCLE ⟨_, rfl⟩)))), ?_⟩
    dsimp only [cxOf, Cx.nox, Cx.wish, L2.start, List.map, List.cons_append, List.nil_append, List.length_cons, List.length_nil, Nat.reduceAdd, Nat.reduceSub, Nat.zero_add, List.replicate_succ, List.replicate_zero]
    walk_at "go"
    exact q
local macro_rules | `(tactic| walk_at "use") => `(tactic| with_reducible refine u_next ?_)
def dr (s b : Int) : Int := nxt s * b / 4294967296
def sp_draw (K : PySem.W.Frag) : Sp := fun vs H Q _ => ∃ s b : Int, vs = [.int s, .int b] ∧ ∀ p, H p = none → Q (.ref p) (upd H p (.tup [.int (nxt s), .int (dr s b)]))
theorem u_draw {s b : Int} {H Q E} (q : ∀ p, H p = none → Q (.ref p) (upd H p (.tup [.int (nxt s), .int (dr s b)]))) : sp_draw K ([.int s, .int b] ++ []) H Q E := ⟨s, b, rfl, q⟩
theorem nxt_b {s : Int} : 0 ≤ nxt s ∧ nxt s < 4294967296 := by unfold nxt; omega
theorem ok_draw (T : Txt K mg) : FnOk P w K mg base CX0 2 T.f_draw T.d_draw ["seed", "below"] (sp_draw K) := by
  refine T.F_draw.ok sc_draw (fun vs H Q E h => ?_) (fun cdv A outer s H vs Q E hr h => ?_)
  · obtain ⟨s, b, rfl, q⟩ := h
    rfl
  · obtain ⟨s, b, rfl, q⟩ := h
    have hu := hu_of hr
    refine ⟨_, (pss_cons (ps_set (i := 0) sc_draw.nd rfl (Or.inl rfl) (pe_call (ok_next_seed T) (hr.mono (by decide)) rfl T.m_next_seed T.F_next_seed.kp T.b_next_seed .nil pass0 (pa_cons (pv 0) pa_nil)))
        (pss_one (ps_ret (pe_tup (pa_cons (pv 0) (pa_cons (pe_op op_fdivW (pe_op op_mul (pv 0) (pv 1)) (pe_glob (v := .int 4294967296) (by rfl) T.v_CIRCLE ⟨_, rfl⟩)) pa_nil)))))), ?_⟩
    dsimp only [cxOf, Cx.nox, Cx.wish, L2.start, List.map, List.cons_append, List.nil_append, List.length_cons, List.length_nil, Nat.reduceAdd, Nat.reduceSub, Nat.zero_add, List.replicate_succ, List.replicate_zero]
    have hn := nxt_b (s := s)
    walk_at "go"
    exact ⟨by show 2 ≤ sizeLine; decide, q⟩
/-! ### verdicts -/
structure Vd where
  lost : Bool
  marked : Bool
  copies : Int
  delay : Int
def vdV (v : Vd) : List V := [.bl v.lost, .bl v.marked, .int v.copies, .int v.delay]
def VdO (C : Addr) (H : Hp) (p : Addr) (v : Vd) : Prop := ∃ dx, H p = some (.ins C dx (obj ky_Verdict [.bl v.lost, .bl v.marked, .int v.copies, .int v.delay]))
theorem VdO.same {C : Addr} {H H' : Hp} {p : Addr} {v : Vd} (h : VdO C H p v) (s : Same H H') : VdO C H' p v := by
  obtain ⟨dx, h⟩ := h
  exact ⟨dx, s _ _ h⟩
def sp_Verdict_init__ (C : Addr) : Sp := fun vs H Q _ => ∃ (p dx : Addr) (v : Vd), vs = [.ref p, .bl v.lost, .bl v.marked, .int v.copies, .int v.delay] ∧ H p = some (.ins C dx (obj ky_Verdict [])) ∧ Q .non (upd H p (.ins C dx (obj ky_Verdict [.bl v.lost, .bl v.marked, .int v.copies, .int v.delay])))
theorem ok_Verdict_init__ (T : Txt K mg) : FnOk P w K mg base CX0 1 T.f_Verdict_init__ T.d_Verdict_init__ ["self", "lost", "marked", "copies", "delay"] (sp_Verdict_init__ T.C_Verdict) := by
  refine T.F_Verdict_init__.ok sc_Verdict_init__ (fun vs H Q E h => ?_) (fun cdv A outer s H vs Q E hr h => ?_)
  · obtain ⟨p, dx, v, rfl, ho, q⟩ := h
    rfl
  · obtain ⟨p, dx, v, rfl, ho, q⟩ := h
    have hu := hu_of hr
    refine ⟨_, (pss_cons (ps_fld (pv 0) (pv 1) rfl)
        (pss_cons (ps_fld (pv 0) (pv 2) rfl)
        (pss_cons (ps_fld (pv 0) (pv 3) rfl)
        (pss_one (ps_fld (pv 0) (pv 4) rfl))))), ?_⟩
    dsimp only [cxOf, Cx.nox, Cx.wish, L2.start, List.map, List.cons_append, List.nil_append, List.length_cons, List.length_nil, Nat.reduceAdd, Nat.reduceSub, Nat.zero_add, List.replicate_succ, List.replicate_zero]
    walk_at "go"
    simp only [upd_upd, List.nil_append, List.cons_append]
    exact q
def arr (v : Vd) : Int := if v.lost = true then 0 else v.copies + 1
def sp_Verdict_arrivals (C : Addr) : Sp := fun vs H Q _ => ∃ (p : Addr) (v : Vd), vs = [.ref p] ∧ VdO C H p v ∧ Q (.int (arr v)) H
theorem ok_Verdict_arrivals (T : Txt K mg) : FnOk P w K mg base CX0 1 T.f_Verdict_arrivals T.d_Verdict_arrivals ["self"] (sp_Verdict_arrivals T.C_Verdict) := by
  refine T.F_Verdict_arrivals.ok sc_Verdict_arrivals (fun vs H Q E h => ?_) (fun cdv A outer s H vs Q E hr h => ?_)
  · obtain ⟨p, ⟨l, m, c, d⟩, rfl, ⟨dx, ho⟩, q⟩ := h
    rfl
  · obtain ⟨p, ⟨l, m, c, d⟩, rfl, ⟨dx, ho⟩, q⟩ := h
    have hu := hu_of hr
    refine ⟨_, (pss_one (ps_ret (pe_ifExp (pt_val (pe_fld (pv 0) rfl)) pe_int (pe_op op_add (pe_fld (pv 0) rfl) pe_int)))), ?_⟩
    dsimp only [cxOf, Cx.nox, Cx.wish, L2.start, List.map, List.cons_append, List.nil_append, List.length_cons, List.length_nil, Nat.reduceAdd, Nat.reduceSub, Nat.zero_add, List.replicate_succ, List.replicate_zero]
    dsimp only at ho
    cases l
    · walk_at "go"
      exact q
    · walk_at "go"
      exact q
def sp_Verdict_fields (C : Addr) : Sp := fun vs H Q _ => ∃ (p : Addr) (v : Vd), vs = [.ref p] ∧ VdO C H p v ∧ ∀ t, H t = none → Q (.ref t) (upd H t (.tup [.bl v.lost, .bl v.marked, .int v.copies, .int v.delay]))
theorem ok_Verdict_fields (T : Txt K mg) : FnOk P w K mg base CX0 1 T.f_Verdict_fields T.d_Verdict_fields ["self"] (sp_Verdict_fields T.C_Verdict) := by
  refine T.F_Verdict_fields.ok sc_Verdict_fields (fun vs H Q E h => ?_) (fun cdv A outer s H vs Q E hr h => ?_)
  · obtain ⟨p, v, rfl, ⟨dx, ho⟩, q⟩ := h
    rfl
  · obtain ⟨p, v, rfl, ⟨dx, ho⟩, q⟩ := h
    have hu := hu_of hr
    refine ⟨_, (pss_one (ps_ret (pe_tup (pa_cons (pe_fld (pv 0) rfl) (pa_cons (pe_fld (pv 0) rfl) (pa_cons (pe_fld (pv 0) rfl) (pa_cons (pe_fld (pv 0) rfl) pa_nil))))))), ?_⟩
    dsimp only [cxOf, Cx.nox, Cx.wish, L2.start, List.map, List.cons_append, List.nil_append, List.length_cons, List.length_nil, Nat.reduceAdd, Nat.reduceSub, Nat.zero_add, List.replicate_succ, List.replicate_zero]
    walk_at "go"
    exact ⟨by show 4 ≤ sizeLine; decide, q⟩
def eqV (v w : Vd) : Bool := (v.lost == w.lost) && ((v.marked == w.marked) && ((v.copies == w.copies) && ((v.delay == w.delay) && true)))
def datV (v : Vd) : PyData := .tuple [.bool v.lost, .bool v.marked, .int v.copies, .int v.delay]
theorem dp_V {H : Hp} {t : Addr} {v : Vd} (h : H t = some (.tup [.bl v.lost, .bl v.marked, .int v.copies, .int v.delay])) : Dp K H (.ref t) (datV v) := .tup (st h) (.cons (.bl _) (.cons (.bl _) (.cons (.int _) (.cons (.int _) .nil))))
def sp_Verdict_eq__ (C : Addr) : Sp := fun vs H Q _ => ∃ (p p' : Addr) (v v' : Vd), vs = [.ref p, .ref p'] ∧ VdO C H p v ∧ VdO C H p' v' ∧ ∀ H', Same H H' → Q (.bl (eqV v v')) H'
theorem ok_Verdict_eq__ (T : Txt K mg) : FnOk P w K mg base CX0 2 T.f_Verdict_eq__ T.d_Verdict_eq__ ["self", "other"] (sp_Verdict_eq__ T.C_Verdict) := by
  refine T.F_Verdict_eq__.ok sc_Verdict_eq__ (fun vs H Q E h => ?_) (fun cdv A outer s H vs Q E hr h => ?_)
  · obtain ⟨p, p', v, v', rfl, hO, hO', q⟩ := h
    rfl
  · obtain ⟨p, p', v, v', rfl, hO, hO', q⟩ := h
    have hu := hu_of hr
    refine ⟨_, (pss_cons (ps_if (pt_not (pt_val (pe_callB call_isi (by rfl) T.n_isinstance (by decide +kernel) (pa_cons (pv 1) (pa_cons (pe_glob (v := .ref T.C_Verdict) (by rfl) T.c_Verdict rfl) pa_nil))))) (pss_one (ps_ret pe_bl)) pss_nil)
        (pss_one (ps_ret (pe_cmpR (op_eqD hr.units) (pe_meth0 (pv 0) T.k_Verdict T.a_Verdict_fields (ok_Verdict_fields T) (hr.mono (by decide)) T.b_Verdict_fields .nil pass0) (pe_meth0 (pv 1) T.k_Verdict T.a_Verdict_fields (ok_Verdict_fields T) (hr.mono (by decide)) T.b_Verdict_fields .nil pass0) (nomark _))))), ?_⟩
    dsimp only [cxOf, Cx.nox, Cx.wish, L2.start, List.map, List.cons_append, List.nil_append, List.length_cons, List.length_nil, Nat.reduceAdd, Nat.reduceSub, Nat.zero_add, List.replicate_succ, List.replicate_zero]
    obtain ⟨dx, ho⟩ := id hO
    obtain ⟨dx', ho'⟩ := id hO'
    walk_at "go"
    refine g_isi (.own _) (.base (T.i_Verdict ho')) (if_pos (beq_self_eq_true _)) ?_
    walk_at "go"
    refine ⟨p, v, rfl, hO, fun t ht => ?_⟩
    walk_at "go"
    have ho1 := (same_upd (o := .tup [.bl v.lost, .bl v.marked, .int v.copies, .int v.delay]) ht) _ _ ho'
    walk_at "go"
    refine ⟨p', v', rfl, ⟨dx', ho1⟩, fun t' ht' => ?_⟩
    refine ⟨datV v, datV v', dp_V ((same_upd ht') _ _ upd_same), dp_V upd_same, rfl, rfl, ?_⟩
    exact q _ ((same_upd ht).trans (same_upd ht'))
/-! ### rules -/
structure Rl where
  fault : Str
  amount : Int
  upto : Int
  sender : Option Int
  target : Option Int
  ticks : Option (Int × Int)
  nth : Option Int
  chance : Option Int
def RlO (C : Addr) (H : Hp) (r : Addr) (g : Rl) : Prop := ∃ dx tv, H r = some (.ins C dx (obj ky_Rule [.str g.fault, .int g.amount, .int g.upto, oV g.sender, oV g.target, tv, oV g.nth, oV g.chance])) ∧ StV H tv g.ticks
def sp_Rule_init__ (C : Addr) : Sp := fun vs H Q _ => ∃ (r dx : Addr) (f : Str) (a u : Int) (se ta tk nt ch : V), vs = [.ref r, .str f, .int a, .int u, se, ta, tk, nt, ch] ∧ H r = some (.ins C dx (obj ky_Rule [])) ∧ Q .non (upd H r (.ins C dx (obj ky_Rule [.str f, .int a, .int u, se, ta, tk, nt, ch])))
theorem ok_Rule_init__ (T : Txt K mg) : FnOk P w K mg base CX0 1 T.f_Rule_init__ T.d_Rule_init__ ["self", "fault", "amount", "until", "sender", "target", "ticks", "nth", "chance"] (sp_Rule_init__ T.C_Rule) := by
  refine T.F_Rule_init__.ok sc_Rule_init__ (fun vs H Q E h => ?_) (fun cdv A outer s H vs Q E hr h => ?_)
  · obtain ⟨r, dx, f, a, u, se, ta, tk, nt, ch, rfl, ho, q⟩ := h
    rfl
  · obtain ⟨r, dx, f, a, u, se, ta, tk, nt, ch, rfl, ho, q⟩ := h
    have hu := hu_of hr
    refine ⟨_, (pss_cons (ps_fld (pv 0) (pv 1) rfl)
        (pss_cons (ps_fld (pv 0) (pv 2) rfl)
        (pss_cons (ps_fld (pv 0) (pv 3) rfl)
        (pss_cons (ps_fld (pv 0) (pv 4) rfl)
        (pss_cons (ps_fld (pv 0) (pv 5) rfl)
        (pss_cons (ps_fld (pv 0) (pv 6) rfl)
        (pss_cons (ps_fld (pv 0) (pv 7) rfl)
        (pss_one (ps_fld (pv 0) (pv 8) rfl))))))))), ?_⟩
    dsimp only [cxOf, Cx.nox, Cx.wish, L2.start, List.map, List.cons_append, List.nil_append, List.length_cons, List.length_nil, Nat.reduceAdd, Nat.reduceSub, Nat.zero_add, List.replicate_succ, List.replicate_zero]
    walk_at "go"
    simp only [upd_upd, List.nil_append, List.cons_append]
    exact q
def okO : Option Int → Int → Bool
  | none, _ => true
  | some x, s => decide (s = x)
def okR : Option (Int × Int) → Int → Bool
  | none, _ => true
  | some p, b => decide (p.1 ≤ b) && decide (b ≤ p.2)
def adm (g : Rl) (s t b : Int) : Bool := okO g.sender s && (okO g.target t && okR g.ticks b)
def sp_Rule_considers (C : Addr) : Sp := fun vs H Q _ => ∃ (r : Addr) (g : Rl) (s t b : Int), vs = [.ref r, .int s, .int t, .int b] ∧ RlO C H r g ∧ Q (.bl (adm g s t b)) H
theorem ok_Rule_considers (T : Txt K mg) : FnOk P w K mg base CX0 1 T.f_Rule_considers T.d_Rule_considers ["self", "sender", "target", "birth"] (sp_Rule_considers T.C_Rule) := by
  refine T.F_Rule_considers.ok sc_Rule_considers (fun vs H Q E h => ?_) (fun cdv A outer s H vs Q E hr h => ?_)
  · obtain ⟨r, ⟨ft, am, un, se, ta, tk, nt, ch⟩, s, t, b, rfl, ⟨dx, tv, ho, hv⟩, q⟩ := h
    rfl
  · obtain ⟨r, ⟨ft, am, un, se, ta, tk, nt, ch⟩, s, t, b, rfl, ⟨dx, tv, ho, hv⟩, q⟩ := h
    have hu := hu_of hr
    refine ⟨_, (C8.pss_cut (ps_if (PW.pt (pw_and (pt_cmpR op_notN (pe_fld (pv 0) rfl) pe_non (nomark _)) (pw_and1 (pt_cmpR op_ne (pv 1) (pe_fld (pv 0) rfl) (nomark _))))) (pss_one (ps_ret pe_bl)) pss_nil)
        (C8.pss_cut (ps_if (PW.pt (pw_and (pt_cmpR op_notN (pe_fld (pv 0) rfl) pe_non (nomark _)) (pw_and1 (pt_cmpR op_ne (pv 2) (pe_fld (pv 0) rfl) (nomark _))))) (pss_one (ps_ret pe_bl)) pss_nil)
        (pss_one (ps_ret (pe_or (pe_cmpR op_isN (pe_fld (pv 0) rfl) pe_non (nomark _)) (pe_one (pe_chain op_le op_le (pe_ix ix_tup (pe_fld (pv 0) rfl) pe_int (fun _ _ => rfl)) (pv 3) (pe_ix ix_tup (pe_fld (pv 0) rfl) pe_int (fun _ _ => rfl))))))))), ?_⟩
    dsimp only [cxOf, Cx.nox, Cx.wish, L2.start, List.map, List.cons_append, List.nil_append, List.length_cons, List.length_nil, Nat.reduceAdd, Nat.reduceSub, Nat.zero_add, List.replicate_succ, List.replicate_zero]
    dsimp only at ho hv
    unfold adm at q
    dsimp only at q
    walk_at "go"
    refine g_cut (fun σ' H' => H = H' ∧ σ' = [some (.ref r), some (.int s), some (.int t), some (.int b)] ∧ okO se s = true) ?_ ?_
    · rcases se with _ | x
      · walk_at "go"
        exact ⟨rfl, rfl, rfl⟩
      · walk_at "go"
        refine g_rNeI (i := s) (j := x) ?_
        walk_at "go"
        refine g_iteN (fun h => ?_) (fun h => ?_)
        · walk_at "go"
          rw [show okO (some x) s = false from decide_eq_false h, Bool.false_and] at q
          exact q
        · walk_at "go"
          exact ⟨rfl, rfl, decide_eq_true h⟩
    rintro σ' _ ⟨rfl, rfl, e1⟩
    rw [e1, Bool.true_and] at q
    walk_at "go"
    refine g_cut (fun σ' H' => H = H' ∧ σ' = [some (.ref r), some (.int s), some (.int t), some (.int b)] ∧ okO ta t = true) ?_ ?_
    · rcases ta with _ | x
      · walk_at "go"
        exact ⟨rfl, rfl, rfl⟩
      · walk_at "go"
        refine g_rNeI (i := t) (j := x) ?_
        walk_at "go"
        refine g_iteN (fun h => ?_) (fun h => ?_)
        · walk_at "go"
          rw [show okO (some x) t = false from decide_eq_false h, Bool.false_and] at q
          exact q
        · walk_at "go"
          exact ⟨rfl, rfl, decide_eq_true h⟩
    rintro σ' _ ⟨rfl, rfl, e2⟩
    rw [e2, Bool.true_and] at q
    walk_at "go"
    rcases tk with _ | ⟨lo, hi⟩
    · have e : tv = .non := hv
      subst e
      walk_at "go"
      exact q
    · obtain ⟨tt, rfl, ht⟩ := hv
      walk_at "go"
      refine g_ixT (st ht) (at_of (j := 0) rfl rfl) ?_
      walk_at "go"
      refine g_ite (fun h => ?_) (fun h => ?_)
      · walk_at "go"
        refine g_ixT (st ht) (at_of (j := 1) rfl rfl) ?_
        walk_at "go"
        rw [show okR (some (lo, hi)) b = decide (b ≤ hi) by
          show (decide (lo ≤ b) && decide (b ≤ hi)) = _
          rw [decide_eq_true (show lo ≤ b from h), Bool.true_and]] at q
        exact q
      · walk_at "go"
        rw [show okR (some (lo, hi)) b = false by
          show (decide (lo ≤ b) && decide (b ≤ hi)) = _
          rw [decide_eq_false (show ¬ lo ≤ b from h), Bool.false_and]] at q
        exact q
end
end My
namespace My
open PySem PySem.Spec L2
local macro_rules | `(tactic| walk_at "side") => `(tactic| first | assumption | decide | omega | exact ⟨by decide, by decide⟩ | exact ⟨by decide, by decide, by decide⟩ | decide +kernel | exact cdivW (by decide +kernel) (by decide +kernel) | exact Or.inl ⟨by omega, by omega⟩ | exact Or.inr ⟨by omega, by omega⟩ | (simp only [List.length_map, List.length_cons, List.length_nil, List.length_append]; omega))
local macro_rules | `(tactic| walk_at "fact") => `(tactic| first | assumption | omega | with_reducible rfl)
local macro_rules | `(tactic| walk_at "use") => `(tactic| fail "use")
local macro_rules | `(tactic| walk_at "go1") => `(tactic| with_reducible first | refine g_seq ?_ | refine g_asg ?_ | refine g_ret ?_ | refine g_ifS ?_ | refine g_drop ?_ | refine g_star ?_ | refine g_nx ?_ | refine g_rt ?_ | refine g_bkE ?_ | refine g_ctE ?_ | refine g_next ?_ | refine g_retN ?_ | refine g_brk ?_ | refine g_ct ?_ | refine g_c ?_ | refine g_op ?_ | refine g_un ?_ | refine g_rI0 ?_ | refine g_rU ?_ | refine g_rEqI ?_ | refine g_rNeI ?_ | refine g_isN ?_ | refine g_rIsB ?_ | refine g_rNotB ?_ | refine g_test ?_ | refine g_B ?_ | refine g_bl ?_ | refine g_and ?_ | refine g_or ?_ | refine g_not ?_ | refine g_andV ?_ | refine g_orV ?_ | refine g_notV ?_ | refine g_if ?_ | refine g_chain ?_ | refine g_yes ?_ | refine g_lc ?_ | refine g_revR ?_ | refine g_rng1 ?_ | refine g_iList ?_ | refine g_nil ?_ | refine g_cons ?_ | refine g_tup ?_ | refine g_lst ?_ | refine g_call ?_ | refine g_CB ?_ | refine g_sl ?_ | refine g_noPart ?_ | refine g_part ?_ | refine g_intE ?_ | refine g_ref ?_ | refine g_fld ?_ | refine g_sfld ?_ | refine g_meth ?_ | refine g_make ?_ | refine g_prop ?_  | refine g_ipI ?_ | refine g_int1 ?_ | refine g_int1B ?_ | refine g_one ?_ | refine g_two ?_ | refine g_isiI ?_ | refine g_isiIB ?_ | refine g_isiB ?_ | refine g_BM ?_ | refine g_BM0 ?_ | refine g_sub ?_)
local macro_rules | `(tactic| walk_at "go") => `(tactic| repeat (first | walk_at "go1" | ((with_reducible refine' g_nameE ?sd_ ?_); case sd_ => dsimp only [List.set_cons_succ, List.set_cons_zero]) | ((with_reducible refine' g_var ?sd_ ?_); case sd_ => exact rfl) | ((with_reducible refine' g_aug ?sd_ ?_); case sd_ => exact rfl) | ((with_reducible refine' g_rI ?sd_ ?_); case sd_ => walk_at "side") | ((with_reducible refine' g_dT ?sd_ ?_); case sd_ => walk_at "fact") | ((with_reducible refine' g_dF ?sd_ ?_); case sd_ => walk_at "fact") | ((with_reducible refine' g_nT ?sd_ ?_); case sd_ => walk_at "fact") | ((with_reducible refine' g_nF ?sd_ ?_); case sd_ => walk_at "fact") | (with_reducible refine g_iT rfl ?_) | (with_reducible refine g_iF rfl ?_) | walk_at "use"))
local macro_rules | `(tactic| walk_at "use") => `(tactic| first | ((with_reducible refine' fd_Verdict_lost ?ho_ ?hv_ ?_); (case ho_ => first | assumption | exact upd_same); (case hv_ => exact rfl)) | ((with_reducible refine' fd_Verdict_marked ?ho_ ?hv_ ?_); (case ho_ => first | assumption | exact upd_same); (case hv_ => exact rfl)) | ((with_reducible refine' fd_Verdict_copies ?ho_ ?hv_ ?_); (case ho_ => first | assumption | exact upd_same); (case hv_ => exact rfl)) | ((with_reducible refine' fd_Verdict_delay ?ho_ ?hv_ ?_); (case ho_ => first | assumption | exact upd_same); (case hv_ => exact rfl)) | ((with_reducible refine' nw_Verdict_lost ?ho_ ?hv_ ?_); (case ho_ => first | assumption | exact upd_same); (case hv_ => exact rfl)) | ((with_reducible refine' nw_Verdict_marked ?ho_ ?hv_ ?_); (case ho_ => first | assumption | exact upd_same); (case hv_ => exact rfl)) | ((with_reducible refine' nw_Verdict_copies ?ho_ ?hv_ ?_); (case ho_ => first | assumption | exact upd_same); (case hv_ => exact rfl)) | ((with_reducible refine' nw_Verdict_delay ?ho_ ?hv_ ?_); (case ho_ => first | assumption | exact upd_same); (case hv_ => exact rfl)) | ((with_reducible refine' st_Verdict_lost ?ho_ ?hv_ ?_); (case ho_ => first | assumption | exact upd_same); (case hv_ => exact Nat.le_of_ble_eq_true rfl)) | ((with_reducible refine' st_Verdict_marked ?ho_ ?hv_ ?_); (case ho_ => first | assumption | exact upd_same); (case hv_ => exact Nat.le_of_ble_eq_true rfl)) | ((with_reducible refine' st_Verdict_copies ?ho_ ?hv_ ?_); (case ho_ => first | assumption | exact upd_same); (case hv_ => exact Nat.le_of_ble_eq_true rfl)) | ((with_reducible refine' st_Verdict_delay ?ho_ ?hv_ ?_); (case ho_ => first | assumption | exact upd_same); (case hv_ => exact Nat.le_of_ble_eq_true rfl)) | ((with_reducible refine' me_Verdict_eq__ ?ho_ ?_); (case ho_ => first | assumption | exact upd_same)) | ((with_reducible refine' me_Verdict_fields ?ho_ ?_); (case ho_ => first | assumption | exact upd_same)))
local macro_rules | `(tactic| walk_at "use") => `(tactic| first | ((with_reducible refine' fd_Faults_seed ?ho_ ?hv_ ?_); (case ho_ => first | assumption | exact upd_same); (case hv_ => exact rfl)) | ((with_reducible refine' fd_Faults_counts ?ho_ ?hv_ ?_); (case ho_ => first | assumption | exact upd_same); (case hv_ => exact rfl)) | ((with_reducible refine' fd_Faults__rules ?ho_ ?hv_ ?_); (case ho_ => first | assumption | exact upd_same); (case hv_ => exact rfl)) | ((with_reducible refine' nw_Faults_seed ?ho_ ?hv_ ?_); (case ho_ => first | assumption | exact upd_same); (case hv_ => exact rfl)) | ((with_reducible refine' nw_Faults_counts ?ho_ ?hv_ ?_); (case ho_ => first | assumption | exact upd_same); (case hv_ => exact rfl)) | ((with_reducible refine' nw_Faults__rules ?ho_ ?hv_ ?_); (case ho_ => first | assumption | exact upd_same); (case hv_ => exact rfl)) | ((with_reducible refine' st_Faults_seed ?ho_ ?hv_ ?_); (case ho_ => first | assumption | exact upd_same); (case hv_ => exact Nat.le_of_ble_eq_true rfl)) | ((with_reducible refine' st_Faults_counts ?ho_ ?hv_ ?_); (case ho_ => first | assumption | exact upd_same); (case hv_ => exact Nat.le_of_ble_eq_true rfl)) | ((with_reducible refine' st_Faults__rules ?ho_ ?hv_ ?_); (case ho_ => first | assumption | exact upd_same); (case hv_ => exact Nat.le_of_ble_eq_true rfl)) | ((with_reducible refine' me_Faults_judge ?ho_ ?_); (case ho_ => first | assumption | exact upd_same)) | ((with_reducible refine' me_Faults_applies ?ho_ ?_); (case ho_ => first | assumption | exact upd_same)) | ((with_reducible refine' me_Faults_apply ?ho_ ?_); (case ho_ => first | assumption | exact upd_same)) | ((with_reducible refine' me_Faults_draw ?ho_ ?_); (case ho_ => first | assumption | exact upd_same)))
local macro_rules | `(tactic| walk_at "use") => `(tactic| first | ((with_reducible refine' fd_Rule_fault ?ho_ ?hv_ ?_); (case ho_ => first | assumption | exact upd_same); (case hv_ => exact rfl)) | ((with_reducible refine' fd_Rule_amount ?ho_ ?hv_ ?_); (case ho_ => first | assumption | exact upd_same); (case hv_ => exact rfl)) | ((with_reducible refine' fd_Rule_until ?ho_ ?hv_ ?_); (case ho_ => first | assumption | exact upd_same); (case hv_ => exact rfl)) | ((with_reducible refine' fd_Rule_sender ?ho_ ?hv_ ?_); (case ho_ => first | assumption | exact upd_same); (case hv_ => exact rfl)) | ((with_reducible refine' fd_Rule_target ?ho_ ?hv_ ?_); (case ho_ => first | assumption | exact upd_same); (case hv_ => exact rfl)) | ((with_reducible refine' fd_Rule_ticks ?ho_ ?hv_ ?_); (case ho_ => first | assumption | exact upd_same); (case hv_ => exact rfl)) | ((with_reducible refine' fd_Rule_nth ?ho_ ?hv_ ?_); (case ho_ => first | assumption | exact upd_same); (case hv_ => exact rfl)) | ((with_reducible refine' fd_Rule_chance ?ho_ ?hv_ ?_); (case ho_ => first | assumption | exact upd_same); (case hv_ => exact rfl)) | ((with_reducible refine' nw_Rule_fault ?ho_ ?hv_ ?_); (case ho_ => first | assumption | exact upd_same); (case hv_ => exact rfl)) | ((with_reducible refine' nw_Rule_amount ?ho_ ?hv_ ?_); (case ho_ => first | assumption | exact upd_same); (case hv_ => exact rfl)) | ((with_reducible refine' nw_Rule_until ?ho_ ?hv_ ?_); (case ho_ => first | assumption | exact upd_same); (case hv_ => exact rfl)) | ((with_reducible refine' nw_Rule_sender ?ho_ ?hv_ ?_); (case ho_ => first | assumption | exact upd_same); (case hv_ => exact rfl)) | ((with_reducible refine' nw_Rule_target ?ho_ ?hv_ ?_); (case ho_ => first | assumption | exact upd_same); (case hv_ => exact rfl)) | ((with_reducible refine' nw_Rule_ticks ?ho_ ?hv_ ?_); (case ho_ => first | assumption | exact upd_same); (case hv_ => exact rfl)) | ((with_reducible refine' nw_Rule_nth ?ho_ ?hv_ ?_); (case ho_ => first | assumption | exact upd_same); (case hv_ => exact rfl)) | ((with_reducible refine' nw_Rule_chance ?ho_ ?hv_ ?_); (case ho_ => first | assumption | exact upd_same); (case hv_ => exact rfl)) | ((with_reducible refine' st_Rule_fault ?ho_ ?hv_ ?_); (case ho_ => first | assumption | exact upd_same); (case hv_ => exact Nat.le_of_ble_eq_true rfl)) | ((with_reducible refine' st_Rule_amount ?ho_ ?hv_ ?_); (case ho_ => first | assumption | exact upd_same); (case hv_ => exact Nat.le_of_ble_eq_true rfl)) | ((with_reducible refine' st_Rule_until ?ho_ ?hv_ ?_); (case ho_ => first | assumption | exact upd_same); (case hv_ => exact Nat.le_of_ble_eq_true rfl)) | ((with_reducible refine' st_Rule_sender ?ho_ ?hv_ ?_); (case ho_ => first | assumption | exact upd_same); (case hv_ => exact Nat.le_of_ble_eq_true rfl)) | ((with_reducible refine' st_Rule_target ?ho_ ?hv_ ?_); (case ho_ => first | assumption | exact upd_same); (case hv_ => exact Nat.le_of_ble_eq_true rfl)) | ((with_reducible refine' st_Rule_ticks ?ho_ ?hv_ ?_); (case ho_ => first | assumption | exact upd_same); (case hv_ => exact Nat.le_of_ble_eq_true rfl)) | ((with_reducible refine' st_Rule_nth ?ho_ ?hv_ ?_); (case ho_ => first | assumption | exact upd_same); (case hv_ => exact Nat.le_of_ble_eq_true rfl)) | ((with_reducible refine' st_Rule_chance ?ho_ ?hv_ ?_); (case ho_ => first | assumption | exact upd_same); (case hv_ => exact Nat.le_of_ble_eq_true rfl)) | ((with_reducible refine' me_Rule_considers ?ho_ ?_); (case ho_ => first | assumption | exact upd_same)) | ((with_reducible refine' me_Rule_fork ?ho_ ?_); (case ho_ => first | assumption | exact upd_same)))
section
variable {P : Program} {w : World} {K : PySem.W.Frag} {mg : Str → Option Value} {base : Heap}
local macro_rules | `(tactic| walk_at "use") => `(tactic| with_reducible first | refine g_augS ?_ | refine g_makeK ?_ | refine g_callN ?_ | refine g_rEqS ?_ | refine g_rNeS ?_)
theorem RlO.same {C : Addr} {H H' : Hp} {r : Addr} {g : Rl} (h : RlO C H r g) (s : Same H H') : RlO C H' r g := by
  obtain ⟨dx, tv, h1, h2⟩ := h
  exact ⟨dx, tv, s _ _ h1, h2.same s⟩
def sp_Rule_fork (C : Addr) : Sp := fun vs H Q _ => ∃ (r : Addr) (g : Rl), vs = [.ref r] ∧ RlO C H r g ∧ ∀ r' H', H r' = none → Same H H' → RlO C H' r' g → Q (.ref r') H'
theorem kbt_1 {K : PySem.W.Frag} {mg : Str → Option Value} (T : Txt K mg) : ∃ g, KBn K T.d_Rule_init__ ["self", "fault", "amount", "until", "sender", "target", "ticks", "nth", "chance"] 2 ["amount", "until", "sender", "target", "ticks", "nth", "chance"] g (fun vs zs => vs ++ ((zs.drop 0).take 1 ++ ((zs.drop 1).take 1 ++ ((zs.drop 2).take 1 ++ ((zs.drop 3).take 1 ++ ((zs.drop 4).take 1 ++ ((zs.drop 5).take 1 ++ ((zs.drop 6).take 1)))))))) := by
  obtain ⟨mv, h⟩ := T.F_Rule_init__.kbinds0 (ps := ["self", "fault", "amount", "until", "sender", "target", "ticks", "nth", "chance"]) 2 ["amount", "until", "sender", "target", "ticks", "nth", "chance"] [] (fun vs mz zs => vs ++ ((zs.drop 0).take 1 ++ ((zs.drop 1).take 1 ++ ((zs.drop 2).take 1 ++ ((zs.drop 3).take 1 ++ ((zs.drop 4).take 1 ++ ((zs.drop 5).take 1 ++ ((zs.drop 6).take 1)))))))) (by intro h; cases h) (fun q hq => List.Sublist.mem hq (.cons _ (.cons _ (.cons _ (.cons _ (.cons _ (.cons _ (.cons _ (.slnil))))))))) (fun r1 r2 r3 => r1.append (((r3.drop 0).take 1).append (((r3.drop 1).take 1).append (((r3.drop 2).take 1).append (((r3.drop 3).take 1).append (((r3.drop 4).take 1).append (((r3.drop 5).take 1).append ((r3.drop 6).take 1)))))))) (fun D doc pm an cdv ct us mv ws l1 l2 l3 => match us, l1, mv, l2, ws, l3 with | [_, _], _, [], _, [_, _, _, _, _, _, _], _ => (by show _ = _; kernel_rfl))
  exact ⟨_, h⟩
theorem ok_Rule_fork (T : Txt K mg) : FnOk P w K mg base CX0 3 T.f_Rule_fork T.d_Rule_fork ["self"] (sp_Rule_fork T.C_Rule) := by
  refine T.F_Rule_fork.ok sc_Rule_fork (fun vs H Q E h => ?_) (fun cdv A outer s H vs Q E hr h => ?_)
  · obtain ⟨r, g, rfl, ⟨dx, tv, ho, hv⟩, q⟩ := h
    rfl
  · obtain ⟨r, g, rfl, ⟨dx, tv, ho, hv⟩, q⟩ := h
    have hu := hu_of hr
    obtain ⟨gk_1, kb_1⟩ := kbt_1 T
    refine ⟨_, (pss_one (ps_ret (pe_makeK T.mk_Rule (ok_Rule_init__ T) (hr.mono (by decide)) rfl T.c_Rule kb_1 pass0 (pa_cons (pe_fld (pv 0) rfl) pa_nil) (pk_cons (pe_fld (pv 0) rfl) (pk_cons (pe_fld (pv 0) rfl) (pk_cons (pe_fld (pv 0) rfl) (pk_cons (pe_fld (pv 0) rfl) (pk_cons (pe_fld (pv 0) rfl) (pk_cons (pe_fld (pv 0) rfl) (pk_cons (pe_fld (pv 0) rfl) pk_nil)))))))))), ?_⟩
    dsimp only [cxOf, Cx.nox, Cx.wish, L2.start, List.map, List.cons_append, List.nil_append, List.length_cons, List.length_nil, Nat.reduceAdd, Nat.reduceSub, Nat.zero_add, List.replicate_succ, List.replicate_zero]
    walk_at "go"
    refine ⟨rfl, rfl, fun x dx2 nx ndx nxd => ?_⟩
    have b1 : But x H (upd (upd H dx2 (.own x)) x (.ins T.C_Rule dx2 [])) := ((But.of (same_upd (o := .own x) ndx))).upd
    refine ⟨x, dx2, _, _, _, _, _, _, _, _, rfl, upd_same, rfl, ?_⟩
    have s1 := (b1.upd (o := .ins T.C_Rule dx2 (obj ky_Rule [.str g.fault, .int g.amount, .int g.upto, oV g.sender, oV g.target, tv, oV g.nth, oV g.chance]))).same nx
    exact q x _ nx s1 ⟨dx2, tv, upd_same, hv.same s1⟩
/-! ### faults -/
def FaS (C dx : Addr) (s : Int) (c l : Addr) : HO := .ins C dx (obj ky_Faults [.int s, .ref c, .ref l])
def sp_Faults_draw (C : Addr) : Sp := fun vs H Q _ => ∃ (f dx : Addr) (s b : Int) (c l : Addr), vs = [.ref f, .int b] ∧ H f = some (FaS C dx s c l) ∧ ∀ H', But f H H' → H' f = some (FaS C dx (nxt s) c l) → Q (.int (dr s b)) H'
theorem ok_Faults_draw (T : Txt K mg) : FnOk P w K mg base CX0 3 T.f_Faults_draw T.d_Faults_draw ["self", "below"] (sp_Faults_draw T.C_Faults) := by
  refine T.F_Faults_draw.ok sc_Faults_draw (fun vs H Q E h => ?_) (fun cdv A outer s H vs Q E hr h => ?_)
  · obtain ⟨f, dx, s, b, c, l, rfl, ho, q⟩ := h
    rfl
  · obtain ⟨f, dx, s, b, c, l, rfl, ho, q⟩ := h
    have hu := hu_of hr
    refine ⟨_, (pss_cons (ps_asg (pe_call (ok_draw T) (hr.mono (by decide)) rfl T.m_draw T.F_draw.kp T.b_draw .nil pass0 (pa_cons (pe_fld (pv 0) rfl) (pa_cons (pv 1) pa_nil))) (pg_tup rfl (pgs_cons (pg_fld (pv 0)) (pgs_cons (pg_name (i := 2) sc_Faults_draw.nd rfl (Or.inl rfl)) pgs_nil))))
        (pss_one (ps_ret (pv 2)))), ?_⟩
    dsimp only [cxOf, Cx.nox, Cx.wish, L2.start, List.map, List.cons_append, List.nil_append, List.length_cons, List.length_nil, Nat.reduceAdd, Nat.reduceSub, Nat.zero_add, List.replicate_succ, List.replicate_zero]
    unfold FaS at ho q
    walk_at "go"
    refine u_draw fun t ht => ?_
    have ho1 := (same_upd (o := .tup [.int (nxt s), .int (dr s b)]) ht) _ _ ho
    refine ⟨t, _, rfl, st upd_same, rfl, ?_⟩
    refine ⟨_, _, rfl, ?_⟩
    refine g_gfldV (j := 0) rfl ho1 T.k_Faults T.n_Faults_seed nd_Faults (by show 3 < 1000; decide) rfl (by show 0 < 3; decide) ?_
    refine ⟨_, _, rfl, ?_⟩
    walk_at "go"
    refine ⟨rfl, ?_⟩
    walk_at "go"
    exact q _ (But.of (same_upd ht)).upd upd_same
theorem u_fdraw {C f dx : Addr} {s b : Int} {c l : Addr} {H Q E} (h : H f = some (FaS C dx s c l)) (q : ∀ H', But f H H' → H' f = some (FaS C dx (nxt s) c l) → Q (.int (dr s b)) H') : sp_Faults_draw C ([.ref f] ++ ([.int b] ++ [])) H Q E := ⟨f, dx, s, b, c, l, rfl, h, q⟩
def skip (g : Rl) (c : Int) : Bool := match g.nth with
  | none => false
  | some n => !decide (c % n = 0)
def aplB (g : Rl) (c s : Int) : Bool := if skip g c = true then false else match g.chance with
  | none => true
  | some x => decide (dr s 1000 < x)
def aplS (g : Rl) (c s : Int) : Int := if skip g c = true then s else match g.chance with
  | none => s
  | some _ => nxt s
def RlOk (g : Rl) : Prop := (∀ n, g.nth = some n → 0 < n) ∧ (∀ p, g.ticks = some p → p.1 ≤ p.2)
def sp_Faults_applies (CF CR : Addr) : Sp := fun vs H Q _ => ∃ (f dx r : Addr) (g : Rl) (s n : Int) (c l : Addr), vs = [.ref f, .ref r, .int n] ∧ H f = some (FaS CF dx s c l) ∧ RlO CR H r g ∧ RlOk g ∧ ∀ H', But f H H' → H' f = some (FaS CF dx (aplS g n s) c l) → Q (.bl (aplB g n s)) H'
theorem ok_Faults_applies (T : Txt K mg) : FnOk P w K mg base CX0 4 T.f_Faults_applies T.d_Faults_applies ["self", "rule", "count"] (sp_Faults_applies T.C_Faults T.C_Rule) := by
  refine T.F_Faults_applies.ok sc_Faults_applies (fun vs H Q E h => ?_) (fun cdv A outer s H vs Q E hr h => ?_)
  · obtain ⟨f, dx, r, ⟨ft, am, un, se, ta, tk, nt, ch⟩, s, n, c, l, rfl, ho, ⟨dx2, tv, hr2, hv⟩, ok, q⟩ := h
    rfl
  · obtain ⟨f, dx, r, ⟨ft, am, un, se, ta, tk, nt, ch⟩, s, n, c, l, rfl, ho, ⟨dx2, tv, hr2, hv⟩, ok, q⟩ := h
    have hu := hu_of hr
    refine ⟨_, (C8.pss_cut (ps_if (PW.pt (pw_and (pt_cmpR op_notN (pe_fld (pv 1) rfl) pe_non (nomark _)) (pw_and1 (pt_cmpR op_ne (pe_op op_mod (pv 2) (pe_fld (pv 1) rfl)) pe_int (nomark _))))) (pss_one (ps_ret pe_bl)) pss_nil)
        (pss_one (ps_ret (pe_or (pe_cmpR op_isN (pe_fld (pv 1) rfl) pe_non (nomark _)) (pe_one (pe_cmpR op_lt (pe_meth (pv 0) T.k_Faults T.a_Faults_draw (ok_Faults_draw T) (hr.mono (by decide)) T.b_Faults_draw .nil pass0 (pa_cons (pe_glob (v := .int 1000) (by rfl) T.v_CHANCES ⟨_, rfl⟩) pa_nil)) (pe_fld (pv 1) rfl) (nomark _))))))), ?_⟩
    dsimp only [cxOf, Cx.nox, Cx.wish, L2.start, List.map, List.cons_append, List.nil_append, List.length_cons, List.length_nil, Nat.reduceAdd, Nat.reduceSub, Nat.zero_add, List.replicate_succ, List.replicate_zero]
    dsimp only at hr2 hv
    have ho' := ho
    unfold FaS at ho'
    walk_at "go"
    refine g_cut (fun σ' H' => H = H' ∧ σ' = [some (.ref f), some (.ref r), some (.int n)] ∧ skip ⟨ft, am, un, se, ta, tk, nt, ch⟩ n = false) ?_ ?_
    · rcases nt with _ | x
      · walk_at "go"
        exact ⟨rfl, rfl, rfl⟩
      · have hx : 0 < x := ok.1 x rfl
        walk_at "go"
        refine g_rI (i := n) (j := x) hx ?_
        walk_at "go"
        refine g_iteN (fun h => ?_) (fun h => ?_)
        · have e : skip ⟨ft, am, un, se, ta, tk, some x, ch⟩ n = true := by
            show (!decide (n % x = 0)) = true
            rw [decide_eq_false h]
            rfl
          walk_at "go"
          unfold aplB aplS at q
          rw [if_pos e, if_pos e] at q
          exact q H But.refl ho
        · walk_at "go"
          refine ⟨rfl, rfl, ?_⟩
          show (!decide (n % x = 0)) = false
          rw [decide_eq_true h]
          rfl
    rintro σ' _ ⟨rfl, rfl, e⟩
    unfold aplB aplS at q
    rw [e, if_neg (by decide), if_neg (by decide)] at q
    walk_at "go"
    rcases ch with _ | x
    · walk_at "go"
      exact q H But.refl ho
    · have nrf : r ≠ f := fun z => by
        rw [z, ho'] at hr2
        injection hr2 with hr2
        injection hr2 with _ _ h3
        exact absurd (show (3 : Nat) = 8 from congrArg List.length h3) (by decide)
      walk_at "go"
      refine ⟨f, dx, s, 1000, c, l, rfl, ho, fun H1 b1 k1 => ?_⟩
      have hr3 := b1 _ _ nrf hr2
      walk_at "go"
      refine g_rI0 (i := dr s 1000) (j := x) ?_
      exact q H1 b1 k1
def But2 (a b : Addr) (H H' : Hp) : Prop := ∀ x o, x ≠ a → x ≠ b → H x = some o → H' x = some o
def effV (g : Rl) (v : Vd) (s : Int) : Vd := if g.fault = "lose" then { v with lost := true } else if g.fault = "mark" then { v with marked := true } else if g.fault = "copy" then { v with copies := v.copies + g.amount } else
  if g.amount = g.upto then { v with delay := g.amount } else { v with delay := g.amount + dr s (g.upto - g.amount + 1) }
def effS (g : Rl) (s : Int) : Int := if g.fault = "lose" then s else if g.fault = "mark" then s else if g.fault = "copy" then s else if g.amount = g.upto then s else nxt s
def sp_Faults_apply (CF CR CV : Addr) : Sp := fun vs H Q _ => ∃ (f dx r p : Addr) (g : Rl) (v : Vd) (s : Int) (c l : Addr), vs = [.ref f, .ref r, .ref p] ∧ H f = some (FaS CF dx s c l) ∧ RlO CR H r g ∧ VdO CV H p v ∧ ∀ H', But2 f p H H' → H' f = some (FaS CF dx (effS g s) c l) → VdO CV H' p (effV g v s) → Q .non H'
theorem ok_Faults_apply (T : Txt K mg) : FnOk P w K mg base CX0 4 T.f_Faults_apply T.d_Faults_apply ["self", "rule", "verdict"] (sp_Faults_apply T.C_Faults T.C_Rule T.C_Verdict) := by
  refine T.F_Faults_apply.ok sc_Faults_apply (fun vs H Q E h => ?_) (fun cdv A outer s H vs Q E hr h => ?_)
  · obtain ⟨f, dx, r, p, ⟨ft, am, un, se, ta, tk, nt, ch⟩, ⟨vl, vm, vc, vd⟩, s, c, l, rfl, ho, ⟨dx2, tv, hr2, hv⟩, ⟨dx3, hp⟩, q⟩ := h
    rfl
  · obtain ⟨f, dx, r, p, ⟨ft, am, un, se, ta, tk, nt, ch⟩, ⟨vl, vm, vc, vd⟩, s, c, l, rfl, ho, ⟨dx2, tv, hr2, hv⟩, ⟨dx3, hp⟩, q⟩ := h
    have hu := hu_of hr
    refine ⟨_, (pss_one (ps_if (pt_cmpR op_eq (pe_fld (pv 1) rfl) pe_str (nomark _)) (pss_one (ps_fld (pv 2) pe_bl rfl)) (pss_one (ps_if (pt_cmpR op_eq (pe_fld (pv 1) rfl) pe_str (nomark _)) (pss_one (ps_fld (pv 2) pe_bl rfl)) (pss_one (ps_if (pt_cmpR op_eq (pe_fld (pv 1) rfl) pe_str (nomark _)) (pss_one (ps_fldaug (pv 2) (pe_fld (pv 1) rfl) in_add)) (pss_one (ps_if (pt_cmpR op_eq (pe_fld (pv 1) rfl) (pe_fld (pv 1) rfl) (nomark _)) (pss_one (ps_fld (pv 2) (pe_fld (pv 1) rfl) rfl)) (pss_one (ps_fld (pv 2) (pe_op op_add (pe_fld (pv 1) rfl) (pe_meth (pv 0) T.k_Faults T.a_Faults_draw (ok_Faults_draw T) (hr.mono (by decide)) T.b_Faults_draw .nil pass0 (pa_cons (pe_op op_add (pe_op op_sub (pe_fld (pv 1) rfl) (pe_fld (pv 1) rfl)) pe_int) pa_nil))) rfl)))))))))), ?_⟩
    dsimp only [cxOf, Cx.nox, Cx.wish, L2.start, List.map, List.cons_append, List.nil_append, List.length_cons, List.length_nil, Nat.reduceAdd, Nat.reduceSub, Nat.zero_add, List.replicate_succ, List.replicate_zero]
    dsimp only at hr2 hv hp
    have ho' := ho
    unfold FaS at ho'
    unfold effV effS at q
    dsimp only at q
    have nrf : r ≠ f := fun z => by
      rw [z, ho'] at hr2
      injection hr2 with hr2
      injection hr2 with _ _ h3
      exact absurd (show (3 : Nat) = 8 from congrArg List.length h3) (by decide)
    have npf : p ≠ f := fun z => by
      rw [z, ho'] at hp
      injection hp with hp
      injection hp with _ _ h3
      exact absurd (show (3 : Nat) = 4 from congrArg List.length h3) (by decide)
    have nrp : r ≠ p := fun z => by
      rw [z, hp] at hr2
      injection hr2 with hr2
      injection hr2 with _ _ h3
      exact absurd (show (4 : Nat) = 8 from congrArg List.length h3) (by decide)
    have leaf : ∀ o, But2 f p H (upd H p o) := fun o x o' _ np e => by rw [upd_ne np]; exact e
    walk_at "go"
    refine g_ite (fun h => ?_) (fun h => ?_)
    · walk_at "go"
      rw [if_pos h, if_pos h] at q
      exact q _ (leaf _) (by rw [upd_ne npf.symm]; exact ho) ⟨dx3, upd_same⟩
    rw [if_neg h, if_neg h] at q
    walk_at "go"
    refine g_ite (fun h => ?_) (fun h => ?_)
    · walk_at "go"
      rw [if_pos h, if_pos h] at q
      exact q _ (leaf _) (by rw [upd_ne npf.symm]; exact ho) ⟨dx3, upd_same⟩
    rw [if_neg h, if_neg h] at q
    walk_at "go"
    refine g_ite (fun h => ?_) (fun h => ?_)
    · walk_at "go"
      rw [if_pos h, if_pos h] at q
      refine g_fldaug (j := 2) rfl hp T.k_Verdict T.n_Verdict_copies nd_Verdict rfl rfl ?_
      walk_at "go"
      refine ⟨vc, am, rfl, rfl, ?_⟩
      refine g_fldaugE (j := 2) hp nd_Verdict (by show 4 < 1000; decide) rfl (by show 2 < 4; decide) ?_
      exact q _ (leaf _) (by rw [upd_ne npf.symm]; exact ho) ⟨dx3, upd_same⟩
    rw [if_neg h, if_neg h] at q
    walk_at "go"
    refine g_ite (fun h => ?_) (fun h => ?_)
    · walk_at "go"
      rw [if_pos h, if_pos h] at q
      exact q _ (leaf _) (by rw [upd_ne npf.symm]; exact ho) ⟨dx3, upd_same⟩
    rw [if_neg h, if_neg h] at q
    walk_at "go"
    refine ⟨f, dx, s, _, c, l, rfl, ho, fun H1 b1 k1 => ?_⟩
    have hp1 := b1 _ _ npf hp
    walk_at "go"
    refine q _ (fun x o nf np e => by rw [upd_ne np]; exact b1 _ _ nf e) (by rw [upd_ne npf.symm]; exact k1) ⟨dx3, upd_same⟩
def Rls (C : Addr) (H : Hp) (rs : List Addr) (gs : List Rl) : Prop := rs.length = gs.length ∧ ∀ (i : Nat) (r : Addr) (g : Rl), rs[i]? = some r → gs[i]? = some g → RlO C H r g
theorem Rls.same {C : Addr} {H H' : Hp} {rs : List Addr} {gs : List Rl} (h : Rls C H rs gs) (s : Same H H') : Rls C H' rs gs := ⟨h.1, fun i r g e1 e2 => (h.2 i r g e1 e2).same s⟩
theorem StV.butL {p : Addr} {H H' : Hp} {v : V} {o : Option (Int × Int)} {xs : List V} (h : StV H v o) (b : But p H H') (e : H p = some (.lst xs)) : StV H' v o := by
  cases o with
  | none => exact h
  | some p =>
    obtain ⟨t, e1, h⟩ := h
    exact ⟨t, e1, b _ _ (fun z => by rw [z, e] at h; cases h) h⟩
theorem RlO.butL {C p : Addr} {H H' : Hp} {r : Addr} {g : Rl} {xs : List V} (h : RlO C H r g) (b : But p H H') (e : H p = some (.lst xs)) : RlO C H' r g := by
  obtain ⟨dx, tv, h1, h2⟩ := h
  exact ⟨dx, tv, b _ _ (fun z => by rw [z, e] at h1; cases h1) h1, h2.butL b e⟩
theorem But_free {p r : Addr} {H H' : Hp} (b : But p H H') (n : r ≠ p) (h : H' r = none) : H r = none := by
  cases e : H r with
  | none => rfl
  | some o =>
    have z := b r o n e
    rw [h] at z
    cases z
theorem RlO.butN {C p : Addr} {H H' : Hp} {r : Addr} {g : Rl} (h : RlO C H r g) (b : But p H H') (e : H p = none) : RlO C H' r g := h.same (b.same e)
def sp_Faults_init__ (CF CR : Addr) (K : PySem.W.Frag) : Sp := fun vs H Q _ => ∃ (f dx a : Addr) (rs : List Addr) (gs : List Rl) (s : Int), vs = [.ref f, .ref a, .int s] ∧ H f = some (.ins CF dx (obj ky_Faults [])) ∧ (∀ H', But f H H' → H' a = some (.lst (rs.map V.ref))) ∧ (∀ H', But f H H' → Rls CR H' rs gs) ∧ gs.length ≤ 100 ∧
  ∀ (c l : Addr) (rs' : List Addr) H', But f H H' → c ≠ f → l ≠ f → c ≠ l → H c = none → H l = none → H' f = some (FaS CF dx s c l) → H' c = some (.lst ((List.replicate gs.length (0 : Int)).map V.int)) → H' l = some (.lst (rs'.map V.ref)) → (∀ r ∈ rs', r ≠ f ∧ r ≠ c ∧ r ≠ l ∧ H r = none) → Rls CR H' rs' gs → Q .non H'
theorem ok_Faults_init__ (T : Txt K mg) : FnOk P w K mg base CX0 4 T.f_Faults_init__ T.d_Faults_init__ ["self", "rules", "seed"] (sp_Faults_init__ T.C_Faults T.C_Rule K) := by
  refine T.F_Faults_init__.ok sc_Faults_init__ (fun vs H Q E h => ?_) (fun cdv A outer s H vs Q E hr h => ?_)
  · obtain ⟨f, dx, a, rs, gs, s, rfl, ho, ha, hr2, hl, q⟩ := h
    rfl
  · obtain ⟨f, dx, a, rs, gs, s, rfl, ho, ha, hr2, hl, q⟩ := h
    have hu := hu_of hr
    refine ⟨_, (pss_cons (ps_fld (pv 0) (pv 2) rfl)
        (pss_cons (ps_fld (pv 0) (pe_lc (own := [("_", 3)]) (g := gName 3) (tt := tYes) rfl sc_Faults_init__.nd (pi_list (pv 1)) (blkOk_by (N := ["self", "rules", "seed", "_", "rule"]) (sc := defScope s_Faults_init__) (by decide +kernel)) (fun _ _ _ _ _ => (pg_name (i := 3) sc_Faults_init__.nd rfl (Or.inl rfl))) (fun _ _ _ _ _ => pts_nil) (fun _ _ _ _ _ => pe_int)) rfl)
        (pss_one (ps_fld (pv 0) (pe_lc (own := [("rule", 4)]) (g := gName 4) (tt := tYes) rfl sc_Faults_init__.nd (pi_list (pv 1)) (blkOk_by (N := ["self", "rules", "seed", "_", "rule"]) (sc := defScope s_Faults_init__) (by decide +kernel)) (fun _ _ _ _ _ => (pg_name (i := 4) sc_Faults_init__.nd rfl (Or.inl rfl))) (fun _ _ _ _ _ => pts_nil) (fun _ _ _ _ _ => (pe_meth0 (pv 4) T.k_Rule T.a_Rule_fork (ok_Rule_fork T) (hr.mono (by decide)) T.b_Rule_fork .nil pass0))) rfl)))), ?_⟩
    dsimp only [cxOf, Cx.nox, Cx.wish, L2.start, List.map, List.cons_append, List.nil_append, List.length_cons, List.length_nil, Nat.reduceAdd, Nat.reduceSub, Nat.zero_add, List.replicate_succ, List.replicate_zero]
    walk_at "go"
    simp only [upd_upd, List.nil_append, List.cons_append]
    generalize z1 : upd H f _ = H1
    have b1 : But f H H1 := by rw [← z1]; exact But.refl.upd
    have e1 : H1 f = some (.ins T.C_Faults dx (obj ky_Faults [.int s])) := (congrFun z1 f).symm.trans upd_same
    clear z1
    have ha1 := ha _ b1
    have lrg := (hr2 _ b1).1
    refine ⟨⟨_, sl ha1⟩, fun D hD => ?_⟩
    have nDf : D ≠ f := fun z => by rw [z, e1] at hD; cases hD
    refine lc_vals walk_list ((List.replicate gs.length (0 : Int)).map V.int) hD (by rw [List.length_map, List.length_map, List.length_replicate, lrg]) (fun H s => s.seq (sl ha1)) ?turn0 ?done0
    case turn0 =>
      rintro i x H2 H3 hi2 p2 ⟨rfl, hx⟩
      have hi3 : i < gs.length := by rw [← lrg, ← List.length_map (f := V.ref)]; exact hi2
      refine ⟨rfl, ?_⟩
      walk_at "go"
      refine lc_next hD p2 (by rw [List.length_map, List.length_replicate]; omega) ?_
      rw [List.getElem?_map, List.getElem?_replicate, if_pos hi3]
      rfl
    case done0 =>
    intro H2 s2 e2
    have e12 := s2 _ _ e1
    walk_at "go"
    simp only [upd_upd, List.nil_append, List.cons_append]
    generalize z3 : upd H2 f _ = H3
    have b3 : But f H2 H3 := by rw [← z3]; exact But.refl.upd
    have e3 : H3 f = some (.ins T.C_Faults dx (obj ky_Faults [.int s, .ref D])) := (congrFun z3 f).symm.trans upd_same
    clear z3
    have b03 : But f H H3 := (b1.trans (But.of s2)).trans b3
    have ha3 := ha _ b03
    have hr3 := hr2 _ b03
    refine ⟨⟨_, sl ha3⟩, fun L hL => ?_⟩
    have nLf : L ≠ f := fun z => by rw [z, e3] at hL; cases hL
    have eD3 := b3 _ _ nDf e2
    have nLD : D ≠ L := ne_of_none eD3 hL
    have naL : a ≠ L := ne_of_none ha3 hL
    refine lc_it walk_list (fun i H' => But L H3 H' ∧ ∃ rs' : List Addr, rs'.length = i ∧ H' L = some (.lst (rs'.map V.ref)) ∧ (∀ r ∈ rs', r ≠ L ∧ H3 r = none) ∧ ∀ (j : Nat) (r : Addr) (g : Rl), rs'[j]? = some r → gs[j]? = some g → RlO T.C_Rule H' r g) ?_ (fun i H' _ h => sl (h.1 _ _ naL ha3)) ?_ ?_
    · exact ⟨But.of (same_upd hL), [], rfl, upd_same, (fun r z => by cases z), fun j r g z => by cases z⟩
    · rintro i x H4 H5 hi4 ⟨bt, rs', l', hd, nw, hg⟩ ⟨rfl, hx⟩
      obtain ⟨r, hr', rfl⟩ : ∃ r, rs[i]? = some r ∧ x = .ref r := map_get hx
      have hi5 : i < gs.length := by rw [← lrg]; exact (List.getElem?_eq_some_iff.mp hr').1
      have hgi : gs[i]? = some gs[i] := List.getElem?_eq_getElem hi5
      have o4 := (hr3.2 i r _ hr' hgi).butN bt hL
      obtain ⟨dxr, tvr, or1, or2⟩ := id o4
      refine ⟨rfl, ?_⟩
      walk_at "go"
      refine ⟨r, _, rfl, o4, fun r2 H6 nr2 s6 o6 => ?_⟩
      have nr2L : r2 ≠ L := fun z => by rw [z, hd] at nr2; cases nr2
      refine ⟨_, s6 _ _ hd, by rw [List.length_map]; exact szl (by omega), ?_⟩
      have b6 : But L H3 H6 := bt.trans (But.of s6)
      refine ⟨b6.upd, rs' ++ [r2], by rw [List.length_append, l']; rfl, by rw [upd_same, List.map_append]; rfl, ?_, ?_⟩
      · intro r3 h3
        rcases List.mem_append.mp h3 with h3 | h3
        · exact nw r3 h3
        · rw [List.mem_singleton.mp h3]
          refine ⟨nr2L, ?_⟩
          cases e : H3 r2 with
          | none => rfl
          | some o => rw [bt _ _ nr2L e] at nr2; cases nr2
      · intro j r3 g e3' e4'
        by_cases c : j < rs'.length
        · rw [List.getElem?_append_left c] at e3'
          exact ((hg j r3 g e3' e4').same s6).butL But.refl.upd (s6 _ _ hd)
        · rw [List.getElem?_append_right (by omega)] at e3'
          have hj : j - rs'.length = 0 := by
            have := (List.getElem?_eq_some_iff.mp e3').1
            simp at this
            omega
          rw [hj] at e3'
          injection e3' with e3'
          subst e3'
          have : j = i := by omega
          subst this
          rw [hgi] at e4'
          injection e4' with e4'
          subst e4'
          exact o6.butL But.refl.upd (s6 _ _ hd)
    · rintro H6 ⟨bt, rs', l', hd, nw, hg⟩
      have e36 := bt _ _ nLf.symm e3
      walk_at "go"
      simp only [upd_upd, List.nil_append, List.cons_append]
      have s36 := bt.same hL
      refine q D L rs' _ (b03.trans (But.of s36)).upd nDf nLf nLD (But_free b1 nDf hD) (But_free b03 nLf hL) upd_same ?_ ?_ ?_ ?_
      · rw [upd_ne nDf]
        exact s36 _ _ eD3
      · rw [upd_ne nLf]
        exact hd
      · intro r hr'
        obtain ⟨nrL, nr3⟩ := nw r hr'
        have nrf : r ≠ f := fun z => by rw [z, e3] at nr3; cases nr3
        exact ⟨nrf, (fun z => by rw [z, eD3] at nr3; cases nr3), nrL, But_free b03 nrf nr3⟩
      · refine ⟨by rw [l', List.length_map, lrg], fun j r g z1 z2 => ?_⟩
        obtain ⟨dxg, tvg, g1, g2⟩ := hg j r g z1 z2
        have nrf : r ≠ f := fun z => by rw [z, e36] at g1; injection g1 with g1; injection g1 with _ _ h3; exact absurd (show (2 : Nat) = 8 from congrArg List.length h3) (by decide)
        refine ⟨dxg, tvg, by rw [upd_ne nrf]; exact g1, ?_⟩
        obtain ⟨_, _, _, _, _, tk, _, _⟩ := g
        cases tk with
        | none => exact g2
        | some pr =>
          obtain ⟨tt, et, g2⟩ := g2
          exact ⟨tt, et, by rw [upd_ne (fun z => by rw [z, e36] at g2; cases g2)]; exact g2⟩
/-! one packet, judged by all rules -/
def jstep (s t b : Int) (g : Rl) (n : Int) (v : Vd) (sd : Int) : Int × Vd × Int :=
  if adm g s t b = true then (if aplB g (n + 1) sd = true then (n + 1, effV g v (aplS g (n + 1) sd), effS g (aplS g (n + 1) sd)) else (n + 1, v, aplS g (n + 1) sd)) else (n, v, sd)
def J (s t b : Int) (gs : List Rl) (ns : List Int) (sd : Int) : Nat → List Int × Vd × Int
  | 0 => (ns, ⟨false, false, 0, 1⟩, sd)
  | i + 1 => match gs[i]? with
    | none => J s t b gs ns sd i
    | some g => ((J s t b gs ns sd i).1.set i (jstep s t b g ((J s t b gs ns sd i).1[i]?.getD 0) (J s t b gs ns sd i).2.1 (J s t b gs ns sd i).2.2).1, (jstep s t b g ((J s t b gs ns sd i).1[i]?.getD 0) (J s t b gs ns sd i).2.1 (J s t b gs ns sd i).2.2).2)
theorem J_len {s t b : Int} {gs : List Rl} {ns : List Int} {sd : Int} : ∀ {i : Nat}, (J s t b gs ns sd i).1.length = ns.length
  | 0 => rfl
  | i + 1 => by
    unfold J
    split
    · exact J_len
    · rw [List.length_set]
      exact J_len
theorem g_iEnum {ta : TA} {σ : St} {H : Hp} {R : It → Hp → Prop} (h : ta σ H fun vs H1 => ∃ a xs, vs = [.ref a] ∧ SqL K H1 a xs ∧ R (Ite K a) H1) : iEnum K ta σ H R := h
theorem set_self {ms : List Int} {i : Nat} {n : Int} (h : ms[i]? = some n) : ms.set i n = ms := by
  obtain ⟨hl, e⟩ := List.getElem?_eq_some_iff.mp h
  rw [← e]
  exact List.set_getElem_self hl
def But3 (a b c : Addr) (H H' : Hp) : Prop := ∀ x o, x ≠ a → x ≠ b → x ≠ c → H x = some o → H' x = some o
theorem ins_ne {H : Hp} {a b C C' dx dx' : Addr} {ks ks' : List (Str × V)} (h : H a = some (.ins C dx ks)) (h2 : H b = some (.ins C' dx' ks')) (n : ks.length ≠ ks'.length) : a ≠ b := fun z => by
  rw [z, h2] at h
  injection h with h
  injection h with _ _ h3
  exact n (congrArg List.length h3).symm
theorem RlO.but3 {C f c p : Addr} {H H' : Hp} {r : Addr} {g : Rl} (h : RlO C H r g) (b : But3 f c p H H') {Cf df : Addr} {s : Int} {x y : Addr} (hf : H f = some (FaS Cf df s x y)) {xs : List V} (hc : H c = some (.lst xs)) {Cv : Addr} {v : Vd} (hv : VdO Cv H p v) : RlO C H' r g := by
  obtain ⟨dx, tv, h1, h2⟩ := h
  obtain ⟨dv, hv⟩ := hv
  unfold FaS at hf
  refine ⟨dx, tv, b _ _ (ins_ne h1 hf (by show (8 : Nat) ≠ 3; decide)) (fun z => by rw [z, hc] at h1; cases h1) (ins_ne h1 hv (by show (8 : Nat) ≠ 4; decide)) h1, ?_⟩
  obtain ⟨_, _, _, _, _, tk, _, _⟩ := g
  cases tk with
  | none => exact h2
  | some pr =>
    obtain ⟨tt, et, h2⟩ := h2
    exact ⟨tt, et, b _ _ (fun z => by rw [z, hf] at h2; cases h2) (fun z => by rw [z, hc] at h2; cases h2) (fun z => by rw [z, hv] at h2; cases h2) h2⟩
def sp_Faults_judge (CF CR CV : Addr) (K : PySem.W.Frag) : Sp := fun vs H Q _ => ∃ (f dx c l : Addr) (rs : List Addr) (gs : List Rl) (ns : List Int) (s t b sd : Int), vs = [.ref f, .int s, .int t, .int b] ∧ H f = some (FaS CF dx sd c l) ∧ H c = some (.lst (ns.map V.int)) ∧ H l = some (.lst (rs.map V.ref)) ∧ c ≠ l ∧ Rls CR H rs gs ∧ ns.length = gs.length ∧ gs.length ≤ 100 ∧ (∀ g ∈ gs, RlOk g) ∧
  ∀ p H', H p = none → But2 f c H H' → H' f = some (FaS CF dx (J s t b gs ns sd gs.length).2.2 c l) → H' c = some (.lst ((J s t b gs ns sd gs.length).1.map V.int)) → VdO CV H' p (J s t b gs ns sd gs.length).2.1 → Q (.ref p) H'
theorem kbt_0 {K : PySem.W.Frag} {mg : Str → Option Value} (T : Txt K mg) : ∃ ds, Vals [(.bl false : V), (.bl false : V), (.int 0 : V), (.int 1 : V)] ds ∧ Binds K T.d_Verdict_init__ ["self", "lost", "marked", "copies", "delay"] ds :=
  T.F_Verdict_init__.binds0 (ps := ["self", "lost", "marked", "copies", "delay"]) 1 (by intro h; cases h) rfl fun D doc pm an cdv ct us ks l1 l2 => match us, l1, ks, l2 with | [_], _, [_, _, _, _], _ => ⟨_, _, _, _, _, _, rfl, rfl, _, _, _, _, _, _, rfl, rfl, _, _, _, _, _, _, rfl, rfl, _, _, _, _, _, _, rfl, rfl, rfl⟩
theorem ok_Faults_judge (T : Txt K mg) : FnOk P w K mg base CX0 5 T.f_Faults_judge T.d_Faults_judge ["self", "sender", "target", "birth"] (sp_Faults_judge T.C_Faults T.C_Rule T.C_Verdict K) := by
  refine T.F_Faults_judge.ok sc_Faults_judge (fun vs H Q E h => ?_) (fun cdv A outer s H vs Q E hr h => ?_)
  · obtain ⟨f, dx, c, l, rs, gs, ns, s, t, b, sd, rfl, hf, hc, hl, ncl, hR, hn, hg, ok, q⟩ := h
    rfl
  · obtain ⟨f, dx, c, l, rs, gs, ns, s, t, b, sd, rfl, hf, hc, hl, ncl, hR, hn, hg, ok, q⟩ := h
    have hu := hu_of hr
    obtain ⟨ds_0, kv_0, kb_0⟩ := kbt_0 T
    refine ⟨_, (pss_cons (ps_set (i := 4) sc_Faults_judge.nd rfl (Or.inl rfl) (pe_make0 T.mk_Verdict (ok_Verdict_init__ T) (hr.mono (by decide)) rfl T.c_Verdict kb_0 kv_0 pass0))
        (pss_cons (ps_for PassesOwn.never rfl (pi_enum (by rfl) T.n_enumerate (pa_cons (pe_fld (pv 0) rfl) pa_nil)) (pg_tup rfl (pgs_cons (pg_name (i := 5) sc_Faults_judge.nd rfl (Or.inl rfl)) (pgs_cons (pg_name (i := 6) sc_Faults_judge.nd rfl (Or.inl rfl)) pgs_nil))) (pss_one (ps_if (pt_val (pe_meth (pv 6) T.k_Rule T.a_Rule_considers (ok_Rule_considers T) (hr.mono (by decide)) T.b_Rule_considers .nil pass0 (pa_cons (pv 1) (pa_cons (pv 2) (pa_cons (pv 3) pa_nil))))) (pss_cons (ps_augS (pe_fld (pv 0) rfl) (pv 5) get_list pe_int ip_add set_list)
        (pss_one (ps_if (pt_val (pe_meth (pv 0) T.k_Faults T.a_Faults_applies (ok_Faults_applies T) (hr.mono (by decide)) T.b_Faults_applies .nil pass0 (pa_cons (pv 6) (pa_cons (pe_ix ix_list (pe_fld (pv 0) rfl) (pv 5) (fun _ _ => rfl)) pa_nil)))) (pss_one (ps_expr (pe_meth (pv 0) T.k_Faults T.a_Faults_apply (ok_Faults_apply T) (hr.mono (by decide)) T.b_Faults_apply .nil pass0 (pa_cons (pv 6) (pa_cons (pv 4) pa_nil))))) pss_nil))) pss_nil)))
        (pss_one (ps_ret (pv 4))))), ?_⟩
    dsimp only [cxOf, Cx.nox, Cx.wish, L2.start, List.map, List.cons_append, List.nil_append, List.length_cons, List.length_nil, Nat.reduceAdd, Nat.reduceSub, Nat.zero_add, List.replicate_succ, List.replicate_zero]
    have hf0 := hf
    unfold FaS at hf0
    have nfc : f ≠ c := fun z => by rw [z, hc] at hf0; cases hf0
    have nfl : f ≠ l := fun z => by rw [z, hl] at hf0; cases hf0
    walk_at "go"
    intro p dxp np ndp ndx
    have bp : But p H (upd (upd H dxp (.own p)) p (.ins T.C_Verdict dxp [])) := ((But.of (same_upd (o := .own p) ndp))).upd
    refine ⟨p, dxp, ⟨false, false, 0, 1⟩, rfl, upd_same, rfl, ?_⟩
    generalize z1 : upd (upd (upd H dxp _) p _) p _ = H1
    have s1 : Same H H1 := by rw [← z1]; exact (bp.upd).same np
    have k1 : VdO T.C_Verdict H1 p ⟨false, false, 0, 1⟩ := ⟨dxp, (congrFun z1 p).symm.trans upd_same⟩
    clear z1
    have npf : p ≠ f := fun z => by rw [z, hf0] at np; cases np
    have npc : p ≠ c := fun z => by rw [z, hc] at np; cases np
    have npl : p ≠ l := fun z => by rw [z, hl] at np; cases np
    have hR1 := hR.same s1
    have hf1 := s1 _ _ hf0
    have hl1 := s1 _ _ hl
    walk_at "go"
    refine g_for ?_
    refine g_iEnum ?_
    walk_at "go"
    refine ⟨l, rs.map V.ref, rfl, sl hl1, ?_⟩
    refine for_it (walk_enum (xs := rs.map V.ref)) (fun i σ H' => (∃ v5 v6, σ = [some (.ref f), some (.int s), some (.int t), some (.int b), some (.ref p), v5, v6]) ∧ But3 f c p H1 H' ∧ H' f = some (FaS T.C_Faults dx (J s t b gs ns sd i).2.2 c l) ∧ H' c = some (.lst ((J s t b gs ns sd i).1.map V.int)) ∧ VdO T.C_Verdict H' p (J s t b gs ns sd i).2.1) ?_ ?_ ?_ ?_
    · exact ⟨⟨_, _, rfl⟩, fun _ _ _ _ _ z => z, hf1, s1 _ _ hc, k1⟩
    · rintro i σ' H2 _ ⟨_, kp, _⟩
      exact sl (kp _ _ nfl.symm ncl.symm npl.symm hl1)
    · rintro i x σ' H2 _ hi ⟨⟨v5, v6, rfl⟩, kp, kf, kc, kv⟩ ⟨T0, x1, y1, rfl, nT, rfl, ex, ey⟩
      injection ex with ex
      subst ex
      obtain ⟨r, hr', rfl⟩ : ∃ r, rs[i]? = some r ∧ y1 = .ref r := map_get ey
      have hig : i < gs.length := by rw [← hR.1]; exact (List.getElem?_eq_some_iff.mp hr').1
      have hgi : gs[i]? = some gs[i] := List.getElem?_eq_getElem hig
      obtain ⟨g, eg⟩ : ∃ g, g = gs[i] := ⟨_, rfl⟩
      rw [← eg] at hgi
      have okg : RlOk g := ok g (List.mem_of_getElem? hgi)
      have o2 := (hR1.2 i r g hr' hgi).but3 kp hf1 (s1 _ _ hc) k1
      have hlen : (J s t b gs ns sd i).1.length = ns.length := J_len
      obtain ⟨n, hn'⟩ : ∃ n, (J s t b gs ns sd i).1[i]? = some n := ⟨_, List.getElem?_eq_getElem (by omega)⟩
      have eJ : J s t b gs ns sd (i + 1) = ((J s t b gs ns sd i).1.set i (jstep s t b g n (J s t b gs ns sd i).2.1 (J s t b gs ns sd i).2.2).1, (jstep s t b g n (J s t b gs ns sd i).2.1 (J s t b gs ns sd i).2.2).2) := by
        show (match gs[i]? with | none => _ | some g => _) = _
        rw [hgi, hn']
        rfl
      rw [eJ]
      clear eJ
      generalize J s t b gs ns sd i = w at kf kc kv hn' hlen
      obtain ⟨ms, v, s2⟩ := w
      dsimp only at kf kc kv hn' hlen
      refine ⟨T0, _, rfl, st upd_same, rfl, ?_⟩
      refine ⟨_, _, rfl, ?_⟩
      walk_at "go"
      refine ⟨_, _, rfl, ?_⟩
      walk_at "go"
      refine ⟨rfl, ?_⟩
      generalize zT : upd H2 T0 _ = H3
      have s3 : Same H2 H3 := by rw [← zT]; exact same_upd nT
      clear zT
      have kf3 := s3 _ _ kf
      have kf3' := kf3
      unfold FaS at kf3'
      have kc3 := s3 _ _ kc
      have o3 := o2.same s3
      have kp3 : But3 f c p H1 H3 := fun x o a1 a2 a3 e => s3 _ _ (kp x o a1 a2 a3 e)
      obtain ⟨dxr, tvr, or1, or2⟩ := id o3
      walk_at "go"
      refine ⟨r, g, s, t, b, rfl, o3, ?_⟩
      walk_at "go"
      unfold jstep
      cases ea : adm g s t b
      · walk_at "go"
        refine ⟨⟨_, _, rfl⟩, kp3, kf3, ?_, kv.same s3⟩
        show H3 c = some (.lst ((ms.set i n).map V.int))
        rw [set_self hn']
        exact kc3
      · walk_at "go"
        refine g_ixL (sl kc3) (at_of (j := i) rfl (by rw [List.getElem?_map, hn']; rfl)) ?_
        walk_at "go"
        have him : i < ms.length := by omega
        refine g_setL (j := i) kc3 (by rw [ixN_nat (by omega) (by rw [List.length_map]; omega), Int.toNat_natCast]) ?_
        generalize z4 : upd H3 c _ = H4
        have b4 : But c H3 H4 := by rw [← z4]; exact But.refl.upd
        have k4 : H4 c = some (.lst ((ms.set i (n + 1)).map V.int)) := by rw [List.map_set]; exact (congrFun z4 c).symm.trans upd_same
        clear z4
        have kf4 := b4 _ _ nfc kf3'
        obtain ⟨dv, kv3⟩ := kv.same s3
        have kv4 := b4 _ _ npc kv3
        have o4 := o3.butL b4 kc3
        walk_at "go"
        refine g_ixL (sl k4) (at_of (j := i) rfl (by rw [List.getElem?_map, List.getElem?_set_self him]; rfl)) ?_
        walk_at "go"
        refine ⟨f, dx, r, g, s2, n + 1, c, l, rfl, kf4, o4, okg, fun H5 b5 k5 => ?_⟩
        have kp5 : But3 f c p H1 H5 := fun x o a1 a2 a3 e => b5 _ _ a1 (b4 _ _ a2 (kp3 x o a1 a2 a3 e))
        have o5 := o4.but3 (f := f) (c := c) (p := p) (fun x o a1 _ _ e => b5 _ _ a1 e) (show H4 f = some (FaS T.C_Faults dx s2 c l) from kf4) k4 ⟨dv, kv4⟩
        walk_at "go"
        cases eb : aplB g (n + 1) s2
        · walk_at "go"
          exact ⟨⟨_, _, rfl⟩, kp5, k5, b5 _ _ nfc.symm k4, dv, b5 _ _ npf kv4⟩
        · have k5' := k5
          unfold FaS at k5'
          walk_at "go"
          refine ⟨f, dx, r, p, g, v, _, c, l, rfl, k5, o5, ⟨dv, b5 _ _ npf kv4⟩, fun H6 b6 k6 v6 => ?_⟩
          walk_at "go"
          exact ⟨⟨_, _, rfl⟩, fun x o a1 a2 a3 e => b6 _ _ a1 a3 (kp5 x o a1 a2 a3 e), k6, b6 _ _ nfc.symm npc.symm (b5 _ _ nfc.symm k4), v6⟩
    · rintro σ' H2 ⟨⟨v5, v6, rfl⟩, kp, kf, kc, kv⟩
      rw [List.length_map, hR.1] at kf kc kv
      walk_at "go"
      exact q p H2 np (fun x o a1 a2 e => kp x o a1 a2 (ne_of_none e np) (s1 _ _ e)) kf kc kv
end
end My
namespace My
open PySem PySem.Spec L2
local macro_rules | `(tactic| walk_at "side") => `(tactic| first | assumption | decide | omega | exact ⟨by decide, by decide⟩ | exact ⟨by decide, by decide, by decide⟩ | decide +kernel | exact cdivW (by decide +kernel) (by decide +kernel) | exact Or.inl ⟨by omega, by omega⟩ | exact Or.inr ⟨by omega, by omega⟩ | (simp only [List.length_map, List.length_cons, List.length_nil, List.length_append]; omega))
local macro_rules | `(tactic| walk_at "fact") => `(tactic| first | assumption | omega | with_reducible rfl)
local macro_rules | `(tactic| walk_at "use") => `(tactic| fail "use")
local macro_rules | `(tactic| walk_at "go1") => `(tactic| with_reducible first | refine g_seq ?_ | refine g_asg ?_ | refine g_ret ?_ | refine g_ifS ?_ | refine g_drop ?_ | refine g_star ?_ | refine g_nx ?_ | refine g_rt ?_ | refine g_bkE ?_ | refine g_ctE ?_ | refine g_next ?_ | refine g_retN ?_ | refine g_brk ?_ | refine g_ct ?_ | refine g_c ?_ | refine g_op ?_ | refine g_un ?_ | refine g_rI0 ?_ | refine g_rU ?_ | refine g_rEqI ?_ | refine g_rNeI ?_ | refine g_isN ?_ | refine g_rIsB ?_ | refine g_rNotB ?_ | refine g_test ?_ | refine g_B ?_ | refine g_bl ?_ | refine g_and ?_ | refine g_or ?_ | refine g_not ?_ | refine g_andV ?_ | refine g_orV ?_ | refine g_notV ?_ | refine g_if ?_ | refine g_chain ?_ | refine g_yes ?_ | refine g_lc ?_ | refine g_revR ?_ | refine g_rng1 ?_ | refine g_iList ?_ | refine g_nil ?_ | refine g_cons ?_ | refine g_tup ?_ | refine g_lst ?_ | refine g_call ?_ | refine g_CB ?_ | refine g_sl ?_ | refine g_noPart ?_ | refine g_part ?_ | refine g_intE ?_ | refine g_ref ?_ | refine g_fld ?_ | refine g_sfld ?_ | refine g_meth ?_ | refine g_make ?_ | refine g_prop ?_  | refine g_ipI ?_ | refine g_int1 ?_ | refine g_int1B ?_ | refine g_one ?_ | refine g_two ?_ | refine g_isiI ?_ | refine g_isiIB ?_ | refine g_isiB ?_ | refine g_BM ?_ | refine g_BM0 ?_ | refine g_sub ?_)
local macro_rules | `(tactic| walk_at "go") => `(tactic| repeat (first | walk_at "go1" | ((with_reducible refine' g_nameE ?sd_ ?_); case sd_ => dsimp only [List.set_cons_succ, List.set_cons_zero]) | ((with_reducible refine' g_var ?sd_ ?_); case sd_ => exact rfl) | ((with_reducible refine' g_aug ?sd_ ?_); case sd_ => exact rfl) | ((with_reducible refine' g_rI ?sd_ ?_); case sd_ => walk_at "side") | ((with_reducible refine' g_dT ?sd_ ?_); case sd_ => walk_at "fact") | ((with_reducible refine' g_dF ?sd_ ?_); case sd_ => walk_at "fact") | ((with_reducible refine' g_nT ?sd_ ?_); case sd_ => walk_at "fact") | ((with_reducible refine' g_nF ?sd_ ?_); case sd_ => walk_at "fact") | (with_reducible refine g_iT rfl ?_) | (with_reducible refine g_iF rfl ?_) | walk_at "use"))
local macro_rules | `(tactic| walk_at "use") => `(tactic| first | ((with_reducible refine' fd_Verdict_lost ?ho_ ?hv_ ?_); (case ho_ => first | assumption | exact upd_same); (case hv_ => exact rfl)) | ((with_reducible refine' fd_Verdict_marked ?ho_ ?hv_ ?_); (case ho_ => first | assumption | exact upd_same); (case hv_ => exact rfl)) | ((with_reducible refine' fd_Verdict_copies ?ho_ ?hv_ ?_); (case ho_ => first | assumption | exact upd_same); (case hv_ => exact rfl)) | ((with_reducible refine' fd_Verdict_delay ?ho_ ?hv_ ?_); (case ho_ => first | assumption | exact upd_same); (case hv_ => exact rfl)) | ((with_reducible refine' nw_Verdict_lost ?ho_ ?hv_ ?_); (case ho_ => first | assumption | exact upd_same); (case hv_ => exact rfl)) | ((with_reducible refine' nw_Verdict_marked ?ho_ ?hv_ ?_); (case ho_ => first | assumption | exact upd_same); (case hv_ => exact rfl)) | ((with_reducible refine' nw_Verdict_copies ?ho_ ?hv_ ?_); (case ho_ => first | assumption | exact upd_same); (case hv_ => exact rfl)) | ((with_reducible refine' nw_Verdict_delay ?ho_ ?hv_ ?_); (case ho_ => first | assumption | exact upd_same); (case hv_ => exact rfl)) | ((with_reducible refine' st_Verdict_lost ?ho_ ?hv_ ?_); (case ho_ => first | assumption | exact upd_same); (case hv_ => exact Nat.le_of_ble_eq_true rfl)) | ((with_reducible refine' st_Verdict_marked ?ho_ ?hv_ ?_); (case ho_ => first | assumption | exact upd_same); (case hv_ => exact Nat.le_of_ble_eq_true rfl)) | ((with_reducible refine' st_Verdict_copies ?ho_ ?hv_ ?_); (case ho_ => first | assumption | exact upd_same); (case hv_ => exact Nat.le_of_ble_eq_true rfl)) | ((with_reducible refine' st_Verdict_delay ?ho_ ?hv_ ?_); (case ho_ => first | assumption | exact upd_same); (case hv_ => exact Nat.le_of_ble_eq_true rfl)) | ((with_reducible refine' me_Verdict_eq__ ?ho_ ?_); (case ho_ => first | assumption | exact upd_same)) | ((with_reducible refine' me_Verdict_fields ?ho_ ?_); (case ho_ => first | assumption | exact upd_same)))
local macro_rules | `(tactic| walk_at "use") => `(tactic| first | ((with_reducible refine' fd_Faults_seed ?ho_ ?hv_ ?_); (case ho_ => first | assumption | exact upd_same); (case hv_ => exact rfl)) | ((with_reducible refine' fd_Faults_counts ?ho_ ?hv_ ?_); (case ho_ => first | assumption | exact upd_same); (case hv_ => exact rfl)) | ((with_reducible refine' fd_Faults__rules ?ho_ ?hv_ ?_); (case ho_ => first | assumption | exact upd_same); (case hv_ => exact rfl)) | ((with_reducible refine' nw_Faults_seed ?ho_ ?hv_ ?_); (case ho_ => first | assumption | exact upd_same); (case hv_ => exact rfl)) | ((with_reducible refine' nw_Faults_counts ?ho_ ?hv_ ?_); (case ho_ => first | assumption | exact upd_same); (case hv_ => exact rfl)) | ((with_reducible refine' nw_Faults__rules ?ho_ ?hv_ ?_); (case ho_ => first | assumption | exact upd_same); (case hv_ => exact rfl)) | ((with_reducible refine' st_Faults_seed ?ho_ ?hv_ ?_); (case ho_ => first | assumption | exact upd_same); (case hv_ => exact Nat.le_of_ble_eq_true rfl)) | ((with_reducible refine' st_Faults_counts ?ho_ ?hv_ ?_); (case ho_ => first | assumption | exact upd_same); (case hv_ => exact Nat.le_of_ble_eq_true rfl)) | ((with_reducible refine' st_Faults__rules ?ho_ ?hv_ ?_); (case ho_ => first | assumption | exact upd_same); (case hv_ => exact Nat.le_of_ble_eq_true rfl)) | ((with_reducible refine' me_Faults_judge ?ho_ ?_); (case ho_ => first | assumption | exact upd_same)) | ((with_reducible refine' me_Faults_applies ?ho_ ?_); (case ho_ => first | assumption | exact upd_same)) | ((with_reducible refine' me_Faults_apply ?ho_ ?_); (case ho_ => first | assumption | exact upd_same)) | ((with_reducible refine' me_Faults_draw ?ho_ ?_); (case ho_ => first | assumption | exact upd_same)))
local macro_rules | `(tactic| walk_at "use") => `(tactic| first | ((with_reducible refine' fd_Rule_fault ?ho_ ?hv_ ?_); (case ho_ => first | assumption | exact upd_same); (case hv_ => exact rfl)) | ((with_reducible refine' fd_Rule_amount ?ho_ ?hv_ ?_); (case ho_ => first | assumption | exact upd_same); (case hv_ => exact rfl)) | ((with_reducible refine' fd_Rule_until ?ho_ ?hv_ ?_); (case ho_ => first | assumption | exact upd_same); (case hv_ => exact rfl)) | ((with_reducible refine' fd_Rule_sender ?ho_ ?hv_ ?_); (case ho_ => first | assumption | exact upd_same); (case hv_ => exact rfl)) | ((with_reducible refine' fd_Rule_target ?ho_ ?hv_ ?_); (case ho_ => first | assumption | exact upd_same); (case hv_ => exact rfl)) | ((with_reducible refine' fd_Rule_ticks ?ho_ ?hv_ ?_); (case ho_ => first | assumption | exact upd_same); (case hv_ => exact rfl)) | ((with_reducible refine' fd_Rule_nth ?ho_ ?hv_ ?_); (case ho_ => first | assumption | exact upd_same); (case hv_ => exact rfl)) | ((with_reducible refine' fd_Rule_chance ?ho_ ?hv_ ?_); (case ho_ => first | assumption | exact upd_same); (case hv_ => exact rfl)) | ((with_reducible refine' nw_Rule_fault ?ho_ ?hv_ ?_); (case ho_ => first | assumption | exact upd_same); (case hv_ => exact rfl)) | ((with_reducible refine' nw_Rule_amount ?ho_ ?hv_ ?_); (case ho_ => first | assumption | exact upd_same); (case hv_ => exact rfl)) | ((with_reducible refine' nw_Rule_until ?ho_ ?hv_ ?_); (case ho_ => first | assumption | exact upd_same); (case hv_ => exact rfl)) | ((with_reducible refine' nw_Rule_sender ?ho_ ?hv_ ?_); (case ho_ => first | assumption | exact upd_same); (case hv_ => exact rfl)) | ((with_reducible refine' nw_Rule_target ?ho_ ?hv_ ?_); (case ho_ => first | assumption | exact upd_same); (case hv_ => exact rfl)) | ((with_reducible refine' nw_Rule_ticks ?ho_ ?hv_ ?_); (case ho_ => first | assumption | exact upd_same); (case hv_ => exact rfl)) | ((with_reducible refine' nw_Rule_nth ?ho_ ?hv_ ?_); (case ho_ => first | assumption | exact upd_same); (case hv_ => exact rfl)) | ((with_reducible refine' nw_Rule_chance ?ho_ ?hv_ ?_); (case ho_ => first | assumption | exact upd_same); (case hv_ => exact rfl)) | ((with_reducible refine' st_Rule_fault ?ho_ ?hv_ ?_); (case ho_ => first | assumption | exact upd_same); (case hv_ => exact Nat.le_of_ble_eq_true rfl)) | ((with_reducible refine' st_Rule_amount ?ho_ ?hv_ ?_); (case ho_ => first | assumption | exact upd_same); (case hv_ => exact Nat.le_of_ble_eq_true rfl)) | ((with_reducible refine' st_Rule_until ?ho_ ?hv_ ?_); (case ho_ => first | assumption | exact upd_same); (case hv_ => exact Nat.le_of_ble_eq_true rfl)) | ((with_reducible refine' st_Rule_sender ?ho_ ?hv_ ?_); (case ho_ => first | assumption | exact upd_same); (case hv_ => exact Nat.le_of_ble_eq_true rfl)) | ((with_reducible refine' st_Rule_target ?ho_ ?hv_ ?_); (case ho_ => first | assumption | exact upd_same); (case hv_ => exact Nat.le_of_ble_eq_true rfl)) | ((with_reducible refine' st_Rule_ticks ?ho_ ?hv_ ?_); (case ho_ => first | assumption | exact upd_same); (case hv_ => exact Nat.le_of_ble_eq_true rfl)) | ((with_reducible refine' st_Rule_nth ?ho_ ?hv_ ?_); (case ho_ => first | assumption | exact upd_same); (case hv_ => exact Nat.le_of_ble_eq_true rfl)) | ((with_reducible refine' st_Rule_chance ?ho_ ?hv_ ?_); (case ho_ => first | assumption | exact upd_same); (case hv_ => exact Nat.le_of_ble_eq_true rfl)) | ((with_reducible refine' me_Rule_considers ?ho_ ?_); (case ho_ => first | assumption | exact upd_same)) | ((with_reducible refine' me_Rule_fork ?ho_ ?_); (case ho_ => first | assumption | exact upd_same)))
section
variable {P : Program} {w : World} {K : PySem.W.Frag} {mg : Str → Option Value} {base : Heap}
local macro_rules | `(tactic| walk_at "use") => `(tactic| with_reducible first | refine g_augS ?_ | refine g_makeK ?_ | refine g_callN ?_ | refine g_rEqS ?_ | refine g_rNeS ?_ | refine u_isint ?_)
/-! ### the law's rules -/
def RwO (H : Hp) (a : Addr) (g : Rl) : Prop := ∃ tv, H a = some (.lst [.str g.fault, .int g.amount, .int g.upto, oV g.sender, oV g.target, tv, oV g.nth, oV g.chance]) ∧ StV H tv g.ticks
def sp_l_draw (K : PySem.W.Frag) : Sp := fun vs H Q _ => ∃ (p : Addr) (z sd b : Int), vs = [.ref p, .int b] ∧ H p = some (.lst [.int z, .int sd]) ∧ ∀ H', But p H H' → H' p = some (.lst [.int z, .int (nxt sd)]) → Q (.int (dr sd b)) H'
theorem ok_l_draw (T : Txt K mg) : FnOk P w K mg base CX0 1 T.f_l_draw T.d_l_draw ["state", "below"] (sp_l_draw K) := by
  refine T.F_l_draw.ok sc_l_draw (fun vs H Q E h => ?_) (fun cdv A outer s H vs Q E hr h => ?_)
  · obtain ⟨p, z, sd, b, rfl, hp, q⟩ := h
    rfl
  · obtain ⟨p, z, sd, b, rfl, hp, q⟩ := h
    have hu := hu_of hr
    refine ⟨_, (pss_cons (ps_asg (pe_op op_mod (pe_callTy call_int1 (by rfl) T.n_int (by decide +kernel) (pa_cons (pe_op op_add (pe_op op_mul pe_int (pe_ix ix_list (pv 0) pe_int (fun _ _ => rfl))) pe_int) pa_nil)) pe_int) (pg_sub (pv 0) pe_int set_list))
        (pss_one (ps_ret (pe_op op_fdivW (pe_op op_mul (pe_ix ix_list (pv 0) pe_int (fun _ _ => rfl)) (pv 1)) pe_int)))), ?_⟩
    dsimp only [cxOf, Cx.nox, Cx.wish, L2.start, List.map, List.cons_append, List.nil_append, List.length_cons, List.length_nil, Nat.reduceAdd, Nat.reduceSub, Nat.zero_add, List.replicate_succ, List.replicate_zero]
    have hn := nxt_b (s := sd)
    walk_at "go"
    refine g_ixL (sl hp) (at_of (j := 1) rfl rfl) ?_
    walk_at "go"
    refine g_setL (j := 1) hp rfl ?_
    have e : (1664525 * sd + 1013904223) % 4294967296 = nxt sd := rfl
    rw [e]
    walk_at "go"
    refine g_ixL (sl upd_same) (at_of (j := 1) rfl rfl) ?_
    walk_at "go"
    exact q _ But.refl.upd upd_same
def sp_l_admits (K : PySem.W.Frag) : Sp := fun vs H Q _ => ∃ (a k : Addr) (g : Rl) (s t b : Int), vs = [.ref a, .ref k] ∧ RwO H a g ∧ H k = some (.tup [.int s, .int t, .int b]) ∧ Q (.bl (adm g s t b)) H
theorem ok_l_admits (T : Txt K mg) : FnOk P w K mg base CX0 1 T.f_l_admits T.d_l_admits ["rule", "packet"] (sp_l_admits K) := by
  refine T.F_l_admits.ok sc_l_admits (fun vs H Q E h => ?_) (fun cdv A outer s H vs Q E hr h => ?_)
  · obtain ⟨a, k, ⟨ft, am, un, se, ta, tk, nt, ch⟩, s, t, b, rfl, ⟨tv, ho, hv⟩, hk, q⟩ := h
    rfl
  · obtain ⟨a, k, ⟨ft, am, un, se, ta, tk, nt, ch⟩, s, t, b, rfl, ⟨tv, ho, hv⟩, hk, q⟩ := h
    have hu := hu_of hr
    refine ⟨_, (C8.pss_cut (ps_if (PW.pt (pw_and (pt_cmpR op_notN (pe_ix ix_list (pv 0) pe_int (fun _ _ => rfl)) pe_non (nomark _)) (pw_and1 (pt_cmpR op_ne (pe_ix ix_list (pv 0) pe_int (fun _ _ => rfl)) (pe_ix ix_tup (pv 1) pe_int (fun _ _ => rfl)) (nomark _))))) (pss_one (ps_ret pe_bl)) pss_nil)
        (C8.pss_cut (ps_if (PW.pt (pw_and (pt_cmpR op_notN (pe_ix ix_list (pv 0) pe_int (fun _ _ => rfl)) pe_non (nomark _)) (pw_and1 (pt_cmpR op_ne (pe_ix ix_list (pv 0) pe_int (fun _ _ => rfl)) (pe_ix ix_tup (pv 1) pe_int (fun _ _ => rfl)) (nomark _))))) (pss_one (ps_ret pe_bl)) pss_nil)
        (pss_one (ps_ret (pe_or (pe_cmpR op_isN (pe_ix ix_list (pv 0) pe_int (fun _ _ => rfl)) pe_non (nomark _)) (pe_one (pe_chain op_le op_le (pe_ix ix_tup (pe_ix ix_list (pv 0) pe_int (fun _ _ => rfl)) pe_int (fun _ _ => rfl)) (pe_ix ix_tup (pv 1) pe_int (fun _ _ => rfl)) (pe_ix ix_tup (pe_ix ix_list (pv 0) pe_int (fun _ _ => rfl)) pe_int (fun _ _ => rfl))))))))), ?_⟩
    dsimp only [cxOf, Cx.nox, Cx.wish, L2.start, List.map, List.cons_append, List.nil_append, List.length_cons, List.length_nil, Nat.reduceAdd, Nat.reduceSub, Nat.zero_add, List.replicate_succ, List.replicate_zero]
    dsimp only at ho hv
    unfold adm at q
    dsimp only at q
    walk_at "go"
    refine g_cut (fun σ' H' => H = H' ∧ σ' = [some (.ref a), some (.ref k)] ∧ okO se s = true) ?_ ?_
    · walk_at "go"
      refine g_ixL (sl ho) (at_of (j := 3) rfl rfl) ?_
      rcases se with _ | x
      · walk_at "go"
        exact ⟨rfl, rfl, rfl⟩
      · walk_at "go"
        refine g_ixL (sl ho) (at_of (j := 3) rfl rfl) ?_
        walk_at "go"
        refine g_ixT (st hk) (at_of (j := 0) rfl rfl) ?_
        refine g_rNeI (i := x) (j := s) ?_
        walk_at "go"
        refine g_iteN (fun h => ?_) (fun h => ?_)
        · walk_at "go"
          rw [show okO (some x) s = false from decide_eq_false fun z => h z.symm, Bool.false_and] at q
          exact q
        · walk_at "go"
          exact ⟨rfl, rfl, decide_eq_true h.symm⟩
    rintro σ' _ ⟨rfl, rfl, e1⟩
    rw [e1, Bool.true_and] at q
    walk_at "go"
    refine g_cut (fun σ' H' => H = H' ∧ σ' = [some (.ref a), some (.ref k)] ∧ okO ta t = true) ?_ ?_
    · walk_at "go"
      refine g_ixL (sl ho) (at_of (j := 4) rfl rfl) ?_
      rcases ta with _ | x
      · walk_at "go"
        exact ⟨rfl, rfl, rfl⟩
      · walk_at "go"
        refine g_ixL (sl ho) (at_of (j := 4) rfl rfl) ?_
        walk_at "go"
        refine g_ixT (st hk) (at_of (j := 1) rfl rfl) ?_
        refine g_rNeI (i := x) (j := t) ?_
        walk_at "go"
        refine g_iteN (fun h => ?_) (fun h => ?_)
        · walk_at "go"
          rw [show okO (some x) t = false from decide_eq_false fun z => h z.symm, Bool.false_and] at q
          exact q
        · walk_at "go"
          exact ⟨rfl, rfl, decide_eq_true h.symm⟩
    rintro σ' _ ⟨rfl, rfl, e2⟩
    rw [e2, Bool.true_and] at q
    walk_at "go"
    refine g_ixL (sl ho) (at_of (j := 5) rfl rfl) ?_
    rcases tk with _ | ⟨lo, hi⟩
    · have e : tv = .non := hv
      subst e
      walk_at "go"
      exact q
    · obtain ⟨tt, rfl, ht⟩ := hv
      walk_at "go"
      refine g_ixL (sl ho) (at_of (j := 5) rfl rfl) ?_
      walk_at "go"
      refine g_ixT (st ht) (at_of (j := 0) rfl rfl) ?_
      walk_at "go"
      refine g_ixT (st hk) (at_of (j := 2) rfl rfl) ?_
      walk_at "go"
      refine g_ite (fun h => ?_) (fun h => ?_)
      · walk_at "go"
        refine g_ixL (sl ho) (at_of (j := 5) rfl rfl) ?_
        walk_at "go"
        refine g_ixT (st ht) (at_of (j := 1) rfl rfl) ?_
        walk_at "go"
        rw [show okR (some (lo, hi)) b = decide (b ≤ hi) by
          show (decide (lo ≤ b) && decide (b ≤ hi)) = _
          rw [decide_eq_true (show lo ≤ b from h), Bool.true_and]] at q
        exact q
      · walk_at "go"
        rw [show okR (some (lo, hi)) b = false by
          show (decide (lo ≤ b) && decide (b ≤ hi)) = _
          rw [decide_eq_false (show ¬ lo ≤ b from h), Bool.false_and]] at q
        exact q
def sp_l_applies (K : PySem.W.Frag) : Sp := fun vs H Q _ => ∃ (a c p : Addr) (g : Rl) (ns : List Int) (k : Nat) (n z sd : Int), vs = [.ref a, .ref c, .int (k : Int), .ref p] ∧ RwO H a g ∧ RlOk g ∧ H c = some (.lst (ns.map V.int)) ∧ ns[k]? = some n ∧ a ≠ c ∧ a ≠ p ∧ c ≠ p ∧ H p = some (.lst [.int z, .int sd]) ∧
  ∀ H', But2 c p H H' → H' c = some (.lst ((ns.set k (n + 1)).map V.int)) → H' p = some (.lst [.int z, .int (aplS g (n + 1) sd)]) → Q (.bl (aplB g (n + 1) sd)) H'
theorem ok_l_applies (T : Txt K mg) : FnOk P w K mg base CX0 2 T.f_l_applies T.d_l_applies ["rule", "counts", "k", "state"] (sp_l_applies K) := by
  refine T.F_l_applies.ok sc_l_applies (fun vs H Q E h => ?_) (fun cdv A outer s H vs Q E hr h => ?_)
  · obtain ⟨a, c, p, ⟨ft, am, un, se, ta, tk, nt, ch⟩, ns, k, n, z, sd, rfl, ⟨tv, ho, hv⟩, ok, hc, hn, nac, nap, ncp, hp, q⟩ := h
    rfl
  · obtain ⟨a, c, p, ⟨ft, am, un, se, ta, tk, nt, ch⟩, ns, k, n, z, sd, rfl, ⟨tv, ho, hv⟩, ok, hc, hn, nac, nap, ncp, hp, q⟩ := h
    have hu := hu_of hr
    refine ⟨_, (pss_cons (ps_asg (pe_op op_add (pe_ix ix_list (pv 1) (pv 2) (fun _ _ => rfl)) pe_int) (pg_sub (pv 1) (pv 2) set_list))
        (C8.pss_cut (ps_if (PW.pt (pw_and (pt_cmpR op_notN (pe_ix ix_list (pv 0) pe_int (fun _ _ => rfl)) pe_non (nomark _)) (pw_and1 (pt_cmpR op_ne (pe_op op_mod (pe_callTy call_int1 (by rfl) T.n_int (by decide +kernel) (pa_cons (pe_ix ix_list (pv 1) (pv 2) (fun _ _ => rfl)) pa_nil)) (pe_ix ix_list (pv 0) pe_int (fun _ _ => rfl))) pe_int (nomark _))))) (pss_one (ps_ret pe_bl)) pss_nil)
        (pss_one (ps_ret (pe_or (pe_cmpR op_isN (pe_ix ix_list (pv 0) pe_int (fun _ _ => rfl)) pe_non (nomark _)) (pe_one (pe_cmpR op_lt (pe_call (ok_l_draw T) (hr.mono (by decide)) rfl T.m_l_draw T.F_l_draw.kp T.b_l_draw .nil pass0 (pa_cons (pv 3) (pa_cons pe_int pa_nil))) (pe_ix ix_list (pv 0) pe_int (fun _ _ => rfl)) (nomark _)))))))), ?_⟩
    dsimp only [cxOf, Cx.nox, Cx.wish, L2.start, List.map, List.cons_append, List.nil_append, List.length_cons, List.length_nil, Nat.reduceAdd, Nat.reduceSub, Nat.zero_add, List.replicate_succ, List.replicate_zero]
    dsimp only at ho hv
    have hk : k < ns.length := (List.getElem?_eq_some_iff.mp hn).1
    walk_at "go"
    refine g_ixL (sl hc) (at_of (j := k) rfl (by rw [List.getElem?_map, hn]; rfl)) ?_
    walk_at "go"
    refine g_setL (j := k) hc (by rw [ixN_nat (by omega) (by rw [List.length_map]; omega), Int.toNat_natCast]) ?_
    generalize z1 : upd H c _ = H1
    have b1 : But c H H1 := by rw [← z1]; exact But.refl.upd
    have k1 : H1 c = some (.lst ((ns.set k (n + 1)).map V.int)) := by rw [List.map_set]; exact (congrFun z1 c).symm.trans upd_same
    clear z1
    have ho1 := b1 _ _ nac ho
    have hp1 := b1 _ _ ncp.symm hp
    have done1 : But2 c p H H1 := fun x o a1 _ e => b1 _ _ a1 e
    have hn1 : (ns.set k (n + 1))[k]? = some (n + 1) := List.getElem?_set_self hk
    walk_at "go"
    refine g_cut (fun σ' H' => H1 = H' ∧ σ' = [some (.ref a), some (.ref c), some (.int (k : Int)), some (.ref p)] ∧ skip ⟨ft, am, un, se, ta, tk, nt, ch⟩ (n + 1) = false) ?_ ?_
    · walk_at "go"
      refine g_ixL (sl ho1) (at_of (j := 6) rfl rfl) ?_
      rcases nt with _ | x
      · walk_at "go"
        exact ⟨rfl, rfl, rfl⟩
      · have hx : 0 < x := ok.1 x rfl
        walk_at "go"
        refine g_ixL (sl k1) (at_of (j := k) rfl (by rw [List.getElem?_map, hn1]; rfl)) ?_
        walk_at "go"
        refine g_ixL (sl ho1) (at_of (j := 6) rfl rfl) ?_
        refine g_rI (i := n + 1) (j := x) hx ?_
        walk_at "go"
        refine g_iteN (fun h => ?_) (fun h => ?_)
        · have e : skip ⟨ft, am, un, se, ta, tk, some x, ch⟩ (n + 1) = true := by
            show (!decide ((n + 1) % x = 0)) = true
            rw [decide_eq_false h]
            rfl
          walk_at "go"
          unfold aplB aplS at q
          rw [if_pos e, if_pos e] at q
          exact q H1 done1 k1 hp1
        · walk_at "go"
          refine ⟨rfl, rfl, ?_⟩
          show (!decide ((n + 1) % x = 0)) = false
          rw [decide_eq_true h]
          rfl
    rintro σ' _ ⟨rfl, rfl, e⟩
    unfold aplB aplS at q
    rw [e, if_neg (by decide), if_neg (by decide)] at q
    walk_at "go"
    refine g_ixL (sl ho1) (at_of (j := 7) rfl rfl) ?_
    rcases ch with _ | x
    · walk_at "go"
      exact q H1 done1 k1 hp1
    · walk_at "go"
      refine ⟨p, z, sd, 1000, rfl, hp1, fun H2 b2 k2 => ?_⟩
      walk_at "go"
      refine g_ixL (sl (b2 _ _ nap ho1)) (at_of (j := 7) rfl rfl) ?_
      refine g_rI0 (i := dr sd 1000) (j := x) ?_
      exact q H2 (fun y o a1 a2 e => b2 _ _ a2 (b1 _ _ a1 e)) (b2 _ _ ncp k1) k2
end
end My
namespace My
open PySem PySem.Spec L2
local macro_rules | `(tactic| walk_at "side") => `(tactic| first | assumption | decide | omega | exact ⟨by decide, by decide⟩ | exact ⟨by decide, by decide, by decide⟩ | decide +kernel | exact cdivW (by decide +kernel) (by decide +kernel) | exact Or.inl ⟨by omega, by omega⟩ | exact Or.inr ⟨by omega, by omega⟩ | (simp only [List.length_map, List.length_cons, List.length_nil, List.length_append]; omega))
local macro_rules | `(tactic| walk_at "fact") => `(tactic| first | assumption | omega | with_reducible rfl)
local macro_rules | `(tactic| walk_at "use") => `(tactic| fail "use")
local macro_rules | `(tactic| walk_at "go1") => `(tactic| with_reducible first | refine g_seq ?_ | refine g_asg ?_ | refine g_ret ?_ | refine g_ifS ?_ | refine g_drop ?_ | refine g_star ?_ | refine g_nx ?_ | refine g_rt ?_ | refine g_bkE ?_ | refine g_ctE ?_ | refine g_next ?_ | refine g_retN ?_ | refine g_brk ?_ | refine g_ct ?_ | refine g_c ?_ | refine g_op ?_ | refine g_un ?_ | refine g_rI0 ?_ | refine g_rU ?_ | refine g_rEqI ?_ | refine g_rNeI ?_ | refine g_isN ?_ | refine g_rIsB ?_ | refine g_rNotB ?_ | refine g_test ?_ | refine g_B ?_ | refine g_bl ?_ | refine g_and ?_ | refine g_or ?_ | refine g_not ?_ | refine g_andV ?_ | refine g_orV ?_ | refine g_notV ?_ | refine g_if ?_ | refine g_chain ?_ | refine g_yes ?_ | refine g_lc ?_ | refine g_revR ?_ | refine g_rng1 ?_ | refine g_iList ?_ | refine g_nil ?_ | refine g_cons ?_ | refine g_tup ?_ | refine g_lst ?_ | refine g_call ?_ | refine g_CB ?_ | refine g_sl ?_ | refine g_noPart ?_ | refine g_part ?_ | refine g_intE ?_ | refine g_ref ?_ | refine g_fld ?_ | refine g_sfld ?_ | refine g_meth ?_ | refine g_make ?_ | refine g_prop ?_  | refine g_ipI ?_ | refine g_int1 ?_ | refine g_int1B ?_ | refine g_one ?_ | refine g_two ?_ | refine g_isiI ?_ | refine g_isiIB ?_ | refine g_isiB ?_ | refine g_BM ?_ | refine g_BM0 ?_ | refine g_sub ?_)
local macro_rules | `(tactic| walk_at "go") => `(tactic| repeat (first | walk_at "go1" | ((with_reducible refine' g_nameE ?sd_ ?_); case sd_ => dsimp only [List.set_cons_succ, List.set_cons_zero]) | ((with_reducible refine' g_var ?sd_ ?_); case sd_ => exact rfl) | ((with_reducible refine' g_aug ?sd_ ?_); case sd_ => exact rfl) | ((with_reducible refine' g_rI ?sd_ ?_); case sd_ => walk_at "side") | ((with_reducible refine' g_dT ?sd_ ?_); case sd_ => walk_at "fact") | ((with_reducible refine' g_dF ?sd_ ?_); case sd_ => walk_at "fact") | ((with_reducible refine' g_nT ?sd_ ?_); case sd_ => walk_at "fact") | ((with_reducible refine' g_nF ?sd_ ?_); case sd_ => walk_at "fact") | (with_reducible refine g_iT rfl ?_) | (with_reducible refine g_iF rfl ?_) | walk_at "use"))
local macro_rules | `(tactic| walk_at "use") => `(tactic| first | ((with_reducible refine' fd_Verdict_lost ?ho_ ?hv_ ?_); (case ho_ => first | assumption | exact upd_same); (case hv_ => exact rfl)) | ((with_reducible refine' fd_Verdict_marked ?ho_ ?hv_ ?_); (case ho_ => first | assumption | exact upd_same); (case hv_ => exact rfl)) | ((with_reducible refine' fd_Verdict_copies ?ho_ ?hv_ ?_); (case ho_ => first | assumption | exact upd_same); (case hv_ => exact rfl)) | ((with_reducible refine' fd_Verdict_delay ?ho_ ?hv_ ?_); (case ho_ => first | assumption | exact upd_same); (case hv_ => exact rfl)) | ((with_reducible refine' nw_Verdict_lost ?ho_ ?hv_ ?_); (case ho_ => first | assumption | exact upd_same); (case hv_ => exact rfl)) | ((with_reducible refine' nw_Verdict_marked ?ho_ ?hv_ ?_); (case ho_ => first | assumption | exact upd_same); (case hv_ => exact rfl)) | ((with_reducible refine' nw_Verdict_copies ?ho_ ?hv_ ?_); (case ho_ => first | assumption | exact upd_same); (case hv_ => exact rfl)) | ((with_reducible refine' nw_Verdict_delay ?ho_ ?hv_ ?_); (case ho_ => first | assumption | exact upd_same); (case hv_ => exact rfl)) | ((with_reducible refine' st_Verdict_lost ?ho_ ?hv_ ?_); (case ho_ => first | assumption | exact upd_same); (case hv_ => exact Nat.le_of_ble_eq_true rfl)) | ((with_reducible refine' st_Verdict_marked ?ho_ ?hv_ ?_); (case ho_ => first | assumption | exact upd_same); (case hv_ => exact Nat.le_of_ble_eq_true rfl)) | ((with_reducible refine' st_Verdict_copies ?ho_ ?hv_ ?_); (case ho_ => first | assumption | exact upd_same); (case hv_ => exact Nat.le_of_ble_eq_true rfl)) | ((with_reducible refine' st_Verdict_delay ?ho_ ?hv_ ?_); (case ho_ => first | assumption | exact upd_same); (case hv_ => exact Nat.le_of_ble_eq_true rfl)) | ((with_reducible refine' me_Verdict_eq__ ?ho_ ?_); (case ho_ => first | assumption | exact upd_same)) | ((with_reducible refine' me_Verdict_fields ?ho_ ?_); (case ho_ => first | assumption | exact upd_same)))
local macro_rules | `(tactic| walk_at "use") => `(tactic| first | ((with_reducible refine' fd_Faults_seed ?ho_ ?hv_ ?_); (case ho_ => first | assumption | exact upd_same); (case hv_ => exact rfl)) | ((with_reducible refine' fd_Faults_counts ?ho_ ?hv_ ?_); (case ho_ => first | assumption | exact upd_same); (case hv_ => exact rfl)) | ((with_reducible refine' fd_Faults__rules ?ho_ ?hv_ ?_); (case ho_ => first | assumption | exact upd_same); (case hv_ => exact rfl)) | ((with_reducible refine' nw_Faults_seed ?ho_ ?hv_ ?_); (case ho_ => first | assumption | exact upd_same); (case hv_ => exact rfl)) | ((with_reducible refine' nw_Faults_counts ?ho_ ?hv_ ?_); (case ho_ => first | assumption | exact upd_same); (case hv_ => exact rfl)) | ((with_reducible refine' nw_Faults__rules ?ho_ ?hv_ ?_); (case ho_ => first | assumption | exact upd_same); (case hv_ => exact rfl)) | ((with_reducible refine' st_Faults_seed ?ho_ ?hv_ ?_); (case ho_ => first | assumption | exact upd_same); (case hv_ => exact Nat.le_of_ble_eq_true rfl)) | ((with_reducible refine' st_Faults_counts ?ho_ ?hv_ ?_); (case ho_ => first | assumption | exact upd_same); (case hv_ => exact Nat.le_of_ble_eq_true rfl)) | ((with_reducible refine' st_Faults__rules ?ho_ ?hv_ ?_); (case ho_ => first | assumption | exact upd_same); (case hv_ => exact Nat.le_of_ble_eq_true rfl)) | ((with_reducible refine' me_Faults_judge ?ho_ ?_); (case ho_ => first | assumption | exact upd_same)) | ((with_reducible refine' me_Faults_applies ?ho_ ?_); (case ho_ => first | assumption | exact upd_same)) | ((with_reducible refine' me_Faults_apply ?ho_ ?_); (case ho_ => first | assumption | exact upd_same)) | ((with_reducible refine' me_Faults_draw ?ho_ ?_); (case ho_ => first | assumption | exact upd_same)))
local macro_rules | `(tactic| walk_at "use") => `(tactic| first | ((with_reducible refine' fd_Rule_fault ?ho_ ?hv_ ?_); (case ho_ => first | assumption | exact upd_same); (case hv_ => exact rfl)) | ((with_reducible refine' fd_Rule_amount ?ho_ ?hv_ ?_); (case ho_ => first | assumption | exact upd_same); (case hv_ => exact rfl)) | ((with_reducible refine' fd_Rule_until ?ho_ ?hv_ ?_); (case ho_ => first | assumption | exact upd_same); (case hv_ => exact rfl)) | ((with_reducible refine' fd_Rule_sender ?ho_ ?hv_ ?_); (case ho_ => first | assumption | exact upd_same); (case hv_ => exact rfl)) | ((with_reducible refine' fd_Rule_target ?ho_ ?hv_ ?_); (case ho_ => first | assumption | exact upd_same); (case hv_ => exact rfl)) | ((with_reducible refine' fd_Rule_ticks ?ho_ ?hv_ ?_); (case ho_ => first | assumption | exact upd_same); (case hv_ => exact rfl)) | ((with_reducible refine' fd_Rule_nth ?ho_ ?hv_ ?_); (case ho_ => first | assumption | exact upd_same); (case hv_ => exact rfl)) | ((with_reducible refine' fd_Rule_chance ?ho_ ?hv_ ?_); (case ho_ => first | assumption | exact upd_same); (case hv_ => exact rfl)) | ((with_reducible refine' nw_Rule_fault ?ho_ ?hv_ ?_); (case ho_ => first | assumption | exact upd_same); (case hv_ => exact rfl)) | ((with_reducible refine' nw_Rule_amount ?ho_ ?hv_ ?_); (case ho_ => first | assumption | exact upd_same); (case hv_ => exact rfl)) | ((with_reducible refine' nw_Rule_until ?ho_ ?hv_ ?_); (case ho_ => first | assumption | exact upd_same); (case hv_ => exact rfl)) | ((with_reducible refine' nw_Rule_sender ?ho_ ?hv_ ?_); (case ho_ => first | assumption | exact upd_same); (case hv_ => exact rfl)) | ((with_reducible refine' nw_Rule_target ?ho_ ?hv_ ?_); (case ho_ => first | assumption | exact upd_same); (case hv_ => exact rfl)) | ((with_reducible refine' nw_Rule_ticks ?ho_ ?hv_ ?_); (case ho_ => first | assumption | exact upd_same); (case hv_ => exact rfl)) | ((with_reducible refine' nw_Rule_nth ?ho_ ?hv_ ?_); (case ho_ => first | assumption | exact upd_same); (case hv_ => exact rfl)) | ((with_reducible refine' nw_Rule_chance ?ho_ ?hv_ ?_); (case ho_ => first | assumption | exact upd_same); (case hv_ => exact rfl)) | ((with_reducible refine' st_Rule_fault ?ho_ ?hv_ ?_); (case ho_ => first | assumption | exact upd_same); (case hv_ => exact Nat.le_of_ble_eq_true rfl)) | ((with_reducible refine' st_Rule_amount ?ho_ ?hv_ ?_); (case ho_ => first | assumption | exact upd_same); (case hv_ => exact Nat.le_of_ble_eq_true rfl)) | ((with_reducible refine' st_Rule_until ?ho_ ?hv_ ?_); (case ho_ => first | assumption | exact upd_same); (case hv_ => exact Nat.le_of_ble_eq_true rfl)) | ((with_reducible refine' st_Rule_sender ?ho_ ?hv_ ?_); (case ho_ => first | assumption | exact upd_same); (case hv_ => exact Nat.le_of_ble_eq_true rfl)) | ((with_reducible refine' st_Rule_target ?ho_ ?hv_ ?_); (case ho_ => first | assumption | exact upd_same); (case hv_ => exact Nat.le_of_ble_eq_true rfl)) | ((with_reducible refine' st_Rule_ticks ?ho_ ?hv_ ?_); (case ho_ => first | assumption | exact upd_same); (case hv_ => exact Nat.le_of_ble_eq_true rfl)) | ((with_reducible refine' st_Rule_nth ?ho_ ?hv_ ?_); (case ho_ => first | assumption | exact upd_same); (case hv_ => exact Nat.le_of_ble_eq_true rfl)) | ((with_reducible refine' st_Rule_chance ?ho_ ?hv_ ?_); (case ho_ => first | assumption | exact upd_same); (case hv_ => exact Nat.le_of_ble_eq_true rfl)) | ((with_reducible refine' me_Rule_considers ?ho_ ?_); (case ho_ => first | assumption | exact upd_same)) | ((with_reducible refine' me_Rule_fork ?ho_ ?_); (case ho_ => first | assumption | exact upd_same)))
section
variable {P : Program} {w : World} {K : PySem.W.Frag} {mg : Str → Option Value} {base : Heap}
local macro_rules | `(tactic| walk_at "use") => `(tactic| with_reducible first | refine g_augS ?_ | refine g_makeK ?_ | refine g_callN ?_ | refine g_rEqS ?_ | refine g_rNeS ?_ | refine u_isint ?_)
theorem eff1 {g : Rl} {v : Vd} {s : Int} (h : g.fault = "lose") : effV g v s = { v with lost := true } ∧ effS g s = s := ⟨if_pos h, if_pos h⟩
theorem eff2 {g : Rl} {v : Vd} {s : Int} (h1 : ¬ g.fault = "lose") (h : g.fault = "mark") : effV g v s = { v with marked := true } ∧ effS g s = s := ⟨(if_neg h1).trans (if_pos h), (if_neg h1).trans (if_pos h)⟩
theorem eff3 {g : Rl} {v : Vd} {s : Int} (h1 : ¬ g.fault = "lose") (h2 : ¬ g.fault = "mark") (h : g.fault = "copy") : effV g v s = { v with copies := v.copies + g.amount } ∧ effS g s = s := ⟨(if_neg h1).trans ((if_neg h2).trans (if_pos h)), (if_neg h1).trans ((if_neg h2).trans (if_pos h))⟩
theorem eff4 {g : Rl} {v : Vd} {s : Int} (h1 : ¬ g.fault = "lose") (h2 : ¬ g.fault = "mark") (h3 : ¬ g.fault = "copy") (h : g.amount = g.upto) : effV g v s = { v with delay := g.amount } ∧ effS g s = s := ⟨(if_neg h1).trans ((if_neg h2).trans ((if_neg h3).trans (if_pos h))), (if_neg h1).trans ((if_neg h2).trans ((if_neg h3).trans (if_pos h)))⟩
theorem eff5 {g : Rl} {v : Vd} {s : Int} (h1 : ¬ g.fault = "lose") (h2 : ¬ g.fault = "mark") (h3 : ¬ g.fault = "copy") (h : ¬ g.amount = g.upto) : effV g v s = { v with delay := g.amount + dr s (g.upto - g.amount + 1) } ∧ effS g s = nxt s := ⟨(if_neg h1).trans ((if_neg h2).trans ((if_neg h3).trans (if_neg h))), (if_neg h1).trans ((if_neg h2).trans ((if_neg h3).trans (if_neg h)))⟩
def RwF (c p d : Addr) (H : Hp) (a : Addr) (g : Rl) : Prop := ∀ H', But3 c p d H H' → RwO H' a g
def RwFs (c p d : Addr) (H : Hp) (as : List Addr) (gs : List Rl) : Prop := as.length = gs.length ∧ ∀ (i : Nat) (a : Addr) (g : Rl), as[i]? = some a → gs[i]? = some g → a ≠ c ∧ a ≠ p ∧ a ≠ d ∧ RwF c p d H a g
theorem But3.refl {a b c : Addr} {H : Hp} : But3 a b c H H := fun _ _ _ _ _ z => z
theorem But3.trans {a b c : Addr} {H H1 H2 : Hp} (x : But3 a b c H H1) (y : But3 a b c H1 H2) : But3 a b c H H2 := fun k o n1 n2 n3 e => y k o n1 n2 n3 (x k o n1 n2 n3 e)
/-- all that the law's model of a packet stands on; d is the list of what is due -/
def sp_l_due (K : PySem.W.Frag) : Sp := fun vs H Q _ => ∃ (ar c p k : Addr) (as : List Addr) (gs : List Rl) (ns : List Int) (s t b z sd : Int), vs = [.ref ar, .ref c, .ref p, .ref k] ∧ H ar = some (.lst (as.map V.ref)) ∧ (∀ d, H d = none → RwFs c p d H as gs) ∧ H c = some (.lst (ns.map V.int)) ∧ ns.length = gs.length ∧ H p = some (.lst [.int z, .int sd]) ∧ c ≠ p ∧ ar ≠ c ∧ ar ≠ p ∧
  H k = some (.tup [.int s, .int t, .int b]) ∧ gs.length ≤ 100 ∧ (∀ g ∈ gs, RlOk g) ∧ ∀ d H', H d = none → But2 c p H H' → H' c = some (.lst ((J s t b gs ns sd gs.length).1.map V.int)) → H' p = some (.lst [.int z, .int (J s t b gs ns sd gs.length).2.2]) → H' d = some (.lst (vdV (J s t b gs ns sd gs.length).2.1)) → Q (.ref d) H'
theorem ok_l_due (T : Txt K mg) : FnOk P w K mg base CX0 3 T.f_l_due T.d_l_due ["rules", "counts", "state", "packet"] (sp_l_due K) := by
  refine T.F_l_due.ok sc_l_due (fun vs H Q E h => ?_) (fun cdv A outer s H vs Q E hr h => ?_)
  · obtain ⟨ar, c, p, k, as, gs, ns, s, t, b, z, sd, rfl, har, hR, hc, hn, hp, ncp, nac, nap, hk, hg, ok, q⟩ := h
    rfl
  · obtain ⟨ar, c, p, k, as, gs, ns, s, t, b, z, sd, rfl, har, hR, hc, hn, hp, ncp, nac, nap, hk, hg, ok, q⟩ := h
    have hu := hu_of hr
    refine ⟨_, (pss_cons (ps_set (i := 4) sc_l_due.nd rfl (Or.inl rfl) (pe_lst (pa_cons pe_bl (pa_cons pe_bl (pa_cons pe_int (pa_cons pe_int pa_nil))))))
        (pss_cons (ps_for PassesOwn.never rfl (pi_range1 (by rfl) T.n_range (pa_cons (pe_callB call_len_seq (by rfl) T.n_len (by decide +kernel) (pa_cons (pv 0) pa_nil)) pa_nil)) (pg_name (i := 5) sc_l_due.nd rfl (Or.inl rfl)) (pss_cons (ps_set (i := 6) sc_l_due.nd rfl (Or.inl rfl) (pe_ix ix_list (pv 0) (pv 5) (fun _ _ => rfl)))
        (pss_one (ps_if (PW.pt (pw_and (pt_val (pe_call (ok_l_admits T) (hr.mono (by decide)) rfl T.m_l_admits T.F_l_admits.kp T.b_l_admits .nil pass0 (pa_cons (pv 6) (pa_cons (pv 3) pa_nil)))) (pw_and1 (pt_val (pe_call (ok_l_applies T) (hr.mono (by decide)) rfl T.m_l_applies T.F_l_applies.kp T.b_l_applies .nil pass0 (pa_cons (pv 6) (pa_cons (pv 1) (pa_cons (pv 5) (pa_cons (pv 2) pa_nil))))))))) (pss_one (ps_if (pt_cmpR op_eq (pe_ix ix_list (pv 6) pe_int (fun _ _ => rfl)) pe_str (nomark _)) (pss_one (ps_asg pe_bl (pg_sub (pv 4) pe_int set_list))) (pss_one (ps_if (pt_cmpR op_eq (pe_ix ix_list (pv 6) pe_int (fun _ _ => rfl)) pe_str (nomark _)) (pss_one (ps_asg pe_bl (pg_sub (pv 4) pe_int set_list))) (pss_one (ps_if (pt_cmpR op_eq (pe_ix ix_list (pv 6) pe_int (fun _ _ => rfl)) pe_str (nomark _)) (pss_one (ps_asg (pe_op op_add (pe_ix ix_list (pv 4) pe_int (fun _ _ => rfl)) (pe_ix ix_list (pv 6) pe_int (fun _ _ => rfl))) (pg_sub (pv 4) pe_int set_list))) (pss_one (ps_if (pt_cmpR op_eq (pe_ix ix_list (pv 6) pe_int (fun _ _ => rfl)) (pe_ix ix_list (pv 6) pe_int (fun _ _ => rfl)) (nomark _)) (pss_one (ps_asg (pe_ix ix_list (pv 6) pe_int (fun _ _ => rfl)) (pg_sub (pv 4) pe_int set_list))) (pss_one (ps_asg (pe_op op_add (pe_ix ix_list (pv 6) pe_int (fun _ _ => rfl)) (pe_call (ok_l_draw T) (hr.mono (by decide)) rfl T.m_l_draw T.F_l_draw.kp T.b_l_draw .nil pass0 (pa_cons (pv 2) (pa_cons (pe_op op_add (pe_op op_sub (pe_ix ix_list (pv 6) pe_int (fun _ _ => rfl)) (pe_ix ix_list (pv 6) pe_int (fun _ _ => rfl))) pe_int) pa_nil)))) (pg_sub (pv 4) pe_int set_list))))))))))) pss_nil))))
        (pss_one (ps_ret (pv 4))))), ?_⟩
    dsimp only [cxOf, Cx.nox, Cx.wish, L2.start, List.map, List.cons_append, List.nil_append, List.length_cons, List.length_nil, Nat.reduceAdd, Nat.reduceSub, Nat.zero_add, List.replicate_succ, List.replicate_zero]
    walk_at "go"
    refine ⟨by show 4 ≤ sizeLine; decide, fun d hd => ?_⟩
    have hR0 := hR d hd
    have ndc : d ≠ c := fun z => by rw [z, hc] at hd; cases hd
    have ndp : d ≠ p := fun z => by rw [z, hp] at hd; cases hd
    have nar : ar ≠ d := ne_of_none har hd
    have nkd : k ≠ d := ne_of_none hk hd
    have nkc : k ≠ c := fun z => by rw [z, hc] at hk; cases hk
    have nkp : k ≠ p := fun z => by rw [z, hp] at hk; cases hk
    generalize z1 : upd H d _ = H1
    have s1 : Same H H1 := by rw [← z1]; exact same_upd hd
    have k1 : H1 d = some (.lst (vdV ⟨false, false, 0, 1⟩)) := (congrFun z1 d).symm.trans upd_same
    clear z1
    have b01 : But3 c p d H H1 := fun x o _ _ _ e => s1 _ _ e
    walk_at "go"
    refine for_r (n := (gs.length : Int)) gs.length (Int.toNat_natCast _) (by omega) (by omega) (fun i σ H' => (∃ v5 v6, σ = [some (.ref ar), some (.ref c), some (.ref p), some (.ref k), some (.ref d), v5, v6]) ∧ But3 c p d H H' ∧ H' c = some (.lst ((J s t b gs ns sd i).1.map V.int)) ∧ H' p = some (.lst [.int z, .int (J s t b gs ns sd i).2.2]) ∧ H' d = some (.lst (vdV (J s t b gs ns sd i).2.1))) ?start ?turn ?done ?ev
    case start => exact ⟨⟨_, _, rfl⟩, b01, s1 _ _ hc, s1 _ _ hp, k1⟩
    case ev =>
      intro R rr
      walk_at "go"
      refine g_len (.inl (sl (s1 _ _ har))) ?_
      walk_at "go"
      rw [List.length_map, hR0.1]
      exact rr
    case done =>
      rintro σ' H2 ⟨⟨v5, v6, rfl⟩, kb, kc, kp, kd⟩
      walk_at "go"
      exact q d H2 hd (fun x o a1 a2 e => kb x o a1 a2 (ne_of_none e hd) e) kc kp kd
    case turn =>
      rintro i σ' H2 hi ⟨⟨v5, v6, rfl⟩, kb, kc, kp, kd⟩
      have hgi : gs[i]? = some gs[i] := List.getElem?_eq_getElem hi
      obtain ⟨g, eg⟩ : ∃ g, g = gs[i] := ⟨_, rfl⟩
      rw [← eg] at hgi
      have okg : RlOk g := ok g (List.mem_of_getElem? hgi)
      obtain ⟨a, ha⟩ : ∃ a, as[i]? = some a := ⟨_, List.getElem?_eq_getElem (by rw [hR0.1]; exact hi)⟩
      obtain ⟨n1, n2, n3, hf⟩ := hR0.2 i a g ha hgi
      have hlen : (J s t b gs ns sd i).1.length = ns.length := J_len
      obtain ⟨n, hn'⟩ : ∃ n, (J s t b gs ns sd i).1[i]? = some n := ⟨_, List.getElem?_eq_getElem (by omega)⟩
      have eJ : J s t b gs ns sd (i + 1) = ((J s t b gs ns sd i).1.set i (jstep s t b g n (J s t b gs ns sd i).2.1 (J s t b gs ns sd i).2.2).1, (jstep s t b g n (J s t b gs ns sd i).2.1 (J s t b gs ns sd i).2.2).2) := by
        show (match gs[i]? with | none => _ | some g => _) = _
        rw [hgi, hn']
        rfl
      rw [eJ]
      clear eJ
      generalize J s t b gs ns sd i = w at kc kp kd hn' hlen
      obtain ⟨ms, v, s2⟩ := w
      dsimp only at kc kp kd hn' hlen
      have har2 := kb _ _ nac nap nar har
      have hk2 := kb _ _ nkc nkp nkd hk
      have o2 := hf _ kb
      walk_at "go"
      refine g_ixL (sl har2) (at_of (j := i) rfl (by rw [List.getElem?_map, ha]; rfl)) ?_
      walk_at "go"
      refine ⟨a, k, g, s, t, b, rfl, o2, hk2, ?_⟩
      walk_at "go"
      unfold jstep
      cases ea : adm g s t b
      · walk_at "go"
        refine ⟨⟨_, _, rfl⟩, kb, ?_, kp, kd⟩
        show H2 c = some (.lst ((ms.set i n).map V.int))
        rw [set_self hn']
        exact kc
      walk_at "go"
      refine ⟨a, c, p, g, ms, i, n, z, s2, rfl, o2, okg, kc, hn', n1, n2, ncp, kp, fun H3 b3 kc3 kp3 => ?_⟩
      have kb3 : But3 c p d H H3 := fun x o a1 a2 a3 e => b3 _ _ a1 a2 (kb x o a1 a2 a3 e)
      have kd3 := b3 _ _ ndc ndp kd
      obtain ⟨tv3, o3, _⟩ := hf _ kb3
      have nad : a ≠ d := n3
      walk_at "go"
      cases eb : aplB g (n + 1) s2
      · walk_at "go"
        exact ⟨⟨_, _, rfl⟩, kb3, kc3, kp3, kd3⟩
      have lf : ∀ o, But3 c p d H (upd H3 d o) := fun o x o' a1 a2 a3 e => by rw [upd_ne a3]; exact kb3 x o' a1 a2 a3 e
      have uc : ∀ o, (upd H3 d o) c = _ := fun o => (upd_ne ndc.symm).trans kc3
      have up : ∀ o, (upd H3 d o) p = _ := fun o => (upd_ne ndp.symm).trans kp3
      walk_at "go"
      refine g_ixL (sl o3) (at_of (j := 0) rfl rfl) ?_
      walk_at "go"
      refine g_ite (fun h1 => ?_) (fun h1 => ?_)
      · walk_at "go"
        refine g_setL (j := 0) kd3 rfl ?_
        rw [(eff1 h1).1, (eff1 (v := v) h1).2]
        exact ⟨⟨_, _, rfl⟩, lf _, uc _, up _, upd_same⟩
      walk_at "go"
      refine g_ixL (sl o3) (at_of (j := 0) rfl rfl) ?_
      walk_at "go"
      refine g_ite (fun h2 => ?_) (fun h2 => ?_)
      · walk_at "go"
        refine g_setL (j := 1) kd3 rfl ?_
        rw [(eff2 h1 h2).1, (eff2 (v := v) h1 h2).2]
        exact ⟨⟨_, _, rfl⟩, lf _, uc _, up _, upd_same⟩
      walk_at "go"
      refine g_ixL (sl o3) (at_of (j := 0) rfl rfl) ?_
      walk_at "go"
      refine g_ite (fun h3 => ?_) (fun h3 => ?_)
      · walk_at "go"
        refine g_ixL (sl kd3) (at_of (j := 2) rfl rfl) ?_
        walk_at "go"
        refine g_ixL (sl o3) (at_of (j := 1) rfl rfl) ?_
        walk_at "go"
        refine g_setL (j := 2) kd3 rfl ?_
        rw [(eff3 h1 h2 h3).1, (eff3 (v := v) h1 h2 h3).2]
        exact ⟨⟨_, _, rfl⟩, lf _, uc _, up _, upd_same⟩
      walk_at "go"
      refine g_ixL (sl o3) (at_of (j := 1) rfl rfl) ?_
      walk_at "go"
      refine g_ixL (sl o3) (at_of (j := 2) rfl rfl) ?_
      walk_at "go"
      refine g_ite (fun h4 => ?_) (fun h4 => ?_)
      · walk_at "go"
        refine g_ixL (sl o3) (at_of (j := 1) rfl rfl) ?_
        walk_at "go"
        refine g_setL (j := 3) kd3 rfl ?_
        rw [(eff4 h1 h2 h3 h4).1, (eff4 (v := v) h1 h2 h3 h4).2]
        exact ⟨⟨_, _, rfl⟩, lf _, uc _, up _, upd_same⟩
      walk_at "go"
      refine g_ixL (sl o3) (at_of (j := 1) rfl rfl) ?_
      walk_at "go"
      refine g_ixL (sl o3) (at_of (j := 2) rfl rfl) ?_
      walk_at "go"
      refine g_ixL (sl o3) (at_of (j := 1) rfl rfl) ?_
      walk_at "go"
      refine ⟨p, z, _, _, rfl, kp3, fun H4 b4 k4 => ?_⟩
      walk_at "go"
      have kd4 := b4 _ _ ndp kd3
      refine g_setL (j := 3) kd4 rfl ?_
      rw [(eff5 h1 h2 h3 h4).1, (eff5 (v := v) h1 h2 h3 h4).2]
      exact ⟨⟨_, _, rfl⟩, fun x o' a1 a2 a3 e => by rw [upd_ne a3]; exact b4 _ _ a2 (kb3 x o' a1 a2 a3 e), (upd_ne ndc.symm).trans (b4 _ _ ncp kc3), (upd_ne ndp.symm).trans k4, upd_same⟩
end
end My
namespace My
open PySem PySem.Spec L2
local macro_rules | `(tactic| walk_at "side") => `(tactic| first | assumption | decide | omega | exact ⟨by decide, by decide⟩ | exact ⟨by decide, by decide, by decide⟩ | decide +kernel | exact cdivW (by decide +kernel) (by decide +kernel) | exact Or.inl ⟨by omega, by omega⟩ | exact Or.inr ⟨by omega, by omega⟩ | (simp only [List.length_map, List.length_cons, List.length_nil, List.length_append]; omega))
local macro_rules | `(tactic| walk_at "fact") => `(tactic| first | assumption | omega | with_reducible rfl)
local macro_rules | `(tactic| walk_at "use") => `(tactic| fail "use")
local macro_rules | `(tactic| walk_at "go1") => `(tactic| with_reducible first | refine g_seq ?_ | refine g_asg ?_ | refine g_ret ?_ | refine g_ifS ?_ | refine g_drop ?_ | refine g_star ?_ | refine g_nx ?_ | refine g_rt ?_ | refine g_bkE ?_ | refine g_ctE ?_ | refine g_next ?_ | refine g_retN ?_ | refine g_brk ?_ | refine g_ct ?_ | refine g_c ?_ | refine g_op ?_ | refine g_un ?_ | refine g_rI0 ?_ | refine g_rU ?_ | refine g_rEqI ?_ | refine g_rNeI ?_ | refine g_isN ?_ | refine g_rIsB ?_ | refine g_rNotB ?_ | refine g_test ?_ | refine g_B ?_ | refine g_bl ?_ | refine g_and ?_ | refine g_or ?_ | refine g_not ?_ | refine g_andV ?_ | refine g_orV ?_ | refine g_notV ?_ | refine g_if ?_ | refine g_chain ?_ | refine g_yes ?_ | refine g_lc ?_ | refine g_revR ?_ | refine g_rng1 ?_ | refine g_iList ?_ | refine g_nil ?_ | refine g_cons ?_ | refine g_tup ?_ | refine g_lst ?_ | refine g_call ?_ | refine g_CB ?_ | refine g_sl ?_ | refine g_noPart ?_ | refine g_part ?_ | refine g_intE ?_ | refine g_ref ?_ | refine g_fld ?_ | refine g_sfld ?_ | refine g_meth ?_ | refine g_make ?_ | refine g_prop ?_  | refine g_ipI ?_ | refine g_int1 ?_ | refine g_int1B ?_ | refine g_one ?_ | refine g_two ?_ | refine g_isiI ?_ | refine g_isiIB ?_ | refine g_isiB ?_ | refine g_BM ?_ | refine g_BM0 ?_ | refine g_sub ?_)
local macro_rules | `(tactic| walk_at "go") => `(tactic| repeat (first | walk_at "go1" | ((with_reducible refine' g_nameE ?sd_ ?_); case sd_ => dsimp only [List.set_cons_succ, List.set_cons_zero]) | ((with_reducible refine' g_var ?sd_ ?_); case sd_ => exact rfl) | ((with_reducible refine' g_aug ?sd_ ?_); case sd_ => exact rfl) | ((with_reducible refine' g_rI ?sd_ ?_); case sd_ => walk_at "side") | ((with_reducible refine' g_dT ?sd_ ?_); case sd_ => walk_at "fact") | ((with_reducible refine' g_dF ?sd_ ?_); case sd_ => walk_at "fact") | ((with_reducible refine' g_nT ?sd_ ?_); case sd_ => walk_at "fact") | ((with_reducible refine' g_nF ?sd_ ?_); case sd_ => walk_at "fact") | (with_reducible refine g_iT rfl ?_) | (with_reducible refine g_iF rfl ?_) | walk_at "use"))
local macro_rules | `(tactic| walk_at "use") => `(tactic| first | ((with_reducible refine' fd_Verdict_lost ?ho_ ?hv_ ?_); (case ho_ => first | assumption | exact upd_same); (case hv_ => exact rfl)) | ((with_reducible refine' fd_Verdict_marked ?ho_ ?hv_ ?_); (case ho_ => first | assumption | exact upd_same); (case hv_ => exact rfl)) | ((with_reducible refine' fd_Verdict_copies ?ho_ ?hv_ ?_); (case ho_ => first | assumption | exact upd_same); (case hv_ => exact rfl)) | ((with_reducible refine' fd_Verdict_delay ?ho_ ?hv_ ?_); (case ho_ => first | assumption | exact upd_same); (case hv_ => exact rfl)) | ((with_reducible refine' nw_Verdict_lost ?ho_ ?hv_ ?_); (case ho_ => first | assumption | exact upd_same); (case hv_ => exact rfl)) | ((with_reducible refine' nw_Verdict_marked ?ho_ ?hv_ ?_); (case ho_ => first | assumption | exact upd_same); (case hv_ => exact rfl)) | ((with_reducible refine' nw_Verdict_copies ?ho_ ?hv_ ?_); (case ho_ => first | assumption | exact upd_same); (case hv_ => exact rfl)) | ((with_reducible refine' nw_Verdict_delay ?ho_ ?hv_ ?_); (case ho_ => first | assumption | exact upd_same); (case hv_ => exact rfl)) | ((with_reducible refine' st_Verdict_lost ?ho_ ?hv_ ?_); (case ho_ => first | assumption | exact upd_same); (case hv_ => exact Nat.le_of_ble_eq_true rfl)) | ((with_reducible refine' st_Verdict_marked ?ho_ ?hv_ ?_); (case ho_ => first | assumption | exact upd_same); (case hv_ => exact Nat.le_of_ble_eq_true rfl)) | ((with_reducible refine' st_Verdict_copies ?ho_ ?hv_ ?_); (case ho_ => first | assumption | exact upd_same); (case hv_ => exact Nat.le_of_ble_eq_true rfl)) | ((with_reducible refine' st_Verdict_delay ?ho_ ?hv_ ?_); (case ho_ => first | assumption | exact upd_same); (case hv_ => exact Nat.le_of_ble_eq_true rfl)) | ((with_reducible refine' me_Verdict_eq__ ?ho_ ?_); (case ho_ => first | assumption | exact upd_same)) | ((with_reducible refine' me_Verdict_fields ?ho_ ?_); (case ho_ => first | assumption | exact upd_same)))
local macro_rules | `(tactic| walk_at "use") => `(tactic| first | ((with_reducible refine' fd_Faults_seed ?ho_ ?hv_ ?_); (case ho_ => first | assumption | exact upd_same); (case hv_ => exact rfl)) | ((with_reducible refine' fd_Faults_counts ?ho_ ?hv_ ?_); (case ho_ => first | assumption | exact upd_same); (case hv_ => exact rfl)) | ((with_reducible refine' fd_Faults__rules ?ho_ ?hv_ ?_); (case ho_ => first | assumption | exact upd_same); (case hv_ => exact rfl)) | ((with_reducible refine' nw_Faults_seed ?ho_ ?hv_ ?_); (case ho_ => first | assumption | exact upd_same); (case hv_ => exact rfl)) | ((with_reducible refine' nw_Faults_counts ?ho_ ?hv_ ?_); (case ho_ => first | assumption | exact upd_same); (case hv_ => exact rfl)) | ((with_reducible refine' nw_Faults__rules ?ho_ ?hv_ ?_); (case ho_ => first | assumption | exact upd_same); (case hv_ => exact rfl)) | ((with_reducible refine' st_Faults_seed ?ho_ ?hv_ ?_); (case ho_ => first | assumption | exact upd_same); (case hv_ => exact Nat.le_of_ble_eq_true rfl)) | ((with_reducible refine' st_Faults_counts ?ho_ ?hv_ ?_); (case ho_ => first | assumption | exact upd_same); (case hv_ => exact Nat.le_of_ble_eq_true rfl)) | ((with_reducible refine' st_Faults__rules ?ho_ ?hv_ ?_); (case ho_ => first | assumption | exact upd_same); (case hv_ => exact Nat.le_of_ble_eq_true rfl)) | ((with_reducible refine' me_Faults_judge ?ho_ ?_); (case ho_ => first | assumption | exact upd_same)) | ((with_reducible refine' me_Faults_applies ?ho_ ?_); (case ho_ => first | assumption | exact upd_same)) | ((with_reducible refine' me_Faults_apply ?ho_ ?_); (case ho_ => first | assumption | exact upd_same)) | ((with_reducible refine' me_Faults_draw ?ho_ ?_); (case ho_ => first | assumption | exact upd_same)))
local macro_rules | `(tactic| walk_at "use") => `(tactic| first | ((with_reducible refine' fd_Rule_fault ?ho_ ?hv_ ?_); (case ho_ => first | assumption | exact upd_same); (case hv_ => exact rfl)) | ((with_reducible refine' fd_Rule_amount ?ho_ ?hv_ ?_); (case ho_ => first | assumption | exact upd_same); (case hv_ => exact rfl)) | ((with_reducible refine' fd_Rule_until ?ho_ ?hv_ ?_); (case ho_ => first | assumption | exact upd_same); (case hv_ => exact rfl)) | ((with_reducible refine' fd_Rule_sender ?ho_ ?hv_ ?_); (case ho_ => first | assumption | exact upd_same); (case hv_ => exact rfl)) | ((with_reducible refine' fd_Rule_target ?ho_ ?hv_ ?_); (case ho_ => first | assumption | exact upd_same); (case hv_ => exact rfl)) | ((with_reducible refine' fd_Rule_ticks ?ho_ ?hv_ ?_); (case ho_ => first | assumption | exact upd_same); (case hv_ => exact rfl)) | ((with_reducible refine' fd_Rule_nth ?ho_ ?hv_ ?_); (case ho_ => first | assumption | exact upd_same); (case hv_ => exact rfl)) | ((with_reducible refine' fd_Rule_chance ?ho_ ?hv_ ?_); (case ho_ => first | assumption | exact upd_same); (case hv_ => exact rfl)) | ((with_reducible refine' nw_Rule_fault ?ho_ ?hv_ ?_); (case ho_ => first | assumption | exact upd_same); (case hv_ => exact rfl)) | ((with_reducible refine' nw_Rule_amount ?ho_ ?hv_ ?_); (case ho_ => first | assumption | exact upd_same); (case hv_ => exact rfl)) | ((with_reducible refine' nw_Rule_until ?ho_ ?hv_ ?_); (case ho_ => first | assumption | exact upd_same); (case hv_ => exact rfl)) | ((with_reducible refine' nw_Rule_sender ?ho_ ?hv_ ?_); (case ho_ => first | assumption | exact upd_same); (case hv_ => exact rfl)) | ((with_reducible refine' nw_Rule_target ?ho_ ?hv_ ?_); (case ho_ => first | assumption | exact upd_same); (case hv_ => exact rfl)) | ((with_reducible refine' nw_Rule_ticks ?ho_ ?hv_ ?_); (case ho_ => first | assumption | exact upd_same); (case hv_ => exact rfl)) | ((with_reducible refine' nw_Rule_nth ?ho_ ?hv_ ?_); (case ho_ => first | assumption | exact upd_same); (case hv_ => exact rfl)) | ((with_reducible refine' nw_Rule_chance ?ho_ ?hv_ ?_); (case ho_ => first | assumption | exact upd_same); (case hv_ => exact rfl)) | ((with_reducible refine' st_Rule_fault ?ho_ ?hv_ ?_); (case ho_ => first | assumption | exact upd_same); (case hv_ => exact Nat.le_of_ble_eq_true rfl)) | ((with_reducible refine' st_Rule_amount ?ho_ ?hv_ ?_); (case ho_ => first | assumption | exact upd_same); (case hv_ => exact Nat.le_of_ble_eq_true rfl)) | ((with_reducible refine' st_Rule_until ?ho_ ?hv_ ?_); (case ho_ => first | assumption | exact upd_same); (case hv_ => exact Nat.le_of_ble_eq_true rfl)) | ((with_reducible refine' st_Rule_sender ?ho_ ?hv_ ?_); (case ho_ => first | assumption | exact upd_same); (case hv_ => exact Nat.le_of_ble_eq_true rfl)) | ((with_reducible refine' st_Rule_target ?ho_ ?hv_ ?_); (case ho_ => first | assumption | exact upd_same); (case hv_ => exact Nat.le_of_ble_eq_true rfl)) | ((with_reducible refine' st_Rule_ticks ?ho_ ?hv_ ?_); (case ho_ => first | assumption | exact upd_same); (case hv_ => exact Nat.le_of_ble_eq_true rfl)) | ((with_reducible refine' st_Rule_nth ?ho_ ?hv_ ?_); (case ho_ => first | assumption | exact upd_same); (case hv_ => exact Nat.le_of_ble_eq_true rfl)) | ((with_reducible refine' st_Rule_chance ?ho_ ?hv_ ?_); (case ho_ => first | assumption | exact upd_same); (case hv_ => exact Nat.le_of_ble_eq_true rfl)) | ((with_reducible refine' me_Rule_considers ?ho_ ?_); (case ho_ => first | assumption | exact upd_same)) | ((with_reducible refine' me_Rule_fork ?ho_ ?_); (case ho_ => first | assumption | exact upd_same)))
section
variable {P : Program} {w : World} {K : PySem.W.Frag} {mg : Str → Option Value} {base : Heap}
local macro_rules | `(tactic| walk_at "use") => `(tactic| with_reducible first | refine g_augS ?_ | refine g_makeK ?_ | refine g_callN ?_ | refine g_rEqS ?_ | refine g_rNeS ?_ | refine u_isint ?_)
def sp_l_made (C : Addr) : Sp := fun vs H Q _ => ∃ (a : Addr) (g : Rl), vs = [.ref a] ∧ RwO H a g ∧ ∀ r H', H r = none → Same H H' → RlO C H' r g → Q (.ref r) H'
theorem ok_l_made (T : Txt K mg) : FnOk P w K mg base CX0 3 T.f_l_made T.d_l_made ["rule"] (sp_l_made T.C_Rule) := by
  refine T.F_l_made.ok sc_l_made (fun vs H Q E h => ?_) (fun cdv A outer s H vs Q E hr h => ?_)
  · obtain ⟨a, g, rfl, ⟨tv, ho, hv⟩, q⟩ := h
    rfl
  · obtain ⟨a, g, rfl, ⟨tv, ho, hv⟩, q⟩ := h
    have hu := hu_of hr
    obtain ⟨gk_1, kb_1⟩ := kbt_1 T
    refine ⟨_, (pss_one (ps_ret (pe_makeK T.mk_Rule (ok_Rule_init__ T) (hr.mono (by decide)) rfl T.c_Rule kb_1 pass0 (pa_cons (pe_ix ix_list (pv 0) pe_int (fun _ _ => rfl)) pa_nil) (pk_cons (pe_ix ix_list (pv 0) pe_int (fun _ _ => rfl)) (pk_cons (pe_ix ix_list (pv 0) pe_int (fun _ _ => rfl)) (pk_cons (pe_ix ix_list (pv 0) pe_int (fun _ _ => rfl)) (pk_cons (pe_ix ix_list (pv 0) pe_int (fun _ _ => rfl)) (pk_cons (pe_ix ix_list (pv 0) pe_int (fun _ _ => rfl)) (pk_cons (pe_ix ix_list (pv 0) pe_int (fun _ _ => rfl)) (pk_cons (pe_ix ix_list (pv 0) pe_int (fun _ _ => rfl)) pk_nil)))))))))), ?_⟩
    dsimp only [cxOf, Cx.nox, Cx.wish, L2.start, List.map, List.cons_append, List.nil_append, List.length_cons, List.length_nil, Nat.reduceAdd, Nat.reduceSub, Nat.zero_add, List.replicate_succ, List.replicate_zero]
    walk_at "go"
    refine g_ixL (sl ho) (at_of (j := 0) rfl rfl) ?_
    walk_at "go"
    refine g_ixL (sl ho) (at_of (j := 1) rfl rfl) ?_
    walk_at "go"
    refine g_ixL (sl ho) (at_of (j := 2) rfl rfl) ?_
    walk_at "go"
    refine g_ixL (sl ho) (at_of (j := 3) rfl rfl) ?_
    walk_at "go"
    refine g_ixL (sl ho) (at_of (j := 4) rfl rfl) ?_
    walk_at "go"
    refine g_ixL (sl ho) (at_of (j := 5) rfl rfl) ?_
    walk_at "go"
    refine g_ixL (sl ho) (at_of (j := 6) rfl rfl) ?_
    walk_at "go"
    refine g_ixL (sl ho) (at_of (j := 7) rfl rfl) ?_
    walk_at "go"
    refine ⟨rfl, rfl, fun x dx2 nx ndx nxd => ?_⟩
    have b1 : But x H (upd (upd H dx2 (.own x)) x (.ins T.C_Rule dx2 [])) := ((But.of (same_upd (o := .own x) ndx))).upd
    refine ⟨x, dx2, _, _, _, _, _, _, _, _, rfl, upd_same, rfl, ?_⟩
    have s1 := (b1.upd (o := .ins T.C_Rule dx2 (obj ky_Rule [.str g.fault, .int g.amount, .int g.upto, oV g.sender, oV g.target, tv, oV g.nth, oV g.chance]))).same nx
    exact q x _ nx s1 ⟨dx2, tv, upd_same, hv.same s1⟩
def sp_l_packet (K : PySem.W.Frag) : Sp := fun vs H Q _ => ∃ (c k m : Int), vs = [.int c, .int k, .int m] ∧ 0 < m ∧ m ≤ 70000 ∧ ∀ t (x y z : Int) H', H t = none → Same H H' → H' t = some (.tup [.int x, .int y, .int z]) → Q (.ref t) H'
theorem ok_l_packet (T : Txt K mg) : FnOk P w K mg base CX0 2 T.f_l_packet T.d_l_packet ["cell", "k", "wide"] (sp_l_packet K) := by
  refine T.F_l_packet.ok sc_l_packet (fun vs H Q E h => ?_) (fun cdv A outer s H vs Q E hr h => ?_)
  · obtain ⟨c, k, m, rfl, m0, m1, q⟩ := h
    rfl
  · obtain ⟨c, k, m, rfl, m0, m1, q⟩ := h
    have hu := hu_of hr
    refine ⟨_, (pss_cons (ps_set (i := 3) sc_l_packet.nd rfl (Or.inl rfl) (pe_call (ok_l_start T) (hr.mono (by decide)) rfl T.m_l_start T.F_l_start.kp T.b_l_start .nil pass0 (pa_cons (pv 0) (pa_cons (pe_op op_add (pv 1) pe_int) pa_nil))))
        (pss_one (ps_ret (pe_tup (pa_cons (pe_call (ok_l_digit T) (hr.mono (by decide)) rfl T.m_l_digit T.F_l_digit.kp T.b_l_digit .nil pass0 (pa_cons (pv 3) (pa_cons (pv 2) pa_nil))) (pa_cons (pe_call (ok_l_digit T) (hr.mono (by decide)) rfl T.m_l_digit T.F_l_digit.kp T.b_l_digit .nil pass0 (pa_cons (pv 3) (pa_cons (pv 2) pa_nil))) (pa_cons (pe_call (ok_l_digit T) (hr.mono (by decide)) rfl T.m_l_digit T.F_l_digit.kp T.b_l_digit .nil pass0 (pa_cons (pv 3) (pa_cons (pv 2) pa_nil))) pa_nil))))))), ?_⟩
    dsimp only [cxOf, Cx.nox, Cx.wish, L2.start, List.map, List.cons_append, List.nil_append, List.length_cons, List.length_nil, Nat.reduceAdd, Nat.reduceSub, Nat.zero_add, List.replicate_succ, List.replicate_zero]
    walk_at "go"
    refine u_start fun p n hp => ?_
    walk_at "go"
    refine u_digit upd_same m0 (by omega) ?_
    walk_at "go"
    refine u_digit upd_same m0 (by omega) ?_
    walk_at "go"
    refine u_digit upd_same m0 (by omega) ?_
    walk_at "go"
    refine ⟨by show 3 ≤ sizeLine; decide, fun t ht => ?_⟩
    generalize z1 : upd (upd (upd (upd H p _) p _) p _) p _ = H1 at ht
    have b1 : But p H H1 := by rw [← z1]; exact But.refl.upd.upd.upd.upd
    have s1 := b1.same hp
    refine q t _ _ _ _ (s1.free ht) (s1.trans (same_upd ht)) upd_same
def sp_l_same (C : Addr) : Sp := fun vs H Q _ => ∃ (p d : Addr) (v : Vd), vs = [.ref p, .ref d] ∧ VdO C H p v ∧ H d = some (.lst (vdV v)) ∧ Q (.bl true) H
theorem ok_l_same (T : Txt K mg) : FnOk P w K mg base CX0 3 T.f_l_same T.d_l_same ["told", "due"] (sp_l_same T.C_Verdict) := by
  refine T.F_l_same.ok sc_l_same (fun vs H Q E h => ?_) (fun cdv A outer s H vs Q E hr h => ?_)
  · obtain ⟨p, d, ⟨l, m, c, y⟩, rfl, hO, hd, q⟩ := h
    rfl
  · obtain ⟨p, d, ⟨l, m, c, y⟩, rfl, hO, hd, q⟩ := h
    have hu := hu_of hr
    refine ⟨_, (pss_cons (ps_if (PW.pt (pw_or (pt_not (pt_val (pe_callB call_isi (by rfl) T.n_isinstance (by decide +kernel) (pa_cons (pv 0) (pa_cons (pe_glob (v := .ref T.C_Verdict) (by rfl) T.c_Verdict rfl) pa_nil))))) (pw_or (pt_not (pt_val (pe_callB call_isi (by rfl) T.n_isinstance (by decide +kernel) (pa_cons (pe_fld (pv 0) rfl) (pa_cons (pe_bltn (v := .ty "bool") (by rfl) T.n_bool (by decide +kernel) rfl) pa_nil))))) (pw_or1 (pt_not (pt_val (pe_callB call_isi (by rfl) T.n_isinstance (by decide +kernel) (pa_cons (pe_fld (pv 0) rfl) (pa_cons (pe_bltn (v := .ty "bool") (by rfl) T.n_bool (by decide +kernel) rfl) pa_nil))))))))) (pss_one (ps_ret pe_bl)) pss_nil)
        (pss_cons (ps_if (PW.pt (pw_or (pt_cmpR op_ne (pe_fld (pv 0) rfl) (pe_ix ix_list (pv 1) pe_int (fun _ _ => rfl)) (nomark _)) (pw_or1 (pt_cmpR op_ne (pe_fld (pv 0) rfl) (pe_ix ix_list (pv 1) pe_int (fun _ _ => rfl)) (nomark _))))) (pss_one (ps_ret pe_bl)) pss_nil)
        (pss_cons (ps_if (PW.pt (pw_or (pt_not (pt_val (pe_call (ok_l_is_integer T) (hr.mono (by decide)) rfl T.m_l_is_integer T.F_l_is_integer.kp T.b_l_is_integer .nil pass0 (pa_cons (pe_fld (pv 0) rfl) pa_nil)))) (pw_or1 (pt_not (pt_val (pe_call (ok_l_is_integer T) (hr.mono (by decide)) rfl T.m_l_is_integer T.F_l_is_integer.kp T.b_l_is_integer .nil pass0 (pa_cons (pe_fld (pv 0) rfl) pa_nil))))))) (pss_one (ps_ret pe_bl)) pss_nil)
        (pss_cons (ps_if (PW.pt (pw_or (pt_cmpR op_ne (pe_fld (pv 0) rfl) (pe_ix ix_list (pv 1) pe_int (fun _ _ => rfl)) (nomark _)) (pw_or1 (pt_cmpR op_ne (pe_fld (pv 0) rfl) (pe_ix ix_list (pv 1) pe_int (fun _ _ => rfl)) (nomark _))))) (pss_one (ps_ret pe_bl)) pss_nil)
        (pss_one (ps_ret (pe_and (pe_call (ok_l_is_integer T) (hr.mono (by decide)) rfl T.m_l_is_integer T.F_l_is_integer.kp T.b_l_is_integer .nil pass0 (pa_cons (pe_prop (pv 0) T.k_Verdict T.p_Verdict_arrivals (ok_Verdict_arrivals T) (hr.mono (by decide)) T.b_Verdict_arrivals .nil pass0 (by rfl)) pa_nil)) (pe_one (pe_cmpR op_eq (pe_prop (pv 0) T.k_Verdict T.p_Verdict_arrivals (ok_Verdict_arrivals T) (hr.mono (by decide)) T.b_Verdict_arrivals .nil pass0 (by rfl)) (pe_op op_mul (pe_op op_sub pe_int (pe_callTy call_int1 (by rfl) T.n_int (by decide +kernel) (pa_cons (pe_ix ix_list (pv 1) pe_int (fun _ _ => rfl)) pa_nil))) (pe_op op_add (pe_ix ix_list (pv 1) pe_int (fun _ _ => rfl)) pe_int)) (nomark _)))))))))), ?_⟩
    dsimp only [cxOf, Cx.nox, Cx.wish, L2.start, List.map, List.cons_append, List.nil_append, List.length_cons, List.length_nil, Nat.reduceAdd, Nat.reduceSub, Nat.zero_add, List.replicate_succ, List.replicate_zero]
    obtain ⟨dx, ho⟩ := id hO
    dsimp only at ho
    walk_at "go"
    refine g_isi (.own _) (.base (T.i_Verdict ho)) (if_pos (beq_self_eq_true _)) ?_
    walk_at "go"
    refine g_ixL (sl hd) (at_of (j := 0) rfl rfl) ?_
    refine g_rNe rfl ?_
    walk_at "go"
    refine g_ixL (sl hd) (at_of (j := 1) rfl rfl) ?_
    refine g_rNe rfl ?_
    walk_at "go"
    refine g_ixL (sl hd) (at_of (j := 2) rfl rfl) ?_
    refine g_rNeI (i := c) (j := c) ?_
    walk_at "go"
    refine g_ixL (sl hd) (at_of (j := 3) rfl rfl) ?_
    refine g_rNeI (i := y) (j := y) ?_
    walk_at "go"
    refine ⟨p, dx, _, rfl, ho, p, ⟨l, m, c, y⟩, rfl, hO, ?_⟩
    walk_at "go"
    refine ⟨p, dx, _, rfl, ho, p, ⟨l, m, c, y⟩, rfl, hO, ?_⟩
    walk_at "go"
    refine g_ixL (sl hd) (at_of (j := 0) rfl rfl) ?_
    walk_at "go"
    refine g_ixL (sl hd) (at_of (j := 2) rfl rfl) ?_
    walk_at "go"
    cases l
    · rw [decide_eq_true (by show c + 1 = (1 - (if false = true then 1 else 0)) * (c + 1); rw [if_neg (by decide)]; omega)]
      exact q
    · rw [decide_eq_true (by show 0 = (1 - (if true = true then 1 else 0)) * (c + 1); rw [if_pos rfl]; omega)]
      exact q
theorem g_notT {ta : TE} {σ : St} {H : Hp} {Q : VK} (h : ta σ H fun x H1 => ∃ k, TruV K x H1 k ∧ Q (.bl (!k)) H1) : tNotT K ta σ H Q := h
local macro_rules | `(tactic| walk_at "use") => `(tactic| with_reducible refine g_notT ?_)
theorem eq_self {v : Vd} : eqV v v = true := by
  unfold eqV
  simp
theorem eq_l {l m : Bool} {c y : Int} : eqV ⟨l, m, c, y⟩ ⟨!l, m, c, y⟩ = false := by
  unfold eqV
  cases l <;> rfl
theorem eq_m {l m : Bool} {c y : Int} : eqV ⟨l, m, c, y⟩ ⟨l, !m, c, y⟩ = false := by
  unfold eqV
  cases l <;> cases m <;> rfl
theorem eq_c {l m : Bool} {c y : Int} : eqV ⟨l, m, c, y⟩ ⟨l, m, c + 1, y⟩ = false := by
  unfold eqV
  have : (c == c + 1) = false := by rw [beq_eq_false_iff_ne]; omega
  dsimp only
  rw [this]
  simp
theorem eq_y {l m : Bool} {c y : Int} : eqV ⟨l, m, c, y⟩ ⟨l, m, c, y + 1⟩ = false := by
  unfold eqV
  have : (y == y + 1) = false := by rw [beq_eq_false_iff_ne]; omega
  dsimp only
  rw [this]
  simp
def sp_l_equal (C : Addr) : Sp := fun vs H Q _ => ∃ (p d : Addr) (v : Vd), vs = [.ref p, .ref d] ∧ VdO C H p v ∧ H d = some (.lst (vdV v)) ∧ ∀ H', Same H H' → Q (.bl true) H'
theorem kbt_2 {K : PySem.W.Frag} {mg : Str → Option Value} (T : Txt K mg) : ∃ g, KBn K T.d_Verdict_init__ ["self", "lost", "marked", "copies", "delay"] 1 ["lost", "marked", "copies", "delay"] g (fun vs zs => vs ++ ((zs.drop 0).take 1 ++ ((zs.drop 1).take 1 ++ ((zs.drop 2).take 1 ++ ((zs.drop 3).take 1))))) := by
  obtain ⟨mv, h⟩ := T.F_Verdict_init__.kbinds0 (ps := ["self", "lost", "marked", "copies", "delay"]) 1 ["lost", "marked", "copies", "delay"] [] (fun vs mz zs => vs ++ ((zs.drop 0).take 1 ++ ((zs.drop 1).take 1 ++ ((zs.drop 2).take 1 ++ ((zs.drop 3).take 1))))) (by intro h; cases h) (fun q hq => List.Sublist.mem hq (.cons _ (.cons _ (.cons _ (.cons _ (.slnil)))))) (fun r1 r2 r3 => r1.append (((r3.drop 0).take 1).append (((r3.drop 1).take 1).append (((r3.drop 2).take 1).append ((r3.drop 3).take 1))))) (fun D doc pm an cdv ct us mv ws l1 l2 l3 => match us, l1, mv, l2, ws, l3 with | [_], _, [], _, [_, _, _, _], _ => (by show _ = _; kernel_rfl))
  exact ⟨_, h⟩
theorem ok_l_equal (T : Txt K mg) : FnOk P w K mg base CX0 3 T.f_l_equal T.d_l_equal ["told", "due"] (sp_l_equal T.C_Verdict) := by
  refine T.F_l_equal.ok sc_l_equal (fun vs H Q E h => ?_) (fun cdv A outer s H vs Q E hr h => ?_)
  · obtain ⟨p, d, ⟨l, m, c, y⟩, rfl, hO, hd, q⟩ := h
    rfl
  · obtain ⟨p, d, ⟨l, m, c, y⟩, rfl, hO, hd, q⟩ := h
    have hu := hu_of hr
    obtain ⟨gk_2, kb_2⟩ := kbt_2 T
    refine ⟨_, (pss_cons (ps_if (pt_not (pt_cmpR (op_eqO (ok_Verdict_eq__ T) (hr.mono (by decide)) T.a_Verdict_eq__ T.q_Verdict T.b_Verdict_eq__ pass0) (pv 0) (pe_makeK0 T.mk_Verdict (ok_Verdict_init__ T) (hr.mono (by decide)) rfl T.c_Verdict kb_2 pass0 (pk_cons (pe_ix ix_list (pv 1) pe_int (fun _ _ => rfl)) (pk_cons (pe_ix ix_list (pv 1) pe_int (fun _ _ => rfl)) (pk_cons (pe_ix ix_list (pv 1) pe_int (fun _ _ => rfl)) (pk_cons (pe_ix ix_list (pv 1) pe_int (fun _ _ => rfl)) pk_nil))))) (nomark _))) (pss_one (ps_ret pe_bl)) pss_nil)
        (pss_cons (ps_if (pt_cmpR (op_eqO (ok_Verdict_eq__ T) (hr.mono (by decide)) T.a_Verdict_eq__ T.q_Verdict T.b_Verdict_eq__ pass0) (pv 0) (pe_makeK0 T.mk_Verdict (ok_Verdict_init__ T) (hr.mono (by decide)) rfl T.c_Verdict kb_2 pass0 (pk_cons (pe_notT (pe_ix ix_list (pv 1) pe_int (fun _ _ => rfl))) (pk_cons (pe_ix ix_list (pv 1) pe_int (fun _ _ => rfl)) (pk_cons (pe_ix ix_list (pv 1) pe_int (fun _ _ => rfl)) (pk_cons (pe_ix ix_list (pv 1) pe_int (fun _ _ => rfl)) pk_nil))))) (nomark _)) (pss_one (ps_ret pe_bl)) pss_nil)
        (pss_cons (ps_if (pt_cmpR (op_eqO (ok_Verdict_eq__ T) (hr.mono (by decide)) T.a_Verdict_eq__ T.q_Verdict T.b_Verdict_eq__ pass0) (pv 0) (pe_makeK0 T.mk_Verdict (ok_Verdict_init__ T) (hr.mono (by decide)) rfl T.c_Verdict kb_2 pass0 (pk_cons (pe_ix ix_list (pv 1) pe_int (fun _ _ => rfl)) (pk_cons (pe_notT (pe_ix ix_list (pv 1) pe_int (fun _ _ => rfl))) (pk_cons (pe_ix ix_list (pv 1) pe_int (fun _ _ => rfl)) (pk_cons (pe_ix ix_list (pv 1) pe_int (fun _ _ => rfl)) pk_nil))))) (nomark _)) (pss_one (ps_ret pe_bl)) pss_nil)
        (pss_cons (ps_if (pt_cmpR (op_eqO (ok_Verdict_eq__ T) (hr.mono (by decide)) T.a_Verdict_eq__ T.q_Verdict T.b_Verdict_eq__ pass0) (pv 0) (pe_makeK0 T.mk_Verdict (ok_Verdict_init__ T) (hr.mono (by decide)) rfl T.c_Verdict kb_2 pass0 (pk_cons (pe_ix ix_list (pv 1) pe_int (fun _ _ => rfl)) (pk_cons (pe_ix ix_list (pv 1) pe_int (fun _ _ => rfl)) (pk_cons (pe_op op_add (pe_ix ix_list (pv 1) pe_int (fun _ _ => rfl)) pe_int) (pk_cons (pe_ix ix_list (pv 1) pe_int (fun _ _ => rfl)) pk_nil))))) (nomark _)) (pss_one (ps_ret pe_bl)) pss_nil)
        (pss_one (ps_ret (pe_not (pe_cmpR (op_eqO (ok_Verdict_eq__ T) (hr.mono (by decide)) T.a_Verdict_eq__ T.q_Verdict T.b_Verdict_eq__ pass0) (pv 0) (pe_makeK0 T.mk_Verdict (ok_Verdict_init__ T) (hr.mono (by decide)) rfl T.c_Verdict kb_2 pass0 (pk_cons (pe_ix ix_list (pv 1) pe_int (fun _ _ => rfl)) (pk_cons (pe_ix ix_list (pv 1) pe_int (fun _ _ => rfl)) (pk_cons (pe_ix ix_list (pv 1) pe_int (fun _ _ => rfl)) (pk_cons (pe_op op_add (pe_ix ix_list (pv 1) pe_int (fun _ _ => rfl)) pe_int) pk_nil))))) (nomark _))))))))), ?_⟩
    dsimp only [cxOf, Cx.nox, Cx.wish, L2.start, List.map, List.cons_append, List.nil_append, List.length_cons, List.length_nil, Nat.reduceAdd, Nat.reduceSub, Nat.zero_add, List.replicate_succ, List.replicate_zero]
    have mk : ∀ {H0 : Hp} {x dx2 : Addr} (o : HO), H0 x = none → H0 dx2 = none → Same H0 (upd (upd (upd H0 dx2 (.own x)) x (.ins T.C_Verdict dx2 [])) x o) := fun {H0 x dx2} o nx ndx => ((But.of (same_upd (o := .own x) ndx)).upd.upd).same nx
    walk_at "go"
    refine g_ixL (sl hd) (at_of (j := 0) rfl rfl) ?_
    walk_at "go"
    refine g_ixL (sl hd) (at_of (j := 1) rfl rfl) ?_
    walk_at "go"
    refine g_ixL (sl hd) (at_of (j := 2) rfl rfl) ?_
    walk_at "go"
    refine g_ixL (sl hd) (at_of (j := 3) rfl rfl) ?_
    walk_at "go"
    refine ⟨rfl, rfl, fun x0 y0 nx0 ny0 nd0 => ?_⟩
    refine ⟨x0, y0, ⟨l, m, c, y⟩, rfl, upd_same, rfl, ?_⟩
    have t0 := mk (.ins T.C_Verdict y0 (obj ky_Verdict [.bl (l), .bl (m), .int (c), .int (y)])) nx0 ny0
    have w0 : VdO T.C_Verdict (upd (upd (upd H y0 (.own x0)) x0 (.ins T.C_Verdict y0 [])) x0 (.ins T.C_Verdict y0 (obj ky_Verdict [.bl (l), .bl (m), .int (c), .int (y)]))) x0 ⟨l, m, c, y⟩ := ⟨y0, upd_same⟩
    obtain ⟨dp0, ho0⟩ := hO.same t0
    refine ⟨p, dp0, _, rfl, ho0, .inl ⟨x0, _, _, rfl, upd_same⟩, p, x0, _, _, rfl, hO.same t0, w0, fun H1 s0 => ⟨_, rfl, ?_⟩⟩
    rw [eq_self]
    have hO1 := (hO.same t0).same s0
    have hd1 := s0 _ _ (t0 _ _ hd)
    have sm1 : Same H H1 := t0.trans s0
    walk_at "go"
    refine g_ixL (sl hd1) (at_of (j := 0) rfl rfl) ?_
    refine ⟨l, rfl, ?_⟩
    walk_at "go"
    refine g_ixL (sl hd1) (at_of (j := 1) rfl rfl) ?_
    walk_at "go"
    refine g_ixL (sl hd1) (at_of (j := 2) rfl rfl) ?_
    walk_at "go"
    refine g_ixL (sl hd1) (at_of (j := 3) rfl rfl) ?_
    walk_at "go"
    refine ⟨rfl, rfl, fun x1 y1 nx1 ny1 nd1 => ?_⟩
    refine ⟨x1, y1, ⟨!l, m, c, y⟩, rfl, upd_same, rfl, ?_⟩
    have t1 := mk (.ins T.C_Verdict y1 (obj ky_Verdict [.bl (!l), .bl (m), .int (c), .int (y)])) nx1 ny1
    have w1 : VdO T.C_Verdict (upd (upd (upd H1 y1 (.own x1)) x1 (.ins T.C_Verdict y1 [])) x1 (.ins T.C_Verdict y1 (obj ky_Verdict [.bl (!l), .bl (m), .int (c), .int (y)]))) x1 ⟨!l, m, c, y⟩ := ⟨y1, upd_same⟩
    obtain ⟨dp1, ho1⟩ := hO1.same t1
    refine ⟨p, dp1, _, rfl, ho1, .inl ⟨x1, _, _, rfl, upd_same⟩, p, x1, _, _, rfl, hO1.same t1, w1, fun H2 s1 => ⟨_, rfl, ?_⟩⟩
    rw [eq_l]
    have hO2 := (hO1.same t1).same s1
    have hd2 := s1 _ _ (t1 _ _ hd1)
    have sm2 : Same H H2 := sm1.trans (t1.trans s1)
    walk_at "go"
    refine g_ixL (sl hd2) (at_of (j := 0) rfl rfl) ?_
    walk_at "go"
    refine g_ixL (sl hd2) (at_of (j := 1) rfl rfl) ?_
    refine ⟨m, rfl, ?_⟩
    walk_at "go"
    refine g_ixL (sl hd2) (at_of (j := 2) rfl rfl) ?_
    walk_at "go"
    refine g_ixL (sl hd2) (at_of (j := 3) rfl rfl) ?_
    walk_at "go"
    refine ⟨rfl, rfl, fun x2 y2 nx2 ny2 nd2 => ?_⟩
    refine ⟨x2, y2, ⟨l, !m, c, y⟩, rfl, upd_same, rfl, ?_⟩
    have t2 := mk (.ins T.C_Verdict y2 (obj ky_Verdict [.bl (l), .bl (!m), .int (c), .int (y)])) nx2 ny2
    have w2 : VdO T.C_Verdict (upd (upd (upd H2 y2 (.own x2)) x2 (.ins T.C_Verdict y2 [])) x2 (.ins T.C_Verdict y2 (obj ky_Verdict [.bl (l), .bl (!m), .int (c), .int (y)]))) x2 ⟨l, !m, c, y⟩ := ⟨y2, upd_same⟩
    obtain ⟨dp2, ho2⟩ := hO2.same t2
    refine ⟨p, dp2, _, rfl, ho2, .inl ⟨x2, _, _, rfl, upd_same⟩, p, x2, _, _, rfl, hO2.same t2, w2, fun H3 s2 => ⟨_, rfl, ?_⟩⟩
    rw [eq_m]
    have hO3 := (hO2.same t2).same s2
    have hd3 := s2 _ _ (t2 _ _ hd2)
    have sm3 : Same H H3 := sm2.trans (t2.trans s2)
    walk_at "go"
    refine g_ixL (sl hd3) (at_of (j := 0) rfl rfl) ?_
    walk_at "go"
    refine g_ixL (sl hd3) (at_of (j := 1) rfl rfl) ?_
    walk_at "go"
    refine g_ixL (sl hd3) (at_of (j := 2) rfl rfl) ?_
    walk_at "go"
    refine g_ixL (sl hd3) (at_of (j := 3) rfl rfl) ?_
    walk_at "go"
    refine ⟨rfl, rfl, fun x3 y3 nx3 ny3 nd3 => ?_⟩
    refine ⟨x3, y3, ⟨l, m, c + 1, y⟩, rfl, upd_same, rfl, ?_⟩
    have t3 := mk (.ins T.C_Verdict y3 (obj ky_Verdict [.bl (l), .bl (m), .int (c + 1), .int (y)])) nx3 ny3
    have w3 : VdO T.C_Verdict (upd (upd (upd H3 y3 (.own x3)) x3 (.ins T.C_Verdict y3 [])) x3 (.ins T.C_Verdict y3 (obj ky_Verdict [.bl (l), .bl (m), .int (c + 1), .int (y)]))) x3 ⟨l, m, c + 1, y⟩ := ⟨y3, upd_same⟩
    obtain ⟨dp3, ho3⟩ := hO3.same t3
    refine ⟨p, dp3, _, rfl, ho3, .inl ⟨x3, _, _, rfl, upd_same⟩, p, x3, _, _, rfl, hO3.same t3, w3, fun H4 s3 => ⟨_, rfl, ?_⟩⟩
    rw [eq_c]
    have hO4 := (hO3.same t3).same s3
    have hd4 := s3 _ _ (t3 _ _ hd3)
    have sm4 : Same H H4 := sm3.trans (t3.trans s3)
    walk_at "go"
    refine g_ixL (sl hd4) (at_of (j := 0) rfl rfl) ?_
    walk_at "go"
    refine g_ixL (sl hd4) (at_of (j := 1) rfl rfl) ?_
    walk_at "go"
    refine g_ixL (sl hd4) (at_of (j := 2) rfl rfl) ?_
    walk_at "go"
    refine g_ixL (sl hd4) (at_of (j := 3) rfl rfl) ?_
    walk_at "go"
    refine ⟨rfl, rfl, fun x4 y4 nx4 ny4 nd4 => ?_⟩
    refine ⟨x4, y4, ⟨l, m, c, y + 1⟩, rfl, upd_same, rfl, ?_⟩
    have t4 := mk (.ins T.C_Verdict y4 (obj ky_Verdict [.bl (l), .bl (m), .int (c), .int (y + 1)])) nx4 ny4
    have w4 : VdO T.C_Verdict (upd (upd (upd H4 y4 (.own x4)) x4 (.ins T.C_Verdict y4 [])) x4 (.ins T.C_Verdict y4 (obj ky_Verdict [.bl (l), .bl (m), .int (c), .int (y + 1)]))) x4 ⟨l, m, c, y + 1⟩ := ⟨y4, upd_same⟩
    obtain ⟨dp4, ho4⟩ := hO4.same t4
    refine ⟨p, dp4, _, rfl, ho4, .inl ⟨x4, _, _, rfl, upd_same⟩, p, x4, _, _, rfl, hO4.same t4, w4, fun H5 s4 => ⟨_, rfl, ?_⟩⟩
    rw [eq_y]
    have hO5 := (hO4.same t4).same s4
    have hd5 := s4 _ _ (t4 _ _ hd4)
    have sm5 : Same H H5 := sm4.trans (t4.trans s4)
    walk_at "go"
    exact q _ sm5
end
end My
namespace My
open PySem PySem.Spec L2
local macro_rules | `(tactic| walk_at "side") => `(tactic| first | assumption | decide | omega | exact ⟨by decide, by decide⟩ | exact ⟨by decide, by decide, by decide⟩ | decide +kernel | exact cdivW (by decide +kernel) (by decide +kernel) | exact Or.inl ⟨by omega, by omega⟩ | exact Or.inr ⟨by omega, by omega⟩ | (simp only [List.length_map, List.length_cons, List.length_nil, List.length_append]; omega))
local macro_rules | `(tactic| walk_at "fact") => `(tactic| first | assumption | omega | with_reducible rfl)
local macro_rules | `(tactic| walk_at "use") => `(tactic| fail "use")
local macro_rules | `(tactic| walk_at "go1") => `(tactic| with_reducible first | refine g_seq ?_ | refine g_asg ?_ | refine g_ret ?_ | refine g_ifS ?_ | refine g_drop ?_ | refine g_star ?_ | refine g_nx ?_ | refine g_rt ?_ | refine g_bkE ?_ | refine g_ctE ?_ | refine g_next ?_ | refine g_retN ?_ | refine g_brk ?_ | refine g_ct ?_ | refine g_c ?_ | refine g_op ?_ | refine g_un ?_ | refine g_rI0 ?_ | refine g_rU ?_ | refine g_rEqI ?_ | refine g_rNeI ?_ | refine g_isN ?_ | refine g_rIsB ?_ | refine g_rNotB ?_ | refine g_test ?_ | refine g_B ?_ | refine g_bl ?_ | refine g_and ?_ | refine g_or ?_ | refine g_not ?_ | refine g_andV ?_ | refine g_orV ?_ | refine g_notV ?_ | refine g_if ?_ | refine g_chain ?_ | refine g_yes ?_ | refine g_lc ?_ | refine g_revR ?_ | refine g_rng1 ?_ | refine g_iList ?_ | refine g_nil ?_ | refine g_cons ?_ | refine g_tup ?_ | refine g_lst ?_ | refine g_call ?_ | refine g_CB ?_ | refine g_sl ?_ | refine g_noPart ?_ | refine g_part ?_ | refine g_intE ?_ | refine g_ref ?_ | refine g_fld ?_ | refine g_sfld ?_ | refine g_meth ?_ | refine g_make ?_ | refine g_prop ?_  | refine g_ipI ?_ | refine g_int1 ?_ | refine g_int1B ?_ | refine g_one ?_ | refine g_two ?_ | refine g_isiI ?_ | refine g_isiIB ?_ | refine g_isiB ?_ | refine g_BM ?_ | refine g_BM0 ?_ | refine g_sub ?_)
local macro_rules | `(tactic| walk_at "go") => `(tactic| repeat (first | walk_at "go1" | ((with_reducible refine' g_nameE ?sd_ ?_); case sd_ => dsimp only [List.set_cons_succ, List.set_cons_zero]) | ((with_reducible refine' g_var ?sd_ ?_); case sd_ => exact rfl) | ((with_reducible refine' g_aug ?sd_ ?_); case sd_ => exact rfl) | ((with_reducible refine' g_rI ?sd_ ?_); case sd_ => walk_at "side") | ((with_reducible refine' g_dT ?sd_ ?_); case sd_ => walk_at "fact") | ((with_reducible refine' g_dF ?sd_ ?_); case sd_ => walk_at "fact") | ((with_reducible refine' g_nT ?sd_ ?_); case sd_ => walk_at "fact") | ((with_reducible refine' g_nF ?sd_ ?_); case sd_ => walk_at "fact") | (with_reducible refine g_iT rfl ?_) | (with_reducible refine g_iF rfl ?_) | walk_at "use"))
local macro_rules | `(tactic| walk_at "use") => `(tactic| first | ((with_reducible refine' fd_Verdict_lost ?ho_ ?hv_ ?_); (case ho_ => first | assumption | exact upd_same); (case hv_ => exact rfl)) | ((with_reducible refine' fd_Verdict_marked ?ho_ ?hv_ ?_); (case ho_ => first | assumption | exact upd_same); (case hv_ => exact rfl)) | ((with_reducible refine' fd_Verdict_copies ?ho_ ?hv_ ?_); (case ho_ => first | assumption | exact upd_same); (case hv_ => exact rfl)) | ((with_reducible refine' fd_Verdict_delay ?ho_ ?hv_ ?_); (case ho_ => first | assumption | exact upd_same); (case hv_ => exact rfl)) | ((with_reducible refine' nw_Verdict_lost ?ho_ ?hv_ ?_); (case ho_ => first | assumption | exact upd_same); (case hv_ => exact rfl)) | ((with_reducible refine' nw_Verdict_marked ?ho_ ?hv_ ?_); (case ho_ => first | assumption | exact upd_same); (case hv_ => exact rfl)) | ((with_reducible refine' nw_Verdict_copies ?ho_ ?hv_ ?_); (case ho_ => first | assumption | exact upd_same); (case hv_ => exact rfl)) | ((with_reducible refine' nw_Verdict_delay ?ho_ ?hv_ ?_); (case ho_ => first | assumption | exact upd_same); (case hv_ => exact rfl)) | ((with_reducible refine' st_Verdict_lost ?ho_ ?hv_ ?_); (case ho_ => first | assumption | exact upd_same); (case hv_ => exact Nat.le_of_ble_eq_true rfl)) | ((with_reducible refine' st_Verdict_marked ?ho_ ?hv_ ?_); (case ho_ => first | assumption | exact upd_same); (case hv_ => exact Nat.le_of_ble_eq_true rfl)) | ((with_reducible refine' st_Verdict_copies ?ho_ ?hv_ ?_); (case ho_ => first | assumption | exact upd_same); (case hv_ => exact Nat.le_of_ble_eq_true rfl)) | ((with_reducible refine' st_Verdict_delay ?ho_ ?hv_ ?_); (case ho_ => first | assumption | exact upd_same); (case hv_ => exact Nat.le_of_ble_eq_true rfl)) | ((with_reducible refine' me_Verdict_eq__ ?ho_ ?_); (case ho_ => first | assumption | exact upd_same)) | ((with_reducible refine' me_Verdict_fields ?ho_ ?_); (case ho_ => first | assumption | exact upd_same)))
local macro_rules | `(tactic| walk_at "use") => `(tactic| first | ((with_reducible refine' fd_Faults_seed ?ho_ ?hv_ ?_); (case ho_ => first | assumption | exact upd_same); (case hv_ => exact rfl)) | ((with_reducible refine' fd_Faults_counts ?ho_ ?hv_ ?_); (case ho_ => first | assumption | exact upd_same); (case hv_ => exact rfl)) | ((with_reducible refine' fd_Faults__rules ?ho_ ?hv_ ?_); (case ho_ => first | assumption | exact upd_same); (case hv_ => exact rfl)) | ((with_reducible refine' nw_Faults_seed ?ho_ ?hv_ ?_); (case ho_ => first | assumption | exact upd_same); (case hv_ => exact rfl)) | ((with_reducible refine' nw_Faults_counts ?ho_ ?hv_ ?_); (case ho_ => first | assumption | exact upd_same); (case hv_ => exact rfl)) | ((with_reducible refine' nw_Faults__rules ?ho_ ?hv_ ?_); (case ho_ => first | assumption | exact upd_same); (case hv_ => exact rfl)) | ((with_reducible refine' st_Faults_seed ?ho_ ?hv_ ?_); (case ho_ => first | assumption | exact upd_same); (case hv_ => exact Nat.le_of_ble_eq_true rfl)) | ((with_reducible refine' st_Faults_counts ?ho_ ?hv_ ?_); (case ho_ => first | assumption | exact upd_same); (case hv_ => exact Nat.le_of_ble_eq_true rfl)) | ((with_reducible refine' st_Faults__rules ?ho_ ?hv_ ?_); (case ho_ => first | assumption | exact upd_same); (case hv_ => exact Nat.le_of_ble_eq_true rfl)) | ((with_reducible refine' me_Faults_judge ?ho_ ?_); (case ho_ => first | assumption | exact upd_same)) | ((with_reducible refine' me_Faults_applies ?ho_ ?_); (case ho_ => first | assumption | exact upd_same)) | ((with_reducible refine' me_Faults_apply ?ho_ ?_); (case ho_ => first | assumption | exact upd_same)) | ((with_reducible refine' me_Faults_draw ?ho_ ?_); (case ho_ => first | assumption | exact upd_same)))
local macro_rules | `(tactic| walk_at "use") => `(tactic| first | ((with_reducible refine' fd_Rule_fault ?ho_ ?hv_ ?_); (case ho_ => first | assumption | exact upd_same); (case hv_ => exact rfl)) | ((with_reducible refine' fd_Rule_amount ?ho_ ?hv_ ?_); (case ho_ => first | assumption | exact upd_same); (case hv_ => exact rfl)) | ((with_reducible refine' fd_Rule_until ?ho_ ?hv_ ?_); (case ho_ => first | assumption | exact upd_same); (case hv_ => exact rfl)) | ((with_reducible refine' fd_Rule_sender ?ho_ ?hv_ ?_); (case ho_ => first | assumption | exact upd_same); (case hv_ => exact rfl)) | ((with_reducible refine' fd_Rule_target ?ho_ ?hv_ ?_); (case ho_ => first | assumption | exact upd_same); (case hv_ => exact rfl)) | ((with_reducible refine' fd_Rule_ticks ?ho_ ?hv_ ?_); (case ho_ => first | assumption | exact upd_same); (case hv_ => exact rfl)) | ((with_reducible refine' fd_Rule_nth ?ho_ ?hv_ ?_); (case ho_ => first | assumption | exact upd_same); (case hv_ => exact rfl)) | ((with_reducible refine' fd_Rule_chance ?ho_ ?hv_ ?_); (case ho_ => first | assumption | exact upd_same); (case hv_ => exact rfl)) | ((with_reducible refine' nw_Rule_fault ?ho_ ?hv_ ?_); (case ho_ => first | assumption | exact upd_same); (case hv_ => exact rfl)) | ((with_reducible refine' nw_Rule_amount ?ho_ ?hv_ ?_); (case ho_ => first | assumption | exact upd_same); (case hv_ => exact rfl)) | ((with_reducible refine' nw_Rule_until ?ho_ ?hv_ ?_); (case ho_ => first | assumption | exact upd_same); (case hv_ => exact rfl)) | ((with_reducible refine' nw_Rule_sender ?ho_ ?hv_ ?_); (case ho_ => first | assumption | exact upd_same); (case hv_ => exact rfl)) | ((with_reducible refine' nw_Rule_target ?ho_ ?hv_ ?_); (case ho_ => first | assumption | exact upd_same); (case hv_ => exact rfl)) | ((with_reducible refine' nw_Rule_ticks ?ho_ ?hv_ ?_); (case ho_ => first | assumption | exact upd_same); (case hv_ => exact rfl)) | ((with_reducible refine' nw_Rule_nth ?ho_ ?hv_ ?_); (case ho_ => first | assumption | exact upd_same); (case hv_ => exact rfl)) | ((with_reducible refine' nw_Rule_chance ?ho_ ?hv_ ?_); (case ho_ => first | assumption | exact upd_same); (case hv_ => exact rfl)) | ((with_reducible refine' st_Rule_fault ?ho_ ?hv_ ?_); (case ho_ => first | assumption | exact upd_same); (case hv_ => exact Nat.le_of_ble_eq_true rfl)) | ((with_reducible refine' st_Rule_amount ?ho_ ?hv_ ?_); (case ho_ => first | assumption | exact upd_same); (case hv_ => exact Nat.le_of_ble_eq_true rfl)) | ((with_reducible refine' st_Rule_until ?ho_ ?hv_ ?_); (case ho_ => first | assumption | exact upd_same); (case hv_ => exact Nat.le_of_ble_eq_true rfl)) | ((with_reducible refine' st_Rule_sender ?ho_ ?hv_ ?_); (case ho_ => first | assumption | exact upd_same); (case hv_ => exact Nat.le_of_ble_eq_true rfl)) | ((with_reducible refine' st_Rule_target ?ho_ ?hv_ ?_); (case ho_ => first | assumption | exact upd_same); (case hv_ => exact Nat.le_of_ble_eq_true rfl)) | ((with_reducible refine' st_Rule_ticks ?ho_ ?hv_ ?_); (case ho_ => first | assumption | exact upd_same); (case hv_ => exact Nat.le_of_ble_eq_true rfl)) | ((with_reducible refine' st_Rule_nth ?ho_ ?hv_ ?_); (case ho_ => first | assumption | exact upd_same); (case hv_ => exact Nat.le_of_ble_eq_true rfl)) | ((with_reducible refine' st_Rule_chance ?ho_ ?hv_ ?_); (case ho_ => first | assumption | exact upd_same); (case hv_ => exact Nat.le_of_ble_eq_true rfl)) | ((with_reducible refine' me_Rule_considers ?ho_ ?_); (case ho_ => first | assumption | exact upd_same)) | ((with_reducible refine' me_Rule_fork ?ho_ ?_); (case ho_ => first | assumption | exact upd_same)))
section
variable {P : Program} {w : World} {K : PySem.W.Frag} {mg : Str → Option Value} {base : Heap}
local macro_rules | `(tactic| walk_at "use") => `(tactic| with_reducible first | refine g_rEqS ?_ | refine g_rNeS ?_ | refine u_isint ?_)
theorem u_dig {p : Addr} {n m : Int} {H Q E} (h : H p = some (.lst [.int n])) (h0 : 0 < m) (h1 : m < 18446744073709551616) (q : ∀ H', But p H H' → H' p = some (.lst [.int (n / m)]) → Q (.int (n % m)) H') : sp_l_digit K ([.ref p, .int m] ++ []) H Q E := u_digit h h0 h1 (q _ But.refl.upd upd_same)
theorem RwO.butL {p : Addr} {H H' : Hp} {a : Addr} {g : Rl} {xs : List V} (h : RwO H a g) (n : a ≠ p) (b : But p H H') (e : H p = some (.lst xs)) : RwO H' a g := by
  obtain ⟨tv, h1, h2⟩ := h
  exact ⟨tv, b _ _ n h1, h2.butL b e⟩
theorem RwO.same {H H' : Hp} {a : Addr} {g : Rl} (h : RwO H a g) (s : Same H H') : RwO H' a g := by
  obtain ⟨tv, h1, h2⟩ := h
  exact ⟨tv, s _ _ h1, h2.same s⟩
def sp_l_rule (K : PySem.W.Frag) : Sp := fun vs H Q _ => ∃ (p : Addr) (n m : Int), vs = [.ref p, .int m] ∧ H p = some (.lst [.int n]) ∧ 0 < m ∧ m ≤ 70000 ∧ ∀ (a : Addr) (g : Rl) (n' : Int) H', H a = none → But p H H' → RwO H' a g → RlOk g → H' p = some (.lst [.int n']) → Q (.ref a) H'
theorem ok_l_rule (T : Txt K mg) : FnOk P w K mg base CX0 2 T.f_l_rule T.d_l_rule ["state", "wide"] (sp_l_rule K) := by
  refine T.F_l_rule.ok sc_l_rule (fun vs H Q E h => ?_) (fun cdv A outer s H vs Q E hr h => ?_)
  · obtain ⟨p, n, m, rfl, hp, m0, m1, q⟩ := h
    rfl
  · obtain ⟨p, n, m, rfl, hp, m0, m1, q⟩ := h
    have hu := hu_of hr
    refine ⟨_, (pss_cons (ps_set (i := 2) sc_l_rule.nd rfl (Or.inl rfl) (pe_ix ix_tup (pe_tup (pa_cons pe_str (pa_cons pe_str (pa_cons pe_str (pa_cons pe_str pa_nil))))) (pe_call (ok_l_digit T) (hr.mono (by decide)) rfl T.m_l_digit T.F_l_digit.kp T.b_l_digit .nil pass0 (pa_cons (pv 0) (pa_cons pe_int pa_nil))) (fun _ _ => rfl)))
        (pss_cons (ps_set (i := 3) sc_l_rule.nd rfl (Or.inl rfl) pe_int)
        (pss_cons (ps_set (i := 4) sc_l_rule.nd rfl (Or.inl rfl) pe_int)
        (C8.pss_cut (ps_if (pt_cmpR op_eq (pv 2) pe_str (nomark _)) (pss_one (ps_set (i := 3) sc_l_rule.nd rfl (Or.inl rfl) (pe_op op_add pe_int (pe_call (ok_l_digit T) (hr.mono (by decide)) rfl T.m_l_digit T.F_l_digit.kp T.b_l_digit .nil pass0 (pa_cons (pv 0) (pa_cons pe_int pa_nil)))))) pss_nil)
        (C8.pss_cut (ps_if (pt_cmpR op_eq (pv 2) pe_str (nomark _)) (pss_cons (ps_set (i := 3) sc_l_rule.nd rfl (Or.inl rfl) (pe_op op_add pe_int (pe_call (ok_l_digit T) (hr.mono (by decide)) rfl T.m_l_digit T.F_l_digit.kp T.b_l_digit .nil pass0 (pa_cons (pv 0) (pa_cons (pv 1) pa_nil)))))
        (pss_one (ps_set (i := 4) sc_l_rule.nd rfl (Or.inl rfl) (pe_op op_add (pv 3) (pe_op op_mul (pe_call (ok_l_digit T) (hr.mono (by decide)) rfl T.m_l_digit T.F_l_digit.kp T.b_l_digit .nil pass0 (pa_cons (pv 0) (pa_cons pe_int pa_nil))) (pe_call (ok_l_digit T) (hr.mono (by decide)) rfl T.m_l_digit T.F_l_digit.kp T.b_l_digit .nil pass0 (pa_cons (pv 0) (pa_cons pe_int pa_nil)))))))) pss_nil)
        (pss_cons (ps_set (i := 5) sc_l_rule.nd rfl (Or.inl rfl) (pe_lst (pa_cons (pv 2) (pa_cons (pv 3) (pa_cons (pv 4) (pa_cons pe_non (pa_cons pe_non (pa_cons pe_non (pa_cons pe_non (pa_cons pe_non pa_nil))))))))))
        (pss_cons (ps_set (i := 6) sc_l_rule.nd rfl (Or.inl rfl) (pe_ix ix_tup (pe_tup (pa_cons pe_int (pa_cons pe_int (pa_cons pe_int (pa_cons pe_int (pa_cons pe_int (pa_cons pe_int (pa_cons pe_int (pa_cons pe_int (pa_cons pe_int (pa_cons pe_int pa_nil))))))))))) (pe_call (ok_l_digit T) (hr.mono (by decide)) rfl T.m_l_digit T.F_l_digit.kp T.b_l_digit .nil pass0 (pa_cons (pv 0) (pa_cons pe_int pa_nil))) (fun _ _ => rfl)))
        (C8.pss_cut (ps_if (pt_cmpR op_eq (pe_op op_fdiv (pv 6) pe_int) pe_int (nomark _)) (pss_one (ps_asg (pe_call (ok_l_digit T) (hr.mono (by decide)) rfl T.m_l_digit T.F_l_digit.kp T.b_l_digit .nil pass0 (pa_cons (pv 0) (pa_cons (pe_callB (call_min2 rfl) (by rfl) T.n_min (by decide +kernel) (pa_cons (pv 1) (pa_cons pe_int pa_nil))) pa_nil))) (pg_sub (pv 5) pe_int set_list))) pss_nil)
        (C8.pss_cut (ps_if (pt_cmpR op_eq (pe_op op_mod (pe_callTy call_int1 (by rfl) T.n_int (by decide +kernel) (pa_cons (pe_op op_fdiv (pv 6) pe_int) pa_nil)) pe_int) pe_int (nomark _)) (pss_one (ps_asg (pe_call (ok_l_digit T) (hr.mono (by decide)) rfl T.m_l_digit T.F_l_digit.kp T.b_l_digit .nil pass0 (pa_cons (pv 0) (pa_cons (pe_callB (call_min2 rfl) (by rfl) T.n_min (by decide +kernel) (pa_cons (pv 1) (pa_cons pe_int pa_nil))) pa_nil))) (pg_sub (pv 5) pe_int set_list))) pss_nil)
        (C8.pss_cut (ps_if (pt_cmpR op_eq (pe_op op_mod (pe_callTy call_int1 (by rfl) T.n_int (by decide +kernel) (pa_cons (pe_op op_fdiv (pv 6) pe_int) pa_nil)) pe_int) pe_int (nomark _)) (pss_cons (ps_set (i := 7) sc_l_rule.nd rfl (Or.inl rfl) (pe_call (ok_l_digit T) (hr.mono (by decide)) rfl T.m_l_digit T.F_l_digit.kp T.b_l_digit .nil pass0 (pa_cons (pv 0) (pa_cons (pv 1) pa_nil))))
        (pss_one (ps_asg (pe_tup (pa_cons (pv 7) (pa_cons (pe_op op_add (pv 7) (pe_op op_mul (pe_call (ok_l_digit T) (hr.mono (by decide)) rfl T.m_l_digit T.F_l_digit.kp T.b_l_digit .nil pass0 (pa_cons (pv 0) (pa_cons pe_int pa_nil))) (pe_call (ok_l_digit T) (hr.mono (by decide)) rfl T.m_l_digit T.F_l_digit.kp T.b_l_digit .nil pass0 (pa_cons (pv 0) (pa_cons pe_int pa_nil))))) pa_nil))) (pg_sub (pv 5) pe_int set_list)))) pss_nil)
        (C8.pss_cut (ps_if (pt_cmpR op_eq (pe_op op_mod (pe_callTy call_int1 (by rfl) T.n_int (by decide +kernel) (pa_cons (pe_op op_fdiv (pv 6) pe_int) pa_nil)) pe_int) pe_int (nomark _)) (pss_one (ps_asg (pe_op op_add pe_int (pe_call (ok_l_digit T) (hr.mono (by decide)) rfl T.m_l_digit T.F_l_digit.kp T.b_l_digit .nil pass0 (pa_cons (pv 0) (pa_cons (pe_callB (call_min2 rfl) (by rfl) T.n_min (by decide +kernel) (pa_cons (pv 1) (pa_cons pe_int pa_nil))) pa_nil)))) (pg_sub (pv 5) pe_int set_list))) pss_nil)
        (C8.pss_cut (ps_if (pt_cmpR op_eq (pe_op op_mod (pe_callTy call_int1 (by rfl) T.n_int (by decide +kernel) (pa_cons (pv 6) pa_nil)) pe_int) pe_int (nomark _)) (pss_one (ps_asg (pe_ix ix_tup (pe_tup (pa_cons pe_int (pa_cons pe_int (pa_cons pe_int (pa_cons pe_int (pa_cons pe_int pa_nil)))))) (pe_call (ok_l_digit T) (hr.mono (by decide)) rfl T.m_l_digit T.F_l_digit.kp T.b_l_digit .nil pass0 (pa_cons (pv 0) (pa_cons pe_int pa_nil))) (fun _ _ => rfl)) (pg_sub (pv 5) pe_int set_list))) pss_nil)
        (pss_one (ps_ret (pv 5))))))))))))))), ?_⟩
    dsimp only [cxOf, Cx.nox, Cx.wish, L2.start, List.map, List.cons_append, List.nil_append, List.length_cons, List.length_nil, Nat.reduceAdd, Nat.reduceSub, Nat.zero_add, List.replicate_succ, List.replicate_zero]
    walk_at "go"
    refine ⟨by show 4 ≤ sizeLine; decide, fun p1 hp1 => ?_⟩
    generalize z1 : upd H p1 _ = H1
    have s1 : Same H H1 := by rw [← z1]; exact same_upd hp1
    have k1 : H1 p1 = some (.tup ((["lose", "mark", "copy", "delay"] : List Str).map V.str)) := (congrFun z1 p1).symm.trans upd_same
    clear z1
    have n1 : p1 ≠ p := fun z => by rw [z, hp] at hp1; cases hp1
    walk_at "go"
    refine u_dig (s1 _ _ hp) (by decide) (by decide) fun H2 b2 k2 => ?_
    have k12 := b2 _ _ n1 k1
    have b02 : But p H H2 := (But.of s1).trans b2
    obtain ⟨z, ez⟩ : ∃ z : Str, atI ((["lose", "mark", "copy", "delay"] : List Str).map V.str) (n % 4) = some (.str z) := by
      obtain h | h | h | h : n % 4 = 0 ∨ n % 4 = 1 ∨ n % 4 = 2 ∨ n % 4 = 3 := by omega
      · rw [h]; exact ⟨"lose", rfl⟩
      · rw [h]; exact ⟨"mark", rfl⟩
      · rw [h]; exact ⟨"copy", rfl⟩
      · rw [h]; exact ⟨"delay", rfl⟩
    generalize n / 4 = n2 at k2
    walk_at "go"
    refine g_ixT (st k12) ez ?_
    walk_at "go"
    refine g_cut (fun σ' H' => ∃ (am n' : Int), σ' = [some (.ref p), some (.int m), some (.str z), some (.int am), some (.int 0), none, none, none] ∧ But p H H' ∧ H' p = some (.lst [.int n'])) ?_ ?_
    · walk_at "go"
      refine g_ite (fun h => ?_) (fun h => ?_)
      · walk_at "go"
        refine u_dig k2 (by decide) (by decide) fun H3 b3 k3 => ?_
        walk_at "go"
        exact ⟨_, _, rfl, b02.trans b3, k3⟩
      · walk_at "go"
        exact ⟨_, _, rfl, b02, k2⟩
    rintro σ' H3 ⟨am, n3, rfl, b03, k3⟩
    walk_at "go"
    refine g_cut (fun σ' H' => ∃ (am un n' : Int), σ' = [some (.ref p), some (.int m), some (.str z), some (.int am), some (.int un), none, none, none] ∧ But p H H' ∧ H' p = some (.lst [.int n'])) ?_ ?_
    · walk_at "go"
      refine g_ite (fun h => ?_) (fun h => ?_)
      · walk_at "go"
        refine u_dig k3 m0 (by omega) fun H4 b4 k4 => ?_
        walk_at "go"
        refine u_dig k4 (by decide) (by decide) fun H5 b5 k5 => ?_
        walk_at "go"
        refine u_dig k5 (by decide) (by decide) fun H6 b6 k6 => ?_
        walk_at "go"
        exact ⟨_, _, _, rfl, ((b03.trans b4).trans b5).trans b6, k6⟩
      · walk_at "go"
        exact ⟨_, _, _, rfl, b03, k3⟩
    clear b03 k3
    rintro σ' H3 ⟨am, un, n3, rfl, b03, k3⟩
    walk_at "go"
    refine ⟨by show 8 ≤ sizeLine; decide, fun a ha => ?_⟩
    have nap : a ≠ p := fun z => by rw [z, k3] at ha; cases ha
    have na : H a = none := But_free b03 nap ha
    generalize z4 : upd H3 a _ = H4
    have s4 : Same H3 H4 := by rw [← z4]; exact same_upd ha
    have k4 : RwO H4 a ⟨z, am, un, none, none, none, none, none⟩ := ⟨.non, (congrFun z4 a).symm.trans upd_same, rfl⟩
    clear z4
    have b04 := b03.trans (But.of s4)
    walk_at "go"
    refine ⟨by show 10 ≤ sizeLine; decide, fun p5 hp5 => ?_⟩
    have n5 : p5 ≠ p := fun z => by rw [z, s4 _ _ k3] at hp5; cases hp5
    generalize z5 : upd H4 p5 _ = H5
    have s5 : Same H4 H5 := by rw [← z5]; exact same_upd hp5
    have k5 : H5 p5 = some (.tup ([0, 0, 1, 2, 4, 8, 16, 31, 5, 3].map V.int)) := (congrFun z5 p5).symm.trans upd_same
    clear z5
    walk_at "go"
    have kp5 := s5 _ _ (s4 _ _ k3)
    refine u_dig kp5 (by decide) (by decide) fun H6 b6 k6 => ?_
    have d0 : 0 ≤ n3 % 10 := Int.emod_nonneg _ (by decide)
    have d1 : n3 % 10 < 10 := Int.emod_lt_of_pos _ (by decide)
    obtain ⟨x, ex, _⟩ := atI_ints (xs := [0, 0, 1, 2, 4, 8, 16, 31, 5, 3]) (i := n3 % 10) d0 (by show n3 % 10 < 10; omega)
    have b06 := (b04.trans (But.of s5)).trans b6
    have o6 := (k4.same s5).butL nap b6 kp5
    walk_at "go"
    refine g_ixT (st (b6 _ _ n5 k5)) ex ?_
    walk_at "go"
    have up : ∀ {Ha : Hp} {o : HO}, But p H Ha → But p H (upd Ha a o) := fun {Ha o} b y o' ny e => by rw [upd_ne (ne_of_none e na)]; exact b _ _ ny e
    generalize n3 / 10 = n6 at k6
    refine g_cut (fun σ' H' => ∃ (g : Rl) (n' : Int) (lv : Option V), σ' = [some (.ref p), some (.int m), some (.str z), some (.int am), some (.int un), some (.ref a), some (.int x), lv] ∧ But p H H' ∧ RwO H' a g ∧ RlOk g ∧ H' p = some (.lst [.int n'])) ?_ ?_
    · walk_at "go"
      refine g_ite (fun h => ?_) (fun h => ?_)
      · walk_at "go"
        refine u_dig k6 (by split <;> omega) (by split <;> omega) fun H7 b7 k7 => ?_
        have o7 := o6.butL nap b7 k6
        obtain ⟨tv, o71, o72⟩ := o7
        walk_at "go"
        refine g_setL (j := 3) o71 rfl ?_
        exact ⟨⟨z, am, un, some _, none, none, none, none⟩, _, _, rfl, up (b06.trans b7), ⟨tv, upd_same, o72⟩, ⟨(fun _ z => by cases z), fun _ z => by cases z⟩, by rw [upd_ne nap.symm]; exact k7⟩
      · walk_at "go"
        exact ⟨_, _, _, rfl, b06, o6, ⟨(fun _ z => by cases z), fun _ z => by cases z⟩, k6⟩
    clear o6 k6 b06
    rintro σ' H6 ⟨g, n6, lv, rfl, b06, o6, ok6, k6⟩
    walk_at "go"
    refine g_cut (fun σ' H' => ∃ (g : Rl) (n' : Int) (lv : Option V), σ' = [some (.ref p), some (.int m), some (.str z), some (.int am), some (.int un), some (.ref a), some (.int x), lv] ∧ But p H H' ∧ RwO H' a g ∧ RlOk g ∧ H' p = some (.lst [.int n'])) ?_ ?_
    · walk_at "go"
      refine g_ite (fun h => ?_) (fun h => ?_)
      · walk_at "go"
        refine u_dig k6 (by split <;> omega) (by split <;> omega) fun H7 b7 k7 => ?_
        obtain ⟨tv, o71, o72⟩ := o6.butL nap b7 k6
        walk_at "go"
        refine g_setL (j := 4) o71 rfl ?_
        exact ⟨{ g with target := some _ }, _, _, rfl, up (b06.trans b7), ⟨tv, upd_same, o72.butL But.refl.upd o71⟩, ok6, by rw [upd_ne nap.symm]; exact k7⟩
      · walk_at "go"
        exact ⟨_, _, _, rfl, b06, o6, ok6, k6⟩
    clear o6 k6 b06 ok6
    clear g n6 lv H6
    rintro σ' H6 ⟨g, n6, lv, rfl, b06, o6, ok6, k6⟩
    walk_at "go"
    refine g_cut (fun σ' H' => ∃ (g : Rl) (n' : Int) (lv : Option V), σ' = [some (.ref p), some (.int m), some (.str z), some (.int am), some (.int un), some (.ref a), some (.int x), lv] ∧ But p H H' ∧ RwO H' a g ∧ RlOk g ∧ H' p = some (.lst [.int n'])) ?_ ?_
    · walk_at "go"
      refine g_ite (fun h => ?_) (fun h => ?_)
      · walk_at "go"
        refine u_dig k6 m0 (by omega) fun H7 b7 k7 => ?_
        walk_at "go"
        refine u_dig k7 (by decide) (by decide) fun H8 b8 k8 => ?_
        walk_at "go"
        refine u_dig k8 (by decide) (by decide) fun H9 b9 k9 => ?_
        obtain ⟨tv, o91, o92⟩ := ((o6.butL nap b7 k6).butL nap b8 k7).butL nap b9 k8
        walk_at "go"
        refine ⟨by show 2 ≤ sizeLine; decide, fun t ht => ?_⟩
        have nta : t ≠ a := fun z => by rw [z, o91] at ht; cases ht
        have b09 := ((b06.trans b7).trans b8).trans b9
        have nn : 0 ≤ n6 / m % 2 * (n6 / m / 2 % 9) := Int.mul_nonneg (Int.emod_nonneg _ (by decide)) (Int.emod_nonneg _ (by decide))
        generalize n6 / m % 2 * (n6 / m / 2 % 9) = e at nn
        walk_at "go"
        refine g_setL (j := 5) ((same_upd ht) _ _ o91) rfl ?_
        refine ⟨{ g with ticks := some (n6 % m, n6 % m + e) }, n6 / m / 2 / 9, some (.int (n6 % m)), rfl, up (b09.trans (But.of (same_upd ht))), ⟨.ref t, upd_same, t, rfl, ?_⟩, ⟨ok6.1, fun p hp => ?_⟩, ?_⟩
        · rw [upd_ne nta, upd_same]
          rfl
        · injection hp with hp
          subst hp
          show n6 % m ≤ n6 % m + e
          omega
        · rw [upd_ne nap.symm]
          exact (same_upd ht) _ _ k9
      · walk_at "go"
        exact ⟨_, _, _, rfl, b06, o6, ok6, k6⟩
    clear o6 k6 b06 ok6
    clear g n6 lv H6
    rintro σ' H6 ⟨g, n6, lv, rfl, b06, o6, ok6, k6⟩
    walk_at "go"
    refine g_cut (fun σ' H' => ∃ (g : Rl) (n' : Int) (lv : Option V), σ' = [some (.ref p), some (.int m), some (.str z), some (.int am), some (.int un), some (.ref a), some (.int x), lv] ∧ But p H H' ∧ RwO H' a g ∧ RlOk g ∧ H' p = some (.lst [.int n'])) ?_ ?_
    · walk_at "go"
      refine g_ite (fun h => ?_) (fun h => ?_)
      · walk_at "go"
        obtain ⟨mm, em, mm0, mm1⟩ : ∃ mm : Int, (if (5 : Int) < m then 5 else m) = mm ∧ 0 < mm ∧ mm ≤ 5 := ⟨_, rfl, by split <;> omega, by split <;> omega⟩
        rw [em]
        refine u_dig k6 mm0 (by omega) fun H7 b7 k7 => ?_
        have v0 : 0 ≤ n6 % mm := Int.emod_nonneg _ (by omega)
        obtain ⟨tv, o71, o72⟩ := o6.butL nap b7 k6
        walk_at "go"
        refine g_setL (j := 6) o71 rfl ?_
        exact ⟨{ g with nth := some (1 + n6 % mm) }, _, _, rfl, up (b06.trans b7), ⟨tv, upd_same, o72.butL But.refl.upd o71⟩, ⟨fun k hk => by injection hk with hk; omega, ok6.2⟩, by rw [upd_ne nap.symm]; exact k7⟩
      · walk_at "go"
        exact ⟨_, _, _, rfl, b06, o6, ok6, k6⟩
    clear o6 k6 b06 ok6
    clear g n6 lv H6
    rintro σ' H6 ⟨g, n6, lv, rfl, b06, o6, ok6, k6⟩
    walk_at "go"
    refine g_cut (fun σ' H' => ∃ (g : Rl) (n' : Int) (lv : Option V), σ' = [some (.ref p), some (.int m), some (.str z), some (.int am), some (.int un), some (.ref a), some (.int x), lv] ∧ But p H H' ∧ RwO H' a g ∧ RlOk g ∧ H' p = some (.lst [.int n'])) ?_ ?_
    · walk_at "go"
      refine g_ite (fun h => ?_) (fun h => ?_)
      · walk_at "go"
        refine ⟨by show 5 ≤ sizeLine; decide, fun p7 hp7 => ?_⟩
        have n7 : p7 ≠ p := fun z => by rw [z, k6] at hp7; cases hp7
        have e7 : (upd H6 p7 (.tup ([0, 1000, 500, 250, 750].map V.int))) p7 = some (.tup ([0, 1000, 500, 250, 750].map V.int)) := upd_same
        have s7 : Same H6 (upd H6 p7 (.tup ([0, 1000, 500, 250, 750].map V.int))) := same_upd hp7
        walk_at "go"
        refine u_dig (s7 _ _ k6) (by decide) (by decide) fun H8 b8 k8 => ?_
        obtain ⟨c, ec, _⟩ := atI_ints (xs := [0, 1000, 500, 250, 750]) (i := n6 % 5) (Int.emod_nonneg _ (by decide)) (by show n6 % 5 < 5; exact Int.emod_lt_of_pos _ (by decide))
        obtain ⟨tv, o71, o72⟩ := (o6.same s7).butL nap b8 (s7 _ _ k6)
        walk_at "go"
        refine g_ixT (st (b8 _ _ n7 e7)) ec ?_
        walk_at "go"
        refine g_setL (j := 7) o71 rfl ?_
        exact ⟨{ g with chance := some c }, _, _, rfl, up ((b06.trans (But.of s7)).trans b8), ⟨tv, upd_same, o72.butL But.refl.upd o71⟩, ok6, by rw [upd_ne nap.symm]; exact k8⟩
      · walk_at "go"
        exact ⟨_, _, _, rfl, b06, o6, ok6, k6⟩
    clear o6 k6 b06 ok6
    clear g n6 lv H6
    rintro σ' H6 ⟨g, n6, lv, rfl, b06, o6, ok6, k6⟩
    walk_at "go"
    exact q a g _ _ na b06 o6 ok6 k6
end
end My
namespace My
open PySem PySem.Spec L2
local macro_rules | `(tactic| walk_at "side") => `(tactic| first | assumption | decide | omega | exact ⟨by decide, by decide⟩ | exact ⟨by decide, by decide, by decide⟩ | decide +kernel | exact cdivW (by decide +kernel) (by decide +kernel) | exact Or.inl ⟨by omega, by omega⟩ | exact Or.inr ⟨by omega, by omega⟩ | (simp only [List.length_map, List.length_cons, List.length_nil, List.length_append]; omega))
local macro_rules | `(tactic| walk_at "fact") => `(tactic| first | assumption | omega | with_reducible rfl)
local macro_rules | `(tactic| walk_at "use") => `(tactic| fail "use")
local macro_rules | `(tactic| walk_at "go1") => `(tactic| with_reducible first | refine g_seq ?_ | refine g_asg ?_ | refine g_ret ?_ | refine g_ifS ?_ | refine g_drop ?_ | refine g_star ?_ | refine g_nx ?_ | refine g_rt ?_ | refine g_bkE ?_ | refine g_ctE ?_ | refine g_next ?_ | refine g_retN ?_ | refine g_brk ?_ | refine g_ct ?_ | refine g_c ?_ | refine g_op ?_ | refine g_un ?_ | refine g_rI0 ?_ | refine g_rU ?_ | refine g_rEqI ?_ | refine g_rNeI ?_ | refine g_isN ?_ | refine g_rIsB ?_ | refine g_rNotB ?_ | refine g_test ?_ | refine g_B ?_ | refine g_bl ?_ | refine g_and ?_ | refine g_or ?_ | refine g_not ?_ | refine g_andV ?_ | refine g_orV ?_ | refine g_notV ?_ | refine g_if ?_ | refine g_chain ?_ | refine g_yes ?_ | refine g_lc ?_ | refine g_revR ?_ | refine g_rng1 ?_ | refine g_iList ?_ | refine g_nil ?_ | refine g_cons ?_ | refine g_tup ?_ | refine g_lst ?_ | refine g_call ?_ | refine g_CB ?_ | refine g_sl ?_ | refine g_noPart ?_ | refine g_part ?_ | refine g_intE ?_ | refine g_ref ?_ | refine g_fld ?_ | refine g_sfld ?_ | refine g_meth ?_ | refine g_make ?_ | refine g_prop ?_  | refine g_ipI ?_ | refine g_int1 ?_ | refine g_int1B ?_ | refine g_one ?_ | refine g_two ?_ | refine g_isiI ?_ | refine g_isiIB ?_ | refine g_isiB ?_ | refine g_BM ?_ | refine g_BM0 ?_ | refine g_sub ?_)
local macro_rules | `(tactic| walk_at "go") => `(tactic| repeat (first | walk_at "go1" | ((with_reducible refine' g_nameE ?sd_ ?_); case sd_ => dsimp only [List.set_cons_succ, List.set_cons_zero]) | ((with_reducible refine' g_var ?sd_ ?_); case sd_ => exact rfl) | ((with_reducible refine' g_aug ?sd_ ?_); case sd_ => exact rfl) | ((with_reducible refine' g_rI ?sd_ ?_); case sd_ => walk_at "side") | ((with_reducible refine' g_dT ?sd_ ?_); case sd_ => walk_at "fact") | ((with_reducible refine' g_dF ?sd_ ?_); case sd_ => walk_at "fact") | ((with_reducible refine' g_nT ?sd_ ?_); case sd_ => walk_at "fact") | ((with_reducible refine' g_nF ?sd_ ?_); case sd_ => walk_at "fact") | (with_reducible refine g_iT rfl ?_) | (with_reducible refine g_iF rfl ?_) | walk_at "use"))
local macro_rules | `(tactic| walk_at "use") => `(tactic| first | ((with_reducible refine' fd_Verdict_lost ?ho_ ?hv_ ?_); (case ho_ => first | assumption | exact upd_same); (case hv_ => exact rfl)) | ((with_reducible refine' fd_Verdict_marked ?ho_ ?hv_ ?_); (case ho_ => first | assumption | exact upd_same); (case hv_ => exact rfl)) | ((with_reducible refine' fd_Verdict_copies ?ho_ ?hv_ ?_); (case ho_ => first | assumption | exact upd_same); (case hv_ => exact rfl)) | ((with_reducible refine' fd_Verdict_delay ?ho_ ?hv_ ?_); (case ho_ => first | assumption | exact upd_same); (case hv_ => exact rfl)) | ((with_reducible refine' nw_Verdict_lost ?ho_ ?hv_ ?_); (case ho_ => first | assumption | exact upd_same); (case hv_ => exact rfl)) | ((with_reducible refine' nw_Verdict_marked ?ho_ ?hv_ ?_); (case ho_ => first | assumption | exact upd_same); (case hv_ => exact rfl)) | ((with_reducible refine' nw_Verdict_copies ?ho_ ?hv_ ?_); (case ho_ => first | assumption | exact upd_same); (case hv_ => exact rfl)) | ((with_reducible refine' nw_Verdict_delay ?ho_ ?hv_ ?_); (case ho_ => first | assumption | exact upd_same); (case hv_ => exact rfl)) | ((with_reducible refine' st_Verdict_lost ?ho_ ?hv_ ?_); (case ho_ => first | assumption | exact upd_same); (case hv_ => exact Nat.le_of_ble_eq_true rfl)) | ((with_reducible refine' st_Verdict_marked ?ho_ ?hv_ ?_); (case ho_ => first | assumption | exact upd_same); (case hv_ => exact Nat.le_of_ble_eq_true rfl)) | ((with_reducible refine' st_Verdict_copies ?ho_ ?hv_ ?_); (case ho_ => first | assumption | exact upd_same); (case hv_ => exact Nat.le_of_ble_eq_true rfl)) | ((with_reducible refine' st_Verdict_delay ?ho_ ?hv_ ?_); (case ho_ => first | assumption | exact upd_same); (case hv_ => exact Nat.le_of_ble_eq_true rfl)) | ((with_reducible refine' me_Verdict_eq__ ?ho_ ?_); (case ho_ => first | assumption | exact upd_same)) | ((with_reducible refine' me_Verdict_fields ?ho_ ?_); (case ho_ => first | assumption | exact upd_same)))
local macro_rules | `(tactic| walk_at "use") => `(tactic| first | ((with_reducible refine' fd_Faults_seed ?ho_ ?hv_ ?_); (case ho_ => first | assumption | exact upd_same); (case hv_ => exact rfl)) | ((with_reducible refine' fd_Faults_counts ?ho_ ?hv_ ?_); (case ho_ => first | assumption | exact upd_same); (case hv_ => exact rfl)) | ((with_reducible refine' fd_Faults__rules ?ho_ ?hv_ ?_); (case ho_ => first | assumption | exact upd_same); (case hv_ => exact rfl)) | ((with_reducible refine' nw_Faults_seed ?ho_ ?hv_ ?_); (case ho_ => first | assumption | exact upd_same); (case hv_ => exact rfl)) | ((with_reducible refine' nw_Faults_counts ?ho_ ?hv_ ?_); (case ho_ => first | assumption | exact upd_same); (case hv_ => exact rfl)) | ((with_reducible refine' nw_Faults__rules ?ho_ ?hv_ ?_); (case ho_ => first | assumption | exact upd_same); (case hv_ => exact rfl)) | ((with_reducible refine' st_Faults_seed ?ho_ ?hv_ ?_); (case ho_ => first | assumption | exact upd_same); (case hv_ => exact Nat.le_of_ble_eq_true rfl)) | ((with_reducible refine' st_Faults_counts ?ho_ ?hv_ ?_); (case ho_ => first | assumption | exact upd_same); (case hv_ => exact Nat.le_of_ble_eq_true rfl)) | ((with_reducible refine' st_Faults__rules ?ho_ ?hv_ ?_); (case ho_ => first | assumption | exact upd_same); (case hv_ => exact Nat.le_of_ble_eq_true rfl)) | ((with_reducible refine' me_Faults_judge ?ho_ ?_); (case ho_ => first | assumption | exact upd_same)) | ((with_reducible refine' me_Faults_applies ?ho_ ?_); (case ho_ => first | assumption | exact upd_same)) | ((with_reducible refine' me_Faults_apply ?ho_ ?_); (case ho_ => first | assumption | exact upd_same)) | ((with_reducible refine' me_Faults_draw ?ho_ ?_); (case ho_ => first | assumption | exact upd_same)))
local macro_rules | `(tactic| walk_at "use") => `(tactic| first | ((with_reducible refine' fd_Rule_fault ?ho_ ?hv_ ?_); (case ho_ => first | assumption | exact upd_same); (case hv_ => exact rfl)) | ((with_reducible refine' fd_Rule_amount ?ho_ ?hv_ ?_); (case ho_ => first | assumption | exact upd_same); (case hv_ => exact rfl)) | ((with_reducible refine' fd_Rule_until ?ho_ ?hv_ ?_); (case ho_ => first | assumption | exact upd_same); (case hv_ => exact rfl)) | ((with_reducible refine' fd_Rule_sender ?ho_ ?hv_ ?_); (case ho_ => first | assumption | exact upd_same); (case hv_ => exact rfl)) | ((with_reducible refine' fd_Rule_target ?ho_ ?hv_ ?_); (case ho_ => first | assumption | exact upd_same); (case hv_ => exact rfl)) | ((with_reducible refine' fd_Rule_ticks ?ho_ ?hv_ ?_); (case ho_ => first | assumption | exact upd_same); (case hv_ => exact rfl)) | ((with_reducible refine' fd_Rule_nth ?ho_ ?hv_ ?_); (case ho_ => first | assumption | exact upd_same); (case hv_ => exact rfl)) | ((with_reducible refine' fd_Rule_chance ?ho_ ?hv_ ?_); (case ho_ => first | assumption | exact upd_same); (case hv_ => exact rfl)) | ((with_reducible refine' nw_Rule_fault ?ho_ ?hv_ ?_); (case ho_ => first | assumption | exact upd_same); (case hv_ => exact rfl)) | ((with_reducible refine' nw_Rule_amount ?ho_ ?hv_ ?_); (case ho_ => first | assumption | exact upd_same); (case hv_ => exact rfl)) | ((with_reducible refine' nw_Rule_until ?ho_ ?hv_ ?_); (case ho_ => first | assumption | exact upd_same); (case hv_ => exact rfl)) | ((with_reducible refine' nw_Rule_sender ?ho_ ?hv_ ?_); (case ho_ => first | assumption | exact upd_same); (case hv_ => exact rfl)) | ((with_reducible refine' nw_Rule_target ?ho_ ?hv_ ?_); (case ho_ => first | assumption | exact upd_same); (case hv_ => exact rfl)) | ((with_reducible refine' nw_Rule_ticks ?ho_ ?hv_ ?_); (case ho_ => first | assumption | exact upd_same); (case hv_ => exact rfl)) | ((with_reducible refine' nw_Rule_nth ?ho_ ?hv_ ?_); (case ho_ => first | assumption | exact upd_same); (case hv_ => exact rfl)) | ((with_reducible refine' nw_Rule_chance ?ho_ ?hv_ ?_); (case ho_ => first | assumption | exact upd_same); (case hv_ => exact rfl)) | ((with_reducible refine' st_Rule_fault ?ho_ ?hv_ ?_); (case ho_ => first | assumption | exact upd_same); (case hv_ => exact Nat.le_of_ble_eq_true rfl)) | ((with_reducible refine' st_Rule_amount ?ho_ ?hv_ ?_); (case ho_ => first | assumption | exact upd_same); (case hv_ => exact Nat.le_of_ble_eq_true rfl)) | ((with_reducible refine' st_Rule_until ?ho_ ?hv_ ?_); (case ho_ => first | assumption | exact upd_same); (case hv_ => exact Nat.le_of_ble_eq_true rfl)) | ((with_reducible refine' st_Rule_sender ?ho_ ?hv_ ?_); (case ho_ => first | assumption | exact upd_same); (case hv_ => exact Nat.le_of_ble_eq_true rfl)) | ((with_reducible refine' st_Rule_target ?ho_ ?hv_ ?_); (case ho_ => first | assumption | exact upd_same); (case hv_ => exact Nat.le_of_ble_eq_true rfl)) | ((with_reducible refine' st_Rule_ticks ?ho_ ?hv_ ?_); (case ho_ => first | assumption | exact upd_same); (case hv_ => exact Nat.le_of_ble_eq_true rfl)) | ((with_reducible refine' st_Rule_nth ?ho_ ?hv_ ?_); (case ho_ => first | assumption | exact upd_same); (case hv_ => exact Nat.le_of_ble_eq_true rfl)) | ((with_reducible refine' st_Rule_chance ?ho_ ?hv_ ?_); (case ho_ => first | assumption | exact upd_same); (case hv_ => exact Nat.le_of_ble_eq_true rfl)) | ((with_reducible refine' me_Rule_considers ?ho_ ?_); (case ho_ => first | assumption | exact upd_same)) | ((with_reducible refine' me_Rule_fork ?ho_ ?_); (case ho_ => first | assumption | exact upd_same)))
section
variable {P : Program} {w : World} {K : PySem.W.Frag} {mg : Str → Option Value} {base : Heap}
local macro_rules | `(tactic| walk_at "use") => `(tactic| with_reducible first | refine g_rEqS ?_ | refine g_rNeS ?_ | refine u_isint ?_ | refine g_makeK ?_ | refine u_cell (by assumption) (by omega) ?_)
theorem RwO.nl {H : Hp} {a : Addr} {g : Rl} (h : RwO H a g) : ∃ xs, H a = some (.lst xs) := by
  obtain ⟨tv, h1, _⟩ := h
  exact ⟨_, h1⟩
def But4 (a b c d : Addr) (H H' : Hp) : Prop := ∀ x o, x ≠ a → x ≠ b → x ≠ c → x ≠ d → H x = some o → H' x = some o
theorem StV.but4 {C p f c2 : Addr} {H H' : Hp} {v : V} {o : Option (Int × Int)} (h : StV H v o) (b : But4 C p f c2 H H') {xs ys zs : List V} {Cf df : Addr} {s : Int} {u w : Addr} (hC : H C = some (.lst xs)) (hp : H p = some (.lst ys)) (hf : H f = some (FaS Cf df s u w)) (hc : H c2 = some (.lst zs)) : StV H' v o := by
  cases o with
  | none => exact h
  | some pr =>
    obtain ⟨t, e1, h⟩ := h
    unfold FaS at hf
    exact ⟨t, e1, b _ _ (fun z => by rw [z, hC] at h; cases h) (fun z => by rw [z, hp] at h; cases h) (fun z => by rw [z, hf] at h; cases h) (fun z => by rw [z, hc] at h; cases h) h⟩
theorem RlO.but4 {CR C p f c2 : Addr} {H H' : Hp} {r : Addr} {g : Rl} (h : RlO CR H r g) (n1 : r ≠ C) (n2 : r ≠ p) (n3 : r ≠ f) (n4 : r ≠ c2) (b : But4 C p f c2 H H') {xs ys zs : List V} {Cf df : Addr} {s : Int} {u w : Addr} (hC : H C = some (.lst xs)) (hp : H p = some (.lst ys)) (hf : H f = some (FaS Cf df s u w)) (hc : H c2 = some (.lst zs)) : RlO CR H' r g := by
  obtain ⟨dx, tv, h1, h2⟩ := h
  exact ⟨dx, tv, b _ _ n1 n2 n3 n4 h1, h2.but4 b hC hp hf hc⟩
theorem RwO.but4 {C p f c2 : Addr} {H H' : Hp} {r : Addr} {g : Rl} (h : RwO H r g) (n1 : r ≠ C) (n2 : r ≠ p) (n3 : r ≠ f) (n4 : r ≠ c2) (b : But4 C p f c2 H H') {xs ys zs : List V} {Cf df : Addr} {s : Int} {u w : Addr} (hC : H C = some (.lst xs)) (hp : H p = some (.lst ys)) (hf : H f = some (FaS Cf df s u w)) (hc : H c2 = some (.lst zs)) : RwO H' r g := by
  obtain ⟨tv, h1, h2⟩ := h
  exact ⟨tv, b _ _ n1 n2 n3 n4 h1, h2.but4 b hC hp hf hc⟩
theorem RwO.but3 {C p d : Addr} {H H' : Hp} {r : Addr} {g : Rl} (h : RwO H r g) (n1 : r ≠ C) (n2 : r ≠ p) (n3 : r ≠ d) (b : But3 C p d H H') {xs ys : List V} (hC : H C = some (.lst xs)) (hp : H p = some (.lst ys)) (hd : H d = none) : RwO H' r g := by
  obtain ⟨tv, h1, h2⟩ := h
  refine ⟨tv, b _ _ n1 n2 n3 h1, ?_⟩
  obtain ⟨_, _, _, _, _, tk, _, _⟩ := g
  cases tk with
  | none => exact h2
  | some pr =>
    obtain ⟨t, e1, h2⟩ := h2
    exact ⟨t, e1, b _ _ (fun z => by rw [z, hC] at h2; cases h2) (fun z => by rw [z, hp] at h2; cases h2) (ne_of_none h2 hd) h2⟩
theorem RlO.but2 {CR C p : Addr} {H H' : Hp} {r : Addr} {g : Rl} (h : RlO CR H r g) (n1 : r ≠ C) (n2 : r ≠ p) (b : But2 C p H H') {xs ys : List V} (hC : H C = some (.lst xs)) (hp : H p = some (.lst ys)) : RlO CR H' r g := by
  obtain ⟨dx, tv, h1, h2⟩ := h
  refine ⟨dx, tv, b _ _ n1 n2 h1, ?_⟩
  obtain ⟨_, _, _, _, _, tk, _, _⟩ := g
  cases tk with
  | none => exact h2
  | some pr =>
    obtain ⟨t, e1, h2⟩ := h2
    exact ⟨t, e1, b _ _ (fun z => by rw [z, hC] at h2; cases h2) (fun z => by rw [z, hp] at h2; cases h2) h2⟩
def sp_law (K : PySem.W.Frag) : Sp := fun vs H Q _ => ∃ (a : Addr) (ns : List Int), vs = [.ref a] ∧ SqL K H a (ns.map V.int) ∧ ns.length ≤ 63 ∧ ∀ H', Q (.bl true) H'

theorem kbt_3 {K : PySem.W.Frag} {mg : Str → Option Value} (T : Txt K mg) : ∃ g, KBn K T.d_Faults_init__ ["self", "rules", "seed"] 2 ["seed"] g (fun vs zs => vs ++ ((zs.drop 0).take 1)) :=
  ⟨_, kb_pure (ps := ["self", "rules", "seed"]) T.F_Faults_init__ 2 ["seed"] (fun vs zs => vs ++ ((zs.drop 0).take 1)) (fun r1 r2 => r1.append ((r2.drop 0).take 1)) (fun kV doc pm an cdv ct us ws l1 l2 => match us, l1, ws, l2 with | [_, _], _, [_], _ => rfl)⟩
theorem ok_law (T : Txt K mg) : FnOk P w K mg base CX0 6 T.f_law T.d_law ["script"] (sp_law K) := by
  refine T.F_law.ok sc_law (fun vs H Q E h => ?_) (fun cdv A outer s H vs Q E hr h => ?_)
  · obtain ⟨a, ns, rfl, hS, hlen, q⟩ := h
    rfl
  · obtain ⟨a, ns, rfl, hS, hlen, q⟩ := h
    have hu := hu_of hr
    obtain ⟨gk_3, kb_3⟩ := kbt_3 T
    refine ⟨_, (pss_cons (ps_set (i := 1) sc_law.nd rfl (Or.inl rfl) (pe_callTy call_int1 (by rfl) T.n_int (by decide +kernel) (pa_cons (pe_call (ok_l_cell T) (hr.mono (by decide)) rfl T.m_l_cell T.F_l_cell.kp T.b_l_cell .nil pass0 (pa_cons (pv 0) (pa_cons pe_int pa_nil))) pa_nil)))
        (pss_cons (ps_set (i := 2) sc_law.nd rfl (Or.inr rfl) (pe_ix ix_tup (pe_tup (pa_cons pe_int (pa_cons pe_int (pa_cons pe_int pa_nil)))) (pe_op op_mod (pe_callTy call_int1 (by rfl) T.n_int (by decide +kernel) (pa_cons (pe_op op_fdiv (pv 1) pe_int) pa_nil)) pe_int) (fun _ _ => rfl)))
        (pss_cons (ps_setLc (i := 3) (own := [("k", 8)]) (g := gName 8) (tt := tYes) rfl sc_law.nd rfl rfl (sw_true rfl rfl rfl (by decide +kernel)) (pi_range1 (by rfl) T.n_range (pa_cons (pe_op op_mod (pv 1) pe_int) pa_nil)) (blkOk_by (N := ["script", "first", "wide", "rules", "state", "counts", "given", "faults", "k", "packet", "due", "told", "rule"]) (sc := defScope s_law) (by decide +kernel)) (fun _ _ _ _ _ => (pg_name (i := 8) sc_law.nd rfl (Or.inl rfl))) (fun _ _ _ _ _ => pts_nil) (fun _ _ _ _ _ => (pe_call (ok_l_rule T) (hr.mono (by decide)) rfl T.m_l_rule T.F_l_rule.kp T.b_l_rule .nil pass0 (pa_cons (pe_call (ok_l_start T) (hr.mono (by decide)) rfl T.m_l_start T.F_l_start.kp T.b_l_start .nil pass0 (pa_cons (pe_call (ok_l_cell T) (hr.mono (by decide)) rfl T.m_l_cell T.F_l_cell.kp T.b_l_cell .nil pass0 (pa_cons (pv 0) (pa_cons (pe_op op_add pe_int (pv 8)) pa_nil))) (pa_cons (pv 8) pa_nil))) (pa_cons (pv 2) pa_nil)))))
        (pss_cons (ps_set (i := 4) sc_law.nd rfl (Or.inl rfl) (pe_lst (pa_cons pe_int (pa_cons (pe_op op_mod (pe_callTy call_int1 (by rfl) T.n_int (by decide +kernel) (pa_cons (pe_call (ok_l_cell T) (hr.mono (by decide)) rfl T.m_l_cell T.F_l_cell.kp T.b_l_cell .nil pass0 (pa_cons (pv 0) (pa_cons pe_int pa_nil))) pa_nil)) pe_int) pa_nil))))
        (pss_cons (ps_setLc (i := 5) (own := [("rule", 12)]) (g := gName 12) (tt := tYes) rfl sc_law.nd rfl rfl (sw_true rfl rfl rfl (by decide +kernel)) (pi_list (pv 3)) (blkOk_by (N := ["script", "first", "wide", "rules", "state", "counts", "given", "faults", "k", "packet", "due", "told", "rule"]) (sc := defScope s_law) (by decide +kernel)) (fun _ _ _ _ _ => (pg_name (i := 12) sc_law.nd rfl (Or.inl rfl))) (fun _ _ _ _ _ => pts_nil) (fun _ _ _ _ _ => pe_int))
        (pss_cons (ps_setLc (i := 6) (own := [("rule", 12)]) (g := gName 12) (tt := tYes) rfl sc_law.nd rfl rfl (sw_true rfl rfl rfl (by decide +kernel)) (pi_list (pv 3)) (blkOk_by (N := ["script", "first", "wide", "rules", "state", "counts", "given", "faults", "k", "packet", "due", "told", "rule"]) (sc := defScope s_law) (by decide +kernel)) (fun _ _ _ _ _ => (pg_name (i := 12) sc_law.nd rfl (Or.inl rfl))) (fun _ _ _ _ _ => pts_nil) (fun _ _ _ _ _ => (pe_call (ok_l_made T) (hr.mono (by decide)) rfl T.m_l_made T.F_l_made.kp T.b_l_made .nil pass0 (pa_cons (pv 12) pa_nil))))
        (pss_cons (ps_set (i := 7) sc_law.nd rfl (Or.inl rfl) (pe_makeK T.mk_Faults (ok_Faults_init__ T) (hr.mono (by decide)) rfl T.c_Faults kb_3 pass0 (pa_cons (pv 6) pa_nil) (pk_cons (pe_ix ix_list (pv 4) pe_int (fun _ _ => rfl)) pk_nil)))
        (pss_cons (ps_expr (pe_bm PySem.F.plainAttrs_list PySem.F.slot_list_append PySem.F.type_list_append mt_append (pv 6) (pa_cons (pe_call (ok_l_made T) (hr.mono (by decide)) rfl T.m_l_made T.F_l_made.kp T.b_l_made .nil pass0 (pa_cons (pe_lst (pa_cons pe_str (pa_cons pe_int (pa_cons pe_int (pa_cons pe_non (pa_cons pe_non (pa_cons pe_non (pa_cons pe_non (pa_cons pe_non pa_nil))))))))) pa_nil)) pa_nil)))
        (pss_cons (ps_for PassesOwn.never rfl (pi_range1 (by rfl) T.n_range (pa_cons (pe_callB (call_min2 rfl) (by rfl) T.n_min (by decide +kernel) (pa_cons pe_int (pa_cons (pe_callB (call_max2 rfl) (by rfl) T.n_max (by decide +kernel) (pa_cons pe_int (pa_cons (pe_op op_sub (pe_callB call_len_seq (by rfl) T.n_len (by decide +kernel) (pa_cons (pv 0) pa_nil)) pe_int) pa_nil))) pa_nil))) pa_nil)) (pg_name (i := 8) sc_law.nd rfl (Or.inl rfl)) (pss_cons (ps_set (i := 9) sc_law.nd rfl (Or.inl rfl) (pe_call (ok_l_packet T) (hr.mono (by decide)) rfl T.m_l_packet T.F_l_packet.kp T.b_l_packet .nil pass0 (pa_cons (pe_call (ok_l_cell T) (hr.mono (by decide)) rfl T.m_l_cell T.F_l_cell.kp T.b_l_cell .nil pass0 (pa_cons (pv 0) (pa_cons (pe_op op_add pe_int (pv 8)) pa_nil))) (pa_cons (pv 8) (pa_cons (pv 2) pa_nil)))))
        (pss_cons (ps_set (i := 10) sc_law.nd rfl (Or.inl rfl) (pe_call (ok_l_due T) (hr.mono (by decide)) rfl T.m_l_due T.F_l_due.kp T.b_l_due .nil pass0 (pa_cons (pv 3) (pa_cons (pv 5) (pa_cons (pv 4) (pa_cons (pv 9) pa_nil))))))
        (pss_cons (ps_set (i := 11) sc_law.nd rfl (Or.inl rfl) (pe_meth (pv 7) T.k_Faults T.a_Faults_judge (ok_Faults_judge T) (hr.mono (by decide)) T.b_Faults_judge .nil pass0 (pa_cons (pe_ix ix_tup (pv 9) pe_int (fun _ _ => rfl)) (pa_cons (pe_ix ix_tup (pv 9) pe_int (fun _ _ => rfl)) (pa_cons (pe_ix ix_tup (pv 9) pe_int (fun _ _ => rfl)) pa_nil)))))
        (pss_cons (ps_if (PW.pt (pw_or (pt_not (pt_val (pe_call (ok_l_same T) (hr.mono (by decide)) rfl T.m_l_same T.F_l_same.kp T.b_l_same .nil pass0 (pa_cons (pv 11) (pa_cons (pv 10) pa_nil))))) (pw_or1 (pt_not (pt_val (pe_call (ok_l_equal T) (hr.mono (by decide)) rfl T.m_l_equal T.F_l_equal.kp T.b_l_equal .nil pass0 (pa_cons (pv 11) (pa_cons (pv 10) pa_nil)))))))) (pss_one (ps_ret pe_bl)) pss_nil)
        (pss_one (ps_if (PW.pt (pw_or (pt_cmpR op_ne (pe_fld (pv 7) rfl) (pe_ix ix_list (pv 4) pe_int (fun _ _ => rfl)) (nomark _)) (pw_or1 (pt_cmpR (op_neD hr.units) (pe_callTy call_list_of (by rfl) T.n_list (by decide +kernel) (pa_cons (pe_fld (pv 7) rfl) pa_nil)) (pv 5) (nomark _))))) (pss_one (ps_ret pe_bl)) pss_nil)))))))
        (pss_one (ps_ret (pe_and (pe_call (ok_l_is_integer T) (hr.mono (by decide)) rfl T.m_l_is_integer T.F_l_is_integer.kp T.b_l_is_integer .nil pass0 (pa_cons (pe_fld (pv 7) rfl) pa_nil)) (pe_one (pe_callB call_isi (by rfl) T.n_isinstance (by decide +kernel) (pa_cons (pe_fld (pv 7) rfl) (pa_cons (pe_bltn (v := .ty "list") (by rfl) T.n_list (by decide +kernel) rfl) pa_nil)))))))))))))))), ?_⟩
    dsimp only [cxOf, Cx.nox, Cx.wish, L2.start, List.map, List.cons_append, List.nil_append, List.length_cons, List.length_nil, Nat.reduceAdd, Nat.reduceSub, Nat.zero_add, List.replicate_succ, List.replicate_zero]
    walk_at "go"
    generalize cell ns 0 = fi
    refine ⟨by show 3 ≤ sizeLine; decide, fun p1 hp1 => ?_⟩
    generalize z1 : upd H p1 _ = H1
    have s1 : Same H H1 := by rw [← z1]; exact same_upd hp1
    have k1 : H1 p1 = some (.tup ([6, 6, 70000].map V.int)) := (congrFun z1 p1).symm.trans upd_same
    clear z1
    obtain ⟨m, em, m0, m1⟩ : ∃ m : Int, atI ([6, 6, 70000].map V.int) (fi / 7 % 3) = some (.int m) ∧ 0 < m ∧ m ≤ 70000 := by
      obtain h | h | h : fi / 7 % 3 = 0 ∨ fi / 7 % 3 = 1 ∨ fi / 7 % 3 = 2 := by omega
      · rw [h]; exact ⟨6, rfl, by decide, by decide⟩
      · rw [h]; exact ⟨6, rfl, by decide, by decide⟩
      · rw [h]; exact ⟨70000, rfl, by decide, by decide⟩
    walk_at "go"
    refine g_ixT (st k1) em ?_
    have hS1 := s1.seq hS
    walk_at "go"
    have f0 : 0 ≤ fi % 7 := Int.emod_nonneg _ (by decide)
    have f1 : fi % 7 < 7 := Int.emod_lt_of_pos _ (by decide)
    obtain ⟨N, eN, hN⟩ : ∃ N : Nat, fi % 7 = (N : Int) ∧ N ≤ 6 := ⟨(fi % 7).toNat, by omega, by omega⟩
    rw [eN]
    refine ⟨by omega, by omega, fun D hD => ?_⟩
    refine lc_it walk_range (fun i H' => But D H1 H' ∧ ∃ (as : List Addr) (gs : List Rl), as.length = i ∧ gs.length = i ∧ H' D = some (.lst (as.map V.ref)) ∧ (∀ g ∈ gs, RlOk g) ∧ ∀ (j : Nat) (x : Addr) (g : Rl), as[j]? = some x → gs[j]? = some g → x ≠ D ∧ H1 x = none ∧ RwO H' x g) ?_ (fun _ _ _ _ => trivial) ?_ ?_
    · exact ⟨But.of (same_upd hD), [], [], rfl, rfl, upd_same, (fun g z => by cases z), fun j x g z => by cases z⟩
    · rintro i x H0 H2 hi ⟨bt, as, gs, l1, l2, hd, ok, hg⟩ ⟨rfl, rfl⟩
      refine ⟨rfl, ?_⟩
      have hS2 := (bt.same hD).seq hS1
      have hi6 : i < 7 := by have := hi; simp at this; omega
      walk_at "go"
      refine u_start fun p n hp => ?_
      generalize z4 : upd H2 p _ = H4
      have s4 : Same H2 H4 := by rw [← z4]; exact same_upd hp
      have k4 : H4 p = some (.lst [.int n]) := (congrFun z4 p).symm.trans upd_same
      clear z4
      walk_at "go"
      refine ⟨p, n, m, rfl, k4, m0, m1, fun x g n' H5 nx b5 o5 okg k5 => ?_⟩
      have npD : p ≠ D := fun z => by rw [z, hd] at hp; cases hp
      have hd5 := b5 _ _ npD.symm (s4 _ _ hd)
      have nxD : x ≠ D := fun z => by rw [z, s4 _ _ hd] at nx; cases nx
      have b25 : But p H2 H5 := (But.of s4).trans b5
      refine ⟨_, hd5, by rw [List.length_map, l1]; exact szl (by omega), ?_⟩
      have s25 : Same H2 H5 := b25.same hp
      refine ⟨(bt.trans (But.of s25)).upd, as ++ [x], gs ++ [g], by rw [List.length_append, l1]; rfl, by rw [List.length_append, l2]; rfl, by rw [upd_same, List.map_append]; rfl, ?_, ?_⟩
      · intro g' h'
        rcases List.mem_append.mp h' with h' | h'
        · exact ok g' h'
        · rw [List.mem_singleton.mp h']
          exact okg
      · intro j y g' e1 e2
        by_cases c : j < i
        · rw [List.getElem?_append_left (by omega)] at e1 e2
          obtain ⟨y1, y2, y3⟩ := hg j y g' e1 e2
          exact ⟨y1, y2, (y3.same s25).butL y1 But.refl.upd hd5⟩
        · have hj : j = i := by
            have := (List.getElem?_eq_some_iff.mp e1).1
            rw [List.length_append, l1] at this
            simp at this
            omega
          subst hj
          rw [← l1, List.getElem?_concat_length] at e1
          rw [← l2, List.getElem?_concat_length] at e2
          injection e1 with e1
          injection e2 with e2
          subst e1
          subst e2
          refine ⟨nxD, ?_, o5.butL nxD But.refl.upd hd5⟩
          cases e : H1 x with
          | none => rfl
          | some o => rw [s4 _ _ (bt _ _ nxD e)] at nx; cases nx
    · rintro H2 ⟨bt, as, gs, l1, l2, hd, ok, hg⟩
      rw [Int.toNat_natCast] at l1 l2
      have hS2 := (bt.same hD).seq hS1
      walk_at "go"
      refine ⟨by show 2 ≤ sizeLine; decide, fun p hp => ?_⟩
      generalize cell ns 1 % 4294967296 = sd
      generalize z3 : upd H2 p _ = H3
      have s3 : Same H2 H3 := by rw [← z3]; exact same_upd hp
      have k3 : H3 p = some (.lst [.int 0, .int sd]) := (congrFun z3 p).symm.trans upd_same
      clear z3
      have hd3 := s3 _ _ hd
      have np : ∀ (j : Nat) (x : Addr) (g : Rl), as[j]? = some x → gs[j]? = some g → x ≠ p := fun j x g e1 e2 => by
        obtain ⟨_, _, tv, o, _⟩ := hg j x g e1 e2
        exact ne_of_none o hp
      walk_at "go"
      refine ⟨⟨_, sl hd3⟩, fun C hC => ?_⟩
      refine lc_vals walk_list ((List.replicate gs.length (0 : Int)).map V.int) hC (by rw [List.length_map, List.length_map, List.length_replicate, l1, l2]) (fun H s => s.seq (sl hd3)) ?turn0 ?done0
      case turn0 =>
        rintro i x H4 H5 hi2 p2 ⟨rfl, hx⟩
        have hi3 : i < gs.length := by rw [l2, ← l1, ← List.length_map (f := V.ref)]; exact hi2
        refine ⟨rfl, ?_⟩
        walk_at "go"
        refine lc_next hC p2 (by rw [List.length_map, List.length_replicate]; omega) ?_
        rw [List.getElem?_map, List.getElem?_replicate, if_pos hi3]
        rfl
      case done0 =>
      intro H4 s4 k4
      have hd4 := s4 _ _ hd3
      have npC : p ≠ C := ne_of_none k3 hC
      have nC : ∀ (j : Nat) (x : Addr) (g : Rl), as[j]? = some x → gs[j]? = some g → x ≠ C := fun j x g e1 e2 => by
        obtain ⟨_, _, tv, o, _⟩ := hg j x g e1 e2
        exact ne_of_none (s3 _ _ o) hC
      have o4 : ∀ (j : Nat) (x : Addr) (g : Rl), as[j]? = some x → gs[j]? = some g → RwO H4 x g := fun j x g e1 e2 => ((hg j x g e1 e2).2.2.same s3).same s4
      walk_at "go"
      refine ⟨⟨_, sl hd4⟩, fun G hG => ?_⟩
      refine lc_it walk_list (fun i H' => But G H4 H' ∧ ∃ rs : List Addr, rs.length = i ∧ H' G = some (.lst (rs.map V.ref)) ∧ ∀ (j : Nat) (r : Addr) (g : Rl), rs[j]? = some r → gs[j]? = some g → RlO T.C_Rule H' r g) ?_ (fun i H' _ h => sl (h.1 _ _ (ne_of_none hd4 hG) hd4)) ?_ ?_
      · exact ⟨But.of (same_upd hG), [], rfl, upd_same, fun j r g z => by cases z⟩
      · rintro i x H5 H6 hi4 ⟨b5, rs, lr, hG5, hgR⟩ ⟨rfl, hx⟩
        obtain ⟨ax, hax, rfl⟩ : ∃ ax, as[i]? = some ax ∧ x = .ref ax := map_get hx
        have hi5 : i < gs.length := by rw [l2, ← l1]; exact (List.getElem?_eq_some_iff.mp hax).1
        have hgi : gs[i]? = some gs[i] := List.getElem?_eq_getElem hi5
        refine ⟨rfl, ?_⟩
        walk_at "go"
        refine ⟨ax, _, rfl, (o4 i ax _ hax hgi).same (b5.same hG), fun r2 H7 nr2 s7 o7 => ?_⟩
        refine ⟨_, s7 _ _ hG5, by rw [List.length_map]; exact szl (by omega), ?_⟩
        refine ⟨(b5.trans (But.of s7)).upd, rs ++ [r2], by rw [List.length_append, lr]; rfl, by rw [upd_same, List.map_append]; rfl, ?_⟩
        intro j r3 g e3' e4'
        by_cases c : j < rs.length
        · rw [List.getElem?_append_left c] at e3'
          exact ((hgR j r3 g e3' e4').same s7).butL But.refl.upd (s7 _ _ hG5)
        · have hj : j = i := by
            have := (List.getElem?_eq_some_iff.mp e3').1
            rw [List.length_append] at this
            simp at this
            omega
          subst hj
          rw [← lr, List.getElem?_concat_length] at e3'
          injection e3' with e3'
          subst e3'
          rw [hgi] at e4'
          injection e4' with e4'
          subst e4'
          exact o7.butL But.refl.upd (s7 _ _ hG5)
      · rintro H5 ⟨b5, rs, lr, hG5, hgR⟩
        rw [List.length_map, l1] at lr
        have s45 := b5.same hG
        have k35 := s45 _ _ (s4 _ _ k3)
        walk_at "go"
        refine g_ixL (sl k35) (at_of (j := 1) rfl rfl) ?_
        walk_at "go"
        refine ⟨rfl, rfl, fun f dxf nf ndf nxf => ?_⟩
        have bf : But f H5 (upd (upd H5 dxf (.own f)) f (.ins T.C_Faults dxf [])) := ((But.of (same_upd (o := .own f) ndf))).upd
        have Rs5 : Rls T.C_Rule H5 rs gs := ⟨by omega, hgR⟩
        refine ⟨f, dxf, G, rs, gs, sd, rfl, upd_same, fun H' b => ((bf.trans b).same nf) _ _ hG5, fun H' b => Rs5.same ((bf.trans b).same nf), by omega, fun c2 l2' rs2 H6 b6 n1 n2 n3 nc nl kf kc kl nr R6 => ⟨rfl, ?_⟩⟩
        have s56 : Same H5 H6 := (bf.trans b6).same nf
        walk_at "go"
        have kG6 := s56 _ _ hG5
        refine ⟨ty_l kG6, ?_⟩
        walk_at "go"
        refine ⟨by show 8 ≤ sizeLine; decide, fun e1 he1 => ?_⟩
        generalize z7 : upd H6 e1 _ = H7
        have s7 : Same H6 H7 := by rw [← z7]; exact same_upd he1
        have k7 : H7 e1 = some (.lst [.str "lose", .int 0, .int 0, .non, .non, .non, .non, .non]) := (congrFun z7 e1).symm.trans upd_same
        clear z7
        walk_at "go"
        refine ⟨e1, ⟨"lose", 0, 0, none, none, none, none, none⟩, rfl, ⟨.non, k7, rfl⟩, fun r3 H8 nr3 s8 o8 => ?_⟩
        walk_at "go"
        have s68 := s7.trans s8
        have kG8 := s68 _ _ kG6
        refine g_append kG8 (by rw [List.length_map]; exact szl (by omega)) ?_
        walk_at "go"
        generalize z9 : upd H8 G _ = H9
        have b9 : But G H8 H9 := by rw [← z9]; exact But.refl.upd
        clear z9
        have sH4 : Same H H4 := ((s1.trans (bt.same hD)).trans s3).trans s4
        have fr4 : ∀ {x}, H4 x = none → H x = none := fun {x} h => sH4.free h
        have s48 : Same H4 H8 := (s45.trans s56).trans s68
        have s09 : Same H H9 := But.same ((But.of (sH4.trans s48)).trans b9) (fr4 hG)
        have sf : Same H5 (upd (upd H5 dxf (.own f)) f (.ins T.C_Faults dxf [])) := bf.same nf
        have s05 : Same H H5 := sH4.trans s45
        have hCn : H C = none := ((s1.trans (bt.same hD)).trans s3).free hC
        have hpn : H p = none := (s1.trans (bt.same hD)).free hp
        have hfn : H f = none := s05.free nf
        have hcn : H c2 = none := (s05.trans sf).free nc
        have k5C := s45 _ _ k4
        have k5p := k35
        have k5D := s45 _ _ hd4
        have nGf : G ≠ f := ne_of_none hG5 nf
        have nGc : G ≠ c2 := ne_of_none (sf _ _ hG5) nc
        have nGl : G ≠ l2' := ne_of_none (sf _ _ hG5) nl
        have nGC : C ≠ G := ne_of_none k4 hG
        have nGp : p ≠ G := ne_of_none (s4 _ _ k3) hG
        have nGD : D ≠ G := ne_of_none hd4 hG
        have nCf : C ≠ f := ne_of_none k5C nf
        have nCc : C ≠ c2 := ne_of_none (sf _ _ k5C) nc
        have nCl : C ≠ l2' := ne_of_none (sf _ _ k5C) nl
        have npf : p ≠ f := ne_of_none k5p nf
        have npc : p ≠ c2 := ne_of_none (sf _ _ k5p) nc
        have npl : p ≠ l2' := ne_of_none (sf _ _ k5p) nl
        have nDf : D ≠ f := ne_of_none k5D nf
        have nDc : D ≠ c2 := ne_of_none (sf _ _ k5D) nc
        have nDC : D ≠ C := ne_of_none hd3 hC
        have nDp : D ≠ p := ne_of_none hd hp
        have k9C := b9 _ _ nGC (s68 _ _ (s56 _ _ k5C))
        have k9p := b9 _ _ nGp (s68 _ _ (s56 _ _ k5p))
        have k9D := b9 _ _ nGD (s68 _ _ (s56 _ _ k5D))
        have k9f := b9 _ _ nGf.symm (s68 _ _ kf)
        have k9c := b9 _ _ nGc.symm (s68 _ _ kc)
        have k9l := b9 _ _ nGl.symm (s68 _ _ kl)
        have R9 : Rls T.C_Rule H9 rs2 gs := ⟨R6.1, fun j r g e1 e2 => ((R6.2 j r g e1 e2).same s68).butL b9 kG8⟩
        have w9 : ∀ (j : Nat) (x : Addr) (g : Rl), as[j]? = some x → gs[j]? = some g → x ≠ C ∧ x ≠ p ∧ x ≠ f ∧ x ≠ c2 ∧ RwO H9 x g := fun j x g e1 e2 => by
          have o := o4 j x g e1 e2
          obtain ⟨xs, ox⟩ := o.nl
          exact ⟨nC j x g e1 e2, np j x g e1 e2, ne_of_none (s45 _ _ ox) nf, ne_of_none (sf _ _ (s45 _ _ ox)) nc, (o.same s48).butL (ne_of_none ox hG) b9 kG8⟩
        have r9 : ∀ (j : Nat) (r : Addr) (g : Rl), rs2[j]? = some r → gs[j]? = some g → r ≠ C ∧ r ≠ p ∧ r ≠ f ∧ r ≠ c2 := fun j r g e1 e2 => by
          obtain ⟨a1, a2, a3, a4⟩ := nr r (List.mem_of_getElem? e1)
          exact ⟨(ne_of_none (sf _ _ k5C) a4).symm, (ne_of_none (sf _ _ k5p) a4).symm, a1, a2⟩
        clear nr R6 kf kc kl nc nl
        obtain ⟨N2, eN2, hN2⟩ : ∃ N2 : Nat, (if (if (ns.length : Int) - 8 > 4 then (ns.length : Int) - 8 else 4) < 56 then (if (ns.length : Int) - 8 > 4 then (ns.length : Int) - 8 else 4) else 56) = (N2 : Int) ∧ N2 ≤ 56 := by
          refine ⟨(if (if (ns.length : Int) - 8 > 4 then (ns.length : Int) - 8 else 4) < 56 then (if (ns.length : Int) - 8 > 4 then (ns.length : Int) - 8 else 4) else 56).toNat, ?_, ?_⟩ <;> (split <;> split <;> omega)
        refine for_r (n := (N2 : Int)) N2 (Int.toNat_natCast _) (by omega) (by omega) (fun i σ H' => ∃ (ns' : List Int) (sd' : Int) (v8 v9 v10 v11 : Option V), σ = [some (.ref a), some (.int fi), some (.int m), some (.ref D), some (.ref p), some (.ref C), some (.ref G), some (.ref f), v8, v9, v10, v11, none] ∧ But4 C p f c2 H9 H' ∧ ns'.length = gs.length ∧ H' C = some (.lst (ns'.map V.int)) ∧ H' p = some (.lst [.int 0, .int sd']) ∧ H' f = some (FaS T.C_Faults dxf sd' c2 l2') ∧ H' c2 = some (.lst (ns'.map V.int))) ?start ?turn ?done ?ev
        case start => exact ⟨_, _, _, _, _, _, rfl, fun _ _ _ _ _ _ z => z, by rw [List.length_replicate], k9C, k9p, k9f, k9c⟩
        case ev =>
          intro R rr
          walk_at "go"
          refine g_len (.inl (s09.seq hS)) ?_
          walk_at "go"
          rw [List.length_map, eN2]
          exact rr
        case done =>
          rintro σ' H' ⟨ns', sd', v8, v9, v10, v11, rfl, b4, ln, kC, kp, kf, kc⟩
          unfold FaS at kf
          walk_at "go"
          refine g_isiL kc ?_
          exact q _
        case turn =>
          rintro i σ' H' hi ⟨ns', sd', v8, v9, v10, v11, rfl, b4, ln, kC, kp, kf, kc⟩
          have sm : Same H H' := fun x o e => b4 x o (ne_of_none e hCn) (ne_of_none e hpn) (ne_of_none e hfn) (ne_of_none e hcn) (s09 _ _ e)
          have hS' := sm.seq hS
          have kD := b4 _ _ nDC nDp nDf nDc k9D
          have kl := b4 _ _ nCl.symm npl.symm n2 n3.symm k9l
          walk_at "go"
          refine ⟨_, _, m, rfl, m0, m1, fun t x y z Ha nt sa ea => ?_⟩
          have ntC : t ≠ C := fun w => by rw [w, kC] at nt; cases nt
          have ntp : t ≠ p := fun w => by rw [w, kp] at nt; cases nt
          walk_at "go"
          refine ⟨D, C, p, t, as, gs, ns', x, y, z, 0, sd', rfl, sa _ _ kD, fun d hd' => ⟨by omega, fun j u g e1 e2 => ?_⟩, sa _ _ kC, ln, sa _ _ kp, npC.symm, nDC, nDp, ea, by omega, ok, fun d Hb nd bb kCb kpb kdb => ?_⟩
          · obtain ⟨a1, a2, a3, a4, o⟩ := w9 j u g e1 e2
            have oa := (o.but4 a1 a2 a3 a4 b4 k9C k9p k9f k9c).same sa
            obtain ⟨xs, ox⟩ := oa.nl
            exact ⟨a1, a2, ne_of_none ox hd', fun H3 b3 => oa.but3 a1 a2 (ne_of_none ox hd') b3 (sa _ _ kC) (sa _ _ kp) hd'⟩
          have kfb := bb _ _ nCf.symm npf.symm (sa _ _ kf)
          have kcb := bb _ _ nCc.symm npc.symm (sa _ _ kc)
          have klb := bb _ _ nCl.symm npl.symm (sa _ _ kl)
          have etb := bb _ _ ntC ntp ea
          have kfb' := kfb
          unfold FaS at kfb'
          have Rb : Rls T.C_Rule Hb rs2 gs := ⟨R9.1, fun j r g e1 e2 => by
            obtain ⟨a1, a2, a3, a4⟩ := r9 j r g e1 e2
            have o := ((R9.2 j r g e1 e2).but4 a1 a2 a3 a4 b4 k9C k9p k9f k9c).same sa
            exact o.but2 a1 a2 bb (sa _ _ kC) (sa _ _ kp)⟩
          walk_at "go"
          refine g_ixT (st etb) (at_of (j := 0) rfl rfl) ?_
          walk_at "go"
          refine g_ixT (st etb) (at_of (j := 1) rfl rfl) ?_
          walk_at "go"
          refine g_ixT (st etb) (at_of (j := 2) rfl rfl) ?_
          walk_at "go"
          refine ⟨f, dxf, c2, l2', rs2, gs, ns', x, y, z, sd', rfl, kfb, kcb, klb, n3, Rb, ln, by omega, ok, fun v Hc nv bc kfc kcc kvc => ?_⟩
          have ndf : d ≠ f := fun w => by rw [w, sa _ _ kf] at nd; cases nd
          have ndc : d ≠ c2 := fun w => by rw [w, sa _ _ kc] at nd; cases nd
          have kdc := bc _ _ ndf ndc kdb
          walk_at "go"
          refine ⟨v, d, _, rfl, kvc, kdc, ?_⟩
          walk_at "go"
          refine ⟨v, d, _, rfl, kvc, kdc, fun Hd sd2 => ?_⟩
          have kfd := sd2 _ _ kfc
          have kfd' := kfd
          unfold FaS at kfd'
          have kpd := sd2 _ _ (bc _ _ npf npc kpb)
          have kCd := sd2 _ _ (bc _ _ nCf nCc kCb)
          have kcd := sd2 _ _ kcc
          walk_at "go"
          refine g_ixL (sl kpd) (at_of (j := 1) rfl rfl) ?_
          walk_at "go"
          refine ⟨c2, _, rfl, .inl (sl kcd), fun l5 hl5 => ?_⟩
          have s5' := same_upd (o := .lst ((J x y z gs ns' sd' gs.length).1.map V.int)) hl5
          walk_at "go"
          refine g_neL (sl upd_same) (sl (s5' _ _ kCd)) ?_
          walk_at "go"
          refine ⟨_, _, _, _, _, _, rfl, fun u o a1 a2 a3 a4 e => s5' _ _ (sd2 _ _ (bc _ _ a3 a4 (bb _ _ a1 a2 (sa _ _ (b4 u o a1 a2 a3 a4 e))))), J_len.trans ln, s5' _ _ kCd, s5' _ _ kpd, s5' _ _ kfd, s5' _ _ kcd⟩
end
end My
namespace My
open PySem PySem.Spec L2
local macro_rules | `(tactic| walk_at "side") => `(tactic| first | assumption | decide | omega | exact ⟨by decide, by decide⟩ | exact ⟨by decide, by decide, by decide⟩ | decide +kernel | exact cdivW (by decide +kernel) (by decide +kernel) | exact Or.inl ⟨by omega, by omega⟩ | exact Or.inr ⟨by omega, by omega⟩ | (simp only [List.length_map, List.length_cons, List.length_nil, List.length_append]; omega))
local macro_rules | `(tactic| walk_at "fact") => `(tactic| first | assumption | omega | with_reducible rfl)
local macro_rules | `(tactic| walk_at "use") => `(tactic| fail "use")
local macro_rules | `(tactic| walk_at "go1") => `(tactic| with_reducible first | refine g_seq ?_ | refine g_asg ?_ | refine g_ret ?_ | refine g_ifS ?_ | refine g_drop ?_ | refine g_star ?_ | refine g_nx ?_ | refine g_rt ?_ | refine g_bkE ?_ | refine g_ctE ?_ | refine g_next ?_ | refine g_retN ?_ | refine g_brk ?_ | refine g_ct ?_ | refine g_c ?_ | refine g_op ?_ | refine g_un ?_ | refine g_rI0 ?_ | refine g_rU ?_ | refine g_rEqI ?_ | refine g_rNeI ?_ | refine g_isN ?_ | refine g_rIsB ?_ | refine g_rNotB ?_ | refine g_test ?_ | refine g_B ?_ | refine g_bl ?_ | refine g_and ?_ | refine g_or ?_ | refine g_not ?_ | refine g_andV ?_ | refine g_orV ?_ | refine g_notV ?_ | refine g_if ?_ | refine g_chain ?_ | refine g_yes ?_ | refine g_lc ?_ | refine g_revR ?_ | refine g_rng1 ?_ | refine g_iList ?_ | refine g_nil ?_ | refine g_cons ?_ | refine g_tup ?_ | refine g_lst ?_ | refine g_call ?_ | refine g_CB ?_ | refine g_sl ?_ | refine g_noPart ?_ | refine g_part ?_ | refine g_intE ?_ | refine g_ref ?_ | refine g_fld ?_ | refine g_sfld ?_ | refine g_meth ?_ | refine g_make ?_ | refine g_prop ?_  | refine g_ipI ?_ | refine g_int1 ?_ | refine g_int1B ?_ | refine g_one ?_ | refine g_two ?_ | refine g_isiI ?_ | refine g_isiIB ?_ | refine g_isiB ?_ | refine g_BM ?_ | refine g_BM0 ?_ | refine g_sub ?_)
local macro_rules | `(tactic| walk_at "go") => `(tactic| repeat (first | walk_at "go1" | ((with_reducible refine' g_nameE ?sd_ ?_); case sd_ => dsimp only [List.set_cons_succ, List.set_cons_zero]) | ((with_reducible refine' g_var ?sd_ ?_); case sd_ => exact rfl) | ((with_reducible refine' g_aug ?sd_ ?_); case sd_ => exact rfl) | ((with_reducible refine' g_rI ?sd_ ?_); case sd_ => walk_at "side") | ((with_reducible refine' g_dT ?sd_ ?_); case sd_ => walk_at "fact") | ((with_reducible refine' g_dF ?sd_ ?_); case sd_ => walk_at "fact") | ((with_reducible refine' g_nT ?sd_ ?_); case sd_ => walk_at "fact") | ((with_reducible refine' g_nF ?sd_ ?_); case sd_ => walk_at "fact") | (with_reducible refine g_iT rfl ?_) | (with_reducible refine g_iF rfl ?_) | walk_at "use"))
theorem all_mk {l : PySem.W.OpenLaw} {w : World} {K : PySem.W.Frag} {h : Heap} {mg : Str → Option Value} {fa : Addr} (X : K.In h) (G : h.Ns mainGlobals mg) (hfa : mg "law" = some (.ref fa))
    {t_CIRCLE : Tok} {t_CHANCES : Tok} {C_Verdict : Addr} {C_Faults : Addr} {C_Rule : Addr} {f_next_seed : Addr} {od_next_seed an_next_seed : Option Addr} {sl_next_seed : Array (Option Value)} {oc_next_seed kV_next_seed dc_next_seed pm_next_seed cd_next_seed ct_next_seed : Value} {f_draw : Addr} {od_draw an_draw : Option Addr} {sl_draw : Array (Option Value)} {oc_draw kV_draw dc_draw pm_draw cd_draw ct_draw : Value} {f_Verdict_init__ : Addr} {od_Verdict_init__ an_Verdict_init__ : Option Addr} {sl_Verdict_init__ : Array (Option Value)} {oc_Verdict_init__ dc_Verdict_init__ pm_Verdict_init__ cd_Verdict_init__ ct_Verdict_init__ : Value} {kd_Verdict_init__ : Addr} {tk_Verdict_init___copies : Tok} {tk_Verdict_init___delay : Tok} {f_Verdict_arrivals : Addr} {od_Verdict_arrivals an_Verdict_arrivals : Option Addr} {sl_Verdict_arrivals : Array (Option Value)} {oc_Verdict_arrivals kV_Verdict_arrivals dc_Verdict_arrivals pm_Verdict_arrivals cd_Verdict_arrivals ct_Verdict_arrivals : Value} {p0_Verdict_arrivals : Addr} {pr_Verdict_arrivals : List Value} {f_Verdict_eq__ : Addr} {od_Verdict_eq__ an_Verdict_eq__ : Option Addr} {sl_Verdict_eq__ : Array (Option Value)} {oc_Verdict_eq__ kV_Verdict_eq__ dc_Verdict_eq__ pm_Verdict_eq__ cd_Verdict_eq__ ct_Verdict_eq__ : Value} {f_Verdict_fields : Addr} {od_Verdict_fields an_Verdict_fields : Option Addr} {sl_Verdict_fields : Array (Option Value)} {oc_Verdict_fields kV_Verdict_fields dc_Verdict_fields pm_Verdict_fields cd_Verdict_fields ct_Verdict_fields : Value} {f_Faults_init__ : Addr} {od_Faults_init__ an_Faults_init__ : Option Addr} {sl_Faults_init__ : Array (Option Value)} {oc_Faults_init__ dc_Faults_init__ pm_Faults_init__ cd_Faults_init__ ct_Faults_init__ : Value} {kV_Faults_init__ : Value} {f_Faults_judge : Addr} {od_Faults_judge an_Faults_judge : Option Addr} {sl_Faults_judge : Array (Option Value)} {oc_Faults_judge kV_Faults_judge dc_Faults_judge pm_Faults_judge cd_Faults_judge ct_Faults_judge : Value} {f_Faults_applies : Addr} {od_Faults_applies an_Faults_applies : Option Addr} {sl_Faults_applies : Array (Option Value)} {oc_Faults_applies kV_Faults_applies dc_Faults_applies pm_Faults_applies cd_Faults_applies ct_Faults_applies : Value} {f_Faults_apply : Addr} {od_Faults_apply an_Faults_apply : Option Addr} {sl_Faults_apply : Array (Option Value)} {oc_Faults_apply kV_Faults_apply dc_Faults_apply pm_Faults_apply cd_Faults_apply ct_Faults_apply : Value} {f_Faults_draw : Addr} {od_Faults_draw an_Faults_draw : Option Addr} {sl_Faults_draw : Array (Option Value)} {oc_Faults_draw kV_Faults_draw dc_Faults_draw pm_Faults_draw cd_Faults_draw ct_Faults_draw : Value} {f_Rule_init__ : Addr} {od_Rule_init__ an_Rule_init__ : Option Addr} {sl_Rule_init__ : Array (Option Value)} {oc_Rule_init__ dc_Rule_init__ pm_Rule_init__ cd_Rule_init__ ct_Rule_init__ : Value} {kd_Rule_init__ : Addr} {tk_Rule_init___amount : Tok} {tk_Rule_init___until : Tok} {f_Rule_considers : Addr} {od_Rule_considers an_Rule_considers : Option Addr} {sl_Rule_considers : Array (Option Value)} {oc_Rule_considers kV_Rule_considers dc_Rule_considers pm_Rule_considers cd_Rule_considers ct_Rule_considers : Value} {f_Rule_fork : Addr} {od_Rule_fork an_Rule_fork : Option Addr} {sl_Rule_fork : Array (Option Value)} {oc_Rule_fork kV_Rule_fork dc_Rule_fork pm_Rule_fork cd_Rule_fork ct_Rule_fork : Value} {f_l_cell : Addr} {od_l_cell an_l_cell : Option Addr} {sl_l_cell : Array (Option Value)} {oc_l_cell kV_l_cell dc_l_cell pm_l_cell cd_l_cell ct_l_cell : Value} {f_l_is_integer : Addr} {od_l_is_integer an_l_is_integer : Option Addr} {sl_l_is_integer : Array (Option Value)} {oc_l_is_integer kV_l_is_integer dc_l_is_integer pm_l_is_integer cd_l_is_integer ct_l_is_integer : Value} {f_l_start : Addr} {od_l_start an_l_start : Option Addr} {sl_l_start : Array (Option Value)} {oc_l_start kV_l_start dc_l_start pm_l_start cd_l_start ct_l_start : Value} {f_l_digit : Addr} {od_l_digit an_l_digit : Option Addr} {sl_l_digit : Array (Option Value)} {oc_l_digit kV_l_digit dc_l_digit pm_l_digit cd_l_digit ct_l_digit : Value} {f_l_rule : Addr} {od_l_rule an_l_rule : Option Addr} {sl_l_rule : Array (Option Value)} {oc_l_rule kV_l_rule dc_l_rule pm_l_rule cd_l_rule ct_l_rule : Value} {f_l_made : Addr} {od_l_made an_l_made : Option Addr} {sl_l_made : Array (Option Value)} {oc_l_made kV_l_made dc_l_made pm_l_made cd_l_made ct_l_made : Value} {f_l_draw : Addr} {od_l_draw an_l_draw : Option Addr} {sl_l_draw : Array (Option Value)} {oc_l_draw kV_l_draw dc_l_draw pm_l_draw cd_l_draw ct_l_draw : Value} {f_l_admits : Addr} {od_l_admits an_l_admits : Option Addr} {sl_l_admits : Array (Option Value)} {oc_l_admits kV_l_admits dc_l_admits pm_l_admits cd_l_admits ct_l_admits : Value} {f_l_applies : Addr} {od_l_applies an_l_applies : Option Addr} {sl_l_applies : Array (Option Value)} {oc_l_applies kV_l_applies dc_l_applies pm_l_applies cd_l_applies ct_l_applies : Value} {f_l_due : Addr} {od_l_due an_l_due : Option Addr} {sl_l_due : Array (Option Value)} {oc_l_due kV_l_due dc_l_due pm_l_due cd_l_due ct_l_due : Value} {f_l_same : Addr} {od_l_same an_l_same : Option Addr} {sl_l_same : Array (Option Value)} {oc_l_same kV_l_same dc_l_same pm_l_same cd_l_same ct_l_same : Value} {f_l_equal : Addr} {od_l_equal an_l_equal : Option Addr} {sl_l_equal : Array (Option Value)} {oc_l_equal kV_l_equal dc_l_equal pm_l_equal cd_l_equal ct_l_equal : Value} {f_l_packet : Addr} {od_l_packet an_l_packet : Option Addr} {sl_l_packet : Array (Option Value)} {oc_l_packet kV_l_packet dc_l_packet pm_l_packet cd_l_packet ct_l_packet : Value} {f_law : Addr} {od_law an_law : Option Addr} {sl_law : Array (Option Value)} {oc_law kV_law dc_law pm_law cd_law ct_law : Value}
    (v_CIRCLE : PySem.W.nsIn K mainGlobals "CIRCLE" = some (some (.int 4294967296 t_CIRCLE)))
    (v_CHANCES : PySem.W.nsIn K mainGlobals "CHANCES" = some (some (.int 1000 t_CHANCES)))
    (c_Verdict : PySem.W.nsIn K mainGlobals "Verdict" = some (some (.ref C_Verdict)))
    (pg_Verdict : PySem.W.plainGet K C_Verdict Str.empty = true)
    (hd_Verdict : PySem.W.hasDictIn K C_Verdict = true)
    (po_Verdict : PySem.W.plainOver K C_Verdict = true)
    (sa_Verdict : PySem.W.findIn K (.ref C_Verdict) "__setattr__" = some (some (.builtin "object.__setattr__")))
    (mk0_Verdict : PySem.W.makesIn K C_Verdict = true)
    (kc_Verdict : PySem.W.keepIn K (.ref C_Verdict) = true)
    (ha_Verdict : PySem.W.findIn K (.ref C_Verdict) "__class__" = some (some (.builtin "object.__class__")))
    (hm_Verdict : PySem.W.mroIn K C_Verdict (.type "object") = some true)
    (hn_all : PySem.W.specialIn K (.builtin "object.__class__") "__get__" = some (some (.builtin "getset_descriptor.__get__")))
    (ht_all : PySem.W.takesIn K (.builtin "object.__class__") = some true)
    (q_Verdict : PySem.W.subIn K (.type "int") (.ref C_Verdict) = some false)
    (ic_Verdict : PySem.W.isClsIn K C_Verdict = true)
    (tc_Verdict : PySem.W.typeIn K (.ref C_Verdict) = some (.type "type"))
    (n_Verdict_lost : PySem.W.findIn K (.ref C_Verdict) "lost" = some none)
    (n_Verdict_marked : PySem.W.findIn K (.ref C_Verdict) "marked" = some none)
    (n_Verdict_copies : PySem.W.findIn K (.ref C_Verdict) "copies" = some none)
    (n_Verdict_delay : PySem.W.findIn K (.ref C_Verdict) "delay" = some none)
    (c_Faults : PySem.W.nsIn K mainGlobals "Faults" = some (some (.ref C_Faults)))
    (pg_Faults : PySem.W.plainGet K C_Faults Str.empty = true)
    (hd_Faults : PySem.W.hasDictIn K C_Faults = true)
    (po_Faults : PySem.W.plainOver K C_Faults = true)
    (sa_Faults : PySem.W.findIn K (.ref C_Faults) "__setattr__" = some (some (.builtin "object.__setattr__")))
    (mk0_Faults : PySem.W.makesIn K C_Faults = true)
    (kc_Faults : PySem.W.keepIn K (.ref C_Faults) = true)
    (n_Faults_seed : PySem.W.findIn K (.ref C_Faults) "seed" = some none)
    (n_Faults_counts : PySem.W.findIn K (.ref C_Faults) "counts" = some none)
    (n_Faults__rules : PySem.W.findIn K (.ref C_Faults) "_rules" = some none)
    (c_Rule : PySem.W.nsIn K mainGlobals "Rule" = some (some (.ref C_Rule)))
    (pg_Rule : PySem.W.plainGet K C_Rule Str.empty = true)
    (hd_Rule : PySem.W.hasDictIn K C_Rule = true)
    (po_Rule : PySem.W.plainOver K C_Rule = true)
    (sa_Rule : PySem.W.findIn K (.ref C_Rule) "__setattr__" = some (some (.builtin "object.__setattr__")))
    (mk0_Rule : PySem.W.makesIn K C_Rule = true)
    (kc_Rule : PySem.W.keepIn K (.ref C_Rule) = true)
    (ha_Rule : PySem.W.findIn K (.ref C_Rule) "__class__" = some (some (.builtin "object.__class__")))
    (hm_Rule : PySem.W.mroIn K C_Rule (.type "object") = some true)
    (n_Rule_fault : PySem.W.findIn K (.ref C_Rule) "fault" = some none)
    (n_Rule_amount : PySem.W.findIn K (.ref C_Rule) "amount" = some none)
    (n_Rule_until : PySem.W.findIn K (.ref C_Rule) "until" = some none)
    (n_Rule_sender : PySem.W.findIn K (.ref C_Rule) "sender" = some none)
    (n_Rule_target : PySem.W.findIn K (.ref C_Rule) "target" = some none)
    (n_Rule_ticks : PySem.W.findIn K (.ref C_Rule) "ticks" = some none)
    (n_Rule_nth : PySem.W.findIn K (.ref C_Rule) "nth" = some none)
    (n_Rule_chance : PySem.W.findIn K (.ref C_Rule) "chance" = some none)
    (a_next_seed : PySem.W.nsIn K mainGlobals "next_seed" = some (some (.ref f_next_seed)))
    (l_next_seed : K.lookup f_next_seed = some ⟨oc_next_seed, od_next_seed, .func (PySem.W.fnOf "next_seed" "next_seed" (defArgs s_next_seed) (defBody s_next_seed) (defScope s_next_seed) .none kV_next_seed dc_next_seed pm_next_seed an_next_seed cd_next_seed ct_next_seed), sl_next_seed⟩)
    (cc_next_seed : PySem.W.codeIn K cd_next_seed "next_seed" = true)
    (kk_next_seed : PySem.W.keepIn K (.ref f_next_seed) = true)
    (a_draw : PySem.W.nsIn K mainGlobals "draw" = some (some (.ref f_draw)))
    (l_draw : K.lookup f_draw = some ⟨oc_draw, od_draw, .func (PySem.W.fnOf "draw" "draw" (defArgs s_draw) (defBody s_draw) (defScope s_draw) .none kV_draw dc_draw pm_draw an_draw cd_draw ct_draw), sl_draw⟩)
    (cc_draw : PySem.W.codeIn K cd_draw "draw" = true)
    (kk_draw : PySem.W.keepIn K (.ref f_draw) = true)
    (a_Verdict_init__ : PySem.W.findIn K (.ref C_Verdict) "__init__" = some (some (.ref f_Verdict_init__)))
    (i_Verdict_init__ : PySem.W.isFn K (.ref f_Verdict_init__) = true)
    (l_Verdict_init__ : K.lookup f_Verdict_init__ = some ⟨oc_Verdict_init__, od_Verdict_init__, .func (PySem.W.fnOf "__init__" "Verdict.__init__" (defArgs s_Verdict_init__) (defBody s_Verdict_init__) (defScope s_Verdict_init__) .none (.ref kd_Verdict_init__) dc_Verdict_init__ pm_Verdict_init__ an_Verdict_init__ cd_Verdict_init__ ct_Verdict_init__), sl_Verdict_init__⟩)
    (kw_Verdict_init___lost : PySem.W.nsIn K kd_Verdict_init__ "lost" = some (some (.bool false)))
    (kw_Verdict_init___marked : PySem.W.nsIn K kd_Verdict_init__ "marked" = some (some (.bool false)))
    (kw_Verdict_init___copies : PySem.W.nsIn K kd_Verdict_init__ "copies" = some (some (.int 0 tk_Verdict_init___copies)))
    (kw_Verdict_init___delay : PySem.W.nsIn K kd_Verdict_init__ "delay" = some (some (.int 1 tk_Verdict_init___delay)))
    (cc_Verdict_init__ : PySem.W.codeIn K cd_Verdict_init__ "Verdict.__init__" = true)
    (kk_Verdict_init__ : PySem.W.keepIn K (.ref f_Verdict_init__) = true)
    (a_Verdict_arrivals : PySem.W.findIn K (.ref C_Verdict) "arrivals" = some (some (.ref p0_Verdict_arrivals)))
    (pget_Verdict_arrivals : PySem.W.specialIn K (.ref p0_Verdict_arrivals) "__get__" = some (some (.builtin "property.__get__")))
    (ptak_Verdict_arrivals : PySem.W.takesIn K (.ref p0_Verdict_arrivals) = some true)
    (prec_Verdict_arrivals : PySem.W.recIn K p0_Verdict_arrivals "property" = some (.ref f_Verdict_arrivals :: pr_Verdict_arrivals))
    (l_Verdict_arrivals : K.lookup f_Verdict_arrivals = some ⟨oc_Verdict_arrivals, od_Verdict_arrivals, .func (PySem.W.fnOf "arrivals" "Verdict.arrivals" (defArgs s_Verdict_arrivals) (defBody s_Verdict_arrivals) (defScope s_Verdict_arrivals) .none kV_Verdict_arrivals dc_Verdict_arrivals pm_Verdict_arrivals an_Verdict_arrivals cd_Verdict_arrivals ct_Verdict_arrivals), sl_Verdict_arrivals⟩)
    (cc_Verdict_arrivals : PySem.W.codeIn K cd_Verdict_arrivals "Verdict.arrivals" = true)
    (kk_Verdict_arrivals : PySem.W.keepIn K (.ref f_Verdict_arrivals) = true)
    (a_Verdict_eq__ : PySem.W.findIn K (.ref C_Verdict) "__eq__" = some (some (.ref f_Verdict_eq__)))
    (i_Verdict_eq__ : PySem.W.isFn K (.ref f_Verdict_eq__) = true)
    (l_Verdict_eq__ : K.lookup f_Verdict_eq__ = some ⟨oc_Verdict_eq__, od_Verdict_eq__, .func (PySem.W.fnOf "__eq__" "Verdict.__eq__" (defArgs s_Verdict_eq__) (defBody s_Verdict_eq__) (defScope s_Verdict_eq__) .none kV_Verdict_eq__ dc_Verdict_eq__ pm_Verdict_eq__ an_Verdict_eq__ cd_Verdict_eq__ ct_Verdict_eq__), sl_Verdict_eq__⟩)
    (cc_Verdict_eq__ : PySem.W.codeIn K cd_Verdict_eq__ "Verdict.__eq__" = true)
    (kk_Verdict_eq__ : PySem.W.keepIn K (.ref f_Verdict_eq__) = true)
    (a_Verdict_fields : PySem.W.findIn K (.ref C_Verdict) "_fields" = some (some (.ref f_Verdict_fields)))
    (i_Verdict_fields : PySem.W.isFn K (.ref f_Verdict_fields) = true)
    (l_Verdict_fields : K.lookup f_Verdict_fields = some ⟨oc_Verdict_fields, od_Verdict_fields, .func (PySem.W.fnOf "_fields" "Verdict._fields" (defArgs s_Verdict_fields) (defBody s_Verdict_fields) (defScope s_Verdict_fields) .none kV_Verdict_fields dc_Verdict_fields pm_Verdict_fields an_Verdict_fields cd_Verdict_fields ct_Verdict_fields), sl_Verdict_fields⟩)
    (cc_Verdict_fields : PySem.W.codeIn K cd_Verdict_fields "Verdict._fields" = true)
    (kk_Verdict_fields : PySem.W.keepIn K (.ref f_Verdict_fields) = true)
    (a_Faults_init__ : PySem.W.findIn K (.ref C_Faults) "__init__" = some (some (.ref f_Faults_init__)))
    (i_Faults_init__ : PySem.W.isFn K (.ref f_Faults_init__) = true)
    (l_Faults_init__ : K.lookup f_Faults_init__ = some ⟨oc_Faults_init__, od_Faults_init__, .func (PySem.W.fnOf "__init__" "Faults.__init__" (defArgs s_Faults_init__) (defBody s_Faults_init__) (defScope s_Faults_init__) .none kV_Faults_init__ dc_Faults_init__ pm_Faults_init__ an_Faults_init__ cd_Faults_init__ ct_Faults_init__), sl_Faults_init__⟩)
    (cc_Faults_init__ : PySem.W.codeIn K cd_Faults_init__ "Faults.__init__" = true)
    (kk_Faults_init__ : PySem.W.keepIn K (.ref f_Faults_init__) = true)
    (a_Faults_judge : PySem.W.findIn K (.ref C_Faults) "judge" = some (some (.ref f_Faults_judge)))
    (i_Faults_judge : PySem.W.isFn K (.ref f_Faults_judge) = true)
    (l_Faults_judge : K.lookup f_Faults_judge = some ⟨oc_Faults_judge, od_Faults_judge, .func (PySem.W.fnOf "judge" "Faults.judge" (defArgs s_Faults_judge) (defBody s_Faults_judge) (defScope s_Faults_judge) .none kV_Faults_judge dc_Faults_judge pm_Faults_judge an_Faults_judge cd_Faults_judge ct_Faults_judge), sl_Faults_judge⟩)
    (cc_Faults_judge : PySem.W.codeIn K cd_Faults_judge "Faults.judge" = true)
    (kk_Faults_judge : PySem.W.keepIn K (.ref f_Faults_judge) = true)
    (a_Faults_applies : PySem.W.findIn K (.ref C_Faults) "_applies" = some (some (.ref f_Faults_applies)))
    (i_Faults_applies : PySem.W.isFn K (.ref f_Faults_applies) = true)
    (l_Faults_applies : K.lookup f_Faults_applies = some ⟨oc_Faults_applies, od_Faults_applies, .func (PySem.W.fnOf "_applies" "Faults._applies" (defArgs s_Faults_applies) (defBody s_Faults_applies) (defScope s_Faults_applies) .none kV_Faults_applies dc_Faults_applies pm_Faults_applies an_Faults_applies cd_Faults_applies ct_Faults_applies), sl_Faults_applies⟩)
    (cc_Faults_applies : PySem.W.codeIn K cd_Faults_applies "Faults._applies" = true)
    (kk_Faults_applies : PySem.W.keepIn K (.ref f_Faults_applies) = true)
    (a_Faults_apply : PySem.W.findIn K (.ref C_Faults) "_apply" = some (some (.ref f_Faults_apply)))
    (i_Faults_apply : PySem.W.isFn K (.ref f_Faults_apply) = true)
    (l_Faults_apply : K.lookup f_Faults_apply = some ⟨oc_Faults_apply, od_Faults_apply, .func (PySem.W.fnOf "_apply" "Faults._apply" (defArgs s_Faults_apply) (defBody s_Faults_apply) (defScope s_Faults_apply) .none kV_Faults_apply dc_Faults_apply pm_Faults_apply an_Faults_apply cd_Faults_apply ct_Faults_apply), sl_Faults_apply⟩)
    (cc_Faults_apply : PySem.W.codeIn K cd_Faults_apply "Faults._apply" = true)
    (kk_Faults_apply : PySem.W.keepIn K (.ref f_Faults_apply) = true)
    (a_Faults_draw : PySem.W.findIn K (.ref C_Faults) "_draw" = some (some (.ref f_Faults_draw)))
    (i_Faults_draw : PySem.W.isFn K (.ref f_Faults_draw) = true)
    (l_Faults_draw : K.lookup f_Faults_draw = some ⟨oc_Faults_draw, od_Faults_draw, .func (PySem.W.fnOf "_draw" "Faults._draw" (defArgs s_Faults_draw) (defBody s_Faults_draw) (defScope s_Faults_draw) .none kV_Faults_draw dc_Faults_draw pm_Faults_draw an_Faults_draw cd_Faults_draw ct_Faults_draw), sl_Faults_draw⟩)
    (cc_Faults_draw : PySem.W.codeIn K cd_Faults_draw "Faults._draw" = true)
    (kk_Faults_draw : PySem.W.keepIn K (.ref f_Faults_draw) = true)
    (a_Rule_init__ : PySem.W.findIn K (.ref C_Rule) "__init__" = some (some (.ref f_Rule_init__)))
    (i_Rule_init__ : PySem.W.isFn K (.ref f_Rule_init__) = true)
    (l_Rule_init__ : K.lookup f_Rule_init__ = some ⟨oc_Rule_init__, od_Rule_init__, .func (PySem.W.fnOf "__init__" "Rule.__init__" (defArgs s_Rule_init__) (defBody s_Rule_init__) (defScope s_Rule_init__) .none (.ref kd_Rule_init__) dc_Rule_init__ pm_Rule_init__ an_Rule_init__ cd_Rule_init__ ct_Rule_init__), sl_Rule_init__⟩)
    (kw_Rule_init___amount : PySem.W.nsIn K kd_Rule_init__ "amount" = some (some (.int 0 tk_Rule_init___amount)))
    (kw_Rule_init___until : PySem.W.nsIn K kd_Rule_init__ "until" = some (some (.int 0 tk_Rule_init___until)))
    (kw_Rule_init___sender : PySem.W.nsIn K kd_Rule_init__ "sender" = some (some .none))
    (kw_Rule_init___target : PySem.W.nsIn K kd_Rule_init__ "target" = some (some .none))
    (kw_Rule_init___ticks : PySem.W.nsIn K kd_Rule_init__ "ticks" = some (some .none))
    (kw_Rule_init___nth : PySem.W.nsIn K kd_Rule_init__ "nth" = some (some .none))
    (kw_Rule_init___chance : PySem.W.nsIn K kd_Rule_init__ "chance" = some (some .none))
    (cc_Rule_init__ : PySem.W.codeIn K cd_Rule_init__ "Rule.__init__" = true)
    (kk_Rule_init__ : PySem.W.keepIn K (.ref f_Rule_init__) = true)
    (a_Rule_considers : PySem.W.findIn K (.ref C_Rule) "considers" = some (some (.ref f_Rule_considers)))
    (i_Rule_considers : PySem.W.isFn K (.ref f_Rule_considers) = true)
    (l_Rule_considers : K.lookup f_Rule_considers = some ⟨oc_Rule_considers, od_Rule_considers, .func (PySem.W.fnOf "considers" "Rule.considers" (defArgs s_Rule_considers) (defBody s_Rule_considers) (defScope s_Rule_considers) .none kV_Rule_considers dc_Rule_considers pm_Rule_considers an_Rule_considers cd_Rule_considers ct_Rule_considers), sl_Rule_considers⟩)
    (cc_Rule_considers : PySem.W.codeIn K cd_Rule_considers "Rule.considers" = true)
    (kk_Rule_considers : PySem.W.keepIn K (.ref f_Rule_considers) = true)
    (a_Rule_fork : PySem.W.findIn K (.ref C_Rule) "fork" = some (some (.ref f_Rule_fork)))
    (i_Rule_fork : PySem.W.isFn K (.ref f_Rule_fork) = true)
    (l_Rule_fork : K.lookup f_Rule_fork = some ⟨oc_Rule_fork, od_Rule_fork, .func (PySem.W.fnOf "fork" "Rule.fork" (defArgs s_Rule_fork) (defBody s_Rule_fork) (defScope s_Rule_fork) .none kV_Rule_fork dc_Rule_fork pm_Rule_fork an_Rule_fork cd_Rule_fork ct_Rule_fork), sl_Rule_fork⟩)
    (cc_Rule_fork : PySem.W.codeIn K cd_Rule_fork "Rule.fork" = true)
    (kk_Rule_fork : PySem.W.keepIn K (.ref f_Rule_fork) = true)
    (a_l_cell : PySem.W.nsIn K mainGlobals "_law_cell" = some (some (.ref f_l_cell)))
    (l_l_cell : K.lookup f_l_cell = some ⟨oc_l_cell, od_l_cell, .func (PySem.W.fnOf "_law_cell" "_law_cell" (defArgs s_l_cell) (defBody s_l_cell) (defScope s_l_cell) .none kV_l_cell dc_l_cell pm_l_cell an_l_cell cd_l_cell ct_l_cell), sl_l_cell⟩)
    (cc_l_cell : PySem.W.codeIn K cd_l_cell "_law_cell" = true)
    (kk_l_cell : PySem.W.keepIn K (.ref f_l_cell) = true)
    (a_l_is_integer : PySem.W.nsIn K mainGlobals "_law_is_integer" = some (some (.ref f_l_is_integer)))
    (l_l_is_integer : K.lookup f_l_is_integer = some ⟨oc_l_is_integer, od_l_is_integer, .func (PySem.W.fnOf "_law_is_integer" "_law_is_integer" (defArgs s_l_is_integer) (defBody s_l_is_integer) (defScope s_l_is_integer) .none kV_l_is_integer dc_l_is_integer pm_l_is_integer an_l_is_integer cd_l_is_integer ct_l_is_integer), sl_l_is_integer⟩)
    (cc_l_is_integer : PySem.W.codeIn K cd_l_is_integer "_law_is_integer" = true)
    (kk_l_is_integer : PySem.W.keepIn K (.ref f_l_is_integer) = true)
    (a_l_start : PySem.W.nsIn K mainGlobals "_law_start" = some (some (.ref f_l_start)))
    (l_l_start : K.lookup f_l_start = some ⟨oc_l_start, od_l_start, .func (PySem.W.fnOf "_law_start" "_law_start" (defArgs s_l_start) (defBody s_l_start) (defScope s_l_start) .none kV_l_start dc_l_start pm_l_start an_l_start cd_l_start ct_l_start), sl_l_start⟩)
    (cc_l_start : PySem.W.codeIn K cd_l_start "_law_start" = true)
    (kk_l_start : PySem.W.keepIn K (.ref f_l_start) = true)
    (a_l_digit : PySem.W.nsIn K mainGlobals "_law_digit" = some (some (.ref f_l_digit)))
    (l_l_digit : K.lookup f_l_digit = some ⟨oc_l_digit, od_l_digit, .func (PySem.W.fnOf "_law_digit" "_law_digit" (defArgs s_l_digit) (defBody s_l_digit) (defScope s_l_digit) .none kV_l_digit dc_l_digit pm_l_digit an_l_digit cd_l_digit ct_l_digit), sl_l_digit⟩)
    (cc_l_digit : PySem.W.codeIn K cd_l_digit "_law_digit" = true)
    (kk_l_digit : PySem.W.keepIn K (.ref f_l_digit) = true)
    (a_l_rule : PySem.W.nsIn K mainGlobals "_law_rule" = some (some (.ref f_l_rule)))
    (l_l_rule : K.lookup f_l_rule = some ⟨oc_l_rule, od_l_rule, .func (PySem.W.fnOf "_law_rule" "_law_rule" (defArgs s_l_rule) (defBody s_l_rule) (defScope s_l_rule) .none kV_l_rule dc_l_rule pm_l_rule an_l_rule cd_l_rule ct_l_rule), sl_l_rule⟩)
    (cc_l_rule : PySem.W.codeIn K cd_l_rule "_law_rule" = true)
    (kk_l_rule : PySem.W.keepIn K (.ref f_l_rule) = true)
    (a_l_made : PySem.W.nsIn K mainGlobals "_law_made" = some (some (.ref f_l_made)))
    (l_l_made : K.lookup f_l_made = some ⟨oc_l_made, od_l_made, .func (PySem.W.fnOf "_law_made" "_law_made" (defArgs s_l_made) (defBody s_l_made) (defScope s_l_made) .none kV_l_made dc_l_made pm_l_made an_l_made cd_l_made ct_l_made), sl_l_made⟩)
    (cc_l_made : PySem.W.codeIn K cd_l_made "_law_made" = true)
    (kk_l_made : PySem.W.keepIn K (.ref f_l_made) = true)
    (a_l_draw : PySem.W.nsIn K mainGlobals "_law_draw" = some (some (.ref f_l_draw)))
    (l_l_draw : K.lookup f_l_draw = some ⟨oc_l_draw, od_l_draw, .func (PySem.W.fnOf "_law_draw" "_law_draw" (defArgs s_l_draw) (defBody s_l_draw) (defScope s_l_draw) .none kV_l_draw dc_l_draw pm_l_draw an_l_draw cd_l_draw ct_l_draw), sl_l_draw⟩)
    (cc_l_draw : PySem.W.codeIn K cd_l_draw "_law_draw" = true)
    (kk_l_draw : PySem.W.keepIn K (.ref f_l_draw) = true)
    (a_l_admits : PySem.W.nsIn K mainGlobals "_law_admits" = some (some (.ref f_l_admits)))
    (l_l_admits : K.lookup f_l_admits = some ⟨oc_l_admits, od_l_admits, .func (PySem.W.fnOf "_law_admits" "_law_admits" (defArgs s_l_admits) (defBody s_l_admits) (defScope s_l_admits) .none kV_l_admits dc_l_admits pm_l_admits an_l_admits cd_l_admits ct_l_admits), sl_l_admits⟩)
    (cc_l_admits : PySem.W.codeIn K cd_l_admits "_law_admits" = true)
    (kk_l_admits : PySem.W.keepIn K (.ref f_l_admits) = true)
    (a_l_applies : PySem.W.nsIn K mainGlobals "_law_applies" = some (some (.ref f_l_applies)))
    (l_l_applies : K.lookup f_l_applies = some ⟨oc_l_applies, od_l_applies, .func (PySem.W.fnOf "_law_applies" "_law_applies" (defArgs s_l_applies) (defBody s_l_applies) (defScope s_l_applies) .none kV_l_applies dc_l_applies pm_l_applies an_l_applies cd_l_applies ct_l_applies), sl_l_applies⟩)
    (cc_l_applies : PySem.W.codeIn K cd_l_applies "_law_applies" = true)
    (kk_l_applies : PySem.W.keepIn K (.ref f_l_applies) = true)
    (a_l_due : PySem.W.nsIn K mainGlobals "_law_due" = some (some (.ref f_l_due)))
    (l_l_due : K.lookup f_l_due = some ⟨oc_l_due, od_l_due, .func (PySem.W.fnOf "_law_due" "_law_due" (defArgs s_l_due) (defBody s_l_due) (defScope s_l_due) .none kV_l_due dc_l_due pm_l_due an_l_due cd_l_due ct_l_due), sl_l_due⟩)
    (cc_l_due : PySem.W.codeIn K cd_l_due "_law_due" = true)
    (kk_l_due : PySem.W.keepIn K (.ref f_l_due) = true)
    (a_l_same : PySem.W.nsIn K mainGlobals "_law_same" = some (some (.ref f_l_same)))
    (l_l_same : K.lookup f_l_same = some ⟨oc_l_same, od_l_same, .func (PySem.W.fnOf "_law_same" "_law_same" (defArgs s_l_same) (defBody s_l_same) (defScope s_l_same) .none kV_l_same dc_l_same pm_l_same an_l_same cd_l_same ct_l_same), sl_l_same⟩)
    (cc_l_same : PySem.W.codeIn K cd_l_same "_law_same" = true)
    (kk_l_same : PySem.W.keepIn K (.ref f_l_same) = true)
    (a_l_equal : PySem.W.nsIn K mainGlobals "_law_equal" = some (some (.ref f_l_equal)))
    (l_l_equal : K.lookup f_l_equal = some ⟨oc_l_equal, od_l_equal, .func (PySem.W.fnOf "_law_equal" "_law_equal" (defArgs s_l_equal) (defBody s_l_equal) (defScope s_l_equal) .none kV_l_equal dc_l_equal pm_l_equal an_l_equal cd_l_equal ct_l_equal), sl_l_equal⟩)
    (cc_l_equal : PySem.W.codeIn K cd_l_equal "_law_equal" = true)
    (kk_l_equal : PySem.W.keepIn K (.ref f_l_equal) = true)
    (a_l_packet : PySem.W.nsIn K mainGlobals "_law_packet" = some (some (.ref f_l_packet)))
    (l_l_packet : K.lookup f_l_packet = some ⟨oc_l_packet, od_l_packet, .func (PySem.W.fnOf "_law_packet" "_law_packet" (defArgs s_l_packet) (defBody s_l_packet) (defScope s_l_packet) .none kV_l_packet dc_l_packet pm_l_packet an_l_packet cd_l_packet ct_l_packet), sl_l_packet⟩)
    (cc_l_packet : PySem.W.codeIn K cd_l_packet "_law_packet" = true)
    (kk_l_packet : PySem.W.keepIn K (.ref f_l_packet) = true)
    (a_law : PySem.W.nsIn K mainGlobals "law" = some (some (.ref f_law)))
    (l_law : K.lookup f_law = some ⟨oc_law, od_law, .func (PySem.W.fnOf "law" "law" (defArgs s_law) (defBody s_law) (defScope s_law) .none kV_law dc_law pm_law an_law cd_law ct_law), sl_law⟩)
    (cc_law : PySem.W.codeIn K cd_law "law" = true)
    (kk_law : PySem.W.keepIn K (.ref f_law) = true)
    (z_bool : PySem.W.nsIn K mainGlobals "bool" = some none)
    (z_enumerate : PySem.W.nsIn K mainGlobals "enumerate" = some none)
    (z_int : PySem.W.nsIn K mainGlobals "int" = some none)
    (z_isinstance : PySem.W.nsIn K mainGlobals "isinstance" = some none)
    (z_len : PySem.W.nsIn K mainGlobals "len" = some none)
    (z_list : PySem.W.nsIn K mainGlobals "list" = some none)
    (z_max : PySem.W.nsIn K mainGlobals "max" = some none)
    (z_min : PySem.W.nsIn K mainGlobals "min" = some none)
    (z_range : PySem.W.nsIn K mainGlobals "range" = some none)
    : ∃ fd : FuncData, (∀ (s : Shared) (v : Value), BindsTo s fd ⟨[v], []⟩ [("script", v)]) ∧ ∀ base : Heap, K.In base → base.Ns mainGlobals mg → FnOk l.prog w K mg base CX0 6 fa fd ["script"] (sp_law K) := by
  have e := hfa.symm.trans (PySem.W.mg_of X G a_law)
  have e2 : f_law = fa := by
    injection e with e
    injection e with e
    exact e.symm
  subst e2
  have F_next_seed := fun_mk (st := s_next_seed) l_next_seed cc_next_seed kk_next_seed
  have b_next_seed := F_next_seed.binds (ps := ["seed"]) fun _ _ _ _ _ _ us hl => match us, hl with | [_], _ => rfl
  have F_draw := fun_mk (st := s_draw) l_draw cc_draw kk_draw
  have b_draw := F_draw.binds (ps := ["seed", "below"]) fun _ _ _ _ _ _ us hl => match us, hl with | [_, _], _ => rfl
  have F_Verdict_init__ : FunD K "__init__" "Verdict.__init__" (defArgs s_Verdict_init__) (defBody s_Verdict_init__) (defScope s_Verdict_init__) [] [("lost", .bl false), ("marked", .bl false), ("copies", .int 0), ("delay", .int 1)] f_Verdict_init__ _ := ⟨⟨_, _, _, _, _, _, _, _, _, _, rfl, l_Verdict_init__, cc_Verdict_init__, .inl ⟨rfl, rfl⟩, .inr ⟨kd_Verdict_init__, rfl, fun q hq => by
      simp only [List.mem_cons, List.not_mem_nil, or_false] at hq
      rcases hq with rfl | rfl | rfl | rfl
      · exact ⟨_, kw_Verdict_init___lost, by first | exact rfl | exact ⟨_, rfl⟩⟩
      · exact ⟨_, kw_Verdict_init___marked, by first | exact rfl | exact ⟨_, rfl⟩⟩
      · exact ⟨_, kw_Verdict_init___copies, by first | exact rfl | exact ⟨_, rfl⟩⟩
      · exact ⟨_, kw_Verdict_init___delay, by first | exact rfl | exact ⟨_, rfl⟩⟩⟩⟩, kk_Verdict_init__⟩
  have F_Verdict_arrivals := fun_mk (st := s_Verdict_arrivals) l_Verdict_arrivals cc_Verdict_arrivals kk_Verdict_arrivals
  have b_Verdict_arrivals := F_Verdict_arrivals.binds (ps := ["self"]) fun _ _ _ _ _ _ us hl => match us, hl with | [_], _ => rfl
  have F_Verdict_eq__ := fun_mk (st := s_Verdict_eq__) l_Verdict_eq__ cc_Verdict_eq__ kk_Verdict_eq__
  have b_Verdict_eq__ := F_Verdict_eq__.binds (ps := ["self", "other"]) fun _ _ _ _ _ _ us hl => match us, hl with | [_, _], _ => rfl
  have F_Verdict_fields := fun_mk (st := s_Verdict_fields) l_Verdict_fields cc_Verdict_fields kk_Verdict_fields
  have b_Verdict_fields := F_Verdict_fields.binds (ps := ["self"]) fun _ _ _ _ _ _ us hl => match us, hl with | [_], _ => rfl
  have F_Faults_init__ : FunD K "__init__" "Faults.__init__" (defArgs s_Faults_init__) (defBody s_Faults_init__) (defScope s_Faults_init__) [] [] f_Faults_init__ _ := ⟨⟨_, _, _, _, _, _, _, _, _, _, rfl, l_Faults_init__, cc_Faults_init__, .inl ⟨rfl, rfl⟩, .inl rfl⟩, kk_Faults_init__⟩
  have F_Faults_judge := fun_mk (st := s_Faults_judge) l_Faults_judge cc_Faults_judge kk_Faults_judge
  have b_Faults_judge := F_Faults_judge.binds (ps := ["self", "sender", "target", "birth"]) fun _ _ _ _ _ _ us hl => match us, hl with | [_, _, _, _], _ => rfl
  have F_Faults_applies := fun_mk (st := s_Faults_applies) l_Faults_applies cc_Faults_applies kk_Faults_applies
  have b_Faults_applies := F_Faults_applies.binds (ps := ["self", "rule", "count"]) fun _ _ _ _ _ _ us hl => match us, hl with | [_, _, _], _ => rfl
  have F_Faults_apply := fun_mk (st := s_Faults_apply) l_Faults_apply cc_Faults_apply kk_Faults_apply
  have b_Faults_apply := F_Faults_apply.binds (ps := ["self", "rule", "verdict"]) fun _ _ _ _ _ _ us hl => match us, hl with | [_, _, _], _ => rfl
  have F_Faults_draw := fun_mk (st := s_Faults_draw) l_Faults_draw cc_Faults_draw kk_Faults_draw
  have b_Faults_draw := F_Faults_draw.binds (ps := ["self", "below"]) fun _ _ _ _ _ _ us hl => match us, hl with | [_, _], _ => rfl
  have F_Rule_init__ : FunD K "__init__" "Rule.__init__" (defArgs s_Rule_init__) (defBody s_Rule_init__) (defScope s_Rule_init__) [] [("amount", .int 0), ("until", .int 0), ("sender", .non), ("target", .non), ("ticks", .non), ("nth", .non), ("chance", .non)] f_Rule_init__ _ := ⟨⟨_, _, _, _, _, _, _, _, _, _, rfl, l_Rule_init__, cc_Rule_init__, .inl ⟨rfl, rfl⟩, .inr ⟨kd_Rule_init__, rfl, fun q hq => by
      simp only [List.mem_cons, List.not_mem_nil, or_false] at hq
      rcases hq with rfl | rfl | rfl | rfl | rfl | rfl | rfl
      · exact ⟨_, kw_Rule_init___amount, by first | exact rfl | exact ⟨_, rfl⟩⟩
      · exact ⟨_, kw_Rule_init___until, by first | exact rfl | exact ⟨_, rfl⟩⟩
      · exact ⟨_, kw_Rule_init___sender, by first | exact rfl | exact ⟨_, rfl⟩⟩
      · exact ⟨_, kw_Rule_init___target, by first | exact rfl | exact ⟨_, rfl⟩⟩
      · exact ⟨_, kw_Rule_init___ticks, by first | exact rfl | exact ⟨_, rfl⟩⟩
      · exact ⟨_, kw_Rule_init___nth, by first | exact rfl | exact ⟨_, rfl⟩⟩
      · exact ⟨_, kw_Rule_init___chance, by first | exact rfl | exact ⟨_, rfl⟩⟩⟩⟩, kk_Rule_init__⟩
  have F_Rule_considers := fun_mk (st := s_Rule_considers) l_Rule_considers cc_Rule_considers kk_Rule_considers
  have b_Rule_considers := F_Rule_considers.binds (ps := ["self", "sender", "target", "birth"]) fun _ _ _ _ _ _ us hl => match us, hl with | [_, _, _, _], _ => rfl
  have F_Rule_fork := fun_mk (st := s_Rule_fork) l_Rule_fork cc_Rule_fork kk_Rule_fork
  have b_Rule_fork := F_Rule_fork.binds (ps := ["self"]) fun _ _ _ _ _ _ us hl => match us, hl with | [_], _ => rfl
  have F_l_cell := fun_mk (st := s_l_cell) l_l_cell cc_l_cell kk_l_cell
  have b_l_cell := F_l_cell.binds (ps := ["script", "k"]) fun _ _ _ _ _ _ us hl => match us, hl with | [_, _], _ => rfl
  have F_l_is_integer := fun_mk (st := s_l_is_integer) l_l_is_integer cc_l_is_integer kk_l_is_integer
  have b_l_is_integer := F_l_is_integer.binds (ps := ["told"]) fun _ _ _ _ _ _ us hl => match us, hl with | [_], _ => rfl
  have F_l_start := fun_mk (st := s_l_start) l_l_start cc_l_start kk_l_start
  have b_l_start := F_l_start.binds (ps := ["cell", "k"]) fun _ _ _ _ _ _ us hl => match us, hl with | [_, _], _ => rfl
  have F_l_digit := fun_mk (st := s_l_digit) l_l_digit cc_l_digit kk_l_digit
  have b_l_digit := F_l_digit.binds (ps := ["state", "many"]) fun _ _ _ _ _ _ us hl => match us, hl with | [_, _], _ => rfl
  have F_l_rule := fun_mk (st := s_l_rule) l_l_rule cc_l_rule kk_l_rule
  have b_l_rule := F_l_rule.binds (ps := ["state", "wide"]) fun _ _ _ _ _ _ us hl => match us, hl with | [_, _], _ => rfl
  have F_l_made := fun_mk (st := s_l_made) l_l_made cc_l_made kk_l_made
  have b_l_made := F_l_made.binds (ps := ["rule"]) fun _ _ _ _ _ _ us hl => match us, hl with | [_], _ => rfl
  have F_l_draw := fun_mk (st := s_l_draw) l_l_draw cc_l_draw kk_l_draw
  have b_l_draw := F_l_draw.binds (ps := ["state", "below"]) fun _ _ _ _ _ _ us hl => match us, hl with | [_, _], _ => rfl
  have F_l_admits := fun_mk (st := s_l_admits) l_l_admits cc_l_admits kk_l_admits
  have b_l_admits := F_l_admits.binds (ps := ["rule", "packet"]) fun _ _ _ _ _ _ us hl => match us, hl with | [_, _], _ => rfl
  have F_l_applies := fun_mk (st := s_l_applies) l_l_applies cc_l_applies kk_l_applies
  have b_l_applies := F_l_applies.binds (ps := ["rule", "counts", "k", "state"]) fun _ _ _ _ _ _ us hl => match us, hl with | [_, _, _, _], _ => rfl
  have F_l_due := fun_mk (st := s_l_due) l_l_due cc_l_due kk_l_due
  have b_l_due := F_l_due.binds (ps := ["rules", "counts", "state", "packet"]) fun _ _ _ _ _ _ us hl => match us, hl with | [_, _, _, _], _ => rfl
  have F_l_same := fun_mk (st := s_l_same) l_l_same cc_l_same kk_l_same
  have b_l_same := F_l_same.binds (ps := ["told", "due"]) fun _ _ _ _ _ _ us hl => match us, hl with | [_, _], _ => rfl
  have F_l_equal := fun_mk (st := s_l_equal) l_l_equal cc_l_equal kk_l_equal
  have b_l_equal := F_l_equal.binds (ps := ["told", "due"]) fun _ _ _ _ _ _ us hl => match us, hl with | [_, _], _ => rfl
  have F_l_packet := fun_mk (st := s_l_packet) l_l_packet cc_l_packet kk_l_packet
  have b_l_packet := F_l_packet.binds (ps := ["cell", "k", "wide"]) fun _ _ _ _ _ _ us hl => match us, hl with | [_, _, _], _ => rfl
  have F_law := fun_mk (st := s_law) l_law cc_law kk_law
  have b_law := F_law.binds (ps := ["script"]) fun _ _ _ _ _ _ us hl => match us, hl with | [_], _ => rfl
  let T : Txt K mg := { t_CIRCLE := t_CIRCLE, t_CHANCES := t_CHANCES, C_Verdict := C_Verdict, C_Faults := C_Faults, C_Rule := C_Rule, f_next_seed := f_next_seed, d_next_seed := _, f_draw := f_draw, d_draw := _, f_Verdict_init__ := f_Verdict_init__, d_Verdict_init__ := _, f_Verdict_arrivals := f_Verdict_arrivals, d_Verdict_arrivals := _, p0_Verdict_arrivals := p0_Verdict_arrivals, f_Verdict_eq__ := f_Verdict_eq__, d_Verdict_eq__ := _, f_Verdict_fields := f_Verdict_fields, d_Verdict_fields := _, f_Faults_init__ := f_Faults_init__, d_Faults_init__ := _, f_Faults_judge := f_Faults_judge, d_Faults_judge := _, f_Faults_applies := f_Faults_applies, d_Faults_applies := _, f_Faults_apply := f_Faults_apply, d_Faults_apply := _, f_Faults_draw := f_Faults_draw, d_Faults_draw := _, f_Rule_init__ := f_Rule_init__, d_Rule_init__ := _, f_Rule_considers := f_Rule_considers, d_Rule_considers := _, f_Rule_fork := f_Rule_fork, d_Rule_fork := _, f_l_cell := f_l_cell, d_l_cell := _, f_l_is_integer := f_l_is_integer, d_l_is_integer := _, f_l_start := f_l_start, d_l_start := _, f_l_digit := f_l_digit, d_l_digit := _, f_l_rule := f_l_rule, d_l_rule := _, f_l_made := f_l_made, d_l_made := _, f_l_draw := f_l_draw, d_l_draw := _, f_l_admits := f_l_admits, d_l_admits := _, f_l_applies := f_l_applies, d_l_applies := _, f_l_due := f_l_due, d_l_due := _, f_l_same := f_l_same, d_l_same := _, f_l_equal := f_l_equal, d_l_equal := _, f_l_packet := f_l_packet, d_l_packet := _, f_law := f_law, d_law := _, v_CIRCLE := PySem.W.mg_of X G v_CIRCLE, v_CHANCES := PySem.W.mg_of X G v_CHANCES, c_Verdict := PySem.W.mg_of X G c_Verdict, k_Verdict := ⟨pg_Verdict, hd_Verdict, po_Verdict, sa_Verdict⟩, i_Verdict := fun e => .ins e ⟨pg_Verdict, hd_Verdict, po_Verdict, sa_Verdict⟩ ha_Verdict hn_all ht_all hm_Verdict, q_Verdict := q_Verdict, ki_Verdict := kit_own ic_Verdict tc_Verdict q_Verdict, n_Verdict_lost := n_Verdict_lost, n_Verdict_marked := n_Verdict_marked, n_Verdict_copies := n_Verdict_copies, n_Verdict_delay := n_Verdict_delay, c_Faults := PySem.W.mg_of X G c_Faults, k_Faults := ⟨pg_Faults, hd_Faults, po_Faults, sa_Faults⟩, n_Faults_seed := n_Faults_seed, n_Faults_counts := n_Faults_counts, n_Faults__rules := n_Faults__rules, c_Rule := PySem.W.mg_of X G c_Rule, k_Rule := ⟨pg_Rule, hd_Rule, po_Rule, sa_Rule⟩, i_Rule := fun e => .ins e ⟨pg_Rule, hd_Rule, po_Rule, sa_Rule⟩ ha_Rule hn_all ht_all hm_Rule, n_Rule_fault := n_Rule_fault, n_Rule_amount := n_Rule_amount, n_Rule_until := n_Rule_until, n_Rule_sender := n_Rule_sender, n_Rule_target := n_Rule_target, n_Rule_ticks := n_Rule_ticks, n_Rule_nth := n_Rule_nth, n_Rule_chance := n_Rule_chance, F_next_seed := F_next_seed, b_next_seed := b_next_seed, m_next_seed := PySem.W.mg_of X G a_next_seed, F_draw := F_draw, b_draw := b_draw, m_draw := PySem.W.mg_of X G a_draw, F_Verdict_init__ := F_Verdict_init__, mk_Verdict := ⟨mk0_Verdict, a_Verdict_init__, i_Verdict_init__, kc_Verdict⟩, F_Verdict_arrivals := F_Verdict_arrivals, b_Verdict_arrivals := b_Verdict_arrivals, p_Verdict_arrivals := ⟨a_Verdict_arrivals, pget_Verdict_arrivals, ptak_Verdict_arrivals, _, prec_Verdict_arrivals⟩, F_Verdict_eq__ := F_Verdict_eq__, b_Verdict_eq__ := b_Verdict_eq__, a_Verdict_eq__ := ⟨a_Verdict_eq__, i_Verdict_eq__, kk_Verdict_eq__⟩, F_Verdict_fields := F_Verdict_fields, b_Verdict_fields := b_Verdict_fields, a_Verdict_fields := ⟨a_Verdict_fields, i_Verdict_fields, kk_Verdict_fields⟩, F_Faults_init__ := F_Faults_init__, mk_Faults := ⟨mk0_Faults, a_Faults_init__, i_Faults_init__, kc_Faults⟩, F_Faults_judge := F_Faults_judge, b_Faults_judge := b_Faults_judge, a_Faults_judge := ⟨a_Faults_judge, i_Faults_judge, kk_Faults_judge⟩, F_Faults_applies := F_Faults_applies, b_Faults_applies := b_Faults_applies, a_Faults_applies := ⟨a_Faults_applies, i_Faults_applies, kk_Faults_applies⟩, F_Faults_apply := F_Faults_apply, b_Faults_apply := b_Faults_apply, a_Faults_apply := ⟨a_Faults_apply, i_Faults_apply, kk_Faults_apply⟩, F_Faults_draw := F_Faults_draw, b_Faults_draw := b_Faults_draw, a_Faults_draw := ⟨a_Faults_draw, i_Faults_draw, kk_Faults_draw⟩, F_Rule_init__ := F_Rule_init__, mk_Rule := ⟨mk0_Rule, a_Rule_init__, i_Rule_init__, kc_Rule⟩, F_Rule_considers := F_Rule_considers, b_Rule_considers := b_Rule_considers, a_Rule_considers := ⟨a_Rule_considers, i_Rule_considers, kk_Rule_considers⟩, F_Rule_fork := F_Rule_fork, b_Rule_fork := b_Rule_fork, a_Rule_fork := ⟨a_Rule_fork, i_Rule_fork, kk_Rule_fork⟩, F_l_cell := F_l_cell, b_l_cell := b_l_cell, m_l_cell := PySem.W.mg_of X G a_l_cell, F_l_is_integer := F_l_is_integer, b_l_is_integer := b_l_is_integer, m_l_is_integer := PySem.W.mg_of X G a_l_is_integer, F_l_start := F_l_start, b_l_start := b_l_start, m_l_start := PySem.W.mg_of X G a_l_start, F_l_digit := F_l_digit, b_l_digit := b_l_digit, m_l_digit := PySem.W.mg_of X G a_l_digit, F_l_rule := F_l_rule, b_l_rule := b_l_rule, m_l_rule := PySem.W.mg_of X G a_l_rule, F_l_made := F_l_made, b_l_made := b_l_made, m_l_made := PySem.W.mg_of X G a_l_made, F_l_draw := F_l_draw, b_l_draw := b_l_draw, m_l_draw := PySem.W.mg_of X G a_l_draw, F_l_admits := F_l_admits, b_l_admits := b_l_admits, m_l_admits := PySem.W.mg_of X G a_l_admits, F_l_applies := F_l_applies, b_l_applies := b_l_applies, m_l_applies := PySem.W.mg_of X G a_l_applies, F_l_due := F_l_due, b_l_due := b_l_due, m_l_due := PySem.W.mg_of X G a_l_due, F_l_same := F_l_same, b_l_same := b_l_same, m_l_same := PySem.W.mg_of X G a_l_same, F_l_equal := F_l_equal, b_l_equal := b_l_equal, m_l_equal := PySem.W.mg_of X G a_l_equal, F_l_packet := F_l_packet, b_l_packet := b_l_packet, m_l_packet := PySem.W.mg_of X G a_l_packet, F_law := F_law, b_law := b_law, m_law := PySem.W.mg_of X G a_law, n_bool := PySem.W.mg_none_of X G z_bool, n_enumerate := PySem.W.mg_none_of X G z_enumerate, n_int := PySem.W.mg_none_of X G z_int, n_isinstance := PySem.W.mg_none_of X G z_isinstance, n_len := PySem.W.mg_none_of X G z_len, n_list := PySem.W.mg_none_of X G z_list, n_max := PySem.W.mg_none_of X G z_max, n_min := PySem.W.mg_none_of X G z_min, n_range := PySem.W.mg_none_of X G z_range }
  exact ⟨PySem.W.fnOf "law" "law" (defArgs s_law) (defBody s_law) (defScope s_law) .none kV_law dc_law pm_law an_law cd_law ct_law, fun s v => .of_eq rfl, fun base _ _ => ok_law T⟩
theorem walk {l : PySem.W.OpenLaw} {q : Program} {loose : List Str} {XP : (Str → Option Value) → Heap → Prop} {YP : World → Heap → Prop} {d : DefRec} {K : Params → PySem.W.Frag} (hn : l.most = some 63) (hdf : d.params.defaults = [])
    (hY : ∀ (w : World) (h : Heap), YP w h → (K w.params).In h)
    (F : ∀ (w : World) (mg : Str → Option Value) (fa : Addr) (h : Heap), (K w.params).In h → h.Ns mainGlobals mg → mg d.name = some (.ref fa) →
      ∃ fd : FuncData, (∀ (s : Shared) (u : Value), BindsTo s fd ⟨[u], []⟩ [("script", u)]) ∧ ∀ base : Heap, (K w.params).In base → base.Ns mainGlobals mg → FnOk l.prog w (K w.params) mg base CX0 6 fa fd ["script"] (sp_law (K w.params))) :
    PySem.W.WalkO q loose XP YP l.row.toRowW d [] (fun f vs => PySem.call f vs) :=
  L2.walk_of (n := 63) (k := 6) (x := "script") (CX := fun _ => CX0) (sp := fun w => sp_law (K w.params)) hn (by decide) hdf ⟨rfl, by decide, by decide⟩ hY F (fun _ _ a ns hl _ hS => ⟨a, ns, rfl, hS, hl, fun _ => rfl⟩) fun _ _ _ _ _ z => z
end My
open PySem PySem.W PyProof.Rows
set_option maxRecDepth 100000 in
set_option maxHeartbeats 0 in
theorem PySem.Challenge.cw_throughline_k60_verdicts_holds : PySem.Challenge.rw_throughline_k60_verdicts.Holds := by
  w_on; o_law; k_head; (case hw => w_witness2)
  k_fill
  refine My.walk (l := PySem.Challenge.rw_throughline_k60_verdicts) rfl rfl (fun w h Y => PySem.W.kIn_of Y) ?F
  case F =>
    intro w mg fa h KX G hmg
    refine' My.all_mk KX G hmg ?v_CIRCLE ?v_CHANCES ?c_Verdict ?pg_Verdict ?hd_Verdict ?po_Verdict ?sa_Verdict ?mk0_Verdict ?kc_Verdict ?ha_Verdict ?hm_Verdict ?hn_all ?ht_all ?q_Verdict ?ic_Verdict ?tc_Verdict ?n_Verdict_lost ?n_Verdict_marked ?n_Verdict_copies ?n_Verdict_delay ?c_Faults ?pg_Faults ?hd_Faults ?po_Faults ?sa_Faults ?mk0_Faults ?kc_Faults ?n_Faults_seed ?n_Faults_counts ?n_Faults__rules ?c_Rule ?pg_Rule ?hd_Rule ?po_Rule ?sa_Rule ?mk0_Rule ?kc_Rule ?ha_Rule ?hm_Rule ?n_Rule_fault ?n_Rule_amount ?n_Rule_until ?n_Rule_sender ?n_Rule_target ?n_Rule_ticks ?n_Rule_nth ?n_Rule_chance ?a_next_seed ?l_next_seed ?cc_next_seed ?kk_next_seed ?a_draw ?l_draw ?cc_draw ?kk_draw ?a_Verdict_init__ ?i_Verdict_init__ ?l_Verdict_init__ ?kw_Verdict_init___lost ?kw_Verdict_init___marked ?kw_Verdict_init___copies ?kw_Verdict_init___delay ?cc_Verdict_init__ ?kk_Verdict_init__ ?a_Verdict_arrivals ?pget_Verdict_arrivals ?ptak_Verdict_arrivals ?prec_Verdict_arrivals ?l_Verdict_arrivals ?cc_Verdict_arrivals ?kk_Verdict_arrivals ?a_Verdict_eq__ ?i_Verdict_eq__ ?l_Verdict_eq__ ?cc_Verdict_eq__ ?kk_Verdict_eq__ ?a_Verdict_fields ?i_Verdict_fields ?l_Verdict_fields ?cc_Verdict_fields ?kk_Verdict_fields ?a_Faults_init__ ?i_Faults_init__ ?l_Faults_init__ ?cc_Faults_init__ ?kk_Faults_init__ ?a_Faults_judge ?i_Faults_judge ?l_Faults_judge ?cc_Faults_judge ?kk_Faults_judge ?a_Faults_applies ?i_Faults_applies ?l_Faults_applies ?cc_Faults_applies ?kk_Faults_applies ?a_Faults_apply ?i_Faults_apply ?l_Faults_apply ?cc_Faults_apply ?kk_Faults_apply ?a_Faults_draw ?i_Faults_draw ?l_Faults_draw ?cc_Faults_draw ?kk_Faults_draw ?a_Rule_init__ ?i_Rule_init__ ?l_Rule_init__ ?kw_Rule_init___amount ?kw_Rule_init___until ?kw_Rule_init___sender ?kw_Rule_init___target ?kw_Rule_init___ticks ?kw_Rule_init___nth ?kw_Rule_init___chance ?cc_Rule_init__ ?kk_Rule_init__ ?a_Rule_considers ?i_Rule_considers ?l_Rule_considers ?cc_Rule_considers ?kk_Rule_considers ?a_Rule_fork ?i_Rule_fork ?l_Rule_fork ?cc_Rule_fork ?kk_Rule_fork ?a_l_cell ?l_l_cell ?cc_l_cell ?kk_l_cell ?a_l_is_integer ?l_l_is_integer ?cc_l_is_integer ?kk_l_is_integer ?a_l_start ?l_l_start ?cc_l_start ?kk_l_start ?a_l_digit ?l_l_digit ?cc_l_digit ?kk_l_digit ?a_l_rule ?l_l_rule ?cc_l_rule ?kk_l_rule ?a_l_made ?l_l_made ?cc_l_made ?kk_l_made ?a_l_draw ?l_l_draw ?cc_l_draw ?kk_l_draw ?a_l_admits ?l_l_admits ?cc_l_admits ?kk_l_admits ?a_l_applies ?l_l_applies ?cc_l_applies ?kk_l_applies ?a_l_due ?l_l_due ?cc_l_due ?kk_l_due ?a_l_same ?l_l_same ?cc_l_same ?kk_l_same ?a_l_equal ?l_l_equal ?cc_l_equal ?kk_l_equal ?a_l_packet ?l_l_packet ?cc_l_packet ?kk_l_packet ?a_law ?l_law ?cc_law ?kk_law ?z_bool ?z_enumerate ?z_int ?z_isinstance ?z_len ?z_list ?z_max ?z_min ?z_range
    (case v_CIRCLE => k_is)
    (case v_CHANCES => k_is)
    (case c_Verdict => k_is)
    (case pg_Verdict => k_is)
    (case hd_Verdict => k_is)
    (case po_Verdict => k_is)
    (case sa_Verdict => k_is)
    (case mk0_Verdict => k_is)
    (case kc_Verdict => k_is)
    (case ha_Verdict => k_is)
    (case hm_Verdict => k_is)
    (case hn_all => k_is)
    (case ht_all => k_is)
    (case q_Verdict => k_is)
    (case ic_Verdict => k_is)
    (case tc_Verdict => k_is)
    (case n_Verdict_lost => k_is)
    (case n_Verdict_marked => k_is)
    (case n_Verdict_copies => k_is)
    (case n_Verdict_delay => k_is)
    (case c_Faults => k_is)
    (case pg_Faults => k_is)
    (case hd_Faults => k_is)
    (case po_Faults => k_is)
    (case sa_Faults => k_is)
    (case mk0_Faults => k_is)
    (case kc_Faults => k_is)
    (case n_Faults_seed => k_is)
    (case n_Faults_counts => k_is)
    (case n_Faults__rules => k_is)
    (case c_Rule => k_is)
    (case pg_Rule => k_is)
    (case hd_Rule => k_is)
    (case po_Rule => k_is)
    (case sa_Rule => k_is)
    (case mk0_Rule => k_is)
    (case kc_Rule => k_is)
    (case ha_Rule => k_is)
    (case hm_Rule => k_is)
    (case n_Rule_fault => k_is)
    (case n_Rule_amount => k_is)
    (case n_Rule_until => k_is)
    (case n_Rule_sender => k_is)
    (case n_Rule_target => k_is)
    (case n_Rule_ticks => k_is)
    (case n_Rule_nth => k_is)
    (case n_Rule_chance => k_is)
    (case a_next_seed => k_is)
    (case l_next_seed => k_is)
    (case cc_next_seed => k_is)
    (case kk_next_seed => k_is)
    (case a_draw => k_is)
    (case l_draw => k_is)
    (case cc_draw => k_is)
    (case kk_draw => k_is)
    (case a_Verdict_init__ => k_is)
    (case i_Verdict_init__ => k_is)
    (case l_Verdict_init__ => k_is)
    (case kw_Verdict_init___lost => k_is)
    (case kw_Verdict_init___marked => k_is)
    (case kw_Verdict_init___copies => k_is)
    (case kw_Verdict_init___delay => k_is)
    (case cc_Verdict_init__ => k_is)
    (case kk_Verdict_init__ => k_is)
    (case a_Verdict_arrivals => k_is)
    (case pget_Verdict_arrivals => k_is)
    (case ptak_Verdict_arrivals => k_is)
    (case prec_Verdict_arrivals => k_is)
    (case l_Verdict_arrivals => k_is)
    (case cc_Verdict_arrivals => k_is)
    (case kk_Verdict_arrivals => k_is)
    (case a_Verdict_eq__ => k_is)
    (case i_Verdict_eq__ => k_is)
    (case l_Verdict_eq__ => k_is)
    (case cc_Verdict_eq__ => k_is)
    (case kk_Verdict_eq__ => k_is)
    (case a_Verdict_fields => k_is)
    (case i_Verdict_fields => k_is)
    (case l_Verdict_fields => k_is)
    (case cc_Verdict_fields => k_is)
    (case kk_Verdict_fields => k_is)
    (case a_Faults_init__ => k_is)
    (case i_Faults_init__ => k_is)
    (case l_Faults_init__ => k_is)
    (case cc_Faults_init__ => k_is)
    (case kk_Faults_init__ => k_is)
    (case a_Faults_judge => k_is)
    (case i_Faults_judge => k_is)
    (case l_Faults_judge => k_is)
    (case cc_Faults_judge => k_is)
    (case kk_Faults_judge => k_is)
    (case a_Faults_applies => k_is)
    (case i_Faults_applies => k_is)
    (case l_Faults_applies => k_is)
    (case cc_Faults_applies => k_is)
    (case kk_Faults_applies => k_is)
    (case a_Faults_apply => k_is)
    (case i_Faults_apply => k_is)
    (case l_Faults_apply => k_is)
    (case cc_Faults_apply => k_is)
    (case kk_Faults_apply => k_is)
    (case a_Faults_draw => k_is)
    (case i_Faults_draw => k_is)
    (case l_Faults_draw => k_is)
    (case cc_Faults_draw => k_is)
    (case kk_Faults_draw => k_is)
    (case a_Rule_init__ => k_is)
    (case i_Rule_init__ => k_is)
    (case l_Rule_init__ => k_is)
    (case kw_Rule_init___amount => k_is)
    (case kw_Rule_init___until => k_is)
    (case kw_Rule_init___sender => k_is)
    (case kw_Rule_init___target => k_is)
    (case kw_Rule_init___ticks => k_is)
    (case kw_Rule_init___nth => k_is)
    (case kw_Rule_init___chance => k_is)
    (case cc_Rule_init__ => k_is)
    (case kk_Rule_init__ => k_is)
    (case a_Rule_considers => k_is)
    (case i_Rule_considers => k_is)
    (case l_Rule_considers => k_is)
    (case cc_Rule_considers => k_is)
    (case kk_Rule_considers => k_is)
    (case a_Rule_fork => k_is)
    (case i_Rule_fork => k_is)
    (case l_Rule_fork => k_is)
    (case cc_Rule_fork => k_is)
    (case kk_Rule_fork => k_is)
    (case a_l_cell => k_is)
    (case l_l_cell => k_is)
    (case cc_l_cell => k_is)
    (case kk_l_cell => k_is)
    (case a_l_is_integer => k_is)
    (case l_l_is_integer => k_is)
    (case cc_l_is_integer => k_is)
    (case kk_l_is_integer => k_is)
    (case a_l_start => k_is)
    (case l_l_start => k_is)
    (case cc_l_start => k_is)
    (case kk_l_start => k_is)
    (case a_l_digit => k_is)
    (case l_l_digit => k_is)
    (case cc_l_digit => k_is)
    (case kk_l_digit => k_is)
    (case a_l_rule => k_is)
    (case l_l_rule => k_is)
    (case cc_l_rule => k_is)
    (case kk_l_rule => k_is)
    (case a_l_made => k_is)
    (case l_l_made => k_is)
    (case cc_l_made => k_is)
    (case kk_l_made => k_is)
    (case a_l_draw => k_is)
    (case l_l_draw => k_is)
    (case cc_l_draw => k_is)
    (case kk_l_draw => k_is)
    (case a_l_admits => k_is)
    (case l_l_admits => k_is)
    (case cc_l_admits => k_is)
    (case kk_l_admits => k_is)
    (case a_l_applies => k_is)
    (case l_l_applies => k_is)
    (case cc_l_applies => k_is)
    (case kk_l_applies => k_is)
    (case a_l_due => k_is)
    (case l_l_due => k_is)
    (case cc_l_due => k_is)
    (case kk_l_due => k_is)
    (case a_l_same => k_is)
    (case l_l_same => k_is)
    (case cc_l_same => k_is)
    (case kk_l_same => k_is)
    (case a_l_equal => k_is)
    (case l_l_equal => k_is)
    (case cc_l_equal => k_is)
    (case kk_l_equal => k_is)
    (case a_l_packet => k_is)
    (case l_l_packet => k_is)
    (case cc_l_packet => k_is)
    (case kk_l_packet => k_is)
    (case a_law => k_is)
    (case l_law => k_is)
    (case cc_law => k_is)
    (case kk_law => k_is)
    (case z_bool => k_is)
    (case z_enumerate => k_is)
    (case z_int => k_is)
    (case z_isinstance => k_is)
    (case z_len => k_is)
    (case z_list => k_is)
    (case z_max => k_is)
    (case z_min => k_is)
    (case z_range => k_is)
#print axioms PySem.Challenge.cw_throughline_k60_verdicts_holds

