import PyProof.Rows.All
import Wide.All
import OpenK.AllK
import Wide.FinOn
import HandS.ForMost
import HandS.IsInst
import HandS.Wide
import HandS.Style
import HandS.Conv
import HandS.RevRange
import HandS.Walk
import HandS.Property
import HandS.Star
import HandS.Codes
import HandS.TupAny
import HandS.WideBits
import HandS.MakeKwOnly
import HandS.Defaults
import HandS.Iter
import HandS.Small
import HandS.More
import HandS.Flow
import HandS.OwnEq
import PySem.Challenge.RW_throughline_k37_things_are_equal_by_all
set_option Elab.async false
set_option linter.all false
set_option maxRecDepth 100000
set_option maxHeartbeats 4000000
namespace My
open PySem PySem.Spec L2
/-! ### readings, one rule a construct -/
section
variable {K : PySem.W.Frag} {σ : St} {H : Hp} {Q : VK} {v x y z : V} {ta tb te tc : TE} {tt tu : TT} {r : R2} {D : Ends} {ts us : TS} {P : Bool → Hp → Prop} {i j : Int}
theorem g_var {i : Nat} (h : σ[i]? = some (some v)) (q : Q v H) : tVar i σ H Q := ⟨v, h, q⟩
theorem g_c (q : Q v H) : tC v σ H Q := q
theorem g_op (h : ta σ H fun x H1 => tb σ H1 fun y H2 => r x y H2 Q) : tOp r ta tb σ H Q := h
theorem g_un {r : V → Hp → VK → Prop} (h : ta σ H fun x H1 => r x H1 Q) : tUn r ta σ H Q := h
theorem g_rI0 {g : Int → Int → V} (q : Q (g i j) H) : rI0 g (.int i) (.int j) H Q := ⟨i, j, rfl, rfl, q⟩
theorem g_rI {C : Int → Int → Prop} {g : Int → Int → V} (c : C i j) (q : Q (g i j) H) : rI C g (.int i) (.int j) H Q := ⟨i, j, rfl, rfl, c, q⟩
theorem g_rU {g : Int → V} (q : Q (g i) H) : rU g (.int i) H Q := ⟨i, rfl, q⟩
theorem g_rEqI (q : Q (.bl (decide (i = j))) H) : rEq (.int i) (.int j) H Q := ⟨rfl, by rw [dec_int]; exact q⟩
theorem g_rNeI (q : Q (.bl (!decide (i = j))) H) : rNe (.int i) (.int j) H Q := ⟨rfl, by rw [dec_int]; exact q⟩
theorem g_rEq (s : scal x y = true) (q : Q (.bl (decide (x = y))) H) : rEq x y H Q := ⟨s, q⟩
theorem g_rNe (s : scal x y = true) (q : Q (.bl (!decide (x = y))) H) : rNe x y H Q := ⟨s, q⟩
theorem g_isN {A : Prop} (q : A) : V.non = V.non ∧ A := ⟨rfl, q⟩
theorem g_rIsB {a b : Bool} (q : Q (.bl (decide (a = b))) H) : rIsB (.bl a) (.bl b) H Q := ⟨a, b, rfl, rfl, q⟩
theorem g_rNotB {a b : Bool} (q : Q (.bl (!decide (a = b))) H) : rNotB (.bl a) (.bl b) H Q := ⟨a, b, rfl, rfl, q⟩
theorem g_test {t : TE} (h : t σ H fun x H' => ∃ k, x = .bl k ∧ P k H') : tTest t σ H P := h
theorem g_B {t : TE} (h : t σ H fun x H' => ∃ k, x = .bl k ∧ P k H') : tB t σ H P := h
theorem g_bl {b : Bool} {A : Bool → Prop} (q : A b) : ∃ k, V.bl b = .bl k ∧ A k := ⟨b, rfl, q⟩
theorem g_and (h : tt σ H fun c H1 => if c = true then tu σ H1 P else P false H1) : tAnd tt tu σ H P := h
theorem g_or (h : tt σ H fun c H1 => if c = true then P true H1 else tu σ H1 P) : tOr tt tu σ H P := h
theorem g_not (h : tt σ H fun c H1 => P (!c) H1) : tNot tt σ H P := h
theorem g_andV (h : ta σ H fun x H1 => ∃ c, x = .bl c ∧ if c = true then tb σ H1 Q else Q (.bl false) H1) : tAndV ta tb σ H Q := h
theorem g_orV (h : ta σ H fun x H1 => ∃ c, x = .bl c ∧ if c = true then Q (.bl true) H1 else tb σ H1 Q) : tOrV ta tb σ H Q := h
theorem g_notV (h : ta σ H fun x H1 => ∃ c, x = .bl c ∧ Q (.bl (!c)) H1) : tNotV ta σ H Q := h
theorem g_if (h : tt σ H fun c H1 => if c = true then ta σ H1 Q else tb σ H1 Q) : tIf tt ta tb σ H Q := h
theorem g_chain {r' : R2} (h : ta σ H fun x H1 => tb σ H1 fun y H2 => r x y H2 fun z H3 => ∃ k, z = .bl k ∧ (if k = true then tc σ H3 fun w' H4 => r' y w' H4 Q else Q (.bl false) H3)) : tChain r r' ta tb tc σ H Q := h
theorem g_nil {A : List V → Hp → Prop} (q : A [] H) : tNil σ H A := q
theorem g_cons {tr : TA} {A : List V → Hp → Prop} (h : ta σ H fun x H1 => tr σ H1 fun xs H2 => A (x :: xs) H2) : tCons ta tr σ H A := h
theorem g_tup {t : TA} (h : t σ H fun xs H1 => xs.length ≤ sizeLine ∧ ∀ p, H1 p = none → Q (.ref p) (upd H1 p (.tup xs))) : tTup t σ H Q := h
theorem g_lst {t : TA} (h : t σ H fun xs H1 => xs.length ≤ sizeLine ∧ ∀ p, H1 p = none → Q (.ref p) (upd H1 p (.lst xs))) : tLst t σ H Q := h
theorem g_call {sp : Sp} {dvs : List V} {E : XK} {t : TA} (h : t σ H fun vs H1 => sp (vs ++ dvs) H1 Q E) : tCall sp dvs E t σ H Q := h
theorem g_CB {r : List V → Hp → VK → Prop} {t : TA} (h : t σ H fun vs H1 => r vs H1 Q) : tCB r t σ H Q := h
theorem g_sl {r : V → Option Int → Option Int → Hp → VK → Prop} {tl th : TO} (h : te σ H fun x H1 => tl σ H1 fun l H2 => th σ H2 fun u H3 => r x l u H3 Q) : tSl r te tl th σ H Q := h
theorem g_noPart {A : Option Int → Hp → Prop} (q : A none H) : tNoPart σ H A := q
theorem g_part {A : Option Int → Hp → Prop} (h : te σ H fun x H1 => ∃ i, x = .int i ∧ A (some i) H1) : tPart te σ H A := h
theorem g_intE {A : Int → Prop} (q : A i) : ∃ k, V.int i = .int k ∧ A k := ⟨i, rfl, q⟩
theorem g_seq (h : ts { D with nx := us D } σ H) : tSeq ts us D σ H := h
theorem g_next (q : D.nx σ H) : tNext D σ H := q
theorem g_brk (q : D.bk σ H) : tBreak D σ H := q
theorem g_ct (q : D.ct σ H) : tCont D σ H := q
theorem g_asg {g : TG} (h : te σ H fun x H1 => g x σ H1 D.nx) : tAsg te g D σ H := h
theorem g_name {i : Nat} {A : St → Hp → Prop} (q : A (σ.set i (some v)) H) : gName i v σ H A := q
theorem g_aug {i : Nat} {ti : TIp} (h : σ[i]? = some (some x)) (q : te σ H fun y H1 => ti x y H1 fun z H2 => D.nx (σ.set i (some z)) H2) : tAug i te ti D σ H := ⟨x, h, q⟩
theorem g_ipI {f : Int → Int → Int} (q : Q (.int (f i j)) H) : ipI f (.int i) (.int j) H Q := ⟨i, j, rfl, rfl, q⟩
theorem g_drop (h : te σ H fun _ H1 => D.nx σ H1) : tDrop te D σ H := h
theorem g_ret (h : te σ H D.rt) : tRet te D σ H := h
theorem g_retN (q : D.rt .non H) : tRetN D σ H := q
theorem g_ifS (h : tt σ H fun b H1 => if b = true then ts D σ H1 else us D σ H1) : tIfS tt ts us D σ H := h
theorem g_for {wi : TI} {g : TG} {tb : TS} (h : wi σ H fun J H1 => ∃ W : Nat → Nat → St → Hp → Prop, (∃ m, W 0 m σ H1) ∧ ∀ i m σ H, W i m σ H →
    (J.stop i H ∧ D.nx σ H) ∨ (J.go i H ∧ ∃ N : St → Hp → Prop, (∀ σ' H', N σ' H' → ∃ m', m' < m ∧ W (i + 1) m' σ' H') ∧ ∀ x H', J.yld i H x H' → g x σ H' fun σ2 H2 => tb { D with nx := N, ct := N, bk := D.nx } σ2 H2)) : tFor wi g tb D σ H := h
theorem g_iT {c : Bool} {A B : Prop} (e : c = true) (h : A) : if c = true then A else B := by rw [if_pos e]; exact h
theorem g_iF {c : Bool} {A B : Prop} (e : c = false) (h : B) : if c = true then A else B := by rw [e]; exact iteF h
theorem g_ite {p A B : Prop} [Decidable p] (h1 : p → A) (h2 : ¬ p → B) : if decide p = true then A else B := by
  by_cases h : p
  · rw [decide_eq_true h]; exact iteT (h1 h)
  · rw [decide_eq_false h]; exact iteF (h2 h)
theorem g_iteN {p A B : Prop} [Decidable p] (h1 : ¬ p → A) (h2 : p → B) : if (!decide p) = true then A else B := by
  by_cases h : p
  · rw [decide_eq_true h]; exact iteF (h2 h)
  · rw [decide_eq_false h]; exact iteT (h1 h)
theorem g_iteB {b : Bool} {A B : Prop} (h1 : b = true → A) (h2 : b = false → B) : if b = true then A else B := by
  cases b with
  | true => exact iteT (h1 rfl)
  | false => exact iteF (h2 rfl)
theorem g_iteNB {b : Bool} {A B : Prop} (h1 : b = false → A) (h2 : b = true → B) : if (!b) = true then A else B := by
  cases b with
  | true => exact iteF (h2 rfl)
  | false => exact iteT (h1 rfl)
/-! calls of built-ins, by values -/
theorem g_int1 {A : Int → Prop} {B : Bool → Prop} (q : A i) : (∃ i', [V.int i] = [V.int i'] ∧ A i') ∨ ∃ k, [V.int i] = [V.bl k] ∧ B k := .inl ⟨i, rfl, q⟩
theorem g_int1B {b : Bool} {A : Int → Prop} {B : Bool → Prop} (q : B b) : (∃ i', [V.bl b] = [V.int i'] ∧ A i') ∨ ∃ k, [V.bl b] = [V.bl k] ∧ B k := .inr ⟨b, rfl, q⟩
theorem g_one {A : Int → Prop} (q : A i) : ∃ i', [V.int i] = [V.int i'] ∧ A i' := ⟨i, rfl, q⟩
theorem g_two {A : Int → Int → Prop} (q : A i j) : ∃ i' j', [V.int i, V.int j] = [V.int i', V.int j'] ∧ A i' j' := ⟨i, j, rfl, q⟩
theorem g_isi {c : V} {t u : Value} {b : Bool} (hc : ClsV c u) (ht : TyX K H x t) (e : PySem.W.kitOne K t u = some b) (q : Q (.bl b) H) : rIsi K [x, c] H Q := ⟨x, c, t, u, b, rfl, hc, ht, e, q⟩
theorem g_isiI (q : Q (.bl true) H) : rIsi K [.int i, .ty "int"] H Q := g_isi (.ty _) (.base (.int _)) (kit_ty (by decide +kernel)) q
theorem g_isiB {b : Bool} (q : Q (.bl true) H) : rIsi K [.bl b, .ty "bool"] H Q := g_isi (.ty _) (.base (.bl _)) (kit_ty (by decide +kernel)) q
theorem g_isiIB (q : Q (.bl false) H) : rIsi K [.int i, .ty "bool"] H Q := g_isi (.ty _) (.base (.int _)) (kit_ty (by decide +kernel)) q
theorem g_isiL {p : Addr} {xs : List V} (h : H p = some (.lst xs)) (q : Q (.bl true) H) : rIsi K [.ref p, .ty "list"] H Q := g_isi (.ty _) (.base (.lst h)) (kit_ty (by decide +kernel)) q
theorem g_isiU {p : Addr} {xs : List V} (h : H p = some (.tup xs)) (q : Q (.bl true) H) : rIsi K [.ref p, .ty "tuple"] H Q := g_isi (.ty _) (.base (.tup h)) (kit_ty (by decide +kernel)) q
theorem g_ixL {p : Addr} {xs : List V} (h : SqL K H p xs) (e : atI xs i = some v) (q : Q v H) : rIxL K (.ref p) (.int i) H Q := ⟨p, xs, i, v, rfl, rfl, h, e, q⟩
theorem g_ixT {p : Addr} {xs : List V} (h : SqT K H p xs) (e : atI xs i = some v) (q : Q v H) : rIxT K (.ref p) (.int i) H Q := ⟨p, xs, i, v, rfl, rfl, h, e, q⟩
theorem g_append {p : Addr} {xs : List V} (h : H p = some (.lst xs)) (l : xs.length < sizeLine) (q : Q .non (upd H p (.lst (xs ++ [y])))) : rAppend (.ref p) [y] H Q := ⟨p, xs, y, rfl, rfl, h, l, q⟩
theorem g_BM {T : String} {r : V → List V → Hp → VK → Prop} {t : TA} (h : te σ H fun x H1 => tyV K T x H1 ∧ t σ H1 fun xs H2 => r x xs H2 Q) : tBM K T r te t σ H Q := h
theorem g_BM0 {T : String} {r : V → List V → Hp → VK → Prop} (h : te σ H fun x H1 => tyV K T x H1 ∧ r x [] H1 Q) : tBM0 K T r te σ H Q := h
theorem ty_l {p : Addr} {xs : List V} (h : H p = some (.lst xs)) : tyV K "list" (.ref p) H := Or.inl ⟨rfl, _, Or.inl (Or.inl h)⟩
theorem g_setL {p : Addr} {xs : List V} {k : Int} {j : Nat} {A : Hp → Prop} (h : H p = some (.lst xs)) (e : ixN xs.length k = some j) (q : A (upd H p (.lst (xs.set j v)))) : rSetL (.ref p) (.int k) v H A := ⟨p, xs, k, j, rfl, rfl, h, e, q⟩
theorem g_sub {to ti : TE} {t : TSet} {A : St → Hp → Prop} (h : to σ H fun o H1 => ti σ H1 fun i H2 => t o i v H2 fun H3 => A σ H3) : gSub to ti t v σ H A := h
theorem g_len {p : Addr} {xs : List V} {A : Addr → List V → Prop} (h : SqL K H p xs ∨ SqT K H p xs) (q : A p xs) : ∃ p' ys, [V.ref p] = [V.ref p'] ∧ (SqL K H p' ys ∨ SqT K H p' ys) ∧ A p' ys := ⟨p, xs, rfl, h, q⟩
theorem g_slL {p : Addr} {xs : List V} {lo hi : Option Int} (h : SqL K H p xs) (q : ∀ l, H l = none → Q (.ref l) (upd H l (.lst (cutV xs lo hi)))) : rSlL K (.ref p) lo hi H Q := ⟨p, xs, rfl, h, q⟩
theorem g_cat {p q : Addr} {xs ys : List V} (h : H p = some (.lst xs)) (h2 : H q = some (.lst ys)) (l : xs.length + ys.length ≤ sizeLine) (k : ∀ l, H l = none → Q (.ref l) (upd H l (.lst (xs ++ ys)))) : rCat (.ref p) (.ref q) H Q := ⟨p, q, xs, ys, rfl, rfl, h, h2, l, k⟩
end
/-! ### heaps -/
theorem same_upd {H : Hp} {p : Addr} {o : HO} (h : H p = none) : Same H (upd H p o) := fun b x e => by
  rw [upd_ne (ne_of_none e h)]
  exact e
theorem sm {H H' : Hp} {p : Addr} {o : HO} (s : Same H H') (h : H p = some o) : H' p = some o := s p o h
theorem sq_upd {K : PySem.W.Frag} {H : Hp} {p a : Addr} {o : HO} {xs : List V} (n : H p = none) (h : SqL K H a xs) : SqL K (upd H p o) a xs := (same_upd n).seq h
theorem sl {K : PySem.W.Frag} {H : Hp} {a : Addr} {xs : List V} (h : H a = some (.lst xs)) : SqL K H a xs := Or.inl (Or.inl h)
theorem st {K : PySem.W.Frag} {H : Hp} {a : Addr} {xs : List V} (h : H a = some (.tup xs)) : SqT K H a xs := Or.inl (Or.inl h)
theorem Same.sqt {K : PySem.W.Frag} {H H' : Hp} {a : Addr} {xs : List V} (e : Same H H') (h : SqT K H a xs) : SqT K H' a xs := by
  rcases h with (h | ⟨o, h⟩) | h
  · exact .inl (.inl (e _ _ h))
  · exact .inl (.inr ⟨o, e _ _ h⟩)
  · exact .inr h
theorem upd_keep {H : Hp} {p b : Addr} {o o' : HO} (n : H p = none) (h : H b = some o') : upd H p o b = some o' := (same_upd n) b o' h
theorem ne_new {H : Hp} {p b : Addr} {o : HO} (h : H b = some o) (n : H p = none) : b ≠ p := ne_of_none h n
/-- H' is H but at p -/
def But (p : Addr) (H H' : Hp) : Prop := ∀ b o, b ≠ p → H b = some o → H' b = some o
theorem But.refl {p : Addr} {H : Hp} : But p H H := fun _ _ _ h => h
theorem But.of {p : Addr} {H H' : Hp} (s : Same H H') : But p H H' := fun b o _ h => s b o h
theorem But.trans {p : Addr} {H H1 H2 : Hp} (a : But p H H1) (b : But p H1 H2) : But p H H2 := fun c o n h => b c o n (a c o n h)
theorem But.upd {p : Addr} {H H' : Hp} {o : HO} (a : But p H H') : But p H (upd H' p o) := fun b o n h => by rw [upd_ne n]; exact a b o n h
theorem But.same {p : Addr} {H H' : Hp} (a : But p H H') (n : H p = none) : Same H H' := fun b o h => a b o (ne_of_none h n) h
theorem But.tr2 {p : Addr} {H H1 H2 : Hp} (s : Same H H1) (n : H p = none) (a : But p H1 H2) : Same H H2 := fun b o h => a b o (ne_of_none h n) (s b o h)
/-! ### numbers -/
theorem cdivW {a b : Int} (h : 0 < b) (h2 : b < 2 ^ 8000) : CDivW a b := by
  refine ⟨h, ?_⟩
  have e : b.natAbs < 2 ^ 8000 := by
    have : ((b.natAbs : Nat) : Int) < ((2 ^ 8000 : Nat) : Int) := by
      rw [Int.natAbs_of_nonneg (Int.le_of_lt h)]
      exact_mod_cast h2
    exact_mod_cast this
  by_cases z : b.natAbs = 0
  · rw [z]; decide
  · exact Nat.lt_of_lt_of_le (Nat.log2_lt z |>.mpr e) (by decide)
theorem sz {n : Nat} (h : n ≤ 100000) : n ≤ sizeLine := Nat.le_trans h (by decide)
theorem szl {n : Nat} (h : n < 100000) : n < sizeLine := Nat.lt_of_lt_of_le h (by decide)
/-! ### loops -/
theorem for_l {K : PySem.W.Frag} {tl : TE} {g : TG} {tb : TS} {D : Ends} {σ : St} {H : Hp} {a : Addr} {xs : List V} (Pv : Nat → St → Hp → Prop) (hs : SqL K H a xs) (h0 : Pv 0 σ H) (hl : ∀ i σ H, i ≤ xs.length → Pv i σ H → SqL K H a xs)
    (turn : ∀ i x σ H, xs[i]? = some x → Pv i σ H → g x σ H fun σ2 H2 => tb { D with nx := Pv (i + 1), ct := Pv (i + 1), bk := D.nx } σ2 H2) (hd : ∀ σ H, Pv xs.length σ H → D.nx σ H) (e : ∀ R : V → Hp → Prop, R (.ref a) H → tl σ H R) : tFor (iList K tl) g tb D σ H := by
  refine g_for ?_
  refine e _ ⟨a, rfl, ⟨_, hs⟩, ?_⟩
  exact for_list (xs := xs) Pv h0 hl turn hd
theorem for_r {ta : TA} {g : TG} {tb : TS} {D : Ends} {σ : St} {H : Hp} {n : Int} (N : Nat) (en : n.toNat = N) (b1 : -(2 ^ 62) ≤ n) (b2 : n < 2 ^ 62) (Pv : Nat → St → Hp → Prop) (h0 : Pv 0 σ H)
    (turn : ∀ (i : Nat) σ H, i < N → Pv i σ H → g (.int (i : Int)) σ H fun σ2 H2 => tb { D with nx := Pv (i + 1), ct := Pv (i + 1), bk := D.nx } σ2 H2) (hd : ∀ σ H, Pv N σ H → D.nx σ H) (e : ∀ R : List V → Hp → Prop, R [.int n] H → ta σ H R) : tFor (iRng1 ta) g tb D σ H := by
  subst en
  refine g_for ?_
  refine e _ ⟨n, rfl, b1, b2, ?_⟩
  refine for_range (lo := 0) Pv h0 (fun i σ H hi p => ?_) hd
  have z := turn i σ H hi p
  rw [Int.zero_add]
  exact z
theorem g_nx {nx : St → Hp → Prop} {rt : VK} {bk ct : St → Hp → Prop} {σ : St} {H : Hp} (q : nx σ H) : (Ends.mk nx rt bk ct).nx σ H := q
theorem g_bkE {nx : St → Hp → Prop} {rt : VK} {bk ct : St → Hp → Prop} {σ : St} {H : Hp} (q : bk σ H) : (Ends.mk nx rt bk ct).bk σ H := q
theorem g_ctE {nx : St → Hp → Prop} {rt : VK} {bk ct : St → Hp → Prop} {σ : St} {H : Hp} (q : ct σ H) : (Ends.mk nx rt bk ct).ct σ H := q
theorem g_rt {nx : St → Hp → Prop} {rt : VK} {bk ct : St → Hp → Prop} {v : V} {H : Hp} (q : rt v H) : (Ends.mk nx rt bk ct).rt v H := q
/-- a cell of the script -/
def cell (ns : List Int) (k : Int) : Int := ns.getD k.toNat 0
theorem atI_map {ns : List Int} {k : Int} (h0 : 0 ≤ k) (h : k < (ns.length : Int)) : atI (ns.map V.int) k = some (.int (cell ns k)) := by
  have e : k = ((k.toNat : Nat) : Int) := by omega
  have hl : k.toNat < ns.length := by omega
  have e2 : cell ns k = ns[k.toNat] := by
    unfold cell
    rw [List.getD_eq_getElem?_getD, List.getElem?_eq_getElem hl]; rfl
  rw [e2]
  refine at_of e ?_
  rw [List.getElem?_map, List.getElem?_eq_getElem hl]; rfl
theorem cell_out {ns : List Int} {k : Int} (h : ¬ k < (ns.length : Int)) : cell ns k = 0 := by
  unfold cell
  rw [List.getD_eq_getElem?_getD, List.getElem?_eq_none (by omega)]; rfl
theorem atI_some {xs : List V} {i : Int} (h0 : 0 ≤ i) (h : i < (xs.length : Int)) : ∃ v, xs[i.toNat]? = some v ∧ atI xs i = some v := by
  have hl : i.toNat < xs.length := by omega
  exact ⟨xs[i.toNat], List.getElem?_eq_getElem hl, at_of (by omega) (List.getElem?_eq_getElem hl)⟩
theorem atI_ints {xs : List Int} {i : Int} (h0 : 0 ≤ i) (h : i < (xs.length : Int)) : ∃ n, atI (xs.map V.int) i = some (.int n) ∧ xs[i.toNat]? = some n := by
  have hl : i.toNat < xs.length := by omega
  refine ⟨xs[i.toNat], at_of (j := i.toNat) (by omega) ?_, List.getElem?_eq_getElem hl⟩
  rw [List.getElem?_map, List.getElem?_eq_getElem hl]; rfl
theorem g_dT {p A B : Prop} [Decidable p] (h : p) (q : A) : if decide p = true then A else B := by rw [decide_eq_true h]; exact iteT q
theorem g_dF {p A B : Prop} [Decidable p] (h : ¬ p) (q : B) : if decide p = true then A else B := by rw [decide_eq_false h]; exact iteF q
theorem g_nT {p A B : Prop} [Decidable p] (h : ¬ p) (q : A) : if (!decide p) = true then A else B := by rw [decide_eq_false h]; exact iteT q
theorem g_nF {p A B : Prop} [Decidable p] (h : p) (q : B) : if (!decide p) = true then A else B := by rw [decide_eq_true h]; exact iteF q
/-! ### comprehensions: the list ys, value by value -/
theorem g_yes {σ : St} {H : Hp} {P : Bool → Hp → Prop} (q : P true H) : tYes σ H P := q
theorem g_lc {wi : TI} {g : TG} {tt : TT} {te : TE} {vs : List Nat} {σ : St} {H : Hp} {Q : VK} (h : wi σ H fun J H1 => ∀ D, H1 D = none → ∃ W : Nat → Nat → Hp → Prop, (∃ m, W 0 m (upd H1 D (.lst []))) ∧ ∀ i m H, W i m H →
  (J.stop i H ∧ Q (.ref D) H) ∨ (J.go i H ∧ ∃ Nx : Hp → Prop, (∀ H', Nx H' → ∃ m', m' < m ∧ W (i + 1) m' H') ∧ ∀ x H', J.yld i H x H' → g x (wipe σ vs) H' fun σ2 H2 => wipe σ2 vs = wipe σ vs ∧ tt σ2 H2 fun b H3 =>
    if b = true then te σ2 H3 fun y H4 => ∃ acc, H4 D = some (.lst acc) ∧ acc.length < sizeLine ∧ Nx (upd H4 D (.lst (acc ++ [y]))) else Nx H3)) : tLc wi g tt te vs σ H Q := h
theorem g_revR {ta : TE} {σ : St} {H : Hp} {R : It → Hp → Prop} (h : ta σ H fun x H1 => ∃ n : Int, x = .int n ∧ -(2 ^ 62) ≤ (0 : Int) ∧ (0 : Int) < 2 ^ 62 ∧ -(2 ^ 62) ≤ n ∧ n < 2 ^ 62 ∧ R (Itc (0 + (((n - 0).toNat : Nat) : Int) - 1) (-1) (n - 0).toNat) H1) : iRevR (tRg1 ta) σ H R := h
theorem g_rng1 {ta : TA} {σ : St} {H : Hp} {R : It → Hp → Prop} (h : ta σ H fun vs H1 => ∃ j : Int, vs = [.int j] ∧ -(2 ^ 62) ≤ j ∧ j < 2 ^ 62 ∧ R (Itr 0 j.toNat) H1) : iRng1 ta σ H R := h
theorem g_iList {K : PySem.W.Frag} {tl : TE} {σ : St} {H : Hp} {R : It → Hp → Prop} (h : tl σ H fun x H1 => ∃ a, x = .ref a ∧ (∃ xs, SqL K H1 a xs) ∧ R (Itl K a) H1) : iList K tl σ H R := h
def LcP (H1 : Hp) (D : Addr) (ys : List V) (i : Nat) (H : Hp) : Prop := Same H1 H ∧ H D = some (.lst (ys.take i))
theorem lc_vals {J : It} {n : Nat} {G : Hp → Prop} {Y : Nat → Hp → V → Hp → Prop} (w : Walk J n G Y) (ys : List V) {g : TG} {tt : TT} {te : TE} {vs : List Nat} {σ : St} {H1 : Hp} {D : Addr} {Qd : Hp → Prop} (hD : H1 D = none) (hlen : ys.length = n) (hG : ∀ H, Same H1 H → G H)
    (hs : ∀ i x H H', i < n → LcP H1 D ys i H → Y i H x H' → g x (wipe σ vs) H' fun σ2 H2 => wipe σ2 vs = wipe σ vs ∧ tt σ2 H2 fun b H3 =>
      if b = true then te σ2 H3 fun y H4 => ∃ acc, H4 D = some (.lst acc) ∧ acc.length < sizeLine ∧ LcP H1 D ys (i + 1) (upd H4 D (.lst (acc ++ [y]))) else LcP H1 D ys (i + 1) H3)
    (hd : ∀ H, Same H1 H → H D = some (.lst ys) → Qd H) :
    ∃ W : Nat → Nat → Hp → Prop, (∃ m, W 0 m (upd H1 D (.lst []))) ∧ ∀ i m H, W i m H →
      (J.stop i H ∧ Qd H) ∨ (J.go i H ∧ ∃ Nx : Hp → Prop, (∀ H', Nx H' → ∃ m', m' < m ∧ W (i + 1) m' H') ∧ ∀ x H', J.yld i H x H' → g x (wipe σ vs) H' fun σ2 H2 => wipe σ2 vs = wipe σ vs ∧ tt σ2 H2 fun b H3 =>
        if b = true then te σ2 H3 fun y H4 => ∃ acc, H4 D = some (.lst acc) ∧ acc.length < sizeLine ∧ Nx (upd H4 D (.lst (acc ++ [y]))) else Nx H3) := by
  refine lc_it w (LcP H1 D ys) ⟨same_upd hD, by rw [upd_same]; rfl⟩ (fun i H _ p => hG H p.1) hs (fun H p => hd H p.1 ?_)
  have e := p.2
  rw [← hlen, List.take_length] at e
  exact e
theorem lc_next {H1 H4 : Hp} {D : Addr} {ys : List V} {i : Nat} {y : V} (hD : H1 D = none) (p : LcP H1 D ys i H4) (hz : ys.length ≤ 100000) (hy : ys[i]? = some y) :
    ∃ acc, H4 D = some (.lst acc) ∧ acc.length < sizeLine ∧ LcP H1 D ys (i + 1) (upd H4 D (.lst (acc ++ [y]))) := by
  refine ⟨_, p.2, ?_, ?_, ?_⟩
  · rw [List.length_take]
    obtain ⟨h, _⟩ := List.getElem?_eq_some_iff.mp hy
    exact szl (by omega)
  · exact (But.of p.1).upd.same hD
  · rw [upd_same, List.take_add_one, hy]
    rfl
theorem LcP.same {H1 H4 H5 : Hp} {D : Addr} {ys : List V} {i : Nat} (p : LcP H1 D ys i H4) (s : Same H4 H5) : LcP H1 D ys i H5 := ⟨p.1.trans s, s _ _ p.2⟩
theorem map_get {α : Type} {f : α → V} {xs : List α} {i : Nat} {y : V} (h : (xs.map f)[i]? = some y) : ∃ z, xs[i]? = some z ∧ y = f z := by
  rw [List.getElem?_map] at h
  cases e : xs[i]? with
  | none => rw [e] at h; cases h
  | some z => rw [e] at h; exact ⟨z, rfl, (Option.some.inj h).symm⟩
/-! ### == of lists of ints -/
section
variable {K : PySem.W.Frag} {H : Hp} {Q : VK}
theorem dpAll_ints : ∀ {ns : List Int}, DpAll K H (ns.map V.int) (ns.map PyData.int)
  | [] => .nil
  | n :: _ => .cons (.int n) dpAll_ints
theorem lay_ints : ∀ {ns : List Int}, PyData.canLayAll0 (ns.map PyData.int) = true
  | [] => rfl
  | _ :: ns => by
    show (true && PyData.canLayAll0 (ns.map PyData.int)) = true
    rw [lay_ints]; rfl
theorem depth_ints : ∀ {ns : List Int}, PyData.depthAll (ns.map PyData.int) = 0
  | [] => rfl
  | _ :: ns => by
    show max 0 (PyData.depthAll (ns.map PyData.int)) = 0
    rw [depth_ints]; rfl
theorem shaped_ints {ns : List Int} : SeqAt.shaped (.list (ns.map PyData.int)) = true := by
  show (PyData.canLayAll0 (ns.map PyData.int) && decide (PyData.depthAll (ns.map PyData.int) + 1 ≤ 64)) = true
  rw [lay_ints, depth_ints]; rfl
theorem eqvAll_ints : ∀ {ns ms : List Int}, PyData.eqvAll (ns.map PyData.int) (ms.map PyData.int) = decide (ns = ms)
  | [], [] => rfl
  | [], _ :: _ => rfl
  | _ :: _, [] => rfl
  | n :: ns, m :: ms => by
    show ((n == m) && PyData.eqvAll (ns.map PyData.int) (ms.map PyData.int)) = decide (n :: ns = m :: ms)
    rw [eqvAll_ints, Bool.eq_iff_iff]
    simp
theorem dp_ints {a : Addr} {ns : List Int} (h : SqL K H a (ns.map V.int)) : Dp K H (.ref a) (.list (ns.map PyData.int)) := .lst h dpAll_ints
theorem g_eqL {a b : Addr} {ns ms : List Int} (h1 : SqL K H a (ns.map V.int)) (h2 : SqL K H b (ms.map V.int)) (q : Q (.bl (decide (ns = ms))) H) : rEqD K (.ref a) (.ref b) H Q :=
  ⟨_, _, dp_ints h1, dp_ints h2, shaped_ints, shaped_ints, by rw [show PyData.eqv (.list (ns.map PyData.int)) (.list (ms.map PyData.int)) = decide (ns = ms) from eqvAll_ints]; exact q⟩
theorem g_neL {a b : Addr} {ns ms : List Int} (h1 : SqL K H a (ns.map V.int)) (h2 : SqL K H b (ms.map V.int)) (q : Q (.bl (!decide (ns = ms))) H) : rNeD K (.ref a) (.ref b) H Q :=
  ⟨_, _, dp_ints h1, dp_ints h2, shaped_ints, shaped_ints, by rw [show PyData.eqv (.list (ns.map PyData.int)) (.list (ms.map PyData.int)) = decide (ns = ms) from eqvAll_ints]; exact q⟩
theorem g_sum {a : Addr} {ns : List Int} (h : SqL K H a (ns.map V.int)) (q : Q (.int ns.sum) H) : rSum K [.ref a] H Q := ⟨a, ns, rfl, h, q⟩
end
theorem ixN_nat {n : Nat} {k : Int} (h0 : 0 ≤ k) (h : k < (n : Int)) : ixN n k = some k.toNat := by
  unfold ixN
  rw [if_pos h0, if_pos h]
theorem g_ref {a : Addr} {A : Addr → Prop} (q : A a) : ∃ b, V.ref a = .ref b ∧ A b := ⟨a, rfl, q⟩
/-! ### objects: the attributes by their places -/
def obj : List Str → List V → List (Str × V)
  | k :: ks, v :: vs => (k, v) :: obj ks vs
  | _, _ => []
theorem obj_len : ∀ (ks : List Str) (vs : List V), (obj ks vs).length ≤ ks.length
  | [], _ => Nat.zero_le _
  | _ :: _, [] => Nat.zero_le _
  | _ :: ks, _ :: vs => Nat.succ_le_succ (obj_len ks vs)
theorem obj_get : ∀ {ks : List Str} {vs : List V} {i : Nat} {k : Str}, ks.Nodup → ks[i]? = some k → (obj ks vs).lookup k = vs[i]?
  | [], _, _, _, _, h => by cases h
  | k0 :: ks, [], i, k, _, _ => by simp [obj]
  | k0 :: ks, v :: vs, 0, k, _, h => by
    have e : k0 = k := Option.some.inj h
    subst e
    simp [obj]
  | k0 :: ks, v :: vs, i + 1, k, nd, h => by
    have nd' := List.nodup_cons.mp nd
    have hk : k ∈ ks := List.mem_of_getElem? h
    have ne : (k == k0) = false := by
      rw [beq_eq_false_iff_ne]
      intro e
      subst e
      exact nd'.1 hk
    show List.lookup k ((k0, v) :: obj ks vs) = vs[i]?
    rw [List.lookup_cons, ne]
    exact obj_get nd'.2 h
theorem obj_none : ∀ {ks : List Str} {vs : List V} {k : Str}, k ∉ ks → (obj ks vs).lookup k = none
  | [], _, _, _ => rfl
  | _ :: _, [], _, _ => rfl
  | k0 :: ks, v :: vs, k, h => by
    have ne : (k == k0) = false := by
      rw [beq_eq_false_iff_ne]
      intro e
      subst e
      exact h (List.mem_cons_self ..)
    show List.lookup k ((k0, v) :: obj ks vs) = none
    rw [List.lookup_cons, ne]
    exact obj_none fun z => h (List.mem_cons_of_mem _ z)
theorem obj_put : ∀ {ks : List Str} {vs : List V} {i : Nat} {k : Str} {y : V}, ks.Nodup → ks[i]? = some k → i < vs.length → putF k y (obj ks vs) = obj ks (vs.set i y)
  | [], _, _, _, _, _, h, _ => by cases h
  | _ :: _, [], _, _, _, _, _, h => by simp at h
  | k0 :: ks, v :: vs, 0, k, y, _, h, _ => by
    have e : k0 = k := Option.some.inj h
    subst e
    show (if k0 = k0 then _ else _) = _
    rw [if_pos rfl]
    rfl
  | k0 :: ks, v :: vs, i + 1, k, y, nd, h, hl => by
    have nd' := List.nodup_cons.mp nd
    have hk : k ∈ ks := List.mem_of_getElem? h
    have ne : ¬ k0 = k := by
      intro e
      subst e
      exact nd'.1 hk
    show (if k0 = k then _ else (k0, v) :: putF k y (obj ks vs)) = (k0, v) :: obj ks (vs.set i y)
    rw [if_neg ne, obj_put nd'.2 h (by simpa using hl)]
theorem obj_new : ∀ {ks : List Str} {vs : List V} {k : Str} {y : V}, ks.Nodup → ks[vs.length]? = some k → putF k y (obj ks vs) = obj ks (vs ++ [y])
  | [], _, _, _, _, h => by simp at h
  | k0 :: ks, [], k, y, _, h => by
    have e : k0 = k := Option.some.inj h
    subst e
    show [(k0, y)] = obj (k0 :: ks) [y]
    cases ks <;> rfl
  | k0 :: ks, v :: vs, k, y, nd, h => by
    have nd' := List.nodup_cons.mp nd
    have h' : ks[vs.length]? = some k := h
    have hk : k ∈ ks := List.mem_of_getElem? h'
    have ne : ¬ k0 = k := by
      intro e
      subst e
      exact nd'.1 hk
    show (if k0 = k then _ else (k0, v) :: putF k y (obj ks vs)) = (k0, v) :: obj ks (vs ++ [y])
    rw [if_neg ne, obj_new nd'.2 h']
section
variable {K : PySem.W.Frag} {σ : St} {H : Hp} {Q : VK} {v y : V} {ta tv : TE} {D : Ends} {f m : Str} {a C dx : Addr} {ks : List Str} {vs : List V} {i : Nat}
theorem g_fld (h : ta σ H fun x H1 => ∃ a C dx fs v, x = .ref a ∧ H1 a = some (.ins C dx fs) ∧ Cls K C ∧ NoAttr K C f ∧ fs.lookup f = some v ∧ Q v H1) : tFld K ta f σ H Q := h
theorem g_fldE {A : V → Prop} (ho : H a = some (.ins C dx (obj ks vs))) (c : Cls K C) (n : NoAttr K C f) (nd : ks.Nodup) (hk : ks[i]? = some f) (hv : vs[i]? = some v) (q : A v) :
    ∃ a' C' dx' fs v', V.ref a = .ref a' ∧ H a' = some (.ins C' dx' fs) ∧ Cls K C' ∧ NoAttr K C' f ∧ fs.lookup f = some v' ∧ A v' := ⟨a, C, dx, _, v, rfl, ho, c, n, (obj_get nd hk).trans hv, q⟩
theorem g_sfld (h : tv σ H fun y H1 => ta σ H1 fun x H2 => ∃ a C dx fs, x = .ref a ∧ H2 a = some (.ins C dx fs) ∧ Cls K C ∧ NoAttr K C f ∧ fs.length < 1000 ∧ D.nx σ (upd H2 a (.ins C dx (putF f y fs)))) : sFld K ta tv f D σ H := h
theorem g_putE {A : Hp → Prop} (ho : H a = some (.ins C dx (obj ks vs))) (c : Cls K C) (n : NoAttr K C f) (nd : ks.Nodup) (h1 : ks.length < 1000) (hk : ks[i]? = some f) (hv : i < vs.length) (q : A (upd H a (.ins C dx (obj ks (vs.set i y))))) :
    ∃ a' C' dx' fs, V.ref a = .ref a' ∧ H a' = some (.ins C' dx' fs) ∧ Cls K C' ∧ NoAttr K C' f ∧ fs.length < 1000 ∧ A (upd H a' (.ins C' dx' (putF f y fs))) :=
  ⟨a, C, dx, _, rfl, ho, c, n, Nat.lt_of_le_of_lt (obj_len ks vs) h1, by rw [obj_put nd hk hv]; exact q⟩
theorem g_newE {A : Hp → Prop} (ho : H a = some (.ins C dx (obj ks vs))) (c : Cls K C) (n : NoAttr K C f) (nd : ks.Nodup) (h1 : ks.length < 1000) (hk : ks[vs.length]? = some f) (q : A (upd H a (.ins C dx (obj ks (vs ++ [y]))))) :
    ∃ a' C' dx' fs, V.ref a = .ref a' ∧ H a' = some (.ins C' dx' fs) ∧ Cls K C' ∧ NoAttr K C' f ∧ fs.length < 1000 ∧ A (upd H a' (.ins C' dx' (putF f y fs))) :=
  ⟨a, C, dx, _, rfl, ho, c, n, Nat.lt_of_le_of_lt (obj_len ks vs) h1, by rw [obj_new nd hk]; exact q⟩
theorem g_meth {sp : Sp} {dvs : List V} {E : XK} {t : TA} (h : ta σ H fun x H1 => ∃ a dx fs, x = .ref a ∧ H1 a = some (.ins C dx fs) ∧ fs.lookup m = none ∧ t σ H1 fun vs H2 => sp (x :: (vs ++ dvs)) H2 Q E) : tMeth C m sp dvs E ta t σ H Q := h
theorem g_methE {A : Prop} (ho : H a = some (.ins C dx (obj ks vs))) (no : m ∉ ks) (q : A) : ∃ a' dx' fs, V.ref a = .ref a' ∧ H a' = some (.ins C dx' fs) ∧ fs.lookup m = none ∧ A := ⟨a, dx, _, rfl, ho, obj_none no, q⟩
theorem g_make {sp : Sp} {dvs : List V} {E : XK} {t : TA} (h : t σ H fun vs H1 => ∀ x dx, H1 x = none → H1 dx = none → dx ≠ x → sp (.ref x :: (vs ++ dvs)) (upd (upd H1 dx (.own x)) x (.ins C dx [])) (fun v H2 => v = .non ∧ Q (.ref x) H2) E) : tMake C sp dvs E t σ H Q := h
theorem g_prop {sp : Sp} {dvs : List V} {E : XK} (h : ta σ H fun x H1 => ∃ a dx fs, x = .ref a ∧ H1 a = some (.ins C dx fs) ∧ sp (.ref a :: dvs) H1 Q E) : tProp C sp dvs E ta σ H Q := h
theorem g_propE {A : Addr → Prop} (ho : H a = some (.ins C dx (obj ks vs))) (q : A a) : ∃ a' dx' fs, V.ref a = .ref a' ∧ H a' = some (.ins C dx' fs) ∧ A a' := ⟨a, dx, _, rfl, ho, q⟩
theorem g_absE {A : Int → Prop} {n : Int} (q : A n) : ∃ i, [V.int n] = [V.int i] ∧ A i := ⟨n, rfl, q⟩
end
/-- a slice of ints -/
theorem cut_ints (ns : List Int) (lo hi : Option Int) : ∃ ms : List Int, cutV (ns.map V.int) lo hi = ms.map V.int ∧ ms.length ≤ ns.length := by
  unfold cutV
  refine ⟨(ns.drop (HT.sIx (ns.map V.int).length 0 lo)).take (HT.sIx (ns.map V.int).length (ns.map V.int).length hi - HT.sIx (ns.map V.int).length 0 lo), ?_, ?_⟩
  · rw [List.map_take, List.map_drop]
  · rw [List.length_take, List.length_drop]
    omega
theorem g_nameE {i : Nat} {v : V} {σ σ' : St} {H : Hp} {A : St → Hp → Prop} (e : σ.set i (some v) = σ') (q : A σ' H) : gName i v σ H A := by
  subst e
  exact q
theorem but_sq {K : PySem.W.Frag} {p : Addr} {H H' : Hp} {a : Addr} {xs : List V} (e : But p H H') (n : a ≠ p) (h : SqL K H a xs) : SqL K H' a xs := by
  rcases h with (h | ⟨o, h⟩) | h
  · exact .inl (.inl (e _ _ n h))
  · exact .inl (.inr ⟨o, e _ _ n h⟩)
  · exact .inr h
theorem g_star {K : PySem.W.Frag} {te : TE} {t : TA} {σ : St} {H : Hp} {Q : List V → Hp → Prop} (h : te σ H fun x H1 => ∃ p xs, x = V.ref p ∧ (SqT K H1 p xs ∨ SqL K H1 p xs) ∧ t σ H1 fun ys H2 => Q (xs ++ ys) H2) : StX.tStar K te t σ H Q := h
theorem g_while {c : TT} {tb : TS} {D : Ends} {σ : St} {H : Hp} (W : Nat → St → Hp → Prop) (h0 : ∃ m, W m σ H) (h : ∀ m σ H, W m σ H → c σ H fun b H1 => if b = true then ∃ N : St → Hp → Prop, (∀ σ' H', N σ' H' → ∃ m', m' < m ∧ W m' σ' H') ∧ tb { D with nx := N, ct := N, bk := D.nx } σ H1 else D.nx σ H1) : tWhile c tb D σ H := ⟨W, h0, h⟩
theorem g_cut {t u : TS} {D : Ends} {σ : St} {H : Hp} (Mid : St → Hp → Prop) (h1 : t { D with nx := Mid } σ H) (h2 : ∀ σ' H', Mid σ' H' → u D σ' H') : C8.tCut t u D σ H := ⟨Mid, h1, h2⟩
theorem g_min {K : PySem.W.Frag} {a : Addr} {ns : List Int} {H : Hp} {Q : VK} (h : SqL K H a (ns.map V.int)) (h0 : 0 < ns.length) (q : ∀ m, m ∈ ns → (∀ y, y ∈ ns → m ≤ y) → Q (.int m) H) : rMin K [.ref a] H Q := ⟨a, ns, rfl, h, h0, q⟩
theorem g_max {K : PySem.W.Frag} {a : Addr} {ns : List Int} {H : Hp} {Q : VK} (h : SqL K H a (ns.map V.int)) (h0 : 0 < ns.length) (q : ∀ m, m ∈ ns → (∀ y, y ∈ ns → y ≤ m) → Q (.int m) H) : rMax K [.ref a] H Q := ⟨a, ns, rfl, h, h0, q⟩
theorem atI_nat' {xs : List V} {i : Int} {j : Nat} {v : V} (e : i = (j : Int)) (h : xs[j]? = some v) : atI xs i = some v := at_of e h
theorem ixN_last {n : Nat} (h : 0 < n) : ixN n (-1) = some (n - 1) := by
  unfold ixN
  rw [if_neg (by decide), if_pos (by omega)]
  congr 1
  omega
theorem atI_neg1 {xs : List V} {v : V} (h : xs[xs.length - 1]? = some v) : atI xs (-1) = some v := by
  obtain ⟨hl, _⟩ := List.getElem?_eq_some_iff.mp h
  unfold atI
  rw [ixN_last (by omega)]
  exact h
theorem snoc_of {α : Type} {xs : List α} (h : 0 < xs.length) : ∃ a x, xs = a ++ [x] :=
  ⟨xs.dropLast, xs.getLast (List.ne_nil_of_length_pos h), (List.dropLast_concat_getLast _).symm⟩
theorem set_last {α : Type} {a : List α} {x y : α} : (a ++ [x]).set a.length y = a ++ [y] := by
  rw [List.set_append_right _ _ (Nat.le_refl _), Nat.sub_self]
  rfl
end My
namespace My
open PySem PySem.Spec L2
local macro_rules | `(tactic| walk_at "side") => `(tactic| first | assumption | decide | omega | exact ⟨by decide, by decide⟩ | exact ⟨by decide, by decide, by decide⟩ | decide +kernel | exact cdivW (by decide +kernel) (by decide +kernel) | exact Or.inl ⟨by omega, by omega⟩ | exact Or.inr ⟨by omega, by omega⟩ | (simp only [List.length_map, List.length_cons, List.length_nil, List.length_append]; omega))
local macro_rules | `(tactic| walk_at "fact") => `(tactic| first | assumption | omega | with_reducible rfl)
local macro_rules | `(tactic| walk_at "use") => `(tactic| fail "use")
local macro_rules | `(tactic| walk_at "go1") => `(tactic| with_reducible first | refine g_seq ?_ | refine g_asg ?_ | refine g_ret ?_ | refine g_ifS ?_ | refine g_drop ?_ | refine g_star ?_ | refine g_nx ?_ | refine g_rt ?_ | refine g_bkE ?_ | refine g_ctE ?_ | refine g_next ?_ | refine g_retN ?_ | refine g_brk ?_ | refine g_ct ?_ | refine g_c ?_ | refine g_op ?_ | refine g_un ?_ | refine g_rI0 ?_ | refine g_rU ?_ | refine g_rEqI ?_ | refine g_rNeI ?_ | refine g_isN ?_ | refine g_rIsB ?_ | refine g_rNotB ?_ | refine g_test ?_ | refine g_B ?_ | refine g_bl ?_ | refine g_and ?_ | refine g_or ?_ | refine g_not ?_ | refine g_andV ?_ | refine g_orV ?_ | refine g_notV ?_ | refine g_if ?_ | refine g_chain ?_ | refine g_yes ?_ | refine g_lc ?_ | refine g_revR ?_ | refine g_rng1 ?_ | refine g_iList ?_ | refine g_nil ?_ | refine g_cons ?_ | refine g_tup ?_ | refine g_lst ?_ | refine g_call ?_ | refine g_CB ?_ | refine g_sl ?_ | refine g_noPart ?_ | refine g_part ?_ | refine g_intE ?_ | refine g_ref ?_ | refine g_fld ?_ | refine g_sfld ?_ | refine g_meth ?_ | refine g_make ?_ | refine g_prop ?_  | refine g_ipI ?_ | refine g_int1 ?_ | refine g_int1B ?_ | refine g_one ?_ | refine g_two ?_ | refine g_isiI ?_ | refine g_isiIB ?_ | refine g_isiB ?_ | refine g_BM ?_ | refine g_BM0 ?_ | refine g_sub ?_)
local macro_rules | `(tactic| walk_at "go") => `(tactic| repeat (first | walk_at "go1" | ((with_reducible refine' g_nameE ?sd_ ?_); case sd_ => dsimp only [List.set_cons_succ, List.set_cons_zero]) | ((with_reducible refine' g_var ?sd_ ?_); case sd_ => exact rfl) | ((with_reducible refine' g_aug ?sd_ ?_); case sd_ => exact rfl) | ((with_reducible refine' g_rI ?sd_ ?_); case sd_ => walk_at "side") | ((with_reducible refine' g_dT ?sd_ ?_); case sd_ => walk_at "fact") | ((with_reducible refine' g_dF ?sd_ ?_); case sd_ => walk_at "fact") | ((with_reducible refine' g_nT ?sd_ ?_); case sd_ => walk_at "fact") | ((with_reducible refine' g_nF ?sd_ ?_); case sd_ => walk_at "fact") | (with_reducible refine g_iT rfl ?_) | (with_reducible refine g_iF rfl ?_) | walk_at "use"))
local macro_rules | `(tactic| walk_at "nw") => `(tactic| (generalize zq : upd _ _ _ = Hq; have sq : Same _ Hq := (by rw [← zq]; exact same_upd (by assumption)); have kq := (congrFun zq _).symm.trans upd_same; clear zq))
local macro_rules | `(tactic| walk_at "bt") => `(tactic| (generalize zq : upd _ _ _ = Hq; have bq : But _ _ Hq := (by rw [← zq]; exact But.refl.upd); have kq := (congrFun zq _).symm.trans upd_same; clear zq))
def topS (i : Nat) : Stmt := PySem.Challenge.pw_throughline_k37_things_are_equal_by_all.main.body.getD i (.Pass ⟨0, 0, 0, 0⟩)
abbrev s_Rule_init__ : Stmt := inClass (topS 2) 0
abbrev s_Rule_considers : Stmt := inClass (topS 2) 1
abbrev s_Rule_eq__ : Stmt := inClass (topS 2) 3
abbrev s_Rule_fields : Stmt := inClass (topS 2) 4
abbrev s_Packet_init__ : Stmt := inClass (topS 4) 0
abbrev s_Packet_fork : Stmt := inClass (topS 4) 2
abbrev s_Packet_eq__ : Stmt := inClass (topS 4) 3
abbrev s_Packet_fields : Stmt := inClass (topS 4) 4
abbrev s_Flight_init__ : Stmt := inClass (topS 6) 0
abbrev s_Flight_eq__ : Stmt := inClass (topS 6) 1
abbrev s_Record_init__ : Stmt := inClass (topS 8) 0
abbrev s_Record_eq__ : Stmt := inClass (topS 8) 2
abbrev s_l_cell : Stmt := topS 10
abbrev s_l_start : Stmt := topS 12
abbrev s_l_digit : Stmt := topS 13
abbrev s_l_packet : Stmt := topS 14
abbrev s_l_made : Stmt := topS 15
abbrev s_l_others : Stmt := topS 16
abbrev s_l_packets : Stmt := topS 17
abbrev s_l_records : Stmt := topS 18
abbrev s_l_rule : Stmt := topS 19
abbrev s_l_rule_of : Stmt := topS 20
abbrev s_l_other_rule : Stmt := topS 21
abbrev s_l_rules : Stmt := topS 22
abbrev s_l_near : Stmt := topS 23
abbrev s_l_considers : Stmt := topS 24
abbrev s_law : Stmt := topS 25
theorem sc_Rule_init__ : FnScope ["self", "fault", "amount", "until", "sender", "target", "ticks", "nth", "chance"] ["self", "fault", "amount", "until", "sender", "target", "ticks", "nth", "chance"] (defScope s_Rule_init__) := ⟨rfl, rfl, rfl, by decide +kernel, rfl, by decide +kernel, by decide +kernel⟩
theorem sc_Rule_considers : FnScope ["self", "sender", "target", "birth"] ["self", "sender", "target", "birth"] (defScope s_Rule_considers) := ⟨rfl, rfl, rfl, by decide +kernel, rfl, by decide +kernel, by decide +kernel⟩
theorem sc_Rule_eq__ : FnScope ["self", "other"] ["self", "other"] (defScope s_Rule_eq__) := ⟨rfl, rfl, rfl, by decide +kernel, rfl, by decide +kernel, by decide +kernel⟩
theorem sc_Rule_fields : FnScope ["self"] ["self"] (defScope s_Rule_fields) := ⟨rfl, rfl, rfl, by decide +kernel, rfl, by decide +kernel, by decide +kernel⟩
theorem sc_Packet_init__ : FnScope ["self", "sender", "target", "octets", "marked"] ["self", "sender", "target", "octets", "marked"] (defScope s_Packet_init__) := ⟨rfl, rfl, rfl, by decide +kernel, rfl, by decide +kernel, by decide +kernel⟩
theorem sc_Packet_fork : FnScope ["self"] ["self"] (defScope s_Packet_fork) := ⟨rfl, rfl, rfl, by decide +kernel, rfl, by decide +kernel, by decide +kernel⟩
theorem sc_Packet_eq__ : FnScope ["self", "other"] ["self", "other"] (defScope s_Packet_eq__) := ⟨rfl, rfl, rfl, by decide +kernel, rfl, by decide +kernel, by decide +kernel⟩
theorem sc_Packet_fields : FnScope ["self"] ["self"] (defScope s_Packet_fields) := ⟨rfl, rfl, rfl, by decide +kernel, rfl, by decide +kernel, by decide +kernel⟩
theorem sc_Flight_init__ : FnScope ["self", "number", "birth", "packet"] ["self", "number", "birth", "packet"] (defScope s_Flight_init__) := ⟨rfl, rfl, rfl, by decide +kernel, rfl, by decide +kernel, by decide +kernel⟩
theorem sc_Flight_eq__ : FnScope ["self", "other"] ["self", "other"] (defScope s_Flight_eq__) := ⟨rfl, rfl, rfl, by decide +kernel, rfl, by decide +kernel, by decide +kernel⟩
theorem sc_Record_init__ : FnScope ["self", "tick", "number", "word", "packet"] ["self", "tick", "number", "word", "packet"] (defScope s_Record_init__) := ⟨rfl, rfl, rfl, by decide +kernel, rfl, by decide +kernel, by decide +kernel⟩
theorem sc_Record_eq__ : FnScope ["self", "other"] ["self", "other"] (defScope s_Record_eq__) := ⟨rfl, rfl, rfl, by decide +kernel, rfl, by decide +kernel, by decide +kernel⟩
theorem sc_l_cell : FnScope ["script", "k"] ["script", "k"] (defScope s_l_cell) := ⟨rfl, rfl, rfl, by decide +kernel, rfl, by decide +kernel, by decide +kernel⟩
theorem sc_l_start : FnScope ["cell", "k", "prime", "mixed"] ["cell", "k"] (defScope s_l_start) := ⟨rfl, rfl, rfl, by decide +kernel, rfl, by decide +kernel, by decide +kernel⟩
theorem sc_l_digit : FnScope ["state", "many", "digit"] ["state", "many"] (defScope s_l_digit) := ⟨rfl, rfl, rfl, by decide +kernel, rfl, by decide +kernel, by decide +kernel⟩
theorem sc_l_packet : FnScope ["state", "octets", "k"] ["state"] (defScope s_l_packet) := ⟨rfl, rfl, rfl, by decide +kernel, rfl, by decide +kernel, by decide +kernel⟩
theorem sc_l_made : FnScope ["row"] ["row"] (defScope s_l_made) := ⟨rfl, rfl, rfl, by decide +kernel, rfl, by decide +kernel, by decide +kernel⟩
theorem sc_l_others : FnScope ["row", "state", "far", "longer", "others", "at", "octet"] ["row", "state"] (defScope s_l_others) := ⟨rfl, rfl, rfl, by decide +kernel, rfl, by decide +kernel, by decide +kernel⟩
theorem sc_l_packets : FnScope ["row", "others", "told", "other"] ["row", "others"] (defScope s_l_packets) := ⟨rfl, rfl, rfl, by decide +kernel, rfl, by decide +kernel, by decide +kernel⟩
theorem sc_l_records : FnScope ["row", "other", "state", "tick", "number", "words", "k", "word", "told", "flight"] ["row", "other", "state"] (defScope s_l_records) := ⟨rfl, rfl, rfl, by decide +kernel, rfl, by decide +kernel, by decide +kernel⟩
theorem sc_l_rule : FnScope ["state", "rule", "shown", "low"] ["state"] (defScope s_l_rule) := ⟨rfl, rfl, rfl, by decide +kernel, rfl, by decide +kernel, by decide +kernel⟩
theorem sc_l_rule_of : FnScope ["rule"] ["rule"] (defScope s_l_rule_of) := ⟨rfl, rfl, rfl, by decide +kernel, rfl, by decide +kernel, by decide +kernel⟩
theorem sc_l_other_rule : FnScope ["rule", "k", "state", "other"] ["rule", "k", "state"] (defScope s_l_other_rule) := ⟨rfl, rfl, rfl, by decide +kernel, rfl, by decide +kernel, by decide +kernel⟩
theorem sc_l_rules : FnScope ["rule", "state", "told", "k"] ["rule", "state"] (defScope s_l_rules) := ⟨rfl, rfl, rfl, by decide +kernel, rfl, by decide +kernel, by decide +kernel⟩
theorem sc_l_near : FnScope ["state", "value"] ["state", "value"] (defScope s_l_near) := ⟨rfl, rfl, rfl, by decide +kernel, rfl, by decide +kernel, by decide +kernel⟩
theorem sc_l_considers : FnScope ["rule", "state", "told", "k", "sender", "target", "birth", "due", "answer"] ["rule", "state"] (defScope s_l_considers) := ⟨rfl, rfl, rfl, by decide +kernel, rfl, by decide +kernel, by decide +kernel⟩
theorem sc_law : FnScope ["script", "k", "state", "row", "others", "other", "rule"] ["script"] (defScope s_law) := ⟨rfl, rfl, rfl, by decide +kernel, rfl, by decide +kernel, by decide +kernel⟩
structure Txt (K : PySem.W.Frag) (mg : Str → Option Value) where
  C_Rule : Addr
  C_Packet : Addr
  C_Flight : Addr
  C_Record : Addr
  f_Rule_init__ : Addr
  d_Rule_init__ : FuncData
  f_Rule_considers : Addr
  d_Rule_considers : FuncData
  f_Rule_eq__ : Addr
  d_Rule_eq__ : FuncData
  f_Rule_fields : Addr
  d_Rule_fields : FuncData
  f_Packet_init__ : Addr
  d_Packet_init__ : FuncData
  f_Packet_fork : Addr
  d_Packet_fork : FuncData
  f_Packet_eq__ : Addr
  d_Packet_eq__ : FuncData
  f_Packet_fields : Addr
  d_Packet_fields : FuncData
  f_Flight_init__ : Addr
  d_Flight_init__ : FuncData
  f_Flight_eq__ : Addr
  d_Flight_eq__ : FuncData
  f_Record_init__ : Addr
  d_Record_init__ : FuncData
  f_Record_eq__ : Addr
  d_Record_eq__ : FuncData
  f_l_cell : Addr
  d_l_cell : FuncData
  f_l_start : Addr
  d_l_start : FuncData
  f_l_digit : Addr
  d_l_digit : FuncData
  f_l_packet : Addr
  d_l_packet : FuncData
  f_l_made : Addr
  d_l_made : FuncData
  f_l_others : Addr
  d_l_others : FuncData
  f_l_packets : Addr
  d_l_packets : FuncData
  f_l_records : Addr
  d_l_records : FuncData
  f_l_rule : Addr
  d_l_rule : FuncData
  f_l_rule_of : Addr
  d_l_rule_of : FuncData
  f_l_other_rule : Addr
  d_l_other_rule : FuncData
  f_l_rules : Addr
  d_l_rules : FuncData
  f_l_near : Addr
  d_l_near : FuncData
  f_l_considers : Addr
  d_l_considers : FuncData
  f_law : Addr
  d_law : FuncData
  c_Rule : mg "Rule" = some (.ref C_Rule)
  k_Rule : Cls K C_Rule
  i_Rule : ∀ {H : Hp} {a dx : Addr} {fs : List (Str × V)}, H a = some (.ins C_Rule dx fs) → TyOf K H (.ref a) (.ref C_Rule)
  q_Rule : PySem.W.subIn K (.type "int") (.ref C_Rule) = some false
  ki_Rule : PySem.W.kitOne K (.type "int") (.ref C_Rule) = some false
  n_Rule_fault : NoAttr K C_Rule "fault"
  n_Rule_amount : NoAttr K C_Rule "amount"
  n_Rule_until : NoAttr K C_Rule "until"
  n_Rule_sender : NoAttr K C_Rule "sender"
  n_Rule_target : NoAttr K C_Rule "target"
  n_Rule_ticks : NoAttr K C_Rule "ticks"
  n_Rule_nth : NoAttr K C_Rule "nth"
  n_Rule_chance : NoAttr K C_Rule "chance"
  c_Packet : mg "Packet" = some (.ref C_Packet)
  k_Packet : Cls K C_Packet
  i_Packet : ∀ {H : Hp} {a dx : Addr} {fs : List (Str × V)}, H a = some (.ins C_Packet dx fs) → TyOf K H (.ref a) (.ref C_Packet)
  q_Packet : PySem.W.subIn K (.type "int") (.ref C_Packet) = some false
  ki_Packet : PySem.W.kitOne K (.type "int") (.ref C_Packet) = some false
  n_Packet_sender : NoAttr K C_Packet "sender"
  n_Packet_target : NoAttr K C_Packet "target"
  n_Packet_octets : NoAttr K C_Packet "octets"
  n_Packet_marked : NoAttr K C_Packet "marked"
  c_Flight : mg "Flight" = some (.ref C_Flight)
  k_Flight : Cls K C_Flight
  i_Flight : ∀ {H : Hp} {a dx : Addr} {fs : List (Str × V)}, H a = some (.ins C_Flight dx fs) → TyOf K H (.ref a) (.ref C_Flight)
  q_Flight : PySem.W.subIn K (.type "int") (.ref C_Flight) = some false
  ki_Flight : PySem.W.kitOne K (.type "int") (.ref C_Flight) = some false
  n_Flight_number : NoAttr K C_Flight "number"
  n_Flight_birth : NoAttr K C_Flight "birth"
  n_Flight_packet : NoAttr K C_Flight "packet"
  c_Record : mg "Record" = some (.ref C_Record)
  k_Record : Cls K C_Record
  i_Record : ∀ {H : Hp} {a dx : Addr} {fs : List (Str × V)}, H a = some (.ins C_Record dx fs) → TyOf K H (.ref a) (.ref C_Record)
  q_Record : PySem.W.subIn K (.type "int") (.ref C_Record) = some false
  ki_Record : PySem.W.kitOne K (.type "int") (.ref C_Record) = some false
  n_Record_tick : NoAttr K C_Record "tick"
  n_Record_number : NoAttr K C_Record "number"
  n_Record_word : NoAttr K C_Record "word"
  n_Record_packet : NoAttr K C_Record "packet"
  F_Rule_init__ : FunD K "__init__" "Rule.__init__" (defArgs s_Rule_init__) (defBody s_Rule_init__) (defScope s_Rule_init__) [] [("amount", .int 0), ("until", .int 0), ("sender", .non), ("target", .non), ("ticks", .non), ("nth", .non), ("chance", .non)] f_Rule_init__ d_Rule_init__
  mk_Rule : Mk K C_Rule f_Rule_init__
  F_Rule_considers : Fun K "considers" "Rule.considers" s_Rule_considers f_Rule_considers d_Rule_considers
  b_Rule_considers : Binds K d_Rule_considers ["self", "sender", "target", "birth"] []
  a_Rule_considers : Meth K C_Rule "considers" f_Rule_considers
  F_Rule_eq__ : Fun K "__eq__" "Rule.__eq__" s_Rule_eq__ f_Rule_eq__ d_Rule_eq__
  b_Rule_eq__ : Binds K d_Rule_eq__ ["self", "other"] []
  a_Rule_eq__ : Meth K C_Rule "__eq__" f_Rule_eq__
  F_Rule_fields : Fun K "_fields" "Rule._fields" s_Rule_fields f_Rule_fields d_Rule_fields
  b_Rule_fields : Binds K d_Rule_fields ["self"] []
  a_Rule_fields : Meth K C_Rule "_fields" f_Rule_fields
  F_Packet_init__ : FunD K "__init__" "Packet.__init__" (defArgs s_Packet_init__) (defBody s_Packet_init__) (defScope s_Packet_init__) [] [("marked", .bl false)] f_Packet_init__ d_Packet_init__
  mk_Packet : Mk K C_Packet f_Packet_init__
  F_Packet_fork : Fun K "fork" "Packet.fork" s_Packet_fork f_Packet_fork d_Packet_fork
  b_Packet_fork : Binds K d_Packet_fork ["self"] []
  a_Packet_fork : Meth K C_Packet "fork" f_Packet_fork
  F_Packet_eq__ : Fun K "__eq__" "Packet.__eq__" s_Packet_eq__ f_Packet_eq__ d_Packet_eq__
  b_Packet_eq__ : Binds K d_Packet_eq__ ["self", "other"] []
  a_Packet_eq__ : Meth K C_Packet "__eq__" f_Packet_eq__
  F_Packet_fields : Fun K "_fields" "Packet._fields" s_Packet_fields f_Packet_fields d_Packet_fields
  b_Packet_fields : Binds K d_Packet_fields ["self"] []
  a_Packet_fields : Meth K C_Packet "_fields" f_Packet_fields
  F_Flight_init__ : Fun K "__init__" "Flight.__init__" s_Flight_init__ f_Flight_init__ d_Flight_init__
  b_Flight_init__ : Binds K d_Flight_init__ ["self", "number", "birth", "packet"] []
  mk_Flight : Mk K C_Flight f_Flight_init__
  F_Flight_eq__ : Fun K "__eq__" "Flight.__eq__" s_Flight_eq__ f_Flight_eq__ d_Flight_eq__
  b_Flight_eq__ : Binds K d_Flight_eq__ ["self", "other"] []
  a_Flight_eq__ : Meth K C_Flight "__eq__" f_Flight_eq__
  F_Record_init__ : Fun K "__init__" "Record.__init__" s_Record_init__ f_Record_init__ d_Record_init__
  b_Record_init__ : Binds K d_Record_init__ ["self", "tick", "number", "word", "packet"] []
  mk_Record : Mk K C_Record f_Record_init__
  F_Record_eq__ : Fun K "__eq__" "Record.__eq__" s_Record_eq__ f_Record_eq__ d_Record_eq__
  b_Record_eq__ : Binds K d_Record_eq__ ["self", "other"] []
  a_Record_eq__ : Meth K C_Record "__eq__" f_Record_eq__
  F_l_cell : Fun K "_law_cell" "_law_cell" s_l_cell f_l_cell d_l_cell
  b_l_cell : Binds K d_l_cell ["script", "k"] []
  m_l_cell : mg "_law_cell" = some (.ref f_l_cell)
  F_l_start : Fun K "_law_start" "_law_start" s_l_start f_l_start d_l_start
  b_l_start : Binds K d_l_start ["cell", "k"] []
  m_l_start : mg "_law_start" = some (.ref f_l_start)
  F_l_digit : Fun K "_law_digit" "_law_digit" s_l_digit f_l_digit d_l_digit
  b_l_digit : Binds K d_l_digit ["state", "many"] []
  m_l_digit : mg "_law_digit" = some (.ref f_l_digit)
  F_l_packet : Fun K "_law_packet" "_law_packet" s_l_packet f_l_packet d_l_packet
  b_l_packet : Binds K d_l_packet ["state"] []
  m_l_packet : mg "_law_packet" = some (.ref f_l_packet)
  F_l_made : Fun K "_law_made" "_law_made" s_l_made f_l_made d_l_made
  b_l_made : Binds K d_l_made ["row"] []
  m_l_made : mg "_law_made" = some (.ref f_l_made)
  F_l_others : Fun K "_law_others" "_law_others" s_l_others f_l_others d_l_others
  b_l_others : Binds K d_l_others ["row", "state"] []
  m_l_others : mg "_law_others" = some (.ref f_l_others)
  F_l_packets : Fun K "_law_packets" "_law_packets" s_l_packets f_l_packets d_l_packets
  b_l_packets : Binds K d_l_packets ["row", "others"] []
  m_l_packets : mg "_law_packets" = some (.ref f_l_packets)
  F_l_records : Fun K "_law_records" "_law_records" s_l_records f_l_records d_l_records
  b_l_records : Binds K d_l_records ["row", "other", "state"] []
  m_l_records : mg "_law_records" = some (.ref f_l_records)
  F_l_rule : Fun K "_law_rule" "_law_rule" s_l_rule f_l_rule d_l_rule
  b_l_rule : Binds K d_l_rule ["state"] []
  m_l_rule : mg "_law_rule" = some (.ref f_l_rule)
  F_l_rule_of : Fun K "_law_rule_of" "_law_rule_of" s_l_rule_of f_l_rule_of d_l_rule_of
  b_l_rule_of : Binds K d_l_rule_of ["rule"] []
  m_l_rule_of : mg "_law_rule_of" = some (.ref f_l_rule_of)
  F_l_other_rule : Fun K "_law_other_rule" "_law_other_rule" s_l_other_rule f_l_other_rule d_l_other_rule
  b_l_other_rule : Binds K d_l_other_rule ["rule", "k", "state"] []
  m_l_other_rule : mg "_law_other_rule" = some (.ref f_l_other_rule)
  F_l_rules : Fun K "_law_rules" "_law_rules" s_l_rules f_l_rules d_l_rules
  b_l_rules : Binds K d_l_rules ["rule", "state"] []
  m_l_rules : mg "_law_rules" = some (.ref f_l_rules)
  F_l_near : Fun K "_law_near" "_law_near" s_l_near f_l_near d_l_near
  b_l_near : Binds K d_l_near ["state", "value"] []
  m_l_near : mg "_law_near" = some (.ref f_l_near)
  F_l_considers : Fun K "_law_considers" "_law_considers" s_l_considers f_l_considers d_l_considers
  b_l_considers : Binds K d_l_considers ["rule", "state"] []
  m_l_considers : mg "_law_considers" = some (.ref f_l_considers)
  F_law : Fun K "law" "law" s_law f_law d_law
  b_law : Binds K d_law ["script"] []
  m_law : mg "law" = some (.ref f_law)
  n_bool : mg "bool" = none
  n_int : mg "int" = none
  n_isinstance : mg "isinstance" = none
  n_len : mg "len" = none
  n_list : mg "list" = none
  n_max : mg "max" = none
  n_min : mg "min" = none
  n_range : mg "range" = none
def ky_Rule : List Str := ["fault", "amount", "until", "sender", "target", "ticks", "nth", "chance"]
theorem nd_Rule : ky_Rule.Nodup := by decide +kernel
section
variable {K : PySem.W.Frag} {mg : Str → Option Value} {T : Txt K mg} {H : Hp} {a dx : Addr} {vs : List V} {v y : V}
theorem fd_Rule_fault {A : V → Prop} (ho : H a = some (.ins T.C_Rule dx (obj ky_Rule vs))) (hv : vs[0]? = some v) (q : A v) : ∃ a' C' dx' fs v', V.ref a = .ref a' ∧ H a' = some (.ins C' dx' fs) ∧ Cls K C' ∧ NoAttr K C' "fault" ∧ fs.lookup ("fault" : Str) = some v' ∧ A v' := g_fldE ho T.k_Rule T.n_Rule_fault nd_Rule rfl hv q
theorem st_Rule_fault {A : Hp → Prop} (ho : H a = some (.ins T.C_Rule dx (obj ky_Rule vs))) (hv : 0 < vs.length) (q : A (upd H a (.ins T.C_Rule dx (obj ky_Rule (vs.set 0 y))))) : ∃ a' C' dx' fs, V.ref a = .ref a' ∧ H a' = some (.ins C' dx' fs) ∧ Cls K C' ∧ NoAttr K C' "fault" ∧ fs.length < 1000 ∧ A (upd H a' (.ins C' dx' (putF "fault" y fs))) := g_putE ho T.k_Rule T.n_Rule_fault nd_Rule (by decide) rfl hv q
theorem nw_Rule_fault {A : Hp → Prop} (ho : H a = some (.ins T.C_Rule dx (obj ky_Rule vs))) (hv : vs.length = 0) (q : A (upd H a (.ins T.C_Rule dx (obj ky_Rule (vs ++ [y]))))) : ∃ a' C' dx' fs, V.ref a = .ref a' ∧ H a' = some (.ins C' dx' fs) ∧ Cls K C' ∧ NoAttr K C' "fault" ∧ fs.length < 1000 ∧ A (upd H a' (.ins C' dx' (putF "fault" y fs))) := g_newE ho T.k_Rule T.n_Rule_fault nd_Rule (by decide) (by rw [hv]; rfl) q
theorem fd_Rule_amount {A : V → Prop} (ho : H a = some (.ins T.C_Rule dx (obj ky_Rule vs))) (hv : vs[1]? = some v) (q : A v) : ∃ a' C' dx' fs v', V.ref a = .ref a' ∧ H a' = some (.ins C' dx' fs) ∧ Cls K C' ∧ NoAttr K C' "amount" ∧ fs.lookup ("amount" : Str) = some v' ∧ A v' := g_fldE ho T.k_Rule T.n_Rule_amount nd_Rule rfl hv q
theorem st_Rule_amount {A : Hp → Prop} (ho : H a = some (.ins T.C_Rule dx (obj ky_Rule vs))) (hv : 1 < vs.length) (q : A (upd H a (.ins T.C_Rule dx (obj ky_Rule (vs.set 1 y))))) : ∃ a' C' dx' fs, V.ref a = .ref a' ∧ H a' = some (.ins C' dx' fs) ∧ Cls K C' ∧ NoAttr K C' "amount" ∧ fs.length < 1000 ∧ A (upd H a' (.ins C' dx' (putF "amount" y fs))) := g_putE ho T.k_Rule T.n_Rule_amount nd_Rule (by decide) rfl hv q
theorem nw_Rule_amount {A : Hp → Prop} (ho : H a = some (.ins T.C_Rule dx (obj ky_Rule vs))) (hv : vs.length = 1) (q : A (upd H a (.ins T.C_Rule dx (obj ky_Rule (vs ++ [y]))))) : ∃ a' C' dx' fs, V.ref a = .ref a' ∧ H a' = some (.ins C' dx' fs) ∧ Cls K C' ∧ NoAttr K C' "amount" ∧ fs.length < 1000 ∧ A (upd H a' (.ins C' dx' (putF "amount" y fs))) := g_newE ho T.k_Rule T.n_Rule_amount nd_Rule (by decide) (by rw [hv]; rfl) q
theorem fd_Rule_until {A : V → Prop} (ho : H a = some (.ins T.C_Rule dx (obj ky_Rule vs))) (hv : vs[2]? = some v) (q : A v) : ∃ a' C' dx' fs v', V.ref a = .ref a' ∧ H a' = some (.ins C' dx' fs) ∧ Cls K C' ∧ NoAttr K C' "until" ∧ fs.lookup ("until" : Str) = some v' ∧ A v' := g_fldE ho T.k_Rule T.n_Rule_until nd_Rule rfl hv q
theorem st_Rule_until {A : Hp → Prop} (ho : H a = some (.ins T.C_Rule dx (obj ky_Rule vs))) (hv : 2 < vs.length) (q : A (upd H a (.ins T.C_Rule dx (obj ky_Rule (vs.set 2 y))))) : ∃ a' C' dx' fs, V.ref a = .ref a' ∧ H a' = some (.ins C' dx' fs) ∧ Cls K C' ∧ NoAttr K C' "until" ∧ fs.length < 1000 ∧ A (upd H a' (.ins C' dx' (putF "until" y fs))) := g_putE ho T.k_Rule T.n_Rule_until nd_Rule (by decide) rfl hv q
theorem nw_Rule_until {A : Hp → Prop} (ho : H a = some (.ins T.C_Rule dx (obj ky_Rule vs))) (hv : vs.length = 2) (q : A (upd H a (.ins T.C_Rule dx (obj ky_Rule (vs ++ [y]))))) : ∃ a' C' dx' fs, V.ref a = .ref a' ∧ H a' = some (.ins C' dx' fs) ∧ Cls K C' ∧ NoAttr K C' "until" ∧ fs.length < 1000 ∧ A (upd H a' (.ins C' dx' (putF "until" y fs))) := g_newE ho T.k_Rule T.n_Rule_until nd_Rule (by decide) (by rw [hv]; rfl) q
theorem fd_Rule_sender {A : V → Prop} (ho : H a = some (.ins T.C_Rule dx (obj ky_Rule vs))) (hv : vs[3]? = some v) (q : A v) : ∃ a' C' dx' fs v', V.ref a = .ref a' ∧ H a' = some (.ins C' dx' fs) ∧ Cls K C' ∧ NoAttr K C' "sender" ∧ fs.lookup ("sender" : Str) = some v' ∧ A v' := g_fldE ho T.k_Rule T.n_Rule_sender nd_Rule rfl hv q
theorem st_Rule_sender {A : Hp → Prop} (ho : H a = some (.ins T.C_Rule dx (obj ky_Rule vs))) (hv : 3 < vs.length) (q : A (upd H a (.ins T.C_Rule dx (obj ky_Rule (vs.set 3 y))))) : ∃ a' C' dx' fs, V.ref a = .ref a' ∧ H a' = some (.ins C' dx' fs) ∧ Cls K C' ∧ NoAttr K C' "sender" ∧ fs.length < 1000 ∧ A (upd H a' (.ins C' dx' (putF "sender" y fs))) := g_putE ho T.k_Rule T.n_Rule_sender nd_Rule (by decide) rfl hv q
theorem nw_Rule_sender {A : Hp → Prop} (ho : H a = some (.ins T.C_Rule dx (obj ky_Rule vs))) (hv : vs.length = 3) (q : A (upd H a (.ins T.C_Rule dx (obj ky_Rule (vs ++ [y]))))) : ∃ a' C' dx' fs, V.ref a = .ref a' ∧ H a' = some (.ins C' dx' fs) ∧ Cls K C' ∧ NoAttr K C' "sender" ∧ fs.length < 1000 ∧ A (upd H a' (.ins C' dx' (putF "sender" y fs))) := g_newE ho T.k_Rule T.n_Rule_sender nd_Rule (by decide) (by rw [hv]; rfl) q
theorem fd_Rule_target {A : V → Prop} (ho : H a = some (.ins T.C_Rule dx (obj ky_Rule vs))) (hv : vs[4]? = some v) (q : A v) : ∃ a' C' dx' fs v', V.ref a = .ref a' ∧ H a' = some (.ins C' dx' fs) ∧ Cls K C' ∧ NoAttr K C' "target" ∧ fs.lookup ("target" : Str) = some v' ∧ A v' := g_fldE ho T.k_Rule T.n_Rule_target nd_Rule rfl hv q
theorem st_Rule_target {A : Hp → Prop} (ho : H a = some (.ins T.C_Rule dx (obj ky_Rule vs))) (hv : 4 < vs.length) (q : A (upd H a (.ins T.C_Rule dx (obj ky_Rule (vs.set 4 y))))) : ∃ a' C' dx' fs, V.ref a = .ref a' ∧ H a' = some (.ins C' dx' fs) ∧ Cls K C' ∧ NoAttr K C' "target" ∧ fs.length < 1000 ∧ A (upd H a' (.ins C' dx' (putF "target" y fs))) := g_putE ho T.k_Rule T.n_Rule_target nd_Rule (by decide) rfl hv q
theorem nw_Rule_target {A : Hp → Prop} (ho : H a = some (.ins T.C_Rule dx (obj ky_Rule vs))) (hv : vs.length = 4) (q : A (upd H a (.ins T.C_Rule dx (obj ky_Rule (vs ++ [y]))))) : ∃ a' C' dx' fs, V.ref a = .ref a' ∧ H a' = some (.ins C' dx' fs) ∧ Cls K C' ∧ NoAttr K C' "target" ∧ fs.length < 1000 ∧ A (upd H a' (.ins C' dx' (putF "target" y fs))) := g_newE ho T.k_Rule T.n_Rule_target nd_Rule (by decide) (by rw [hv]; rfl) q
theorem fd_Rule_ticks {A : V → Prop} (ho : H a = some (.ins T.C_Rule dx (obj ky_Rule vs))) (hv : vs[5]? = some v) (q : A v) : ∃ a' C' dx' fs v', V.ref a = .ref a' ∧ H a' = some (.ins C' dx' fs) ∧ Cls K C' ∧ NoAttr K C' "ticks" ∧ fs.lookup ("ticks" : Str) = some v' ∧ A v' := g_fldE ho T.k_Rule T.n_Rule_ticks nd_Rule rfl hv q
theorem st_Rule_ticks {A : Hp → Prop} (ho : H a = some (.ins T.C_Rule dx (obj ky_Rule vs))) (hv : 5 < vs.length) (q : A (upd H a (.ins T.C_Rule dx (obj ky_Rule (vs.set 5 y))))) : ∃ a' C' dx' fs, V.ref a = .ref a' ∧ H a' = some (.ins C' dx' fs) ∧ Cls K C' ∧ NoAttr K C' "ticks" ∧ fs.length < 1000 ∧ A (upd H a' (.ins C' dx' (putF "ticks" y fs))) := g_putE ho T.k_Rule T.n_Rule_ticks nd_Rule (by decide) rfl hv q
theorem nw_Rule_ticks {A : Hp → Prop} (ho : H a = some (.ins T.C_Rule dx (obj ky_Rule vs))) (hv : vs.length = 5) (q : A (upd H a (.ins T.C_Rule dx (obj ky_Rule (vs ++ [y]))))) : ∃ a' C' dx' fs, V.ref a = .ref a' ∧ H a' = some (.ins C' dx' fs) ∧ Cls K C' ∧ NoAttr K C' "ticks" ∧ fs.length < 1000 ∧ A (upd H a' (.ins C' dx' (putF "ticks" y fs))) := g_newE ho T.k_Rule T.n_Rule_ticks nd_Rule (by decide) (by rw [hv]; rfl) q
theorem fd_Rule_nth {A : V → Prop} (ho : H a = some (.ins T.C_Rule dx (obj ky_Rule vs))) (hv : vs[6]? = some v) (q : A v) : ∃ a' C' dx' fs v', V.ref a = .ref a' ∧ H a' = some (.ins C' dx' fs) ∧ Cls K C' ∧ NoAttr K C' "nth" ∧ fs.lookup ("nth" : Str) = some v' ∧ A v' := g_fldE ho T.k_Rule T.n_Rule_nth nd_Rule rfl hv q
theorem st_Rule_nth {A : Hp → Prop} (ho : H a = some (.ins T.C_Rule dx (obj ky_Rule vs))) (hv : 6 < vs.length) (q : A (upd H a (.ins T.C_Rule dx (obj ky_Rule (vs.set 6 y))))) : ∃ a' C' dx' fs, V.ref a = .ref a' ∧ H a' = some (.ins C' dx' fs) ∧ Cls K C' ∧ NoAttr K C' "nth" ∧ fs.length < 1000 ∧ A (upd H a' (.ins C' dx' (putF "nth" y fs))) := g_putE ho T.k_Rule T.n_Rule_nth nd_Rule (by decide) rfl hv q
theorem nw_Rule_nth {A : Hp → Prop} (ho : H a = some (.ins T.C_Rule dx (obj ky_Rule vs))) (hv : vs.length = 6) (q : A (upd H a (.ins T.C_Rule dx (obj ky_Rule (vs ++ [y]))))) : ∃ a' C' dx' fs, V.ref a = .ref a' ∧ H a' = some (.ins C' dx' fs) ∧ Cls K C' ∧ NoAttr K C' "nth" ∧ fs.length < 1000 ∧ A (upd H a' (.ins C' dx' (putF "nth" y fs))) := g_newE ho T.k_Rule T.n_Rule_nth nd_Rule (by decide) (by rw [hv]; rfl) q
theorem fd_Rule_chance {A : V → Prop} (ho : H a = some (.ins T.C_Rule dx (obj ky_Rule vs))) (hv : vs[7]? = some v) (q : A v) : ∃ a' C' dx' fs v', V.ref a = .ref a' ∧ H a' = some (.ins C' dx' fs) ∧ Cls K C' ∧ NoAttr K C' "chance" ∧ fs.lookup ("chance" : Str) = some v' ∧ A v' := g_fldE ho T.k_Rule T.n_Rule_chance nd_Rule rfl hv q
theorem st_Rule_chance {A : Hp → Prop} (ho : H a = some (.ins T.C_Rule dx (obj ky_Rule vs))) (hv : 7 < vs.length) (q : A (upd H a (.ins T.C_Rule dx (obj ky_Rule (vs.set 7 y))))) : ∃ a' C' dx' fs, V.ref a = .ref a' ∧ H a' = some (.ins C' dx' fs) ∧ Cls K C' ∧ NoAttr K C' "chance" ∧ fs.length < 1000 ∧ A (upd H a' (.ins C' dx' (putF "chance" y fs))) := g_putE ho T.k_Rule T.n_Rule_chance nd_Rule (by decide) rfl hv q
theorem nw_Rule_chance {A : Hp → Prop} (ho : H a = some (.ins T.C_Rule dx (obj ky_Rule vs))) (hv : vs.length = 7) (q : A (upd H a (.ins T.C_Rule dx (obj ky_Rule (vs ++ [y]))))) : ∃ a' C' dx' fs, V.ref a = .ref a' ∧ H a' = some (.ins C' dx' fs) ∧ Cls K C' ∧ NoAttr K C' "chance" ∧ fs.length < 1000 ∧ A (upd H a' (.ins C' dx' (putF "chance" y fs))) := g_newE ho T.k_Rule T.n_Rule_chance nd_Rule (by decide) (by rw [hv]; rfl) q
theorem me_Rule_considers {A : Prop} (ho : H a = some (.ins T.C_Rule dx (obj ky_Rule vs))) (q : A) : ∃ a' dx' fs, V.ref a = .ref a' ∧ H a' = some (.ins T.C_Rule dx' fs) ∧ fs.lookup ("considers" : Str) = none ∧ A := g_methE ho (by decide +kernel) q
theorem me_Rule_eq__ {A : Prop} (ho : H a = some (.ins T.C_Rule dx (obj ky_Rule vs))) (q : A) : ∃ a' dx' fs, V.ref a = .ref a' ∧ H a' = some (.ins T.C_Rule dx' fs) ∧ fs.lookup ("__eq__" : Str) = none ∧ A := g_methE ho (by decide +kernel) q
theorem me_Rule_fields {A : Prop} (ho : H a = some (.ins T.C_Rule dx (obj ky_Rule vs))) (q : A) : ∃ a' dx' fs, V.ref a = .ref a' ∧ H a' = some (.ins T.C_Rule dx' fs) ∧ fs.lookup ("_fields" : Str) = none ∧ A := g_methE ho (by decide +kernel) q
end
def ky_Packet : List Str := ["sender", "target", "octets", "marked"]
theorem nd_Packet : ky_Packet.Nodup := by decide +kernel
section
variable {K : PySem.W.Frag} {mg : Str → Option Value} {T : Txt K mg} {H : Hp} {a dx : Addr} {vs : List V} {v y : V}
theorem fd_Packet_sender {A : V → Prop} (ho : H a = some (.ins T.C_Packet dx (obj ky_Packet vs))) (hv : vs[0]? = some v) (q : A v) : ∃ a' C' dx' fs v', V.ref a = .ref a' ∧ H a' = some (.ins C' dx' fs) ∧ Cls K C' ∧ NoAttr K C' "sender" ∧ fs.lookup ("sender" : Str) = some v' ∧ A v' := g_fldE ho T.k_Packet T.n_Packet_sender nd_Packet rfl hv q
theorem st_Packet_sender {A : Hp → Prop} (ho : H a = some (.ins T.C_Packet dx (obj ky_Packet vs))) (hv : 0 < vs.length) (q : A (upd H a (.ins T.C_Packet dx (obj ky_Packet (vs.set 0 y))))) : ∃ a' C' dx' fs, V.ref a = .ref a' ∧ H a' = some (.ins C' dx' fs) ∧ Cls K C' ∧ NoAttr K C' "sender" ∧ fs.length < 1000 ∧ A (upd H a' (.ins C' dx' (putF "sender" y fs))) := g_putE ho T.k_Packet T.n_Packet_sender nd_Packet (by decide) rfl hv q
theorem nw_Packet_sender {A : Hp → Prop} (ho : H a = some (.ins T.C_Packet dx (obj ky_Packet vs))) (hv : vs.length = 0) (q : A (upd H a (.ins T.C_Packet dx (obj ky_Packet (vs ++ [y]))))) : ∃ a' C' dx' fs, V.ref a = .ref a' ∧ H a' = some (.ins C' dx' fs) ∧ Cls K C' ∧ NoAttr K C' "sender" ∧ fs.length < 1000 ∧ A (upd H a' (.ins C' dx' (putF "sender" y fs))) := g_newE ho T.k_Packet T.n_Packet_sender nd_Packet (by decide) (by rw [hv]; rfl) q
theorem fd_Packet_target {A : V → Prop} (ho : H a = some (.ins T.C_Packet dx (obj ky_Packet vs))) (hv : vs[1]? = some v) (q : A v) : ∃ a' C' dx' fs v', V.ref a = .ref a' ∧ H a' = some (.ins C' dx' fs) ∧ Cls K C' ∧ NoAttr K C' "target" ∧ fs.lookup ("target" : Str) = some v' ∧ A v' := g_fldE ho T.k_Packet T.n_Packet_target nd_Packet rfl hv q
theorem st_Packet_target {A : Hp → Prop} (ho : H a = some (.ins T.C_Packet dx (obj ky_Packet vs))) (hv : 1 < vs.length) (q : A (upd H a (.ins T.C_Packet dx (obj ky_Packet (vs.set 1 y))))) : ∃ a' C' dx' fs, V.ref a = .ref a' ∧ H a' = some (.ins C' dx' fs) ∧ Cls K C' ∧ NoAttr K C' "target" ∧ fs.length < 1000 ∧ A (upd H a' (.ins C' dx' (putF "target" y fs))) := g_putE ho T.k_Packet T.n_Packet_target nd_Packet (by decide) rfl hv q
theorem nw_Packet_target {A : Hp → Prop} (ho : H a = some (.ins T.C_Packet dx (obj ky_Packet vs))) (hv : vs.length = 1) (q : A (upd H a (.ins T.C_Packet dx (obj ky_Packet (vs ++ [y]))))) : ∃ a' C' dx' fs, V.ref a = .ref a' ∧ H a' = some (.ins C' dx' fs) ∧ Cls K C' ∧ NoAttr K C' "target" ∧ fs.length < 1000 ∧ A (upd H a' (.ins C' dx' (putF "target" y fs))) := g_newE ho T.k_Packet T.n_Packet_target nd_Packet (by decide) (by rw [hv]; rfl) q
theorem fd_Packet_octets {A : V → Prop} (ho : H a = some (.ins T.C_Packet dx (obj ky_Packet vs))) (hv : vs[2]? = some v) (q : A v) : ∃ a' C' dx' fs v', V.ref a = .ref a' ∧ H a' = some (.ins C' dx' fs) ∧ Cls K C' ∧ NoAttr K C' "octets" ∧ fs.lookup ("octets" : Str) = some v' ∧ A v' := g_fldE ho T.k_Packet T.n_Packet_octets nd_Packet rfl hv q
theorem st_Packet_octets {A : Hp → Prop} (ho : H a = some (.ins T.C_Packet dx (obj ky_Packet vs))) (hv : 2 < vs.length) (q : A (upd H a (.ins T.C_Packet dx (obj ky_Packet (vs.set 2 y))))) : ∃ a' C' dx' fs, V.ref a = .ref a' ∧ H a' = some (.ins C' dx' fs) ∧ Cls K C' ∧ NoAttr K C' "octets" ∧ fs.length < 1000 ∧ A (upd H a' (.ins C' dx' (putF "octets" y fs))) := g_putE ho T.k_Packet T.n_Packet_octets nd_Packet (by decide) rfl hv q
theorem nw_Packet_octets {A : Hp → Prop} (ho : H a = some (.ins T.C_Packet dx (obj ky_Packet vs))) (hv : vs.length = 2) (q : A (upd H a (.ins T.C_Packet dx (obj ky_Packet (vs ++ [y]))))) : ∃ a' C' dx' fs, V.ref a = .ref a' ∧ H a' = some (.ins C' dx' fs) ∧ Cls K C' ∧ NoAttr K C' "octets" ∧ fs.length < 1000 ∧ A (upd H a' (.ins C' dx' (putF "octets" y fs))) := g_newE ho T.k_Packet T.n_Packet_octets nd_Packet (by decide) (by rw [hv]; rfl) q
theorem fd_Packet_marked {A : V → Prop} (ho : H a = some (.ins T.C_Packet dx (obj ky_Packet vs))) (hv : vs[3]? = some v) (q : A v) : ∃ a' C' dx' fs v', V.ref a = .ref a' ∧ H a' = some (.ins C' dx' fs) ∧ Cls K C' ∧ NoAttr K C' "marked" ∧ fs.lookup ("marked" : Str) = some v' ∧ A v' := g_fldE ho T.k_Packet T.n_Packet_marked nd_Packet rfl hv q
theorem st_Packet_marked {A : Hp → Prop} (ho : H a = some (.ins T.C_Packet dx (obj ky_Packet vs))) (hv : 3 < vs.length) (q : A (upd H a (.ins T.C_Packet dx (obj ky_Packet (vs.set 3 y))))) : ∃ a' C' dx' fs, V.ref a = .ref a' ∧ H a' = some (.ins C' dx' fs) ∧ Cls K C' ∧ NoAttr K C' "marked" ∧ fs.length < 1000 ∧ A (upd H a' (.ins C' dx' (putF "marked" y fs))) := g_putE ho T.k_Packet T.n_Packet_marked nd_Packet (by decide) rfl hv q
theorem nw_Packet_marked {A : Hp → Prop} (ho : H a = some (.ins T.C_Packet dx (obj ky_Packet vs))) (hv : vs.length = 3) (q : A (upd H a (.ins T.C_Packet dx (obj ky_Packet (vs ++ [y]))))) : ∃ a' C' dx' fs, V.ref a = .ref a' ∧ H a' = some (.ins C' dx' fs) ∧ Cls K C' ∧ NoAttr K C' "marked" ∧ fs.length < 1000 ∧ A (upd H a' (.ins C' dx' (putF "marked" y fs))) := g_newE ho T.k_Packet T.n_Packet_marked nd_Packet (by decide) (by rw [hv]; rfl) q
theorem me_Packet_fork {A : Prop} (ho : H a = some (.ins T.C_Packet dx (obj ky_Packet vs))) (q : A) : ∃ a' dx' fs, V.ref a = .ref a' ∧ H a' = some (.ins T.C_Packet dx' fs) ∧ fs.lookup ("fork" : Str) = none ∧ A := g_methE ho (by decide +kernel) q
theorem me_Packet_eq__ {A : Prop} (ho : H a = some (.ins T.C_Packet dx (obj ky_Packet vs))) (q : A) : ∃ a' dx' fs, V.ref a = .ref a' ∧ H a' = some (.ins T.C_Packet dx' fs) ∧ fs.lookup ("__eq__" : Str) = none ∧ A := g_methE ho (by decide +kernel) q
theorem me_Packet_fields {A : Prop} (ho : H a = some (.ins T.C_Packet dx (obj ky_Packet vs))) (q : A) : ∃ a' dx' fs, V.ref a = .ref a' ∧ H a' = some (.ins T.C_Packet dx' fs) ∧ fs.lookup ("_fields" : Str) = none ∧ A := g_methE ho (by decide +kernel) q
end
def ky_Flight : List Str := ["number", "birth", "packet"]
theorem nd_Flight : ky_Flight.Nodup := by decide +kernel
section
variable {K : PySem.W.Frag} {mg : Str → Option Value} {T : Txt K mg} {H : Hp} {a dx : Addr} {vs : List V} {v y : V}
theorem fd_Flight_number {A : V → Prop} (ho : H a = some (.ins T.C_Flight dx (obj ky_Flight vs))) (hv : vs[0]? = some v) (q : A v) : ∃ a' C' dx' fs v', V.ref a = .ref a' ∧ H a' = some (.ins C' dx' fs) ∧ Cls K C' ∧ NoAttr K C' "number" ∧ fs.lookup ("number" : Str) = some v' ∧ A v' := g_fldE ho T.k_Flight T.n_Flight_number nd_Flight rfl hv q
theorem st_Flight_number {A : Hp → Prop} (ho : H a = some (.ins T.C_Flight dx (obj ky_Flight vs))) (hv : 0 < vs.length) (q : A (upd H a (.ins T.C_Flight dx (obj ky_Flight (vs.set 0 y))))) : ∃ a' C' dx' fs, V.ref a = .ref a' ∧ H a' = some (.ins C' dx' fs) ∧ Cls K C' ∧ NoAttr K C' "number" ∧ fs.length < 1000 ∧ A (upd H a' (.ins C' dx' (putF "number" y fs))) := g_putE ho T.k_Flight T.n_Flight_number nd_Flight (by decide) rfl hv q
theorem nw_Flight_number {A : Hp → Prop} (ho : H a = some (.ins T.C_Flight dx (obj ky_Flight vs))) (hv : vs.length = 0) (q : A (upd H a (.ins T.C_Flight dx (obj ky_Flight (vs ++ [y]))))) : ∃ a' C' dx' fs, V.ref a = .ref a' ∧ H a' = some (.ins C' dx' fs) ∧ Cls K C' ∧ NoAttr K C' "number" ∧ fs.length < 1000 ∧ A (upd H a' (.ins C' dx' (putF "number" y fs))) := g_newE ho T.k_Flight T.n_Flight_number nd_Flight (by decide) (by rw [hv]; rfl) q
theorem fd_Flight_birth {A : V → Prop} (ho : H a = some (.ins T.C_Flight dx (obj ky_Flight vs))) (hv : vs[1]? = some v) (q : A v) : ∃ a' C' dx' fs v', V.ref a = .ref a' ∧ H a' = some (.ins C' dx' fs) ∧ Cls K C' ∧ NoAttr K C' "birth" ∧ fs.lookup ("birth" : Str) = some v' ∧ A v' := g_fldE ho T.k_Flight T.n_Flight_birth nd_Flight rfl hv q
theorem st_Flight_birth {A : Hp → Prop} (ho : H a = some (.ins T.C_Flight dx (obj ky_Flight vs))) (hv : 1 < vs.length) (q : A (upd H a (.ins T.C_Flight dx (obj ky_Flight (vs.set 1 y))))) : ∃ a' C' dx' fs, V.ref a = .ref a' ∧ H a' = some (.ins C' dx' fs) ∧ Cls K C' ∧ NoAttr K C' "birth" ∧ fs.length < 1000 ∧ A (upd H a' (.ins C' dx' (putF "birth" y fs))) := g_putE ho T.k_Flight T.n_Flight_birth nd_Flight (by decide) rfl hv q
theorem nw_Flight_birth {A : Hp → Prop} (ho : H a = some (.ins T.C_Flight dx (obj ky_Flight vs))) (hv : vs.length = 1) (q : A (upd H a (.ins T.C_Flight dx (obj ky_Flight (vs ++ [y]))))) : ∃ a' C' dx' fs, V.ref a = .ref a' ∧ H a' = some (.ins C' dx' fs) ∧ Cls K C' ∧ NoAttr K C' "birth" ∧ fs.length < 1000 ∧ A (upd H a' (.ins C' dx' (putF "birth" y fs))) := g_newE ho T.k_Flight T.n_Flight_birth nd_Flight (by decide) (by rw [hv]; rfl) q
theorem fd_Flight_packet {A : V → Prop} (ho : H a = some (.ins T.C_Flight dx (obj ky_Flight vs))) (hv : vs[2]? = some v) (q : A v) : ∃ a' C' dx' fs v', V.ref a = .ref a' ∧ H a' = some (.ins C' dx' fs) ∧ Cls K C' ∧ NoAttr K C' "packet" ∧ fs.lookup ("packet" : Str) = some v' ∧ A v' := g_fldE ho T.k_Flight T.n_Flight_packet nd_Flight rfl hv q
theorem st_Flight_packet {A : Hp → Prop} (ho : H a = some (.ins T.C_Flight dx (obj ky_Flight vs))) (hv : 2 < vs.length) (q : A (upd H a (.ins T.C_Flight dx (obj ky_Flight (vs.set 2 y))))) : ∃ a' C' dx' fs, V.ref a = .ref a' ∧ H a' = some (.ins C' dx' fs) ∧ Cls K C' ∧ NoAttr K C' "packet" ∧ fs.length < 1000 ∧ A (upd H a' (.ins C' dx' (putF "packet" y fs))) := g_putE ho T.k_Flight T.n_Flight_packet nd_Flight (by decide) rfl hv q
theorem nw_Flight_packet {A : Hp → Prop} (ho : H a = some (.ins T.C_Flight dx (obj ky_Flight vs))) (hv : vs.length = 2) (q : A (upd H a (.ins T.C_Flight dx (obj ky_Flight (vs ++ [y]))))) : ∃ a' C' dx' fs, V.ref a = .ref a' ∧ H a' = some (.ins C' dx' fs) ∧ Cls K C' ∧ NoAttr K C' "packet" ∧ fs.length < 1000 ∧ A (upd H a' (.ins C' dx' (putF "packet" y fs))) := g_newE ho T.k_Flight T.n_Flight_packet nd_Flight (by decide) (by rw [hv]; rfl) q
theorem me_Flight_eq__ {A : Prop} (ho : H a = some (.ins T.C_Flight dx (obj ky_Flight vs))) (q : A) : ∃ a' dx' fs, V.ref a = .ref a' ∧ H a' = some (.ins T.C_Flight dx' fs) ∧ fs.lookup ("__eq__" : Str) = none ∧ A := g_methE ho (by decide +kernel) q
end
def ky_Record : List Str := ["tick", "number", "word", "packet"]
theorem nd_Record : ky_Record.Nodup := by decide +kernel
section
variable {K : PySem.W.Frag} {mg : Str → Option Value} {T : Txt K mg} {H : Hp} {a dx : Addr} {vs : List V} {v y : V}
theorem fd_Record_tick {A : V → Prop} (ho : H a = some (.ins T.C_Record dx (obj ky_Record vs))) (hv : vs[0]? = some v) (q : A v) : ∃ a' C' dx' fs v', V.ref a = .ref a' ∧ H a' = some (.ins C' dx' fs) ∧ Cls K C' ∧ NoAttr K C' "tick" ∧ fs.lookup ("tick" : Str) = some v' ∧ A v' := g_fldE ho T.k_Record T.n_Record_tick nd_Record rfl hv q
theorem st_Record_tick {A : Hp → Prop} (ho : H a = some (.ins T.C_Record dx (obj ky_Record vs))) (hv : 0 < vs.length) (q : A (upd H a (.ins T.C_Record dx (obj ky_Record (vs.set 0 y))))) : ∃ a' C' dx' fs, V.ref a = .ref a' ∧ H a' = some (.ins C' dx' fs) ∧ Cls K C' ∧ NoAttr K C' "tick" ∧ fs.length < 1000 ∧ A (upd H a' (.ins C' dx' (putF "tick" y fs))) := g_putE ho T.k_Record T.n_Record_tick nd_Record (by decide) rfl hv q
theorem nw_Record_tick {A : Hp → Prop} (ho : H a = some (.ins T.C_Record dx (obj ky_Record vs))) (hv : vs.length = 0) (q : A (upd H a (.ins T.C_Record dx (obj ky_Record (vs ++ [y]))))) : ∃ a' C' dx' fs, V.ref a = .ref a' ∧ H a' = some (.ins C' dx' fs) ∧ Cls K C' ∧ NoAttr K C' "tick" ∧ fs.length < 1000 ∧ A (upd H a' (.ins C' dx' (putF "tick" y fs))) := g_newE ho T.k_Record T.n_Record_tick nd_Record (by decide) (by rw [hv]; rfl) q
theorem fd_Record_number {A : V → Prop} (ho : H a = some (.ins T.C_Record dx (obj ky_Record vs))) (hv : vs[1]? = some v) (q : A v) : ∃ a' C' dx' fs v', V.ref a = .ref a' ∧ H a' = some (.ins C' dx' fs) ∧ Cls K C' ∧ NoAttr K C' "number" ∧ fs.lookup ("number" : Str) = some v' ∧ A v' := g_fldE ho T.k_Record T.n_Record_number nd_Record rfl hv q
theorem st_Record_number {A : Hp → Prop} (ho : H a = some (.ins T.C_Record dx (obj ky_Record vs))) (hv : 1 < vs.length) (q : A (upd H a (.ins T.C_Record dx (obj ky_Record (vs.set 1 y))))) : ∃ a' C' dx' fs, V.ref a = .ref a' ∧ H a' = some (.ins C' dx' fs) ∧ Cls K C' ∧ NoAttr K C' "number" ∧ fs.length < 1000 ∧ A (upd H a' (.ins C' dx' (putF "number" y fs))) := g_putE ho T.k_Record T.n_Record_number nd_Record (by decide) rfl hv q
theorem nw_Record_number {A : Hp → Prop} (ho : H a = some (.ins T.C_Record dx (obj ky_Record vs))) (hv : vs.length = 1) (q : A (upd H a (.ins T.C_Record dx (obj ky_Record (vs ++ [y]))))) : ∃ a' C' dx' fs, V.ref a = .ref a' ∧ H a' = some (.ins C' dx' fs) ∧ Cls K C' ∧ NoAttr K C' "number" ∧ fs.length < 1000 ∧ A (upd H a' (.ins C' dx' (putF "number" y fs))) := g_newE ho T.k_Record T.n_Record_number nd_Record (by decide) (by rw [hv]; rfl) q
theorem fd_Record_word {A : V → Prop} (ho : H a = some (.ins T.C_Record dx (obj ky_Record vs))) (hv : vs[2]? = some v) (q : A v) : ∃ a' C' dx' fs v', V.ref a = .ref a' ∧ H a' = some (.ins C' dx' fs) ∧ Cls K C' ∧ NoAttr K C' "word" ∧ fs.lookup ("word" : Str) = some v' ∧ A v' := g_fldE ho T.k_Record T.n_Record_word nd_Record rfl hv q
theorem st_Record_word {A : Hp → Prop} (ho : H a = some (.ins T.C_Record dx (obj ky_Record vs))) (hv : 2 < vs.length) (q : A (upd H a (.ins T.C_Record dx (obj ky_Record (vs.set 2 y))))) : ∃ a' C' dx' fs, V.ref a = .ref a' ∧ H a' = some (.ins C' dx' fs) ∧ Cls K C' ∧ NoAttr K C' "word" ∧ fs.length < 1000 ∧ A (upd H a' (.ins C' dx' (putF "word" y fs))) := g_putE ho T.k_Record T.n_Record_word nd_Record (by decide) rfl hv q
theorem nw_Record_word {A : Hp → Prop} (ho : H a = some (.ins T.C_Record dx (obj ky_Record vs))) (hv : vs.length = 2) (q : A (upd H a (.ins T.C_Record dx (obj ky_Record (vs ++ [y]))))) : ∃ a' C' dx' fs, V.ref a = .ref a' ∧ H a' = some (.ins C' dx' fs) ∧ Cls K C' ∧ NoAttr K C' "word" ∧ fs.length < 1000 ∧ A (upd H a' (.ins C' dx' (putF "word" y fs))) := g_newE ho T.k_Record T.n_Record_word nd_Record (by decide) (by rw [hv]; rfl) q
theorem fd_Record_packet {A : V → Prop} (ho : H a = some (.ins T.C_Record dx (obj ky_Record vs))) (hv : vs[3]? = some v) (q : A v) : ∃ a' C' dx' fs v', V.ref a = .ref a' ∧ H a' = some (.ins C' dx' fs) ∧ Cls K C' ∧ NoAttr K C' "packet" ∧ fs.lookup ("packet" : Str) = some v' ∧ A v' := g_fldE ho T.k_Record T.n_Record_packet nd_Record rfl hv q
theorem st_Record_packet {A : Hp → Prop} (ho : H a = some (.ins T.C_Record dx (obj ky_Record vs))) (hv : 3 < vs.length) (q : A (upd H a (.ins T.C_Record dx (obj ky_Record (vs.set 3 y))))) : ∃ a' C' dx' fs, V.ref a = .ref a' ∧ H a' = some (.ins C' dx' fs) ∧ Cls K C' ∧ NoAttr K C' "packet" ∧ fs.length < 1000 ∧ A (upd H a' (.ins C' dx' (putF "packet" y fs))) := g_putE ho T.k_Record T.n_Record_packet nd_Record (by decide) rfl hv q
theorem nw_Record_packet {A : Hp → Prop} (ho : H a = some (.ins T.C_Record dx (obj ky_Record vs))) (hv : vs.length = 3) (q : A (upd H a (.ins T.C_Record dx (obj ky_Record (vs ++ [y]))))) : ∃ a' C' dx' fs, V.ref a = .ref a' ∧ H a' = some (.ins C' dx' fs) ∧ Cls K C' ∧ NoAttr K C' "packet" ∧ fs.length < 1000 ∧ A (upd H a' (.ins C' dx' (putF "packet" y fs))) := g_newE ho T.k_Record T.n_Record_packet nd_Record (by decide) (by rw [hv]; rfl) q
theorem me_Record_eq__ {A : Prop} (ho : H a = some (.ins T.C_Record dx (obj ky_Record vs))) (q : A) : ∃ a' dx' fs, V.ref a = .ref a' ∧ H a' = some (.ins T.C_Record dx' fs) ∧ fs.lookup ("__eq__" : Str) = none ∧ A := g_methE ho (by decide +kernel) q
end
local macro_rules | `(tactic| walk_at "use") => `(tactic| first | ((with_reducible refine' fd_Rule_fault ?ho_ ?hv_ ?_); (case ho_ => first | assumption | exact upd_same); (case hv_ => exact rfl)) | ((with_reducible refine' fd_Rule_amount ?ho_ ?hv_ ?_); (case ho_ => first | assumption | exact upd_same); (case hv_ => exact rfl)) | ((with_reducible refine' fd_Rule_until ?ho_ ?hv_ ?_); (case ho_ => first | assumption | exact upd_same); (case hv_ => exact rfl)) | ((with_reducible refine' fd_Rule_sender ?ho_ ?hv_ ?_); (case ho_ => first | assumption | exact upd_same); (case hv_ => exact rfl)) | ((with_reducible refine' fd_Rule_target ?ho_ ?hv_ ?_); (case ho_ => first | assumption | exact upd_same); (case hv_ => exact rfl)) | ((with_reducible refine' fd_Rule_ticks ?ho_ ?hv_ ?_); (case ho_ => first | assumption | exact upd_same); (case hv_ => exact rfl)) | ((with_reducible refine' fd_Rule_nth ?ho_ ?hv_ ?_); (case ho_ => first | assumption | exact upd_same); (case hv_ => exact rfl)) | ((with_reducible refine' fd_Rule_chance ?ho_ ?hv_ ?_); (case ho_ => first | assumption | exact upd_same); (case hv_ => exact rfl)) | ((with_reducible refine' nw_Rule_fault ?ho_ ?hv_ ?_); (case ho_ => first | assumption | exact upd_same); (case hv_ => exact rfl)) | ((with_reducible refine' nw_Rule_amount ?ho_ ?hv_ ?_); (case ho_ => first | assumption | exact upd_same); (case hv_ => exact rfl)) | ((with_reducible refine' nw_Rule_until ?ho_ ?hv_ ?_); (case ho_ => first | assumption | exact upd_same); (case hv_ => exact rfl)) | ((with_reducible refine' nw_Rule_sender ?ho_ ?hv_ ?_); (case ho_ => first | assumption | exact upd_same); (case hv_ => exact rfl)) | ((with_reducible refine' nw_Rule_target ?ho_ ?hv_ ?_); (case ho_ => first | assumption | exact upd_same); (case hv_ => exact rfl)) | ((with_reducible refine' nw_Rule_ticks ?ho_ ?hv_ ?_); (case ho_ => first | assumption | exact upd_same); (case hv_ => exact rfl)) | ((with_reducible refine' nw_Rule_nth ?ho_ ?hv_ ?_); (case ho_ => first | assumption | exact upd_same); (case hv_ => exact rfl)) | ((with_reducible refine' nw_Rule_chance ?ho_ ?hv_ ?_); (case ho_ => first | assumption | exact upd_same); (case hv_ => exact rfl)) | ((with_reducible refine' st_Rule_fault ?ho_ ?hv_ ?_); (case ho_ => first | assumption | exact upd_same); (case hv_ => exact Nat.le_of_ble_eq_true rfl)) | ((with_reducible refine' st_Rule_amount ?ho_ ?hv_ ?_); (case ho_ => first | assumption | exact upd_same); (case hv_ => exact Nat.le_of_ble_eq_true rfl)) | ((with_reducible refine' st_Rule_until ?ho_ ?hv_ ?_); (case ho_ => first | assumption | exact upd_same); (case hv_ => exact Nat.le_of_ble_eq_true rfl)) | ((with_reducible refine' st_Rule_sender ?ho_ ?hv_ ?_); (case ho_ => first | assumption | exact upd_same); (case hv_ => exact Nat.le_of_ble_eq_true rfl)) | ((with_reducible refine' st_Rule_target ?ho_ ?hv_ ?_); (case ho_ => first | assumption | exact upd_same); (case hv_ => exact Nat.le_of_ble_eq_true rfl)) | ((with_reducible refine' st_Rule_ticks ?ho_ ?hv_ ?_); (case ho_ => first | assumption | exact upd_same); (case hv_ => exact Nat.le_of_ble_eq_true rfl)) | ((with_reducible refine' st_Rule_nth ?ho_ ?hv_ ?_); (case ho_ => first | assumption | exact upd_same); (case hv_ => exact Nat.le_of_ble_eq_true rfl)) | ((with_reducible refine' st_Rule_chance ?ho_ ?hv_ ?_); (case ho_ => first | assumption | exact upd_same); (case hv_ => exact Nat.le_of_ble_eq_true rfl)) | ((with_reducible refine' me_Rule_considers ?ho_ ?_); (case ho_ => first | assumption | exact upd_same)) | ((with_reducible refine' me_Rule_eq__ ?ho_ ?_); (case ho_ => first | assumption | exact upd_same)) | ((with_reducible refine' me_Rule_fields ?ho_ ?_); (case ho_ => first | assumption | exact upd_same)))
local macro_rules | `(tactic| walk_at "use") => `(tactic| first | ((with_reducible refine' fd_Packet_sender ?ho_ ?hv_ ?_); (case ho_ => first | assumption | exact upd_same); (case hv_ => exact rfl)) | ((with_reducible refine' fd_Packet_target ?ho_ ?hv_ ?_); (case ho_ => first | assumption | exact upd_same); (case hv_ => exact rfl)) | ((with_reducible refine' fd_Packet_octets ?ho_ ?hv_ ?_); (case ho_ => first | assumption | exact upd_same); (case hv_ => exact rfl)) | ((with_reducible refine' fd_Packet_marked ?ho_ ?hv_ ?_); (case ho_ => first | assumption | exact upd_same); (case hv_ => exact rfl)) | ((with_reducible refine' nw_Packet_sender ?ho_ ?hv_ ?_); (case ho_ => first | assumption | exact upd_same); (case hv_ => exact rfl)) | ((with_reducible refine' nw_Packet_target ?ho_ ?hv_ ?_); (case ho_ => first | assumption | exact upd_same); (case hv_ => exact rfl)) | ((with_reducible refine' nw_Packet_octets ?ho_ ?hv_ ?_); (case ho_ => first | assumption | exact upd_same); (case hv_ => exact rfl)) | ((with_reducible refine' nw_Packet_marked ?ho_ ?hv_ ?_); (case ho_ => first | assumption | exact upd_same); (case hv_ => exact rfl)) | ((with_reducible refine' st_Packet_sender ?ho_ ?hv_ ?_); (case ho_ => first | assumption | exact upd_same); (case hv_ => exact Nat.le_of_ble_eq_true rfl)) | ((with_reducible refine' st_Packet_target ?ho_ ?hv_ ?_); (case ho_ => first | assumption | exact upd_same); (case hv_ => exact Nat.le_of_ble_eq_true rfl)) | ((with_reducible refine' st_Packet_octets ?ho_ ?hv_ ?_); (case ho_ => first | assumption | exact upd_same); (case hv_ => exact Nat.le_of_ble_eq_true rfl)) | ((with_reducible refine' st_Packet_marked ?ho_ ?hv_ ?_); (case ho_ => first | assumption | exact upd_same); (case hv_ => exact Nat.le_of_ble_eq_true rfl)) | ((with_reducible refine' me_Packet_fork ?ho_ ?_); (case ho_ => first | assumption | exact upd_same)) | ((with_reducible refine' me_Packet_eq__ ?ho_ ?_); (case ho_ => first | assumption | exact upd_same)) | ((with_reducible refine' me_Packet_fields ?ho_ ?_); (case ho_ => first | assumption | exact upd_same)))
local macro_rules | `(tactic| walk_at "use") => `(tactic| first | ((with_reducible refine' fd_Flight_number ?ho_ ?hv_ ?_); (case ho_ => first | assumption | exact upd_same); (case hv_ => exact rfl)) | ((with_reducible refine' fd_Flight_birth ?ho_ ?hv_ ?_); (case ho_ => first | assumption | exact upd_same); (case hv_ => exact rfl)) | ((with_reducible refine' fd_Flight_packet ?ho_ ?hv_ ?_); (case ho_ => first | assumption | exact upd_same); (case hv_ => exact rfl)) | ((with_reducible refine' nw_Flight_number ?ho_ ?hv_ ?_); (case ho_ => first | assumption | exact upd_same); (case hv_ => exact rfl)) | ((with_reducible refine' nw_Flight_birth ?ho_ ?hv_ ?_); (case ho_ => first | assumption | exact upd_same); (case hv_ => exact rfl)) | ((with_reducible refine' nw_Flight_packet ?ho_ ?hv_ ?_); (case ho_ => first | assumption | exact upd_same); (case hv_ => exact rfl)) | ((with_reducible refine' st_Flight_number ?ho_ ?hv_ ?_); (case ho_ => first | assumption | exact upd_same); (case hv_ => exact Nat.le_of_ble_eq_true rfl)) | ((with_reducible refine' st_Flight_birth ?ho_ ?hv_ ?_); (case ho_ => first | assumption | exact upd_same); (case hv_ => exact Nat.le_of_ble_eq_true rfl)) | ((with_reducible refine' st_Flight_packet ?ho_ ?hv_ ?_); (case ho_ => first | assumption | exact upd_same); (case hv_ => exact Nat.le_of_ble_eq_true rfl)) | ((with_reducible refine' me_Flight_eq__ ?ho_ ?_); (case ho_ => first | assumption | exact upd_same)))
local macro_rules | `(tactic| walk_at "use") => `(tactic| first | ((with_reducible refine' fd_Record_tick ?ho_ ?hv_ ?_); (case ho_ => first | assumption | exact upd_same); (case hv_ => exact rfl)) | ((with_reducible refine' fd_Record_number ?ho_ ?hv_ ?_); (case ho_ => first | assumption | exact upd_same); (case hv_ => exact rfl)) | ((with_reducible refine' fd_Record_word ?ho_ ?hv_ ?_); (case ho_ => first | assumption | exact upd_same); (case hv_ => exact rfl)) | ((with_reducible refine' fd_Record_packet ?ho_ ?hv_ ?_); (case ho_ => first | assumption | exact upd_same); (case hv_ => exact rfl)) | ((with_reducible refine' nw_Record_tick ?ho_ ?hv_ ?_); (case ho_ => first | assumption | exact upd_same); (case hv_ => exact rfl)) | ((with_reducible refine' nw_Record_number ?ho_ ?hv_ ?_); (case ho_ => first | assumption | exact upd_same); (case hv_ => exact rfl)) | ((with_reducible refine' nw_Record_word ?ho_ ?hv_ ?_); (case ho_ => first | assumption | exact upd_same); (case hv_ => exact rfl)) | ((with_reducible refine' nw_Record_packet ?ho_ ?hv_ ?_); (case ho_ => first | assumption | exact upd_same); (case hv_ => exact rfl)) | ((with_reducible refine' st_Record_tick ?ho_ ?hv_ ?_); (case ho_ => first | assumption | exact upd_same); (case hv_ => exact Nat.le_of_ble_eq_true rfl)) | ((with_reducible refine' st_Record_number ?ho_ ?hv_ ?_); (case ho_ => first | assumption | exact upd_same); (case hv_ => exact Nat.le_of_ble_eq_true rfl)) | ((with_reducible refine' st_Record_word ?ho_ ?hv_ ?_); (case ho_ => first | assumption | exact upd_same); (case hv_ => exact Nat.le_of_ble_eq_true rfl)) | ((with_reducible refine' st_Record_packet ?ho_ ?hv_ ?_); (case ho_ => first | assumption | exact upd_same); (case hv_ => exact Nat.le_of_ble_eq_true rfl)) | ((with_reducible refine' me_Record_eq__ ?ho_ ?_); (case ho_ => first | assumption | exact upd_same)))
/-! ### == of two tuples (int, int, own object), whatever the own == answers -/
section
variable {prog : Program} {w : World} {A : Around} {R : Result → Shared → Prop}
theorem tuple_eqA (l b : Addr) (items items2 : Array Value) (n n2 : Nat) (dd dd2 : Option Addr) (sl sl2 : Array (Option Value)) (hsz : items.size = items2.size) (I : Nat → Shared → Prop)
    (turn : ∀ i (h1 : i < items.size) (h2 : i < items2.size) s, I i s → wpAny (model prog w) A.in1 (eqBool items[i] items2[i]) (fun r s' => (r = true ∧ I (i + 1) s') ∨ (r = false ∧ R (.ok (.ret (.bool false))) s')) (fun e s' => R (.error e) s') s)
    (fin : ∀ s, I items.size s → R (.ok (.ret (.bool true))) s) {s : Shared} (hl1 : s.heap.get? l = some { cls := .type "tuple", dict := dd, data := .seq items n, slots := sl }) (hb1 : s.heap.get? b = some { cls := .type "tuple", dict := dd2, data := .seq items2 n2, slots := sl2 }) (h : I 0 s) :
    wpAny (model prog w) A.in1 (Builtin.«tuple.__eq__» ⟨[.ref l, .ref b], []⟩) (GQ.FinOf prog w A R) (fun e s' => R (.error e) s') s := by
  have f2 := AutoSeq1.sub_tuple_tuple
  have hZ : (items.toList.zip items2.toList).length = items.size := by simp [hsz]
  have h0 := h
  obtain ⟨hp, g, d, tk, os⟩ := s
  wp_walk using AutoSeq1.wpAny_loadPart' hl1, AutoSeq1.wpAny_loadPart' hb1, wpAny_forIn_list _ (fun rest b s' => b.1 = none ∧ ∃ i, rest = (items.toList.zip items2.toList).drop i ∧ i ≤ items.size ∧ I i s') _
  case turn =>
    rintro ⟨y, x⟩ rest b s' ⟨hb', i, hz, hi, hI⟩
    have hlt : i < (items.toList.zip items2.toList).length := by
      rcases Nat.lt_or_ge i (items.toList.zip items2.toList).length with h' | h'
      · exact h'
      · rw [List.drop_of_length_le h'] at hz; cases hz
    have h1 : i < items.size := hZ ▸ hlt
    have h2 : i < items2.size := hsz ▸ h1
    rw [List.drop_eq_getElem_cons hlt] at hz
    injection hz with hyx hrest
    have hy : y = items[i] := by have := congrArg Prod.fst hyx; simpa using this
    have hx : x = items2[i] := by have := congrArg Prod.snd hyx; simpa using this
    subst hy hx
    refine wpAny_bind (wpAny_mono (turn i h1 h2 s' hI) (fun r s2 q2 => ?_) fun _ _ x => x)
    rcases q2 with ⟨hr, q2⟩ | ⟨hr, q2⟩
    · subst hr
      wp_walk
      exact ⟨rfl, i + 1, hrest, h1, q2⟩
    · subst hr
      wp_walk
      exact q2
  case fin =>
    rintro ⟨b1, b2⟩ s' ⟨hb', i, hz, hi, hI⟩
    simp only at hb'
    subst hb'
    have hge : items.size ≤ i := by
      rcases Nat.lt_or_ge i (items.toList.zip items2.toList).length with h' | h'
      · rw [List.drop_eq_getElem_cons h'] at hz; cases hz
      · exact hZ ▸ h'
    have hi' : i = items.size := by omega
    have hR : R (.ok (.ret (.bool true))) s' := fin s' (hi' ▸ hI)
    wp_walk
    simpa [Builtin.Tuple.tupleCompareSizes, hsz] using hR
  case h =>
    exact ⟨rfl, 0, rfl, Nat.zero_le _, h0⟩
end
section
variable {prog : Program} {w : World} {A : Around} {E : Value → Shared → Prop} {s : Shared}
theorem rc_tupA {l b : Addr} {items items2 : Array Value} {Q : Value → Shared → Prop} (hsz : items.size = items2.size) (hu : A.units < cLine) (I : Nat → Shared → Prop)
    (hl : s.heap.IsTuple l items) (hb : s.heap.IsTuple b items2)
    (turn : ∀ i (h1 : i < items.size) (h2 : i < items2.size) s, I i s → wpAny (model prog w) A.in1 (eqBool items[i] items2[i]) (fun r s' => (r = true ∧ I (i + 1) s') ∨ (r = false ∧ Q (.bool false) s')) E s)
    (fin : ∀ s, I items.size s → Q (.bool true) s) (h : I 0 s) : wpAny (model prog w) A (richCompare .Eq (.ref l) (.ref b)) Q E s := by
  obtain ⟨⟨cls, dd, data, sl⟩, ho, hc, n, hd⟩ := id hl
  obtain ⟨⟨cls2, dd2, data2, sl2⟩, ho2, hc2, n2, hd2⟩ := id hb
  simp only at hc hd hc2 hd2
  subst hc hd hc2 hd2
  refine wpAny_richCompare_same_room (op := .Eq) ⟨_, ho, rfl⟩ ⟨_, ho2, rfl⟩ F.slot_tuple_eq (GQ.call_here F.slot_tuple_eq ⟨_, ho, rfl⟩ F.entry_tuple_eq (F.args_tuple_eq_2 _ _) ?_) hu
  refine tuple_eqA (R := wants (fun v s' => v ≠ .notImplemented ∧ Q v s') E) l b items items2 n n2 dd dd2 sl sl2 hsz I (fun i h1 h2 s' hI => wpAny_mono (turn i h1 h2 s' hI) (fun r s2 q2 => ?_) fun _ _ x => x) (fun s' q => ⟨(fun x => nomatch x), fin s' q⟩) ho ho2 h
  rcases q2 with q2 | ⟨hr, q2⟩
  · exact .inl q2
  · exact .inr ⟨hr, (fun x => nomatch x), q2⟩
end
def rTupO (K : PySem.W.Frag) (C : Addr) (sp : Sp) (E : XK) : R2 := fun x y H Q => ∃ (t t' : Addr) (a b a' b' : Int) (p q dx dy : Addr) (fs gs : List (Str × V)), x = .ref t ∧ y = .ref t' ∧ SqT K H t [.int a, .int b, .ref p] ∧ SqT K H t' [.int a', .int b', .ref q] ∧
  H p = some (.ins C dx fs) ∧ H q = some (.ins C dy gs) ∧ p ≠ q ∧ (¬ (a = a' ∧ b = b') → Q (.bl false) H) ∧ (a = a' → b = b' → sp [.ref p, .ref q] H (fun v H' => ∃ c, v = .bl c ∧ Q (.bl c) H') E)
theorem op_tupO {X : Cx} {CX : CXT} {n : Nat} {C f : Addr} {fd : FuncData} {ps : List Str} {sp : Sp} {E : XK} (F : FnOk X.prog X.w X.K X.mg X.base CX n f fd ps sp) (hr : Room (n + 1) X.A)
    (hm : Meth X.K C "__eq__" f) (hb : Binds X.K fd ps []) (hx : Passes CX X E) : OpR X (compareOp .Eq) (rTupO X.K C sp E) := by
  obtain ⟨hs, hf, _⟩ := hm
  intro pins s σ H x y v u Q I rx ry hq
  obtain ⟨t, t', a, b, a', b', p, q, dx, dy, fs, gs, rfl, rfl, h1, h2, hp, hq', npq, qf, hsp⟩ := hq
  cases rx
  cases ry
  show wpAny (model X.prog X.w) X.A (richCompare .Eq (.ref t) (.ref t')) (EP X pins σ Q) X.xe s
  obtain ⟨its, r1, e1, z1⟩ := I.tuple h1
  obtain ⟨its2, r2, e2, z2⟩ := I.tuple h2
  obtain ⟨u0, u1, u2, ei, v0, v1, v2⟩ : ∃ u0 u1 u2, its = [u0, u1, u2] ∧ RelV (.int a) u0 ∧ RelV (.int b) u1 ∧ RelV (.ref p) u2 := by
    cases r1 with
    | cons a1 r1 => cases r1 with
      | cons a2 r1 => cases r1 with
        | cons a3 r1 => cases r1; exact ⟨_, _, _, rfl, a1, a2, a3⟩
  obtain ⟨w0, w1, w2, ei2, y0, y1, y2⟩ : ∃ u0 u1 u2, its2 = [u0, u1, u2] ∧ RelV (.int a') u0 ∧ RelV (.int b') u1 ∧ RelV (.ref q) u2 := by
    cases r2 with
    | cons a1 r2 => cases r2 with
      | cons a2 r2 => cases r2 with
        | cons a3 r2 => cases r2; exact ⟨_, _, _, rfl, a1, a2, a3⟩
  subst ei ei2
  refine rc_tupA (items := #[u0, u1, u2]) (items2 := #[w0, w1, w2]) rfl hr.units0 (fun i s' => (i ≤ 2 ∧ Inv X pins σ H s' ∧ (0 < i → a = a') ∧ (1 < i → b = b')) ∨ (i = 3 ∧ EP X pins σ Q (.bool true) s')) e1 e2 ?turn ?fin (.inl ⟨by decide, I, fun h => absurd h (by decide), fun h => absurd h (by decide)⟩)
  case fin =>
    rintro s' (⟨h, _⟩ | ⟨_, h⟩)
    · exact absurd (show 3 ≤ 2 from h) (by decide)
    · exact h
  case turn =>
    intro i h1 h2 s' hI
    rcases hI with ⟨hi, I1, ca, cb⟩ | ⟨rfl, _⟩
    · have flat : ∀ {i j : Int} {u v : Value}, RelV (.int i) u → RelV (.int j) v → wpAny (model X.prog X.w) X.A.in1 (eqBool u v) (fun r s2 => r = decide (i = j) ∧ s2 = s') X.xe s' := fun {i j u v} ri rj => by
        obtain ⟨t1, rfl⟩ := ri
        obtain ⟨t2, rfl⟩ := rj
        refine SeqAt.EqAt.int_int _ _ _ _ X.prog X.w X.xe _ ⟨?_, rfl⟩
        rw [Bool.eq_iff_iff]
        simp
      match i, h1, h2, hi with
      | 0, h1, h2, _ =>
        refine wpAny_mono (flat v0 y0) (fun r s2 q2 => ?_) fun _ _ x => x
        obtain ⟨rfl, rfl⟩ := q2
        by_cases c : a = a'
        · exact .inl ⟨decide_eq_true c, .inl ⟨by decide, I1, fun _ => c, fun h => absurd h (by decide)⟩⟩
        · exact .inr ⟨decide_eq_false c, .bl false, H, I1, rfl, qf fun z => c z.1⟩
      | 1, h1, h2, _ =>
        refine wpAny_mono (flat v1 y1) (fun r s2 q2 => ?_) fun _ _ x => x
        obtain ⟨rfl, rfl⟩ := q2
        by_cases c : b = b'
        · exact .inl ⟨decide_eq_true c, .inl ⟨by decide, I1, fun _ => ca (by decide), fun _ => c⟩⟩
        · exact .inr ⟨decide_eq_false c, .bl false, H, I1, rfl, qf fun z => c z.2⟩
      | 2, h1, h2, _ =>
        show wpAny (model X.prog X.w) X.A.in1 (eqBool u2 w2) _ X.xe s'
        cases v2
        cases y2
        have hsp' := hsp (ca (by decide)) (cb (by decide))
        refine GQ.eqBool_refG npq ?_
        obtain ⟨mA, J, _⟩ := ins_get I1.hok hp
        obtain ⟨mB, J', _⟩ := ins_get I1.hok hq'
        obtain ⟨od, J, _⟩ := J.look
        obtain ⟨od', J', _⟩ := J'.look
        obtain ⟨m, hF⟩ := I1.fr
        have hri := hr.in1
        refine PySem.W.cmp_K (op := .Eq) (tb := .ref C) hri.units0 hF I1.ok.mod.kin J J'.type (by simp [PySem.W.notFirst]) hs hf ?_
        have e0 : Env0 X.prog X.w X.K X.mg X.base X.A.in1 X.stack s' H := by
          have e := I1.env0
          exact ⟨e.frames, e.mod, e.bs, e.bsz, e.funs, e.frf, e.hok, e.bare⟩
        have hl := F.len _ _ _ _ hsp'
        have rr : Vals [V.ref p, V.ref q] [Value.ref p, Value.ref q] := .cons rfl (.cons rfl .nil)
        refine wpAny_call (codeAny_mono (F.run X.A.in1 X.stack s' H ⟨[.ref p, .ref q], []⟩ [.ref p, .ref q] [.ref p, .ref q] _ E hri e0 (by
          have := hb s' [.ref p, .ref q] I1.kIn (by simpa using hl)
          simpa using this) rr hsp') fun r s' hq => ?_)
        cases r with
        | error e => exact hx pins σ H _ e s' I1 hq
        | ok fl =>
          cases fl with
          | ret w =>
            obtain ⟨z, H', I', rz, c, ez, q⟩ := I1.after hq
            subst ez
            cases rz
            cases c
            · exact ⟨false, rfl, .inr ⟨rfl, .bl false, H', I', rfl, q⟩⟩
            · exact ⟨true, rfl, .inl ⟨rfl, .inr ⟨rfl, .bl true, H', I', rfl, q⟩⟩⟩
          | next => exact False.elim hq
          | brk => exact False.elim hq
          | cont => exact False.elim hq
    · exact absurd (show 3 < 3 from h1) (by decide)

end My
namespace My
open PySem PySem.Spec L2
local macro_rules | `(tactic| walk_at "side") => `(tactic| first | assumption | decide | omega | exact ⟨by decide, by decide⟩ | exact ⟨by decide, by decide, by decide⟩ | decide +kernel | exact cdivW (by decide +kernel) (by decide +kernel) | exact Or.inl ⟨by omega, by omega⟩ | exact Or.inr ⟨by omega, by omega⟩ | (simp only [List.length_map, List.length_cons, List.length_nil, List.length_append]; omega))
local macro_rules | `(tactic| walk_at "fact") => `(tactic| first | assumption | omega | with_reducible rfl)
local macro_rules | `(tactic| walk_at "use") => `(tactic| fail "use")
local macro_rules | `(tactic| walk_at "go1") => `(tactic| with_reducible first | refine g_seq ?_ | refine g_asg ?_ | refine g_ret ?_ | refine g_ifS ?_ | refine g_drop ?_ | refine g_star ?_ | refine g_nx ?_ | refine g_rt ?_ | refine g_bkE ?_ | refine g_ctE ?_ | refine g_next ?_ | refine g_retN ?_ | refine g_brk ?_ | refine g_ct ?_ | refine g_c ?_ | refine g_op ?_ | refine g_un ?_ | refine g_rI0 ?_ | refine g_rU ?_ | refine g_rEqI ?_ | refine g_rNeI ?_ | refine g_isN ?_ | refine g_rIsB ?_ | refine g_rNotB ?_ | refine g_test ?_ | refine g_B ?_ | refine g_bl ?_ | refine g_and ?_ | refine g_or ?_ | refine g_not ?_ | refine g_andV ?_ | refine g_orV ?_ | refine g_notV ?_ | refine g_if ?_ | refine g_chain ?_ | refine g_yes ?_ | refine g_lc ?_ | refine g_revR ?_ | refine g_rng1 ?_ | refine g_iList ?_ | refine g_nil ?_ | refine g_cons ?_ | refine g_tup ?_ | refine g_lst ?_ | refine g_call ?_ | refine g_CB ?_ | refine g_sl ?_ | refine g_noPart ?_ | refine g_part ?_ | refine g_intE ?_ | refine g_ref ?_ | refine g_fld ?_ | refine g_sfld ?_ | refine g_meth ?_ | refine g_make ?_ | refine g_prop ?_  | refine g_ipI ?_ | refine g_int1 ?_ | refine g_int1B ?_ | refine g_one ?_ | refine g_two ?_ | refine g_isiI ?_ | refine g_isiIB ?_ | refine g_isiB ?_ | refine g_BM ?_ | refine g_BM0 ?_ | refine g_sub ?_)
local macro_rules | `(tactic| walk_at "go") => `(tactic| repeat (first | walk_at "go1" | ((with_reducible refine' g_nameE ?sd_ ?_); case sd_ => dsimp only [List.set_cons_succ, List.set_cons_zero]) | ((with_reducible refine' g_var ?sd_ ?_); case sd_ => exact rfl) | ((with_reducible refine' g_aug ?sd_ ?_); case sd_ => exact rfl) | ((with_reducible refine' g_rI ?sd_ ?_); case sd_ => walk_at "side") | ((with_reducible refine' g_dT ?sd_ ?_); case sd_ => walk_at "fact") | ((with_reducible refine' g_dF ?sd_ ?_); case sd_ => walk_at "fact") | ((with_reducible refine' g_nT ?sd_ ?_); case sd_ => walk_at "fact") | ((with_reducible refine' g_nF ?sd_ ?_); case sd_ => walk_at "fact") | (with_reducible refine g_iT rfl ?_) | (with_reducible refine g_iF rfl ?_) | walk_at "use"))
local macro_rules | `(tactic| walk_at "nw") => `(tactic| (generalize zq : upd _ _ _ = Hq; have sq : Same _ Hq := (by rw [← zq]; exact same_upd (by assumption)); have kq := (congrFun zq _).symm.trans upd_same; clear zq))
local macro_rules | `(tactic| walk_at "bt") => `(tactic| (generalize zq : upd _ _ _ = Hq; have bq : But _ _ Hq := (by rw [← zq]; exact But.refl.upd); have kq := (congrFun zq _).symm.trans upd_same; clear zq))
local macro_rules | `(tactic| walk_at "use") => `(tactic| first | ((with_reducible refine' fd_Rule_fault ?ho_ ?hv_ ?_); (case ho_ => first | assumption | exact upd_same); (case hv_ => exact rfl)) | ((with_reducible refine' fd_Rule_amount ?ho_ ?hv_ ?_); (case ho_ => first | assumption | exact upd_same); (case hv_ => exact rfl)) | ((with_reducible refine' fd_Rule_until ?ho_ ?hv_ ?_); (case ho_ => first | assumption | exact upd_same); (case hv_ => exact rfl)) | ((with_reducible refine' fd_Rule_sender ?ho_ ?hv_ ?_); (case ho_ => first | assumption | exact upd_same); (case hv_ => exact rfl)) | ((with_reducible refine' fd_Rule_target ?ho_ ?hv_ ?_); (case ho_ => first | assumption | exact upd_same); (case hv_ => exact rfl)) | ((with_reducible refine' fd_Rule_ticks ?ho_ ?hv_ ?_); (case ho_ => first | assumption | exact upd_same); (case hv_ => exact rfl)) | ((with_reducible refine' fd_Rule_nth ?ho_ ?hv_ ?_); (case ho_ => first | assumption | exact upd_same); (case hv_ => exact rfl)) | ((with_reducible refine' fd_Rule_chance ?ho_ ?hv_ ?_); (case ho_ => first | assumption | exact upd_same); (case hv_ => exact rfl)) | ((with_reducible refine' nw_Rule_fault ?ho_ ?hv_ ?_); (case ho_ => first | assumption | exact upd_same); (case hv_ => exact rfl)) | ((with_reducible refine' nw_Rule_amount ?ho_ ?hv_ ?_); (case ho_ => first | assumption | exact upd_same); (case hv_ => exact rfl)) | ((with_reducible refine' nw_Rule_until ?ho_ ?hv_ ?_); (case ho_ => first | assumption | exact upd_same); (case hv_ => exact rfl)) | ((with_reducible refine' nw_Rule_sender ?ho_ ?hv_ ?_); (case ho_ => first | assumption | exact upd_same); (case hv_ => exact rfl)) | ((with_reducible refine' nw_Rule_target ?ho_ ?hv_ ?_); (case ho_ => first | assumption | exact upd_same); (case hv_ => exact rfl)) | ((with_reducible refine' nw_Rule_ticks ?ho_ ?hv_ ?_); (case ho_ => first | assumption | exact upd_same); (case hv_ => exact rfl)) | ((with_reducible refine' nw_Rule_nth ?ho_ ?hv_ ?_); (case ho_ => first | assumption | exact upd_same); (case hv_ => exact rfl)) | ((with_reducible refine' nw_Rule_chance ?ho_ ?hv_ ?_); (case ho_ => first | assumption | exact upd_same); (case hv_ => exact rfl)) | ((with_reducible refine' st_Rule_fault ?ho_ ?hv_ ?_); (case ho_ => first | assumption | exact upd_same); (case hv_ => exact Nat.le_of_ble_eq_true rfl)) | ((with_reducible refine' st_Rule_amount ?ho_ ?hv_ ?_); (case ho_ => first | assumption | exact upd_same); (case hv_ => exact Nat.le_of_ble_eq_true rfl)) | ((with_reducible refine' st_Rule_until ?ho_ ?hv_ ?_); (case ho_ => first | assumption | exact upd_same); (case hv_ => exact Nat.le_of_ble_eq_true rfl)) | ((with_reducible refine' st_Rule_sender ?ho_ ?hv_ ?_); (case ho_ => first | assumption | exact upd_same); (case hv_ => exact Nat.le_of_ble_eq_true rfl)) | ((with_reducible refine' st_Rule_target ?ho_ ?hv_ ?_); (case ho_ => first | assumption | exact upd_same); (case hv_ => exact Nat.le_of_ble_eq_true rfl)) | ((with_reducible refine' st_Rule_ticks ?ho_ ?hv_ ?_); (case ho_ => first | assumption | exact upd_same); (case hv_ => exact Nat.le_of_ble_eq_true rfl)) | ((with_reducible refine' st_Rule_nth ?ho_ ?hv_ ?_); (case ho_ => first | assumption | exact upd_same); (case hv_ => exact Nat.le_of_ble_eq_true rfl)) | ((with_reducible refine' st_Rule_chance ?ho_ ?hv_ ?_); (case ho_ => first | assumption | exact upd_same); (case hv_ => exact Nat.le_of_ble_eq_true rfl)) | ((with_reducible refine' me_Rule_considers ?ho_ ?_); (case ho_ => first | assumption | exact upd_same)) | ((with_reducible refine' me_Rule_eq__ ?ho_ ?_); (case ho_ => first | assumption | exact upd_same)) | ((with_reducible refine' me_Rule_fields ?ho_ ?_); (case ho_ => first | assumption | exact upd_same)))
local macro_rules | `(tactic| walk_at "use") => `(tactic| first | ((with_reducible refine' fd_Packet_sender ?ho_ ?hv_ ?_); (case ho_ => first | assumption | exact upd_same); (case hv_ => exact rfl)) | ((with_reducible refine' fd_Packet_target ?ho_ ?hv_ ?_); (case ho_ => first | assumption | exact upd_same); (case hv_ => exact rfl)) | ((with_reducible refine' fd_Packet_octets ?ho_ ?hv_ ?_); (case ho_ => first | assumption | exact upd_same); (case hv_ => exact rfl)) | ((with_reducible refine' fd_Packet_marked ?ho_ ?hv_ ?_); (case ho_ => first | assumption | exact upd_same); (case hv_ => exact rfl)) | ((with_reducible refine' nw_Packet_sender ?ho_ ?hv_ ?_); (case ho_ => first | assumption | exact upd_same); (case hv_ => exact rfl)) | ((with_reducible refine' nw_Packet_target ?ho_ ?hv_ ?_); (case ho_ => first | assumption | exact upd_same); (case hv_ => exact rfl)) | ((with_reducible refine' nw_Packet_octets ?ho_ ?hv_ ?_); (case ho_ => first | assumption | exact upd_same); (case hv_ => exact rfl)) | ((with_reducible refine' nw_Packet_marked ?ho_ ?hv_ ?_); (case ho_ => first | assumption | exact upd_same); (case hv_ => exact rfl)) | ((with_reducible refine' st_Packet_sender ?ho_ ?hv_ ?_); (case ho_ => first | assumption | exact upd_same); (case hv_ => exact Nat.le_of_ble_eq_true rfl)) | ((with_reducible refine' st_Packet_target ?ho_ ?hv_ ?_); (case ho_ => first | assumption | exact upd_same); (case hv_ => exact Nat.le_of_ble_eq_true rfl)) | ((with_reducible refine' st_Packet_octets ?ho_ ?hv_ ?_); (case ho_ => first | assumption | exact upd_same); (case hv_ => exact Nat.le_of_ble_eq_true rfl)) | ((with_reducible refine' st_Packet_marked ?ho_ ?hv_ ?_); (case ho_ => first | assumption | exact upd_same); (case hv_ => exact Nat.le_of_ble_eq_true rfl)) | ((with_reducible refine' me_Packet_fork ?ho_ ?_); (case ho_ => first | assumption | exact upd_same)) | ((with_reducible refine' me_Packet_eq__ ?ho_ ?_); (case ho_ => first | assumption | exact upd_same)) | ((with_reducible refine' me_Packet_fields ?ho_ ?_); (case ho_ => first | assumption | exact upd_same)))
local macro_rules | `(tactic| walk_at "use") => `(tactic| first | ((with_reducible refine' fd_Flight_number ?ho_ ?hv_ ?_); (case ho_ => first | assumption | exact upd_same); (case hv_ => exact rfl)) | ((with_reducible refine' fd_Flight_birth ?ho_ ?hv_ ?_); (case ho_ => first | assumption | exact upd_same); (case hv_ => exact rfl)) | ((with_reducible refine' fd_Flight_packet ?ho_ ?hv_ ?_); (case ho_ => first | assumption | exact upd_same); (case hv_ => exact rfl)) | ((with_reducible refine' nw_Flight_number ?ho_ ?hv_ ?_); (case ho_ => first | assumption | exact upd_same); (case hv_ => exact rfl)) | ((with_reducible refine' nw_Flight_birth ?ho_ ?hv_ ?_); (case ho_ => first | assumption | exact upd_same); (case hv_ => exact rfl)) | ((with_reducible refine' nw_Flight_packet ?ho_ ?hv_ ?_); (case ho_ => first | assumption | exact upd_same); (case hv_ => exact rfl)) | ((with_reducible refine' st_Flight_number ?ho_ ?hv_ ?_); (case ho_ => first | assumption | exact upd_same); (case hv_ => exact Nat.le_of_ble_eq_true rfl)) | ((with_reducible refine' st_Flight_birth ?ho_ ?hv_ ?_); (case ho_ => first | assumption | exact upd_same); (case hv_ => exact Nat.le_of_ble_eq_true rfl)) | ((with_reducible refine' st_Flight_packet ?ho_ ?hv_ ?_); (case ho_ => first | assumption | exact upd_same); (case hv_ => exact Nat.le_of_ble_eq_true rfl)) | ((with_reducible refine' me_Flight_eq__ ?ho_ ?_); (case ho_ => first | assumption | exact upd_same)))
local macro_rules | `(tactic| walk_at "use") => `(tactic| first | ((with_reducible refine' fd_Record_tick ?ho_ ?hv_ ?_); (case ho_ => first | assumption | exact upd_same); (case hv_ => exact rfl)) | ((with_reducible refine' fd_Record_number ?ho_ ?hv_ ?_); (case ho_ => first | assumption | exact upd_same); (case hv_ => exact rfl)) | ((with_reducible refine' fd_Record_word ?ho_ ?hv_ ?_); (case ho_ => first | assumption | exact upd_same); (case hv_ => exact rfl)) | ((with_reducible refine' fd_Record_packet ?ho_ ?hv_ ?_); (case ho_ => first | assumption | exact upd_same); (case hv_ => exact rfl)) | ((with_reducible refine' nw_Record_tick ?ho_ ?hv_ ?_); (case ho_ => first | assumption | exact upd_same); (case hv_ => exact rfl)) | ((with_reducible refine' nw_Record_number ?ho_ ?hv_ ?_); (case ho_ => first | assumption | exact upd_same); (case hv_ => exact rfl)) | ((with_reducible refine' nw_Record_word ?ho_ ?hv_ ?_); (case ho_ => first | assumption | exact upd_same); (case hv_ => exact rfl)) | ((with_reducible refine' nw_Record_packet ?ho_ ?hv_ ?_); (case ho_ => first | assumption | exact upd_same); (case hv_ => exact rfl)) | ((with_reducible refine' st_Record_tick ?ho_ ?hv_ ?_); (case ho_ => first | assumption | exact upd_same); (case hv_ => exact Nat.le_of_ble_eq_true rfl)) | ((with_reducible refine' st_Record_number ?ho_ ?hv_ ?_); (case ho_ => first | assumption | exact upd_same); (case hv_ => exact Nat.le_of_ble_eq_true rfl)) | ((with_reducible refine' st_Record_word ?ho_ ?hv_ ?_); (case ho_ => first | assumption | exact upd_same); (case hv_ => exact Nat.le_of_ble_eq_true rfl)) | ((with_reducible refine' st_Record_packet ?ho_ ?hv_ ?_); (case ho_ => first | assumption | exact upd_same); (case hv_ => exact Nat.le_of_ble_eq_true rfl)) | ((with_reducible refine' me_Record_eq__ ?ho_ ?_); (case ho_ => first | assumption | exact upd_same)))
section
variable {P : Program} {w : World} {K : PySem.W.Frag} {mg : Str → Option Value} {base : Heap}
/-! ### x == y by an own __eq__, whatever it answers -/
def rEqO (C : Addr) (OK : V → Hp → Prop) (sp : Sp) (E : XK) : R2 := fun x y H Q => ∃ a dx fs, x = .ref a ∧ H a = some (.ins C dx fs) ∧ OK y H ∧ sp [x, y] H (fun v H' => ∃ b, v = .bl b ∧ Q (.bl b) H') E
/-- what may stand on the right: an instance of the class, or an int -/
def EqR (C : Addr) : V → Hp → Prop := fun y H => (∃ b dy gs, y = .ref b ∧ H b = some (.ins C dy gs)) ∨ ∃ i, y = .int i
theorem op_eqO {X : Cx} {CX : CXT} {n : Nat} {C f : Addr} {fd : FuncData} {ps : List Str} {sp : Sp} {E : XK} (F : FnOk X.prog X.w X.K X.mg X.base CX n f fd ps sp) (hr : Room n X.A)
    (hm : Meth X.K C "__eq__" f) (hi : PySem.W.subIn X.K (.type "int") (.ref C) = some false) (hb : Binds X.K fd ps []) (hx : Passes CX X E) : OpR X (compareOp .Eq) (rEqO C (EqR C) sp E) := by
  obtain ⟨hs, hf, _⟩ := hm
  intro pins s σ H x y v u Q I rx ry hq
  obtain ⟨a, dx, fs, rfl, ha, hy, hsp⟩ := hq
  cases rx
  show wpAny (model X.prog X.w) X.A (richCompare .Eq (.ref a) u) (EP X pins σ Q) X.xe s
  obtain ⟨mA, J, _⟩ := ins_get I.hok ha
  obtain ⟨od, J, _⟩ := J.look
  obtain ⟨m, hF⟩ := I.fr
  have hl := F.len _ _ _ _ hsp
  have r2 : Vals [V.ref a, y] [Value.ref a, u] := .cons rfl (.cons ry .nil)
  have main : wpAny (model X.prog X.w) X.A (call (.ref f) [.ref a, u]) (PySem.W.CmpBack (EP X pins σ Q)) X.xe s := by
    refine wpAny_call (codeAny_mono (F.run X.A X.stack s H ⟨[.ref a, u], []⟩ [.ref a, u] [.ref a, y] _ E hr I.env0 (by
      have := hb s [.ref a, u] I.kIn (by simpa using hl)
      simpa using this) r2 hsp) fun r s' hq => ?_)
    cases r with
    | error e => exact hx pins σ H s e s' I hq
    | ok fl =>
      cases fl with
      | ret w =>
        obtain ⟨z, H', I', rz, b, ez, q⟩ := I.after hq
        subst ez
        cases rz
        exact ⟨.bl b, H', I', rfl, q⟩
      | next => exact False.elim hq
      | brk => exact False.elim hq
      | cont => exact False.elim hq
  rcases hy with ⟨b, dy, gs, rfl, hb'⟩ | ⟨i, rfl⟩
  · cases ry
    obtain ⟨mB, J', _⟩ := ins_get I.hok hb'
    obtain ⟨od', J', _⟩ := J'.look
    exact PySem.W.cmp_K (op := .Eq) (tb := .ref C) hr.units0 hF I.ok.mod.kin J J'.type (by simp [PySem.W.notFirst]) hs hf main
  · obtain ⟨t, rfl⟩ := ry
    exact PySem.W.cmp_K (op := .Eq) (tb := .type "int") hr.units0 hF I.ok.mod.kin J (PySem.W.Looks.of_pure rfl) (by unfold PySem.W.notFirst; rw [hi]; rfl) hs hf main
theorem kit_own {K : PySem.W.Frag} {T : String} {C : Addr} (a : PySem.W.isClsIn K C = true) (b : PySem.W.typeIn K (.ref C) = some (.type "type")) (c : PySem.W.subIn K (.type T) (.ref C) = some false) : PySem.W.kitOne K (.type T) (.ref C) = some false := by
  unfold PySem.W.isClsIn at a
  unfold PySem.W.kitOne
  rw [if_neg (by show ¬ (Value.type T == Value.ref C) = true; exact fun h => by cases (beq_iff_eq.mp h))]
  show (if ((PySem.W.clsIn K C).isSome && PySem.W.typeIn K (.ref C) == some (.type "type")) = true then PySem.W.subIn K (.type T) (.ref C) else none) = some false
  rw [a, b, if_pos (by rw [Bool.true_and]; exact beq_self_eq_true _)]
  exact c

theorem kb_pure {K : PySem.W.Frag} {x qual : Str} {params : Arguments} {body : List Stmt} {scope : Scope} {kws : List (Str × V)} {f : Addr} {fd : FuncData} {ps : List Str} (F : FunD K x qual params body scope [] kws f fd) (n : Nat) (ks : List Str) (g : {α : Type} → List α → List α → List α)
    (hrel : ∀ {vs zs : List V} {us ws : List Value}, Vals vs us → Vals zs ws → Vals (g vs zs) (g us ws))
    (h : ∀ (kV doc pm : Value) (an : Option Addr) (cdv ct : Value) (us ws : List Value), us.length = n → ws.length = ks.length → bindArgs (PySem.W.fnOf x qual params body scope .none kV doc pm an cdv ct) ⟨us, ks.zip ws⟩ = pure (ps.zip (g us ws))) :
    KBn K fd ps n ks (fun us ws => g us ws) (fun vs zs => g vs zs) := by
  obtain ⟨oc, od, dV, kV, doc, pm, an, cdv, ct, osl, rfl, lk, hcd, hD, hK⟩ := F.ex
  rcases hD with ⟨_, rfl⟩ | ⟨e, _⟩
  · exact ⟨fun s us ws X l1 l2 => .of_eq (h kV doc pm an cdv ct us ws l1 l2), fun r1 r2 => hrel r1 r2⟩
  · exact absurd rfl e
theorem pe_callN0 {X : Cx} {CX : CXT} {k : Nat} {f : Addr} {fd : FuncData} {ps ks : List Str} {sp : Sp} {E : XK} {x : Str} {p pos : Pos} {kws : List Keyword} {tk : TA} {g : List Value → List Value → List Value} {gV : List V → List V → List V} (F : FnOk X.prog X.w X.K X.mg X.base CX k f fd ps sp) (hr : Room k X.A) (hg : Gl X x) (hm : X.mg x = some (.ref f)) (hk : PySem.W.keepIn X.K (.ref f) = true) (hb : KBn X.K fd ps 0 ks g gV) (hx : Passes CX X E)
    (hkw : PK X kws tk) (hall : (backToKw pos (keywordEach kws X.env)).all (·.1.isSome) = true := by rfl) (hks : (backToKw pos (keywordEach kws X.env)).filterMap (·.1) = ks := by rfl)
    (hdb : (x == ("__debug__" : Str)) = false := by decide)
    (hpl : ((backTo pos (starEach [] X.env)).any (·.1) || (backToKw pos (keywordEach kws X.env)).any (·.1.isNone)) = false := by rfl) :
    PE X (.Call (.Name x p) [] kws pos) (tCallN 0 ks.length sp gV E tNil tk) := by
  refine ⟨fun pins s σ H Q I h => ?_⟩
  refine wpAny_Call_Name_kw (ld_glob I hg hm ?_ hdb)
  refine PySem.W.callWith_KW0 (h₀ := X.base) I.ok.mod.kin hk hall ?_ hpl
  refine thn (hkw.run pos pins s σ H _ I h) fun ws s2 ⟨zs, H2, I2, rz, l1, l2, q2⟩ => ⟨I2.kIn, ?_⟩
  rw [hks]
  exact run_fnN (us := []) (vs := []) F hr hb hx I2 .nil rz rfl l2 q2
theorem g_callN {n m : Nat} {sp : Sp} {gV : List V → List V → List V} {E : XK} {t tk : TA} {σ : St} {H : Hp} {Q : VK} (h : t σ H fun vs H1 => tk σ H1 fun zs H2 => vs.length = n ∧ zs.length = m ∧ sp (gV vs zs) H2 Q E) : tCallN n m sp gV E t tk σ H Q := h
local macro_rules | `(tactic| walk_at "use") => `(tactic| with_reducible refine g_callN ?_)

theorem g_makeK {C : Addr} {n m : Nat} {sp : Sp} {gV : List V → List V → List V} {E : XK} {t tk : TA} {σ : St} {H : Hp} {Q : VK} (h : t σ H fun vs H1 => tk σ H1 fun zs H2 => vs.length = n ∧ zs.length = m ∧
  ∀ x dx, H2 x = none → H2 dx = none → dx ≠ x → sp (gV (.ref x :: vs) zs) (upd (upd H2 dx (.own x)) x (.ins C dx [])) (fun v H3 => v = .non ∧ Q (.ref x) H3) E) : tMakeK C n m sp gV E t tk σ H Q := h
local macro_rules | `(tactic| walk_at "use") => `(tactic| with_reducible refine g_makeK ?_)

def sp_l_cell (K : PySem.W.Frag) : Sp := fun vs H Q _ => ∃ (a : Addr) (ns : List Int) (k : Int), vs = [.ref a, .int k] ∧ SqL K H a (ns.map V.int) ∧ 0 ≤ k ∧ Q (.int (cell ns k)) H
theorem u_cell {a : Addr} {ns : List Int} {k : Int} {H Q E} (h : SqL K H a (ns.map V.int)) (h0 : 0 ≤ k) (q : Q (.int (cell ns k)) H) : sp_l_cell K ([.ref a, .int k] ++ []) H Q E := ⟨a, ns, k, rfl, h, h0, q⟩
theorem ok_l_cell (T : Txt K mg) : FnOk P w K mg base CX0 1 T.f_l_cell T.d_l_cell ["script", "k"] (sp_l_cell K) := by
  refine T.F_l_cell.ok sc_l_cell (fun vs H Q E h => ?_) (fun cdv A outer s H vs Q E hr h => ?_)
  · obtain ⟨a, ns, k, rfl, hS, h0, q⟩ := h
    rfl
  · obtain ⟨a, ns, k, rfl, hS, h0, q⟩ := h
    have hu := hu_of hr
    refine ⟨_, (pss_cons (ps_if (pt_cmpR op_lt (pv 1) (pe_callB call_len_seq (by rfl) T.n_len (by decide +kernel) (pa_cons (pv 0) pa_nil)) (nomark _)) (pss_one (ps_ret (pe_ix ix_list (pv 0) (pv 1) (fun _ _ => rfl)))) pss_nil)
        (pss_one (ps_ret pe_int))), ?_⟩
    dsimp only [cxOf, Cx.nox, Cx.wish, L2.start, List.map, List.cons_append, List.nil_append, List.length_cons, List.length_nil, Nat.reduceAdd, Nat.reduceSub, Nat.zero_add, List.replicate_succ, List.replicate_zero]
    walk_at "go"
    refine g_len (.inl hS) ?_
    walk_at "go"
    rw [List.length_map]
    refine g_ite (fun h => ?_) (fun h => ?_)
    · walk_at "go"
      refine g_ixL hS (atI_map h0 h) ?_
      exact q
    · walk_at "go"
      rw [cell_out h] at q
      exact q
local macro_rules | `(tactic| walk_at "use") => `(tactic| with_reducible refine u_cell (by assumption) (by decide) ?_)

def sp_l_start (K : PySem.W.Frag) : Sp := fun vs H Q _ => ∃ c k : Int, vs = [.int c, .int k] ∧ ∀ p n, H p = none → Q (.ref p) (upd H p (.lst [.int n]))
theorem u_start {c k : Int} {H Q E} (q : ∀ p n, H p = none → Q (.ref p) (upd H p (.lst [.int n]))) : sp_l_start K ([.int c, .int k] ++ []) H Q E := ⟨c, k, rfl, q⟩
theorem one_ok : 1 ≤ sizeLine := by decide
theorem abs_mod {a : Int} : (a % 618970019642690137449562111).natAbs < 2 ^ 89 := by omega
theorem ok_l_start (T : Txt K mg) : FnOk P w K mg base CX0 1 T.f_l_start T.d_l_start ["cell", "k"] (sp_l_start K) := by
  refine T.F_l_start.ok sc_l_start (fun vs H Q E h => ?_) (fun cdv A outer s H vs Q E hr h => ?_)
  · obtain ⟨c, k, rfl, q⟩ := h
    rfl
  · obtain ⟨c, k, rfl, q⟩ := h
    have hu := hu_of hr
    refine ⟨_, (pss_cons (ps_set (i := 2) sc_l_start.nd rfl (Or.inl rfl) pe_int)
        (pss_cons (ps_if (pt_chain op_lt op_lt (pe_un un_neg pe_int) (pv 0) pe_int) (pss_cons (ps_set (i := 3) sc_l_start.nd rfl (Or.inl rfl) (pe_op op_mod (pe_callTy call_int1 (by rfl) T.n_int (by decide +kernel) (pa_cons (pe_op op_add (pe_op op_mul (pv 0) pe_int) (pe_op op_mul (pe_op op_add (pv 1) pe_int) pe_int)) pa_nil)) (pv 2)))
        (pss_one (ps_ret (pe_lst (pa_cons (pe_op op_mod (pe_callTy call_int1 (by rfl) T.n_int (by decide +kernel) (pa_cons (pe_op op_add (pe_op op_add (pe_op op_mulW (pv 3) (pv 3)) (pe_op op_mul pe_int (pv 3))) (pv 1)) pa_nil)) (pv 2)) pa_nil))))) pss_nil)
        (pss_one (ps_ret (pe_lst (pa_cons (pv 0) pa_nil)))))), ?_⟩
    dsimp only [cxOf, Cx.nox, Cx.wish, L2.start, List.map, List.cons_append, List.nil_append, List.length_cons, List.length_nil, Nat.reduceAdd, Nat.reduceSub, Nat.zero_add, List.replicate_succ, List.replicate_zero]
    walk_at "go"
    refine g_ite (fun c1 => ?_) (fun c1 => ?_)
    · walk_at "go"
      refine g_ite (fun c2 => ?_) (fun c2 => ?_)
      · walk_at "go"
        refine g_rI (wide_mul abs_mod abs_mod (by decide) (by decide) (by decide)) ?_
        walk_at "go"
        exact ⟨one_ok, fun p hp => q p _ hp⟩
      · walk_at "go"
        exact ⟨one_ok, fun p hp => q p _ hp⟩
    · walk_at "go"
      exact ⟨one_ok, fun p hp => q p _ hp⟩
theorem lt8000 {m : Int} (h : m < 18446744073709551616) : m < 2 ^ 8000 := Int.lt_trans h (by decide +kernel)
def sp_l_digit (K : PySem.W.Frag) : Sp := fun vs H Q _ => ∃ (p : Addr) (n m : Int), vs = [.ref p, .int m] ∧ H p = some (.lst [.int n]) ∧ 0 < m ∧ m < 18446744073709551616 ∧ Q (.int (n % m)) (upd H p (.lst [.int (n / m)]))
theorem u_digit {p : Addr} {n m : Int} {H Q E} (h : H p = some (.lst [.int n])) (h0 : 0 < m) (h1 : m < 18446744073709551616) (q : Q (.int (n % m)) (upd H p (.lst [.int (n / m)]))) : sp_l_digit K ([.ref p, .int m] ++ []) H Q E := ⟨p, n, m, rfl, h, h0, h1, q⟩
theorem ok_l_digit (T : Txt K mg) : FnOk P w K mg base CX0 1 T.f_l_digit T.d_l_digit ["state", "many"] (sp_l_digit K) := by
  refine T.F_l_digit.ok sc_l_digit (fun vs H Q E h => ?_) (fun cdv A outer s H vs Q E hr h => ?_)
  · obtain ⟨p, n, m, rfl, hp, h0, h1, q⟩ := h
    rfl
  · obtain ⟨p, n, m, rfl, hp, h0, h1, q⟩ := h
    have hu := hu_of hr
    refine ⟨_, (pss_cons (ps_set (i := 2) sc_l_digit.nd rfl (Or.inl rfl) (pe_op op_mod (pe_callTy call_int1 (by rfl) T.n_int (by decide +kernel) (pa_cons (pe_ix ix_list (pv 0) pe_int (fun _ _ => rfl)) pa_nil)) (pv 1)))
        (pss_cons (ps_asg (pe_op op_fdivW (pe_ix ix_list (pv 0) pe_int (fun _ _ => rfl)) (pv 1)) (pg_sub (pv 0) pe_int set_list))
        (pss_one (ps_ret (pv 2))))), ?_⟩
    dsimp only [cxOf, Cx.nox, Cx.wish, L2.start, List.map, List.cons_append, List.nil_append, List.length_cons, List.length_nil, Nat.reduceAdd, Nat.reduceSub, Nat.zero_add, List.replicate_succ, List.replicate_zero]
    walk_at "go"
    refine g_ixL (sl hp) (at_of (j := 0) rfl rfl) ?_
    walk_at "go"
    refine g_ixL (sl hp) (at_of (j := 0) rfl rfl) ?_
    walk_at "go"
    refine g_rI (cdivW h0 (lt8000 h1)) ?_
    walk_at "go"
    refine g_setL (j := 0) hp rfl ?_
    walk_at "go"
    exact q

/-- [_law_digit(state, m) for j in range(cnt)] -/
theorem lc_digs {σ : St} {H1 : Hp} {p : Addr} {n m : Int} {cnt is j : Nat} {D : Addr} {Qd : Hp → Prop} (hD : H1 D = none) (hp : H1 p = some (.lst [.int n])) (h0 : 0 < m) (h1 : m < 18446744073709551616) (hc : cnt ≤ 100000)
    (hσ : ∀ x, ((wipe σ [j]).set j (some x))[is]? = some (some (.ref p)))
    (q : ∀ (H' : Hp) (us : List Int) (n' : Int), But p H1 H' → H' D = some (.lst (us.map V.int)) → H' p = some (.lst [.int n']) → us.length = cnt → (∀ u ∈ us, 0 ≤ u ∧ u < m) → Qd H') :
    ∃ W : Nat → Nat → Hp → Prop, (∃ m, W 0 m (upd H1 D (.lst []))) ∧ ∀ i m0 H, W i m0 H →
      ((Itr 0 cnt).stop i H ∧ Qd H) ∨ ((Itr 0 cnt).go i H ∧ ∃ Nx : Hp → Prop, (∀ H', Nx H' → ∃ m', m' < m0 ∧ W (i + 1) m' H') ∧ ∀ x H', (Itr 0 cnt).yld i H x H' → gName j x (wipe σ [j]) H' fun σ2 H2 => wipe σ2 [j] = wipe σ [j] ∧ tYes σ2 H2 fun b H3 =>
        if b = true then tCall (sp_l_digit K) [] E0 (tCons (tVar is) (tCons (tC (.int m)) tNil)) σ2 H3 fun y H4 => ∃ acc, H4 D = some (.lst acc) ∧ acc.length < sizeLine ∧ Nx (upd H4 D (.lst (acc ++ [y]))) else Nx H3) := by
  have nDp : p ≠ D := ne_of_none hp hD
  refine lc_it walk_range (fun i H => But p H1 H ∧ ∃ (us : List Int) (n' : Int), H D = some (.lst (us.map V.int)) ∧ H p = some (.lst [.int n']) ∧ us.length = i ∧ (∀ u ∈ us, 0 ≤ u ∧ u < m)) ?_ (fun _ _ _ _ => trivial) ?_ ?_
  · refine ⟨But.of (same_upd hD), [], n, upd_same, (same_upd hD) _ _ hp, rfl, fun u z => nomatch z⟩
  · rintro i x H H' hi ⟨bt, us, n', hu, hn, hl, hb⟩ ⟨rfl, rfl⟩
    refine ⟨?_, ?_⟩
    · show ((σ.set j none).set j (some _)).set j none = σ.set j none
      rw [List.set_set, List.set_set]
    refine g_yes ?_
    refine iteT ?_
    refine g_call ?_
    refine g_cons ?_
    refine g_var (hσ _) ?_
    refine g_cons ?_
    refine g_c ?_
    refine g_nil ?_
    refine u_digit hn h0 h1 ?_
    refine ⟨us.map V.int, ?_, ?_, ?_⟩
    · rw [upd_ne (Ne.symm nDp)]
      exact hu
    · rw [List.length_map]
      exact szl (by omega)
    · refine ⟨?_, us ++ [n' % m], n' / m, ?_, ?_, ?_, ?_⟩
      · intro b o nb e
        by_cases z : b = D
        · rw [z, hD] at e; cases e
        · rw [upd_ne z, upd_ne nb]
          exact bt b o nb e
      · rw [upd_same, List.map_append]
        rfl
      · rw [upd_ne nDp, upd_same]
      · rw [List.length_append, hl]
        rfl
      · intro u hu
        rcases List.mem_append.mp hu with z | z
        · exact hb u z
        · rw [List.mem_singleton.mp z]
          exact ⟨Int.emod_nonneg _ (by omega), Int.emod_lt_of_pos _ h0⟩
  · rintro H ⟨bt, us, n', hu, hn, hl, hb⟩
    exact q H us n' bt hu hn hl hb

section
variable {K : PySem.W.Frag} {H : Hp} {Q : VK}
theorem dec_str {s t : Str} : decide (V.str s = V.str t) = decide (s = t) := decide_eq_decide.mpr ⟨V.str.inj, congrArg _⟩
theorem g_rEqS {s t : Str} (q : Q (.bl (decide (s = t))) H) : rEq (.str s) (.str t) H Q := g_rEq rfl (by rw [dec_str]; exact q)
theorem g_rNeS {s t : Str} (q : Q (.bl (!decide (s = t))) H) : rNe (.str s) (.str t) H Q := g_rNe rfl (by rw [dec_str]; exact q)
theorem inV_str {s : Str} : ∀ {ws : List Str}, inV (.str s) (ws.map V.str) = decide (s ∈ ws)
  | [] => (decide_eq_false (by simp)).symm
  | t :: ws => by
    show ((t == s) || inV (.str s) (ws.map V.str)) = _
    rw [inV_str, Bool.eq_iff_iff]
    simp only [Bool.or_eq_true, beq_iff_eq, decide_eq_true_eq, List.mem_cons]
    exact ⟨fun h => h.imp Eq.symm id, fun h => h.imp Eq.symm id⟩
theorem flat_strs : ∀ {ws : List Str}, (ws.map V.str).all flatV = true
  | [] => rfl
  | _ :: ws => flat_strs (ws := ws)
theorem g_inS {p : Addr} {ws : List Str} {s : Str} (h : SqT K H p (ws.map V.str)) (q : Q (.bl (decide (s ∈ ws))) H) : rIn K false (.str s) (.ref p) H Q :=
  ⟨p, _, rfl, .inr h, rfl, flat_strs, by rw [if_neg (by decide), inV_str]; exact q⟩
theorem g_isiS {s : Str} (q : Q (.bl true) H) : rIsi K [.str s, .ty "str"] H Q := g_isi (.ty _) (.base (.str _)) (kit_ty (by decide +kernel)) q
end
local macro_rules | `(tactic| walk_at "use") => `(tactic| with_reducible first | refine g_rEqS ?_ | refine g_rNeS ?_ | refine g_isiS ?_)

/-! ### lists of pairs in the heap -/
def tupP (p : Int × Int) : HO := .tup [.int p.1, .int p.2]
def Prs (H : Hp) (vs : List V) (ps : List (Int × Int)) : Prop := vs.length = ps.length ∧ ∀ (i : Nat) p, ps[i]? = some p → ∃ t, vs[i]? = some (V.ref t) ∧ H t = some (tupP p)
theorem Prs.nil {H : Hp} : Prs H [] [] := ⟨rfl, fun i p h => by simp at h⟩
theorem Prs.same {H H' : Hp} {vs : List V} {ps : List (Int × Int)} (h : Prs H vs ps) (s : Same H H') : Prs H' vs ps := ⟨h.1, fun i p e => by
  obtain ⟨t, h1, h2⟩ := h.2 i p e
  exact ⟨t, h1, s _ _ h2⟩⟩
theorem Prs.but {H H' : Hp} {vs : List V} {ps : List (Int × Int)} {a : Addr} {xs : List V} (h : Prs H vs ps) (s : But a H H') (e : H a = some (.lst xs)) : Prs H' vs ps := ⟨h.1, fun i p e2 => by
  obtain ⟨t, h1, h2⟩ := h.2 i p e2
  exact ⟨t, h1, s _ _ (fun z => by rw [z, e] at h2; cases h2) h2⟩⟩
theorem Prs.butD {H H' : Hp} {vs : List V} {ps : List (Int × Int)} {a : Addr} {kvs : List (Key × V)} (h : Prs H vs ps) (s : But a H H') (e : H a = some (.dK kvs)) : Prs H' vs ps := ⟨h.1, fun i p e2 => by
  obtain ⟨t, h1, h2⟩ := h.2 i p e2
  exact ⟨t, h1, s _ _ (fun z => by rw [z, e] at h2; cases h2) h2⟩⟩
theorem Prs.drop {H : Hp} {vs : List V} {ps : List (Int × Int)} (h : Prs H vs ps) (k : Nat) : Prs H (vs.drop k) (ps.drop k) := ⟨by rw [List.length_drop, List.length_drop, h.1], fun i p e => by
  rw [List.getElem?_drop] at e ⊢
  exact h.2 _ p e⟩
theorem Prs.take {H : Hp} {vs : List V} {ps : List (Int × Int)} (h : Prs H vs ps) (k : Nat) : Prs H (vs.take k) (ps.take k) := ⟨by rw [List.length_take, List.length_take, h.1], fun i p e => by
  rw [List.getElem?_take] at e ⊢
  split at e
  · rw [if_pos (by assumption)]
    exact h.2 _ p e
  · cases e⟩
theorem Prs.app {H : Hp} {vs us : List V} {ps qs : List (Int × Int)} (h : Prs H vs ps) (h' : Prs H us qs) : Prs H (vs ++ us) (ps ++ qs) := ⟨by rw [List.length_append, List.length_append, h.1, h'.1], fun i p e => by
  by_cases hi : i < ps.length
  · rw [List.getElem?_append_left hi] at e
    rw [List.getElem?_append_left (by rw [h.1]; exact hi)]
    exact h.2 i p e
  · rw [List.getElem?_append_right (by omega)] at e
    rw [List.getElem?_append_right (by rw [h.1]; omega), h.1]
    exact h'.2 _ p e⟩
theorem Prs.one {H : Hp} {t : Addr} {p : Int × Int} (h : H t = some (tupP p)) : Prs H [V.ref t] [p] := ⟨rfl, fun i q e => by
  match i, e with
  | 0, e => exact ⟨t, rfl, by rw [← Option.some.inj e]; exact h⟩⟩
theorem Prs.cons {H : Hp} {t : Addr} {p : Int × Int} {vs : List V} {ps : List (Int × Int)} (h : H t = some (tupP p)) (h' : Prs H vs ps) : Prs H (V.ref t :: vs) (p :: ps) := (Prs.one h).app h'
theorem Prs.set {H : Hp} {t : Addr} {p : Int × Int} {vs : List V} {ps : List (Int × Int)} (h' : Prs H vs ps) (j : Nat) (h : H t = some (tupP p)) : Prs H (vs.set j (V.ref t)) (ps.set j p) := ⟨by rw [List.length_set, List.length_set, h'.1], fun i q e => by
  by_cases hij : j = i
  · subst hij
    have hl : j < ps.length := by
      obtain ⟨z, _⟩ := List.getElem?_eq_some_iff.mp e
      rw [List.length_set] at z
      exact z
    rw [List.getElem?_set_self hl] at e
    rw [List.getElem?_set_self (by rw [h'.1]; exact hl)]
    exact ⟨t, rfl, by rw [← Option.some.inj e]; exact h⟩
  · rw [List.getElem?_set_ne hij] at e ⊢
    exact h'.2 i q e⟩
theorem cut_nat {xs : List V} {a b : Nat} (hab : a ≤ b) (hb : b ≤ xs.length) : cutV xs (some (a : Int)) (some (b : Int)) = (xs.drop a).take (b - a) := by
  unfold cutV
  rw [HT.sIx_nat, HT.sIx_nat, Nat.min_eq_left (a := a) (by omega), Nat.min_eq_left hb]
theorem cut_to {xs : List V} {b : Nat} (hb : b ≤ xs.length) : cutV xs none (some (b : Int)) = xs.take b := by
  unfold cutV
  rw [HT.sIx_none, HT.sIx_nat, Nat.min_eq_left hb, List.drop_zero, Nat.sub_zero]
theorem cut_from {xs : List V} {a : Nat} (ha : a ≤ xs.length) : cutV xs (some (a : Int)) none = xs.drop a := by
  unfold cutV
  rw [HT.sIx_nat, HT.sIx_none, Nat.min_eq_left ha]
  exact List.take_of_length_le (by rw [List.length_drop]; omega)
/-! == of lists of pairs -/
section
variable {K : PySem.W.Frag} {H : Hp}
def datP (p : Int × Int) : PyData := .tuple [.int p.1, .int p.2]
theorem dp_pair {t : Addr} {p : Int × Int} (h : H t = some (tupP p)) : Dp K H (.ref t) (datP p) := .tup (st h) (.cons (.int _) (.cons (.int _) .nil))
theorem dpAll_pairs : ∀ {vs : List V} {ps : List (Int × Int)}, Prs H vs ps → DpAll K H vs (ps.map datP)
  | [], [], _ => .nil
  | [], _ :: _, h => by have := h.1; simp at this
  | _ :: _, [], h => by have := h.1; simp at this
  | v :: vs, p :: ps, h => by
    obtain ⟨t, h1, h2⟩ := h.2 0 p rfl
    have e : v = V.ref t := Option.some.inj h1
    subst e
    exact .cons (dp_pair h2) (dpAll_pairs (h.drop 1))
theorem lay_pairs : ∀ {ps : List (Int × Int)}, PyData.canLayAll0 (ps.map datP) = true
  | [] => rfl
  | p :: ps => by
    show ((true && (true && true)) && PyData.canLayAll0 (ps.map datP)) = true
    rw [lay_pairs]; rfl
theorem depth_pairs : ∀ {ps : List (Int × Int)}, PyData.depthAll (ps.map datP) ≤ 1
  | [] => by show 0 ≤ 1; decide
  | p :: ps => by
    show max (max 0 (max 0 0) + 1) (PyData.depthAll (ps.map datP)) ≤ 1
    have := depth_pairs (ps := ps)
    omega
theorem shaped_pairs {ps : List (Int × Int)} : SeqAt.shaped (.list (ps.map datP)) = true := by
  show (PyData.canLayAll0 (ps.map datP) && decide (PyData.depthAll (ps.map datP) + 1 ≤ 64)) = true
  have := depth_pairs (ps := ps)
  rw [lay_pairs, decide_eq_true (by omega)]; rfl
theorem eqv_pair {p q : Int × Int} : PyData.eqv (datP p) (datP q) = decide (p = q) := by
  show ((p.1 == q.1) && ((p.2 == q.2) && true)) = decide (p = q)
  rw [Bool.eq_iff_iff]
  simp [Prod.ext_iff]
theorem eqvAll_pairs : ∀ {ps qs : List (Int × Int)}, PyData.eqvAll (ps.map datP) (qs.map datP) = decide (ps = qs)
  | [], [] => rfl
  | [], _ :: _ => rfl
  | _ :: _, [] => rfl
  | p :: ps, q :: qs => by
    show (PyData.eqv (datP p) (datP q) && PyData.eqvAll (ps.map datP) (qs.map datP)) = decide (p :: ps = q :: qs)
    rw [eqvAll_pairs, eqv_pair, Bool.eq_iff_iff]
    simp
theorem g_nePL {Q : VK} {a b : Addr} {vs us : List V} {ps qs : List (Int × Int)} (h1 : SqL K H a vs) (p1 : Prs H vs ps) (h2 : SqL K H b us) (p2 : Prs H us qs) (q : Q (.bl (!decide (ps = qs))) H) : rNeD K (.ref a) (.ref b) H Q :=
  ⟨.list (ps.map datP), .list (qs.map datP), .lst h1 (dpAll_pairs p1), .lst h2 (dpAll_pairs p2), shaped_pairs, shaped_pairs, by rw [show PyData.eqv (.list (ps.map datP)) (.list (qs.map datP)) = decide (ps = qs) from eqvAll_pairs]; exact q⟩
theorem g_eqPL {Q : VK} {a b : Addr} {vs us : List V} {ps qs : List (Int × Int)} (h1 : SqL K H a vs) (p1 : Prs H vs ps) (h2 : SqL K H b us) (p2 : Prs H us qs) (q : Q (.bl (decide (ps = qs))) H) : rEqD K (.ref a) (.ref b) H Q :=
  ⟨.list (ps.map datP), .list (qs.map datP), .lst h1 (dpAll_pairs p1), .lst h2 (dpAll_pairs p2), shaped_pairs, shaped_pairs, by rw [show PyData.eqv (.list (ps.map datP)) (.list (qs.map datP)) = decide (ps = qs) from eqvAll_pairs]; exact q⟩
theorem g_neP {Q : VK} {a b : Addr} {p r : Int × Int} (h1 : H a = some (tupP p)) (h2 : H b = some (tupP r)) (q : Q (.bl (!decide (p = r))) H) : rNeD K (.ref a) (.ref b) H Q :=
  ⟨datP p, datP r, dp_pair h1, dp_pair h2, rfl, rfl, by rw [eqv_pair]; exact q⟩
end

/-- None or an int -/
def oV : Option Int → V
  | none => .non
  | some i => .int i
/-- None or a pair -/
def StV (H : Hp) : V → Option (Int × Int) → Prop
  | v, none => v = .non
  | v, some p => ∃ t, v = .ref t ∧ H t = some (tupP p)
theorem StV.same {H H' : Hp} {v : V} {o : Option (Int × Int)} (h : StV H v o) (s : Same H H') : StV H' v o := by
  cases o with
  | none => exact h
  | some p =>
    obtain ⟨t, e, h⟩ := h
    exact ⟨t, e, s _ _ h⟩
theorem StV.butD {H H' : Hp} {v : V} {o : Option (Int × Int)} {a : Addr} {kvs : List (Key × V)} (h : StV H v o) (s : But a H H') (e : H a = some (.dK kvs)) : StV H' v o := by
  cases o with
  | none => exact h
  | some p =>
    obtain ⟨t, e1, h⟩ := h
    exact ⟨t, e1, s _ _ (fun z => by rw [z, e] at h; cases h) h⟩

/-! equality -/
def oD : Option Int → PyData
  | none => .none
  | some i => .int i
def stD : Option (Int × Int) → PyData
  | none => .none
  | some p => datP p
theorem dp_o {K : PySem.W.Frag} {H : Hp} : ∀ {o : Option Int}, Dp K H (oV o) (oD o)
  | none => .non
  | some i => .int i
theorem dp_st {K : PySem.W.Frag} {H : Hp} {v : V} : ∀ {o : Option (Int × Int)}, StV H v o → Dp K H v (stD o)
  | none, h => by
    have e : v = .non := h
    subst e
    exact .non
  | some p, ⟨t, e, h⟩ => by
    subst e
    exact dp_pair h
theorem eqv_o {a b : Option Int} : PyData.eqv (oD a) (oD b) = decide (a = b) := by
  cases a with
  | none => cases b <;> rfl
  | some i =>
    cases b with
    | none => rfl
    | some j =>
      show (i == j) = decide (some i = some j)
      rw [Bool.eq_iff_iff]
      simp
theorem eqv_st {a b : Option (Int × Int)} : PyData.eqv (stD a) (stD b) = decide (a = b) := by
  cases a with
  | none => cases b <;> rfl
  | some p =>
    cases b with
    | none => rfl
    | some q =>
      show PyData.eqv (datP p) (datP q) = decide (some p = some q)
      rw [eqv_pair, Bool.eq_iff_iff]
      simp
theorem lay_o : ∀ {o : Option Int}, PyData.canLay0 (oD o) = true
  | none => rfl
  | some _ => rfl
theorem lay_st : ∀ {o : Option (Int × Int)}, PyData.canLay0 (stD o) = true
  | none => rfl
  | some _ => rfl
theorem dep_o : ∀ {o : Option Int}, PyData.depth (oD o) = 0
  | none => rfl
  | some _ => rfl
theorem dep_st : ∀ {o : Option (Int × Int)}, PyData.depth (stD o) ≤ 1
  | none => by show 0 ≤ 1; decide
  | some _ => by show max 0 (max 0 0) + 1 ≤ 1; decide
theorem beq_int {a b : Int} : (a == b) = decide (a = b) := by
  rw [Bool.eq_iff_iff]
  simp

theorem made_same {H H2 : Hp} {x dx : Addr} {o o' : HO} (nx : H x = none) (ndx : H dx = none) (n : dx ≠ x) (b : But x (upd (upd H dx o) x o') H2) : Same H H2 := fun c u e => by
  have h1 : c ≠ x := ne_of_none e nx
  exact b _ _ h1 (by rw [upd_ne h1, upd_ne (ne_of_none e ndx)]; exact e)

theorem but_or {K : PySem.W.Frag} {p : Addr} {H H' : Hp} {a : Addr} {xs : List V} (e : But p H H') (n : a ≠ p) (h : SqL K H a xs ∨ SqT K H a xs) : SqL K H' a xs ∨ SqT K H' a xs := by
  rcases h with h | h
  · exact .inl (but_sq e n h)
  · refine .inr ?_
    rcases h with h | h
    · rcases h with h | h
      · exact .inl (.inl (e _ _ n h))
      · obtain ⟨o, h⟩ := h
        exact .inl (.inr ⟨o, e _ _ n h⟩)
    · exact .inr h
theorem But.free {p r : Addr} {H H' : Hp} (b : But p H H') (n : r ≠ p) (h : H' r = none) : H r = none := by
  cases e : H r with
  | none => rfl
  | some o =>
    have z := b r o n e
    rw [h] at z
    cases z
theorem upd_upd {H : Hp} {p : Addr} {o o' : HO} : upd (upd H p o) p o' = upd H p o' := by
  funext b
  by_cases e : b = p
  · rw [e, upd_same, upd_same]
  · rw [upd_ne e, upd_ne e, upd_ne e]

/-! ### packets -/
structure Pk where
  s : Int
  t : Int
  ds : List Int
  m : Bool
  deriving DecidableEq
def PkO (C : Addr) (N : Addr → Prop) (H : Hp) (p : Addr) (g : Pk) : Prop := ∃ dx l, ¬ N p ∧ ¬ N l ∧ H p = some (.ins C dx (obj ky_Packet [.int g.s, .int g.t, .ref l, .bl g.m])) ∧ H l = some (.lst (g.ds.map V.int))
theorem PkO.same {C : Addr} {N : Addr → Prop} {H H' : Hp} {p : Addr} {g : Pk} (h : PkO C N H p g) (e : Same H H') : PkO C N H' p g := let ⟨dx, l, n1, n2, h1, h2⟩ := h; ⟨dx, l, n1, n2, e _ _ h1, e _ _ h2⟩
theorem PkO.but {C c : Addr} {N : Addr → Prop} {H H' : Hp} {p : Addr} {g : Pk} (h : PkO C N H p g) (hc : N c) (e : But c H H') : PkO C N H' p g := let ⟨dx, l, n1, n2, h1, h2⟩ := h; ⟨dx, l, n1, n2, e _ _ (fun z => n1 (z ▸ hc)) h1, e _ _ (fun z => n2 (z ▸ hc)) h2⟩
def sp_Packet_init__ (C : Addr) : Sp := fun vs H Q _ => ∃ (N : Addr → Prop) (p dx l : Addr) (g : Pk), (∀ x, N x → H x ≠ none ∧ x ≠ p) ∧ vs = [.ref p, .int g.s, .int g.t, .ref l, .bl g.m] ∧ H p = some (.ins C dx (obj ky_Packet [])) ∧ H l = some (.lst (g.ds.map V.int)) ∧ ∀ H', But p H H' → PkO C N H' p g → Q .non H'
theorem ok_Packet_init__ (T : Txt K mg) : FnOk P w K mg base CX0 1 T.f_Packet_init__ T.d_Packet_init__ ["self", "sender", "target", "octets", "marked"] (sp_Packet_init__ T.C_Packet) := by
  refine T.F_Packet_init__.ok sc_Packet_init__ (fun vs H Q E h => ?_) (fun cdv A outer s H vs Q E hr h => ?_)
  · obtain ⟨N, p, dx, l, ⟨s, t, ds, mk⟩, hN, rfl, ho, hl, q⟩ := h
    rfl
  · obtain ⟨N, p, dx, l, ⟨s, t, ds, mk⟩, hN, rfl, ho, hl, q⟩ := h
    have hu := hu_of hr
    refine ⟨_, (pss_cons (ps_fld (pv 0) (pv 1) rfl)
        (pss_cons (ps_fld (pv 0) (pv 2) rfl)
        (pss_cons (ps_fld (pv 0) (pe_callTy call_list_of (by rfl) T.n_list (by decide +kernel) (pa_cons (pv 3) pa_nil)) rfl)
        (pss_one (ps_fld (pv 0) (pv 4) rfl))))), ?_⟩
    dsimp only [cxOf, Cx.nox, Cx.wish, L2.start, List.map, List.cons_append, List.nil_append, List.length_cons, List.length_nil, Nat.reduceAdd, Nat.reduceSub, Nat.zero_add, List.replicate_succ, List.replicate_zero]
    have npl : p ≠ l := fun z => by rw [← z, ho] at hl; cases hl
    walk_at "go"
    simp only [upd_upd, List.nil_append, List.cons_append]
    walk_at "bt"
    rename_i H1 b1 k1
    refine ⟨l, _, rfl, .inl (sl (b1 _ _ npl.symm hl)), fun l2 n2 => ?_⟩
    walk_at "nw"
    rename_i H2 s2 k2
    have h2 := s2 _ _ k1
    have nlp : l2 ≠ p := (ne_of_none k1 n2).symm
    walk_at "go"
    simp only [upd_upd, List.nil_append, List.cons_append]
    refine q _ ((b1.trans (But.of s2)).upd) ⟨dx, l2, (fun z => (hN _ z).2 rfl), (fun z => (hN _ z).1 (But.free b1 nlp n2)), upd_same, by rw [upd_ne nlp]; exact k2⟩
theorem nOld {N : Addr → Prop} {H : Hp} {x dx : Addr} {o o' : HO} (h : ∀ x, N x → H x ≠ none) (nx : H x = none) (ndx : H dx = none) : ∀ y, N y → upd (upd H dx o) x o' y ≠ none ∧ y ≠ x := fun y hy => by
  have n1 : y ≠ x := fun z => h y hy (z ▸ nx)
  have n2 : y ≠ dx := fun z => h y hy (z ▸ ndx)
  exact ⟨by rw [upd_ne n1, upd_ne n2]; exact h y hy, n1⟩
theorem nSame {N : Addr → Prop} {H H' : Hp} (h : ∀ x, N x → H x ≠ none) (s : Same H H') : ∀ x, N x → H' x ≠ none := fun x hx => by
  cases e : H x with
  | none => exact absurd e (h x hx)
  | some o => rw [s _ _ e]; exact fun z => nomatch z
theorem nBut {N : Addr → Prop} {p : Addr} {H H' : Hp} (h : ∀ x, N x → H x ≠ none ∧ x ≠ p) (b : But p H H') : ∀ x, N x → H' x ≠ none := fun x hx => by
  cases e : H x with
  | none => exact absurd e (h x hx).1
  | some o => rw [b _ _ (h x hx).2 e]; exact fun z => nomatch z
def sp_Packet_fork (C : Addr) : Sp := fun vs H Q _ => ∃ (N : Addr → Prop) (p : Addr) (g : Pk), (∀ x, N x → H x ≠ none) ∧ vs = [.ref p] ∧ PkO C N H p g ∧ ∀ p' H', H p' = none → Same H H' → PkO C N H' p' g → Q (.ref p') H'
theorem kbt_0 {K : PySem.W.Frag} {mg : Str → Option Value} (T : Txt K mg) : ∃ g, KBn K T.d_Packet_init__ ["self", "sender", "target", "octets", "marked"] 4 ["marked"] g (fun vs zs => vs ++ ((zs.drop 0).take 1)) := by
  obtain ⟨mv, h⟩ := T.F_Packet_init__.kbinds0 (ps := ["self", "sender", "target", "octets", "marked"]) 4 ["marked"] [] (fun vs mz zs => vs ++ ((zs.drop 0).take 1)) (by intro h; cases h) (fun q hq => List.Sublist.mem hq (.cons _ (.slnil))) (fun r1 r2 r3 => r1.append ((r3.drop 0).take 1)) (fun D doc pm an cdv ct us mv ws l1 l2 l3 => match us, l1, mv, l2, ws, l3 with | [_, _, _, _], _, [], _, [_], _ => (by show _ = _; kernel_rfl))
  exact ⟨_, h⟩
theorem ok_Packet_fork (T : Txt K mg) : FnOk P w K mg base CX0 3 T.f_Packet_fork T.d_Packet_fork ["self"] (sp_Packet_fork T.C_Packet) := by
  refine T.F_Packet_fork.ok sc_Packet_fork (fun vs H Q E h => ?_) (fun cdv A outer s H vs Q E hr h => ?_)
  · obtain ⟨N, p, g, hN, rfl, ⟨dx, l, _, _, ho, hl⟩, q⟩ := h
    rfl
  · obtain ⟨N, p, g, hN, rfl, ⟨dx, l, _, _, ho, hl⟩, q⟩ := h
    have hu := hu_of hr
    obtain ⟨gk_0, kb_0⟩ := kbt_0 T
    refine ⟨_, (pss_one (ps_ret (pe_makeK T.mk_Packet (ok_Packet_init__ T) (hr.mono (by decide)) rfl T.c_Packet kb_0 pass0 (pa_cons (pe_fld (pv 0) rfl) (pa_cons (pe_fld (pv 0) rfl) (pa_cons (pe_fld (pv 0) rfl) pa_nil))) (pk_cons (pe_fld (pv 0) rfl) pk_nil)))), ?_⟩
    dsimp only [cxOf, Cx.nox, Cx.wish, L2.start, List.map, List.cons_append, List.nil_append, List.length_cons, List.length_nil, Nat.reduceAdd, Nat.reduceSub, Nat.zero_add, List.replicate_succ, List.replicate_zero]
    walk_at "go"
    refine ⟨rfl, rfl, fun x dy nx ndx nxd => ?_⟩
    have nlx : l ≠ x := ne_of_none hl nx
    have nld : l ≠ dy := ne_of_none hl ndx
    refine ⟨N, x, dy, l, g, nOld hN nx ndx, rfl, upd_same, by rw [upd_ne nlx, upd_ne nld]; exact hl, fun H' b o => ⟨rfl, ?_⟩⟩
    exact q x H' nx (made_same nx ndx nxd b) o
def sp_Packet_fields (C : Addr) : Sp := fun vs H Q _ => ∃ (p l dx : Addr) (s t : Int) (mk : Bool), vs = [.ref p] ∧ H p = some (.ins C dx (obj ky_Packet [.int s, .int t, .ref l, .bl mk])) ∧ ∀ tt, H tt = none → Q (.ref tt) (upd H tt (.tup [.int s, .int t, .ref l, .bl mk]))
theorem ok_Packet_fields (T : Txt K mg) : FnOk P w K mg base CX0 1 T.f_Packet_fields T.d_Packet_fields ["self"] (sp_Packet_fields T.C_Packet) := by
  refine T.F_Packet_fields.ok sc_Packet_fields (fun vs H Q E h => ?_) (fun cdv A outer s H vs Q E hr h => ?_)
  · obtain ⟨p, l, dx, s, t, mk, rfl, ho, q⟩ := h
    rfl
  · obtain ⟨p, l, dx, s, t, mk, rfl, ho, q⟩ := h
    have hu := hu_of hr
    refine ⟨_, (pss_one (ps_ret (pe_tup (pa_cons (pe_fld (pv 0) rfl) (pa_cons (pe_fld (pv 0) rfl) (pa_cons (pe_fld (pv 0) rfl) (pa_cons (pe_fld (pv 0) rfl) pa_nil))))))), ?_⟩
    dsimp only [cxOf, Cx.nox, Cx.wish, L2.start, List.map, List.cons_append, List.nil_append, List.length_cons, List.length_nil, Nat.reduceAdd, Nat.reduceSub, Nat.zero_add, List.replicate_succ, List.replicate_zero]
    walk_at "go"
    exact ⟨by show 4 ≤ sizeLine; decide, q⟩
theorem sh_pk {a b : Int} {ds : List Int} {k : Bool} : SeqAt.shaped (.tuple [.int a, .int b, .list (ds.map .int), .bool k]) = true := by
  show ((true && (true && (PyData.canLayAll0 (ds.map .int) && (true && true)))) && decide (max 0 (max 0 (max (PyData.depthAll (ds.map .int) + 1) (max 0 0))) + 1 ≤ 64)) = true
  rw [lay_ints, depth_ints]
  rfl
theorem eqv_pk {g g' : Pk} : PyData.eqv (.tuple [.int g.s, .int g.t, .list (g.ds.map .int), .bool g.m]) (.tuple [.int g'.s, .int g'.t, .list (g'.ds.map .int), .bool g'.m]) = decide (g = g') := by
  show ((g.s == g'.s) && ((g.t == g'.t) && (PyData.eqvAll (g.ds.map .int) (g'.ds.map .int) && ((g.m == g'.m) && true)))) = _
  rw [eqvAll_ints, Bool.eq_iff_iff]
  obtain ⟨_, _, _, _⟩ := g
  obtain ⟨_, _, _, _⟩ := g'
  simp
def sp_Packet_eq (C : Addr) : Sp := fun vs H Q _ => ∃ (N : Addr → Prop) (p p' : Addr) (g g' : Pk), vs = [.ref p, .ref p'] ∧ PkO C N H p g ∧ PkO C N H p' g' ∧ ∀ H', Same H H' → Q (.bl (decide (g = g'))) H'
theorem ok_Packet_eq__ (T : Txt K mg) : FnOk P w K mg base CX0 2 T.f_Packet_eq__ T.d_Packet_eq__ ["self", "other"] (sp_Packet_eq T.C_Packet) := by
  refine T.F_Packet_eq__.ok sc_Packet_eq__ (fun vs H Q E h => ?_) (fun cdv A outer s H vs Q E hr h => ?_)
  · obtain ⟨_, p, p', g, g', rfl, ⟨dx, l, _, _, ho, hl⟩, ⟨dx', l', _, _, ho', hl'⟩, q⟩ := h
    rfl
  · obtain ⟨_, p, p', g, g', rfl, ⟨dx, l, _, _, ho, hl⟩, ⟨dx', l', _, _, ho', hl'⟩, q⟩ := h
    have hu := hu_of hr
    refine ⟨_, (pss_cons (ps_if (pt_not (pt_val (pe_callB call_isi (by rfl) T.n_isinstance (by decide +kernel) (pa_cons (pv 1) (pa_cons (pe_glob (v := .ref T.C_Packet) (by rfl) T.c_Packet rfl) pa_nil))))) (pss_one (ps_ret pe_bl)) pss_nil)
        (pss_one (ps_ret (pe_cmpR (op_eqD hr.units) (pe_meth0 (pv 0) T.k_Packet T.a_Packet_fields (ok_Packet_fields T) (hr.mono (by decide)) T.b_Packet_fields .nil pass0) (pe_meth0 (pv 1) T.k_Packet T.a_Packet_fields (ok_Packet_fields T) (hr.mono (by decide)) T.b_Packet_fields .nil pass0) (nomark _))))), ?_⟩
    dsimp only [cxOf, Cx.nox, Cx.wish, L2.start, List.map, List.cons_append, List.nil_append, List.length_cons, List.length_nil, Nat.reduceAdd, Nat.reduceSub, Nat.zero_add, List.replicate_succ, List.replicate_zero]
    walk_at "go"
    refine g_isi (.own _) (.base (T.i_Packet ho')) (if_pos (beq_self_eq_true _)) ?_
    walk_at "go"
    refine ⟨p, l, dx, g.s, g.t, g.m, rfl, ho, fun t1 n1 => ?_⟩
    walk_at "nw"
    rename_i H1 s1 k1
    have ho1 := s1 _ _ ho'
    walk_at "go"
    refine ⟨p', l', dx', g'.s, g'.t, g'.m, rfl, ho1, fun t2 n2 => ?_⟩
    walk_at "nw"
    rename_i H2 s2 k2
    have s02 := s1.trans s2
    refine ⟨.tuple [.int g.s, .int g.t, .list (g.ds.map .int), .bool g.m], .tuple [.int g'.s, .int g'.t, .list (g'.ds.map .int), .bool g'.m], .tup (st (s2 _ _ k1)) (.cons (.int _) (.cons (.int _) (.cons (dp_ints (sl (s02 _ _ hl))) (.cons (.bl _) .nil)))), .tup (st k2) (.cons (.int _) (.cons (.int _) (.cons (dp_ints (sl (s02 _ _ hl'))) (.cons (.bl _) .nil)))), sh_pk, sh_pk, ?_⟩
    rw [eqv_pk]
    exact q _ s02
/-! ### flights -/
def FlO (C C2 : Addr) (N : Addr → Prop) (H : Hp) (p q : Addr) (n b : Int) (g : Pk) : Prop := (∃ dx, H p = some (.ins C dx (obj ky_Flight [.int n, .int b, .ref q]))) ∧ PkO C2 N H q g
theorem FlO.same {C C2 : Addr} {N : Addr → Prop} {H H' : Hp} {p q : Addr} {n b : Int} {g : Pk} (h : FlO C C2 N H p q n b g) (s : Same H H') : FlO C C2 N H' p q n b g := ⟨let ⟨dx, h⟩ := h.1; ⟨dx, s _ _ h⟩, h.2.same s⟩
def sp_Flight_init__ (C C2 : Addr) : Sp := fun vs H Q _ => ∃ (N : Addr → Prop) (p dx k : Addr) (n b : Int) (g : Pk), (∀ x, N x → H x ≠ none ∧ x ≠ p) ∧ vs = [.ref p, .int n, .int b, .ref k] ∧ H p = some (.ins C dx (obj ky_Flight [])) ∧ PkO C2 N H k g ∧ k ≠ p ∧ ∀ q' H', H q' = none → But p H H' → FlO C C2 N H' p q' n b g → Q .non H'
theorem ok_Flight_init__ (T : Txt K mg) : FnOk P w K mg base CX0 4 T.f_Flight_init__ T.d_Flight_init__ ["self", "number", "birth", "packet"] (sp_Flight_init__ T.C_Flight T.C_Packet) := by
  refine T.F_Flight_init__.ok sc_Flight_init__ (fun vs H Q E h => ?_) (fun cdv A outer s H vs Q E hr h => ?_)
  · obtain ⟨N, p, dx, k, n, b, g, hN, rfl, ho, ⟨dxk, l, nk1, nk2, hk1, hl1⟩, nkp, q⟩ := h
    rfl
  · obtain ⟨N, p, dx, k, n, b, g, hN, rfl, ho, ⟨dxk, l, nk1, nk2, hk1, hl1⟩, nkp, q⟩ := h
    have hu := hu_of hr
    refine ⟨_, (pss_cons (ps_fld (pv 0) (pv 1) rfl)
        (pss_cons (ps_fld (pv 0) (pv 2) rfl)
        (pss_one (ps_fld (pv 0) (pe_meth0 (pv 3) T.k_Packet T.a_Packet_fork (ok_Packet_fork T) (hr.mono (by decide)) T.b_Packet_fork .nil pass0) rfl)))), ?_⟩
    dsimp only [cxOf, Cx.nox, Cx.wish, L2.start, List.map, List.cons_append, List.nil_append, List.length_cons, List.length_nil, Nat.reduceAdd, Nat.reduceSub, Nat.zero_add, List.replicate_succ, List.replicate_zero]
    have nlp : l ≠ p := fun z => by rw [z, ho] at hl1; cases hl1
    walk_at "go"
    simp only [upd_upd, List.nil_append, List.cons_append]
    walk_at "bt"
    rename_i H1 b1 k1
    have hk2 := b1 _ _ nkp hk1
    walk_at "go"
    refine ⟨N, k, g, nBut hN b1, rfl, ⟨dxk, l, nk1, nk2, hk2, b1 _ _ nlp hl1⟩, fun p' H2 np' s2 o2 => ?_⟩
    have kp2 := s2 _ _ k1
    walk_at "go"
    simp only [upd_upd, List.nil_append, List.cons_append]
    have b2 := (b1.trans (But.of s2)).upd (o := .ins T.C_Flight dx (obj ky_Flight [.int n, .int b, .ref p']))
    have npp : p' ≠ p := fun z => by rw [z, k1] at np'; cases np'
    refine q p' _ ?_ b2 ⟨⟨dx, upd_same⟩, ?_⟩
    · cases e : H p' with
      | none => rfl
      | some o => rw [b1 _ _ npp e] at np'; cases np'
    · obtain ⟨dxp, lp, np1, np2, op, ol⟩ := o2
      exact ⟨dxp, lp, np1, np2, by rw [upd_ne npp]; exact op, by rw [upd_ne (fun z => by rw [z, kp2] at ol; cases ol)]; exact ol⟩
def sp_Flight_eq (C C2 : Addr) : Sp := fun vs H Q _ => ∃ (N : Addr → Prop) (p p' k k' : Addr) (n b n' b' : Int) (g g' : Pk), vs = [.ref p, .ref p'] ∧ FlO C C2 N H p k n b g ∧ FlO C C2 N H p' k' n' b' g' ∧ k ≠ k' ∧ ∀ H', Same H H' → Q (.bl (decide (n = n' ∧ b = b' ∧ g = g'))) H'
theorem ok_Flight_eq__ (T : Txt K mg) : FnOk P w K mg base CX0 5 T.f_Flight_eq__ T.d_Flight_eq__ ["self", "other"] (sp_Flight_eq T.C_Flight T.C_Packet) := by
  refine T.F_Flight_eq__.ok sc_Flight_eq__ (fun vs H Q E h => ?_) (fun cdv A outer s H vs Q E hr h => ?_)
  · obtain ⟨N, p, p', k, k', n, b, n', b', g, g', rfl, ⟨⟨dx, ho⟩, hk⟩, ⟨⟨dx', ho'⟩, hk'⟩, nk, q⟩ := h
    rfl
  · obtain ⟨N, p, p', k, k', n, b, n', b', g, g', rfl, ⟨⟨dx, ho⟩, hk⟩, ⟨⟨dx', ho'⟩, hk'⟩, nk, q⟩ := h
    have hu := hu_of hr
    refine ⟨_, (pss_cons (ps_if (pt_not (pt_val (pe_callB call_isi (by rfl) T.n_isinstance (by decide +kernel) (pa_cons (pv 1) (pa_cons (pe_glob (v := .ref T.C_Flight) (by rfl) T.c_Flight rfl) pa_nil))))) (pss_one (ps_ret pe_bl)) pss_nil)
        (pss_one (ps_ret (pe_cmpR (op_tupO (ok_Packet_eq__ T) (hr.mono (by decide)) T.a_Packet_eq__ T.b_Packet_eq__ pass0) (pe_tup (pa_cons (pe_fld (pv 0) rfl) (pa_cons (pe_fld (pv 0) rfl) (pa_cons (pe_fld (pv 0) rfl) pa_nil)))) (pe_tup (pa_cons (pe_fld (pv 1) rfl) (pa_cons (pe_fld (pv 1) rfl) (pa_cons (pe_fld (pv 1) rfl) pa_nil)))) (nomark _))))), ?_⟩
    dsimp only [cxOf, Cx.nox, Cx.wish, L2.start, List.map, List.cons_append, List.nil_append, List.length_cons, List.length_nil, Nat.reduceAdd, Nat.reduceSub, Nat.zero_add, List.replicate_succ, List.replicate_zero]
    walk_at "go"
    refine g_isi (.own _) (.base (T.i_Flight ho')) (if_pos (beq_self_eq_true _)) ?_
    walk_at "go"
    refine ⟨by show 3 ≤ sizeLine; decide, fun t1 n1 => ?_⟩
    walk_at "nw"
    rename_i H1 s1 k1
    have ho1 := s1 _ _ ho'
    walk_at "go"
    refine ⟨by show 3 ≤ sizeLine; decide, fun t2 n2 => ?_⟩
    walk_at "nw"
    rename_i H2 s2 k2
    have s02 := s1.trans s2
    obtain ⟨dk, l, _, _, hk1, hl⟩ := id (hk.same s02)
    obtain ⟨dk', l', _, _, hk1', hl'⟩ := id (hk'.same s02)
    refine ⟨t1, t2, n, b, n', b', k, k', dk, dk', _, _, rfl, rfl, st (s2 _ _ k1), st k2, hk1, hk1', nk, fun h => ?_, fun h1 h2 => ?_⟩
    · rw [← decide_eq_false (show ¬ (n = n' ∧ b = b' ∧ g = g') from fun z => h ⟨z.1, z.2.1⟩)]
      exact q _ s02
    · refine ⟨N, k, k', g, g', rfl, hk.same s02, hk'.same s02, fun H3 s3 => ⟨_, rfl, ?_⟩⟩
      rw [show decide (g = g') = decide (n = n' ∧ b = b' ∧ g = g') from decide_eq_decide.mpr ⟨fun z => ⟨h1, h2, z⟩, fun z => z.2.2⟩]
      exact q _ (s02.trans s3)
/-! ### records -/
def RcO (C C2 : Addr) (N : Addr → Prop) (H : Hp) (p q : Addr) (n b : Int) (w : Str) (g : Pk) : Prop := (∃ dx, H p = some (.ins C dx (obj ky_Record [.int n, .int b, .str w, .ref q]))) ∧ PkO C2 N H q g
theorem RcO.same {C C2 : Addr} {N : Addr → Prop} {H H' : Hp} {p q : Addr} {n b : Int} {w : Str} {g : Pk} (h : RcO C C2 N H p q n b w g) (s : Same H H') : RcO C C2 N H' p q n b w g := ⟨let ⟨dx, h⟩ := h.1; ⟨dx, s _ _ h⟩, h.2.same s⟩
theorem RcO.but {C C2 c : Addr} {N : Addr → Prop} {H H' : Hp} {p q : Addr} {n b : Int} {w : Str} {g : Pk} {xs : List V} (h : RcO C C2 N H p q n b w g) (hc : N c) (e : H c = some (.lst xs)) (s : But c H H') : RcO C C2 N H' p q n b w g :=
  ⟨let ⟨dx, h⟩ := h.1; ⟨dx, s _ _ (fun z => by rw [z, e] at h; cases h) h⟩, h.2.but hc s⟩
def sp_Record_init__ (C C2 : Addr) : Sp := fun vs H Q _ => ∃ (N : Addr → Prop) (p dx k : Addr) (n b : Int) (w : Str) (g : Pk), (∀ x, N x → H x ≠ none ∧ x ≠ p) ∧ vs = [.ref p, .int n, .int b, .str w, .ref k] ∧ H p = some (.ins C dx (obj ky_Record [])) ∧ PkO C2 N H k g ∧ k ≠ p ∧ ∀ q' H', But p H H' → RcO C C2 N H' p q' n b w g → Q .non H'
theorem ok_Record_init__ (T : Txt K mg) : FnOk P w K mg base CX0 4 T.f_Record_init__ T.d_Record_init__ ["self", "tick", "number", "word", "packet"] (sp_Record_init__ T.C_Record T.C_Packet) := by
  refine T.F_Record_init__.ok sc_Record_init__ (fun vs H Q E h => ?_) (fun cdv A outer s H vs Q E hr h => ?_)
  · obtain ⟨N, p, dx, k, n, b, w, g, hN, rfl, ho, ⟨dxk, l, nk1, nk2, hk1, hl1⟩, nkp, q⟩ := h
    rfl
  · obtain ⟨N, p, dx, k, n, b, w, g, hN, rfl, ho, ⟨dxk, l, nk1, nk2, hk1, hl1⟩, nkp, q⟩ := h
    have hu := hu_of hr
    refine ⟨_, (pss_cons (ps_fld (pv 0) (pv 1) rfl)
        (pss_cons (ps_fld (pv 0) (pv 2) rfl)
        (pss_cons (ps_fld (pv 0) (pv 3) rfl)
        (pss_one (ps_fld (pv 0) (pe_meth0 (pv 4) T.k_Packet T.a_Packet_fork (ok_Packet_fork T) (hr.mono (by decide)) T.b_Packet_fork .nil pass0) rfl))))), ?_⟩
    dsimp only [cxOf, Cx.nox, Cx.wish, L2.start, List.map, List.cons_append, List.nil_append, List.length_cons, List.length_nil, Nat.reduceAdd, Nat.reduceSub, Nat.zero_add, List.replicate_succ, List.replicate_zero]
    have nlp : l ≠ p := fun z => by rw [z, ho] at hl1; cases hl1
    walk_at "go"
    simp only [upd_upd, List.nil_append, List.cons_append]
    walk_at "bt"
    rename_i H1 b1 k1
    have hk2 := b1 _ _ nkp hk1
    walk_at "go"
    refine ⟨N, k, g, nBut hN b1, rfl, ⟨dxk, l, nk1, nk2, hk2, b1 _ _ nlp hl1⟩, fun p' H2 np' s2 o2 => ?_⟩
    have kp2 := s2 _ _ k1
    walk_at "go"
    simp only [upd_upd, List.nil_append, List.cons_append]
    have b2 := (b1.trans (But.of s2)).upd (o := .ins T.C_Record dx (obj ky_Record [.int n, .int b, .str w, .ref p']))
    have npp : p' ≠ p := fun z => by rw [z, k1] at np'; cases np'
    refine q p' _ b2 ⟨⟨dx, upd_same⟩, ?_⟩
    obtain ⟨dxp, lp, np1, np2, op, ol⟩ := o2
    exact ⟨dxp, lp, np1, np2, by rw [upd_ne npp]; exact op, by rw [upd_ne (fun z => by rw [z, kp2] at ol; cases ol)]; exact ol⟩
def sp_Record_eq (C C2 : Addr) : Sp := fun vs H Q _ => ∃ (N : Addr → Prop) (p p' k k' : Addr) (n b n' b' : Int) (w w' : Str) (g g' : Pk), vs = [.ref p, .ref p'] ∧ RcO C C2 N H p k n b w g ∧ RcO C C2 N H p' k' n' b' w' g' ∧ ∀ H', Same H H' → Q (.bl (decide (n = n' ∧ b = b' ∧ w = w' ∧ g = g'))) H'
theorem ok_Record_eq__ (T : Txt K mg) : FnOk P w K mg base CX0 3 T.f_Record_eq__ T.d_Record_eq__ ["self", "other"] (sp_Record_eq T.C_Record T.C_Packet) := by
  refine T.F_Record_eq__.ok sc_Record_eq__ (fun vs H Q E h => ?_) (fun cdv A outer s H vs Q E hr h => ?_)
  · obtain ⟨N, p, p', k, k', n, b, n', b', w1, w2, g, g', rfl, ⟨⟨dx, ho⟩, hk⟩, ⟨⟨dx', ho'⟩, hk'⟩, q⟩ := h
    rfl
  · obtain ⟨N, p, p', k, k', n, b, n', b', w1, w2, g, g', rfl, ⟨⟨dx, ho⟩, hk⟩, ⟨⟨dx', ho'⟩, hk'⟩, q⟩ := h
    have hu := hu_of hr
    refine ⟨_, (pss_cons (ps_if (pt_not (pt_val (pe_callB call_isi (by rfl) T.n_isinstance (by decide +kernel) (pa_cons (pv 1) (pa_cons (pe_glob (v := .ref T.C_Record) (by rfl) T.c_Record rfl) pa_nil))))) (pss_one (ps_ret pe_bl)) pss_nil)
        (pss_cons (ps_if (PW.pt (pw_or (pt_cmpR op_ne (pe_fld (pv 0) rfl) (pe_fld (pv 1) rfl) (nomark _)) (pw_or1 (pt_cmpR op_ne (pe_fld (pv 0) rfl) (pe_fld (pv 1) rfl) (nomark _))))) (pss_one (ps_ret pe_bl)) pss_nil)
        (pss_one (ps_ret (pe_and (pe_cmpR op_eq (pe_fld (pv 0) rfl) (pe_fld (pv 1) rfl) (nomark _)) (pe_one (pe_cmpR (op_eqO (ok_Packet_eq__ T) (hr.mono (by decide)) T.a_Packet_eq__ T.q_Packet T.b_Packet_eq__ pass0) (pe_fld (pv 0) rfl) (pe_fld (pv 1) rfl) (nomark _)))))))), ?_⟩
    dsimp only [cxOf, Cx.nox, Cx.wish, L2.start, List.map, List.cons_append, List.nil_append, List.length_cons, List.length_nil, Nat.reduceAdd, Nat.reduceSub, Nat.zero_add, List.replicate_succ, List.replicate_zero]
    walk_at "go"
    refine g_isi (.own _) (.base (T.i_Record ho')) (if_pos (beq_self_eq_true _)) ?_
    walk_at "go"
    refine g_iteN (fun c => ?_) (fun c => ?_)
    · refine iteT ?_
      walk_at "go"
      rw [← decide_eq_false (show ¬ (n = n' ∧ b = b' ∧ w1 = w2 ∧ g = g') from fun z => c z.1)]
      exact q H fun _ _ h => h
    walk_at "go"
    refine g_iteN (fun c2 => ?_) (fun c2 => ?_)
    · walk_at "go"
      rw [← decide_eq_false (show ¬ (n = n' ∧ b = b' ∧ w1 = w2 ∧ g = g') from fun z => c2 z.2.1)]
      exact q H fun _ _ h => h
    walk_at "go"
    refine g_ite (fun c3 => ?_) (fun c3 => ?_)
    · walk_at "go"
      obtain ⟨dk, l, _, _, hk1, hl⟩ := id hk
      obtain ⟨dk', l', _, _, hk1', hl'⟩ := id hk'
      refine ⟨k, dk, _, rfl, hk1, .inl ⟨k', dk', _, rfl, hk1'⟩, ?_⟩
      refine ⟨N, k, k', g, g', rfl, hk, hk', fun H3 s3 => ⟨_, rfl, ?_⟩⟩
      rw [show decide (g = g') = decide (n = n' ∧ b = b' ∧ w1 = w2 ∧ g = g') from decide_eq_decide.mpr ⟨fun z => ⟨c, c2, c3, z⟩, fun z => z.2.2.2⟩]
      exact q _ s3
    · rw [← decide_eq_false (show ¬ (n = n' ∧ b = b' ∧ w1 = w2 ∧ g = g') from fun z => c3 z.2.2.1)]
      exact q H fun _ _ h => h
/-! ### rules -/
structure Rl where
  fault : Str
  amount : Int
  upto : Int
  sender : Option Int
  target : Option Int
  ticks : Option (Int × Int)
  nth : Option Int
  chance : Option Int
  deriving DecidableEq
theorem StV.butL {p : Addr} {H H' : Hp} {v : V} {o : Option (Int × Int)} {xs : List V} (h : StV H v o) (b : But p H H') (e : H p = some (.lst xs)) : StV H' v o := by
  cases o with
  | none => exact h
  | some p =>
    obtain ⟨t, e1, h⟩ := h
    exact ⟨t, e1, b _ _ (fun z => by rw [z, e] at h; cases h) h⟩
def RlO (C : Addr) (H : Hp) (r : Addr) (g : Rl) : Prop := ∃ dx tv, H r = some (.ins C dx (obj ky_Rule [.str g.fault, .int g.amount, .int g.upto, oV g.sender, oV g.target, tv, oV g.nth, oV g.chance])) ∧ StV H tv g.ticks
theorem RlO.same {C : Addr} {H H' : Hp} {r : Addr} {g : Rl} (h : RlO C H r g) (s : Same H H') : RlO C H' r g := by
  obtain ⟨dx, tv, h1, h2⟩ := h
  exact ⟨dx, tv, s _ _ h1, h2.same s⟩
theorem RlO.butL {C p : Addr} {H H' : Hp} {r : Addr} {g : Rl} {xs : List V} (h : RlO C H r g) (b : But p H H') (e : H p = some (.lst xs)) : RlO C H' r g := by
  obtain ⟨dx, tv, h1, h2⟩ := h
  exact ⟨dx, tv, b _ _ (fun z => by rw [z, e] at h1; cases h1) h1, h2.butL b e⟩
def sp_Rule_init__ (C : Addr) : Sp := fun vs H Q _ => ∃ (r dx : Addr) (f : Str) (a u : Int) (se ta tk nt ch : V), vs = [.ref r, .str f, .int a, .int u, se, ta, tk, nt, ch] ∧ H r = some (.ins C dx (obj ky_Rule [])) ∧ Q .non (upd H r (.ins C dx (obj ky_Rule [.str f, .int a, .int u, se, ta, tk, nt, ch])))
theorem ok_Rule_init__ (T : Txt K mg) : FnOk P w K mg base CX0 1 T.f_Rule_init__ T.d_Rule_init__ ["self", "fault", "amount", "until", "sender", "target", "ticks", "nth", "chance"] (sp_Rule_init__ T.C_Rule) := by
  refine T.F_Rule_init__.ok sc_Rule_init__ (fun vs H Q E h => ?_) (fun cdv A outer s H vs Q E hr h => ?_)
  · obtain ⟨r, dx, f, a, u, se, ta, tk, nt, ch, rfl, ho, q⟩ := h
    rfl
  · obtain ⟨r, dx, f, a, u, se, ta, tk, nt, ch, rfl, ho, q⟩ := h
    have hu := hu_of hr
    refine ⟨_, (pss_cons (ps_fld (pv 0) (pv 1) rfl)
        (pss_cons (ps_fld (pv 0) (pv 2) rfl)
        (pss_cons (ps_fld (pv 0) (pv 3) rfl)
        (pss_cons (ps_fld (pv 0) (pv 4) rfl)
        (pss_cons (ps_fld (pv 0) (pv 5) rfl)
        (pss_cons (ps_fld (pv 0) (pv 6) rfl)
        (pss_cons (ps_fld (pv 0) (pv 7) rfl)
        (pss_one (ps_fld (pv 0) (pv 8) rfl))))))))), ?_⟩
    dsimp only [cxOf, Cx.nox, Cx.wish, L2.start, List.map, List.cons_append, List.nil_append, List.length_cons, List.length_nil, Nat.reduceAdd, Nat.reduceSub, Nat.zero_add, List.replicate_succ, List.replicate_zero]
    walk_at "go"
    simp only [upd_upd, List.nil_append, List.cons_append]
    exact q
def okO : Option Int → Int → Bool
  | none, _ => true
  | some x, s => decide (s = x)
def okR : Option (Int × Int) → Int → Bool
  | none, _ => true
  | some p, b => decide (p.1 ≤ b) && decide (b ≤ p.2)
def adm (g : Rl) (s t b : Int) : Bool := okO g.sender s && (okO g.target t && okR g.ticks b)
def sp_Rule_considers (C : Addr) : Sp := fun vs H Q _ => ∃ (r : Addr) (g : Rl) (s t b : Int), vs = [.ref r, .int s, .int t, .int b] ∧ RlO C H r g ∧ Q (.bl (adm g s t b)) H
theorem ok_Rule_considers (T : Txt K mg) : FnOk P w K mg base CX0 1 T.f_Rule_considers T.d_Rule_considers ["self", "sender", "target", "birth"] (sp_Rule_considers T.C_Rule) := by
  refine T.F_Rule_considers.ok sc_Rule_considers (fun vs H Q E h => ?_) (fun cdv A outer s H vs Q E hr h => ?_)
  · obtain ⟨r, ⟨ft, am, un, se, ta, tk, nt, ch⟩, s, t, b, rfl, ⟨dx, tv, ho, hv⟩, q⟩ := h
    rfl
  · obtain ⟨r, ⟨ft, am, un, se, ta, tk, nt, ch⟩, s, t, b, rfl, ⟨dx, tv, ho, hv⟩, q⟩ := h
    have hu := hu_of hr
    refine ⟨_, (C8.pss_cut (ps_if (PW.pt (pw_and (pt_cmpR op_notN (pe_fld (pv 0) rfl) pe_non (nomark _)) (pw_and1 (pt_cmpR op_ne (pv 1) (pe_fld (pv 0) rfl) (nomark _))))) (pss_one (ps_ret pe_bl)) pss_nil)
        (C8.pss_cut (ps_if (PW.pt (pw_and (pt_cmpR op_notN (pe_fld (pv 0) rfl) pe_non (nomark _)) (pw_and1 (pt_cmpR op_ne (pv 2) (pe_fld (pv 0) rfl) (nomark _))))) (pss_one (ps_ret pe_bl)) pss_nil)
        (pss_one (ps_ret (pe_or (pe_cmpR op_isN (pe_fld (pv 0) rfl) pe_non (nomark _)) (pe_one (pe_chain op_le op_le (pe_ix ix_tup (pe_fld (pv 0) rfl) pe_int (fun _ _ => rfl)) (pv 3) (pe_ix ix_tup (pe_fld (pv 0) rfl) pe_int (fun _ _ => rfl))))))))), ?_⟩
    dsimp only [cxOf, Cx.nox, Cx.wish, L2.start, List.map, List.cons_append, List.nil_append, List.length_cons, List.length_nil, Nat.reduceAdd, Nat.reduceSub, Nat.zero_add, List.replicate_succ, List.replicate_zero]
    dsimp only at ho hv
    unfold adm at q
    dsimp only at q
    walk_at "go"
    refine g_cut (fun σ' H' => H = H' ∧ σ' = [some (.ref r), some (.int s), some (.int t), some (.int b)] ∧ okO se s = true) ?_ ?_
    · rcases se with _ | x
      · walk_at "go"
        exact ⟨rfl, rfl, rfl⟩
      · walk_at "go"
        refine g_rNeI (i := s) (j := x) ?_
        walk_at "go"
        refine g_iteN (fun h => ?_) (fun h => ?_)
        · walk_at "go"
          rw [show okO (some x) s = false from decide_eq_false h, Bool.false_and] at q
          exact q
        · walk_at "go"
          exact ⟨rfl, rfl, decide_eq_true h⟩
    rintro σ' _ ⟨rfl, rfl, e1⟩
    rw [e1, Bool.true_and] at q
    walk_at "go"
    refine g_cut (fun σ' H' => H = H' ∧ σ' = [some (.ref r), some (.int s), some (.int t), some (.int b)] ∧ okO ta t = true) ?_ ?_
    · rcases ta with _ | x
      · walk_at "go"
        exact ⟨rfl, rfl, rfl⟩
      · walk_at "go"
        refine g_rNeI (i := t) (j := x) ?_
        walk_at "go"
        refine g_iteN (fun h => ?_) (fun h => ?_)
        · walk_at "go"
          rw [show okO (some x) t = false from decide_eq_false h, Bool.false_and] at q
          exact q
        · walk_at "go"
          exact ⟨rfl, rfl, decide_eq_true h⟩
    rintro σ' _ ⟨rfl, rfl, e2⟩
    rw [e2, Bool.true_and] at q
    walk_at "go"
    rcases tk with _ | ⟨lo, hi⟩
    · have e : tv = .non := hv
      subst e
      walk_at "go"
      exact q
    · obtain ⟨tt, rfl, ht⟩ := hv
      walk_at "go"
      refine g_ixT (st ht) (at_of (j := 0) rfl rfl) ?_
      walk_at "go"
      refine g_ite (fun h => ?_) (fun h => ?_)
      · walk_at "go"
        refine g_ixT (st ht) (at_of (j := 1) rfl rfl) ?_
        walk_at "go"
        rw [show okR (some (lo, hi)) b = decide (b ≤ hi) by
          show (decide (lo ≤ b) && decide (b ≤ hi)) = _
          rw [decide_eq_true (show lo ≤ b from h), Bool.true_and]] at q
        exact q
      · walk_at "go"
        rw [show okR (some (lo, hi)) b = false by
          show (decide (lo ≤ b) && decide (b ≤ hi)) = _
          rw [decide_eq_false (show ¬ lo ≤ b from h), Bool.false_and]] at q
        exact q
def sp_Rule_fields (C : Addr) : Sp := fun vs H Q _ => ∃ (p dx : Addr) (ws : List V), vs = [.ref p] ∧ ws.length = 8 ∧ H p = some (.ins C dx (obj ky_Rule ws)) ∧ ∀ t, H t = none → Q (.ref t) (upd H t (.tup ws))
theorem ok_Rule_fields (T : Txt K mg) : FnOk P w K mg base CX0 1 T.f_Rule_fields T.d_Rule_fields ["self"] (sp_Rule_fields T.C_Rule) := by
  refine T.F_Rule_fields.ok sc_Rule_fields (fun vs H Q E h => ?_) (fun cdv A outer s H vs Q E hr h => ?_)
  · obtain ⟨p, dx, ws, rfl, hl, ho, q⟩ := h
    rfl
  · obtain ⟨p, dx, ws, rfl, hl, ho, q⟩ := h
    have hu := hu_of hr
    refine ⟨_, (pss_one (ps_ret (pe_tup (pa_cons (pe_fld (pv 0) rfl) (pa_cons (pe_fld (pv 0) rfl) (pa_cons (pe_fld (pv 0) rfl) (pa_cons (pe_fld (pv 0) rfl) (pa_cons (pe_fld (pv 0) rfl) (pa_cons (pe_fld (pv 0) rfl) (pa_cons (pe_fld (pv 0) rfl) (pa_cons (pe_fld (pv 0) rfl) pa_nil))))))))))), ?_⟩
    dsimp only [cxOf, Cx.nox, Cx.wish, L2.start, List.map, List.cons_append, List.nil_append, List.length_cons, List.length_nil, Nat.reduceAdd, Nat.reduceSub, Nat.zero_add, List.replicate_succ, List.replicate_zero]
    obtain ⟨a, b, c, d, e, f, g, h, rfl⟩ : ∃ a b c d e f g h, ws = [a, b, c, d, e, f, g, h] := by
      match ws, hl with
      | [a, b, c, d, e, f, g, h], _ => exact ⟨a, b, c, d, e, f, g, h, rfl⟩
    walk_at "go"
    exact ⟨by show 8 ≤ sizeLine; decide, q⟩
def datR (g : Rl) : PyData := .tuple [.str g.fault, .int g.amount, .int g.upto, oD g.sender, oD g.target, stD g.ticks, oD g.nth, oD g.chance]
theorem sh_rl {g : Rl} (ok : PyData.strOk g.fault = true) : SeqAt.shaped (datR g) = true := by
  obtain ⟨f, a, u, s, t, k, n, c⟩ := g
  show (PyData.canLayAll0 [.str f, .int a, .int u, oD s, oD t, stD k, oD n, oD c] && decide (PyData.depthAll [.str f, .int a, .int u, oD s, oD t, stD k, oD n, oD c] + 1 ≤ 64)) = true
  have h1 : PyData.canLayAll0 [.str f, .int a, .int u, oD s, oD t, stD k, oD n, oD c] = true := by
    show (PyData.strOk f && (true && (true && (PyData.canLay0 (oD s) && (PyData.canLay0 (oD t) && (PyData.canLay0 (stD k) && (PyData.canLay0 (oD n) && (PyData.canLay0 (oD c) && true)))))))) = true
    rw [lay_o, lay_o, lay_st, lay_o, lay_o, show PyData.strOk f = true from ok]
    rfl
  have h2 : PyData.depthAll [.str f, .int a, .int u, oD s, oD t, stD k, oD n, oD c] ≤ 10 := by
    show max 0 (max 0 (max 0 (max (PyData.depth (oD s)) (max (PyData.depth (oD t)) (max (PyData.depth (stD k)) (max (PyData.depth (oD n)) (max (PyData.depth (oD c)) 0))))))) ≤ 10
    have b := dep_st (o := k)
    rw [dep_o, dep_o, dep_o, dep_o]
    omega
  rw [h1, decide_eq_true (show PyData.depthAll [.str f, .int a, .int u, oD s, oD t, stD k, oD n, oD c] + 1 ≤ 64 by omega)]
  rfl
theorem eqv_rl {g g' : Rl} : PyData.eqv (datR g) (datR g') = decide (g = g') := by
  show ((g.fault == g'.fault) && ((g.amount == g'.amount) && ((g.upto == g'.upto) && (PyData.eqv (oD g.sender) (oD g'.sender) && (PyData.eqv (oD g.target) (oD g'.target) && (PyData.eqv (stD g.ticks) (stD g'.ticks) && (PyData.eqv (oD g.nth) (oD g'.nth) && (PyData.eqv (oD g.chance) (oD g'.chance) && true)))))))) = _
  simp only [eqv_o, eqv_st]
  rw [Bool.eq_iff_iff]
  obtain ⟨_, _, _, _, _, _, _, _⟩ := g
  obtain ⟨_, _, _, _, _, _, _, _⟩ := g'
  simp
theorem dp_rl {H : Hp} {t : Addr} {g : Rl} {tv : V} (h : H t = some (.tup [.str g.fault, .int g.amount, .int g.upto, oV g.sender, oV g.target, tv, oV g.nth, oV g.chance])) (hv : StV H tv g.ticks) : Dp K H (.ref t) (datR g) :=
  .tup (st h) (.cons (.str _) (.cons (.int _) (.cons (.int _) (.cons dp_o (.cons dp_o (.cons (dp_st hv) (.cons dp_o (.cons dp_o .nil))))))))
def sp_Rule_eq (C : Addr) : Sp := fun vs H Q _ => ∃ (p p' : Addr) (g g' : Rl), vs = [.ref p, .ref p'] ∧ RlO C H p g ∧ RlO C H p' g' ∧ PyData.strOk g.fault = true ∧ PyData.strOk g'.fault = true ∧ ∀ H', Same H H' → Q (.bl (decide (g = g'))) H'
theorem ok_Rule_eq__ (T : Txt K mg) : FnOk P w K mg base CX0 2 T.f_Rule_eq__ T.d_Rule_eq__ ["self", "other"] (sp_Rule_eq T.C_Rule) := by
  refine T.F_Rule_eq__.ok sc_Rule_eq__ (fun vs H Q E h => ?_) (fun cdv A outer s H vs Q E hr h => ?_)
  · obtain ⟨p, p', g, g', rfl, ⟨dx, tv, ho, hv⟩, ⟨dx', tv', ho', hv'⟩, ok, ok', q⟩ := h
    rfl
  · obtain ⟨p, p', g, g', rfl, ⟨dx, tv, ho, hv⟩, ⟨dx', tv', ho', hv'⟩, ok, ok', q⟩ := h
    have hu := hu_of hr
    refine ⟨_, (pss_cons (ps_if (pt_not (pt_val (pe_callB call_isi (by rfl) T.n_isinstance (by decide +kernel) (pa_cons (pv 1) (pa_cons (pe_glob (v := .ref T.C_Rule) (by rfl) T.c_Rule rfl) pa_nil))))) (pss_one (ps_ret pe_bl)) pss_nil)
        (pss_one (ps_ret (pe_cmpR (op_eqD hr.units) (pe_meth0 (pv 0) T.k_Rule T.a_Rule_fields (ok_Rule_fields T) (hr.mono (by decide)) T.b_Rule_fields .nil pass0) (pe_meth0 (pv 1) T.k_Rule T.a_Rule_fields (ok_Rule_fields T) (hr.mono (by decide)) T.b_Rule_fields .nil pass0) (nomark _))))), ?_⟩
    dsimp only [cxOf, Cx.nox, Cx.wish, L2.start, List.map, List.cons_append, List.nil_append, List.length_cons, List.length_nil, Nat.reduceAdd, Nat.reduceSub, Nat.zero_add, List.replicate_succ, List.replicate_zero]
    walk_at "go"
    refine g_isi (.own _) (.base (T.i_Rule ho')) (if_pos (beq_self_eq_true _)) ?_
    walk_at "go"
    refine ⟨p, dx, _, rfl, rfl, ho, fun t1 n1 => ?_⟩
    walk_at "nw"
    rename_i H1 s1 k1
    have ho1 := s1 _ _ ho'
    walk_at "go"
    refine ⟨p', dx', _, rfl, rfl, ho1, fun t2 n2 => ?_⟩
    walk_at "nw"
    rename_i H2 s2 k2
    have s02 := s1.trans s2
    refine ⟨datR g, datR g', dp_rl (s2 _ _ k1) (hv.same s02), dp_rl k2 (hv'.same s02), sh_rl ok, sh_rl ok', ?_⟩
    rw [eqv_rl]
    exact q _ s02
end
end My
namespace My
open PySem PySem.Spec L2
local macro_rules | `(tactic| walk_at "side") => `(tactic| first | assumption | decide | omega | exact ⟨by decide, by decide⟩ | exact ⟨by decide, by decide, by decide⟩ | decide +kernel | exact cdivW (by decide +kernel) (by decide +kernel) | exact Or.inl ⟨by omega, by omega⟩ | exact Or.inr ⟨by omega, by omega⟩ | (simp only [List.length_map, List.length_cons, List.length_nil, List.length_append]; omega))
local macro_rules | `(tactic| walk_at "fact") => `(tactic| first | assumption | omega | with_reducible rfl)
local macro_rules | `(tactic| walk_at "use") => `(tactic| fail "use")
local macro_rules | `(tactic| walk_at "go1") => `(tactic| with_reducible first | refine g_seq ?_ | refine g_asg ?_ | refine g_ret ?_ | refine g_ifS ?_ | refine g_drop ?_ | refine g_star ?_ | refine g_nx ?_ | refine g_rt ?_ | refine g_bkE ?_ | refine g_ctE ?_ | refine g_next ?_ | refine g_retN ?_ | refine g_brk ?_ | refine g_ct ?_ | refine g_c ?_ | refine g_op ?_ | refine g_un ?_ | refine g_rI0 ?_ | refine g_rU ?_ | refine g_rEqI ?_ | refine g_rNeI ?_ | refine g_isN ?_ | refine g_rIsB ?_ | refine g_rNotB ?_ | refine g_test ?_ | refine g_B ?_ | refine g_bl ?_ | refine g_and ?_ | refine g_or ?_ | refine g_not ?_ | refine g_andV ?_ | refine g_orV ?_ | refine g_notV ?_ | refine g_if ?_ | refine g_chain ?_ | refine g_yes ?_ | refine g_lc ?_ | refine g_revR ?_ | refine g_rng1 ?_ | refine g_iList ?_ | refine g_nil ?_ | refine g_cons ?_ | refine g_tup ?_ | refine g_lst ?_ | refine g_call ?_ | refine g_CB ?_ | refine g_sl ?_ | refine g_noPart ?_ | refine g_part ?_ | refine g_intE ?_ | refine g_ref ?_ | refine g_fld ?_ | refine g_sfld ?_ | refine g_meth ?_ | refine g_make ?_ | refine g_prop ?_  | refine g_ipI ?_ | refine g_int1 ?_ | refine g_int1B ?_ | refine g_one ?_ | refine g_two ?_ | refine g_isiI ?_ | refine g_isiIB ?_ | refine g_isiB ?_ | refine g_BM ?_ | refine g_BM0 ?_ | refine g_sub ?_)
local macro_rules | `(tactic| walk_at "go") => `(tactic| repeat (first | walk_at "go1" | ((with_reducible refine' g_nameE ?sd_ ?_); case sd_ => dsimp only [List.set_cons_succ, List.set_cons_zero]) | ((with_reducible refine' g_var ?sd_ ?_); case sd_ => exact rfl) | ((with_reducible refine' g_aug ?sd_ ?_); case sd_ => exact rfl) | ((with_reducible refine' g_rI ?sd_ ?_); case sd_ => walk_at "side") | ((with_reducible refine' g_dT ?sd_ ?_); case sd_ => walk_at "fact") | ((with_reducible refine' g_dF ?sd_ ?_); case sd_ => walk_at "fact") | ((with_reducible refine' g_nT ?sd_ ?_); case sd_ => walk_at "fact") | ((with_reducible refine' g_nF ?sd_ ?_); case sd_ => walk_at "fact") | (with_reducible refine g_iT rfl ?_) | (with_reducible refine g_iF rfl ?_) | walk_at "use"))
local macro_rules | `(tactic| walk_at "nw") => `(tactic| (generalize zq : upd _ _ _ = Hq; have sq : Same _ Hq := (by rw [← zq]; exact same_upd (by assumption)); have kq := (congrFun zq _).symm.trans upd_same; clear zq))
local macro_rules | `(tactic| walk_at "bt") => `(tactic| (generalize zq : upd _ _ _ = Hq; have bq : But _ _ Hq := (by rw [← zq]; exact But.refl.upd); have kq := (congrFun zq _).symm.trans upd_same; clear zq))
local macro_rules | `(tactic| walk_at "use") => `(tactic| first | ((with_reducible refine' fd_Rule_fault ?ho_ ?hv_ ?_); (case ho_ => first | assumption | exact upd_same); (case hv_ => exact rfl)) | ((with_reducible refine' fd_Rule_amount ?ho_ ?hv_ ?_); (case ho_ => first | assumption | exact upd_same); (case hv_ => exact rfl)) | ((with_reducible refine' fd_Rule_until ?ho_ ?hv_ ?_); (case ho_ => first | assumption | exact upd_same); (case hv_ => exact rfl)) | ((with_reducible refine' fd_Rule_sender ?ho_ ?hv_ ?_); (case ho_ => first | assumption | exact upd_same); (case hv_ => exact rfl)) | ((with_reducible refine' fd_Rule_target ?ho_ ?hv_ ?_); (case ho_ => first | assumption | exact upd_same); (case hv_ => exact rfl)) | ((with_reducible refine' fd_Rule_ticks ?ho_ ?hv_ ?_); (case ho_ => first | assumption | exact upd_same); (case hv_ => exact rfl)) | ((with_reducible refine' fd_Rule_nth ?ho_ ?hv_ ?_); (case ho_ => first | assumption | exact upd_same); (case hv_ => exact rfl)) | ((with_reducible refine' fd_Rule_chance ?ho_ ?hv_ ?_); (case ho_ => first | assumption | exact upd_same); (case hv_ => exact rfl)) | ((with_reducible refine' nw_Rule_fault ?ho_ ?hv_ ?_); (case ho_ => first | assumption | exact upd_same); (case hv_ => exact rfl)) | ((with_reducible refine' nw_Rule_amount ?ho_ ?hv_ ?_); (case ho_ => first | assumption | exact upd_same); (case hv_ => exact rfl)) | ((with_reducible refine' nw_Rule_until ?ho_ ?hv_ ?_); (case ho_ => first | assumption | exact upd_same); (case hv_ => exact rfl)) | ((with_reducible refine' nw_Rule_sender ?ho_ ?hv_ ?_); (case ho_ => first | assumption | exact upd_same); (case hv_ => exact rfl)) | ((with_reducible refine' nw_Rule_target ?ho_ ?hv_ ?_); (case ho_ => first | assumption | exact upd_same); (case hv_ => exact rfl)) | ((with_reducible refine' nw_Rule_ticks ?ho_ ?hv_ ?_); (case ho_ => first | assumption | exact upd_same); (case hv_ => exact rfl)) | ((with_reducible refine' nw_Rule_nth ?ho_ ?hv_ ?_); (case ho_ => first | assumption | exact upd_same); (case hv_ => exact rfl)) | ((with_reducible refine' nw_Rule_chance ?ho_ ?hv_ ?_); (case ho_ => first | assumption | exact upd_same); (case hv_ => exact rfl)) | ((with_reducible refine' st_Rule_fault ?ho_ ?hv_ ?_); (case ho_ => first | assumption | exact upd_same); (case hv_ => exact Nat.le_of_ble_eq_true rfl)) | ((with_reducible refine' st_Rule_amount ?ho_ ?hv_ ?_); (case ho_ => first | assumption | exact upd_same); (case hv_ => exact Nat.le_of_ble_eq_true rfl)) | ((with_reducible refine' st_Rule_until ?ho_ ?hv_ ?_); (case ho_ => first | assumption | exact upd_same); (case hv_ => exact Nat.le_of_ble_eq_true rfl)) | ((with_reducible refine' st_Rule_sender ?ho_ ?hv_ ?_); (case ho_ => first | assumption | exact upd_same); (case hv_ => exact Nat.le_of_ble_eq_true rfl)) | ((with_reducible refine' st_Rule_target ?ho_ ?hv_ ?_); (case ho_ => first | assumption | exact upd_same); (case hv_ => exact Nat.le_of_ble_eq_true rfl)) | ((with_reducible refine' st_Rule_ticks ?ho_ ?hv_ ?_); (case ho_ => first | assumption | exact upd_same); (case hv_ => exact Nat.le_of_ble_eq_true rfl)) | ((with_reducible refine' st_Rule_nth ?ho_ ?hv_ ?_); (case ho_ => first | assumption | exact upd_same); (case hv_ => exact Nat.le_of_ble_eq_true rfl)) | ((with_reducible refine' st_Rule_chance ?ho_ ?hv_ ?_); (case ho_ => first | assumption | exact upd_same); (case hv_ => exact Nat.le_of_ble_eq_true rfl)) | ((with_reducible refine' me_Rule_considers ?ho_ ?_); (case ho_ => first | assumption | exact upd_same)) | ((with_reducible refine' me_Rule_eq__ ?ho_ ?_); (case ho_ => first | assumption | exact upd_same)) | ((with_reducible refine' me_Rule_fields ?ho_ ?_); (case ho_ => first | assumption | exact upd_same)))
local macro_rules | `(tactic| walk_at "use") => `(tactic| first | ((with_reducible refine' fd_Packet_sender ?ho_ ?hv_ ?_); (case ho_ => first | assumption | exact upd_same); (case hv_ => exact rfl)) | ((with_reducible refine' fd_Packet_target ?ho_ ?hv_ ?_); (case ho_ => first | assumption | exact upd_same); (case hv_ => exact rfl)) | ((with_reducible refine' fd_Packet_octets ?ho_ ?hv_ ?_); (case ho_ => first | assumption | exact upd_same); (case hv_ => exact rfl)) | ((with_reducible refine' fd_Packet_marked ?ho_ ?hv_ ?_); (case ho_ => first | assumption | exact upd_same); (case hv_ => exact rfl)) | ((with_reducible refine' nw_Packet_sender ?ho_ ?hv_ ?_); (case ho_ => first | assumption | exact upd_same); (case hv_ => exact rfl)) | ((with_reducible refine' nw_Packet_target ?ho_ ?hv_ ?_); (case ho_ => first | assumption | exact upd_same); (case hv_ => exact rfl)) | ((with_reducible refine' nw_Packet_octets ?ho_ ?hv_ ?_); (case ho_ => first | assumption | exact upd_same); (case hv_ => exact rfl)) | ((with_reducible refine' nw_Packet_marked ?ho_ ?hv_ ?_); (case ho_ => first | assumption | exact upd_same); (case hv_ => exact rfl)) | ((with_reducible refine' st_Packet_sender ?ho_ ?hv_ ?_); (case ho_ => first | assumption | exact upd_same); (case hv_ => exact Nat.le_of_ble_eq_true rfl)) | ((with_reducible refine' st_Packet_target ?ho_ ?hv_ ?_); (case ho_ => first | assumption | exact upd_same); (case hv_ => exact Nat.le_of_ble_eq_true rfl)) | ((with_reducible refine' st_Packet_octets ?ho_ ?hv_ ?_); (case ho_ => first | assumption | exact upd_same); (case hv_ => exact Nat.le_of_ble_eq_true rfl)) | ((with_reducible refine' st_Packet_marked ?ho_ ?hv_ ?_); (case ho_ => first | assumption | exact upd_same); (case hv_ => exact Nat.le_of_ble_eq_true rfl)) | ((with_reducible refine' me_Packet_fork ?ho_ ?_); (case ho_ => first | assumption | exact upd_same)) | ((with_reducible refine' me_Packet_eq__ ?ho_ ?_); (case ho_ => first | assumption | exact upd_same)) | ((with_reducible refine' me_Packet_fields ?ho_ ?_); (case ho_ => first | assumption | exact upd_same)))
local macro_rules | `(tactic| walk_at "use") => `(tactic| first | ((with_reducible refine' fd_Flight_number ?ho_ ?hv_ ?_); (case ho_ => first | assumption | exact upd_same); (case hv_ => exact rfl)) | ((with_reducible refine' fd_Flight_birth ?ho_ ?hv_ ?_); (case ho_ => first | assumption | exact upd_same); (case hv_ => exact rfl)) | ((with_reducible refine' fd_Flight_packet ?ho_ ?hv_ ?_); (case ho_ => first | assumption | exact upd_same); (case hv_ => exact rfl)) | ((with_reducible refine' nw_Flight_number ?ho_ ?hv_ ?_); (case ho_ => first | assumption | exact upd_same); (case hv_ => exact rfl)) | ((with_reducible refine' nw_Flight_birth ?ho_ ?hv_ ?_); (case ho_ => first | assumption | exact upd_same); (case hv_ => exact rfl)) | ((with_reducible refine' nw_Flight_packet ?ho_ ?hv_ ?_); (case ho_ => first | assumption | exact upd_same); (case hv_ => exact rfl)) | ((with_reducible refine' st_Flight_number ?ho_ ?hv_ ?_); (case ho_ => first | assumption | exact upd_same); (case hv_ => exact Nat.le_of_ble_eq_true rfl)) | ((with_reducible refine' st_Flight_birth ?ho_ ?hv_ ?_); (case ho_ => first | assumption | exact upd_same); (case hv_ => exact Nat.le_of_ble_eq_true rfl)) | ((with_reducible refine' st_Flight_packet ?ho_ ?hv_ ?_); (case ho_ => first | assumption | exact upd_same); (case hv_ => exact Nat.le_of_ble_eq_true rfl)) | ((with_reducible refine' me_Flight_eq__ ?ho_ ?_); (case ho_ => first | assumption | exact upd_same)))
local macro_rules | `(tactic| walk_at "use") => `(tactic| first | ((with_reducible refine' fd_Record_tick ?ho_ ?hv_ ?_); (case ho_ => first | assumption | exact upd_same); (case hv_ => exact rfl)) | ((with_reducible refine' fd_Record_number ?ho_ ?hv_ ?_); (case ho_ => first | assumption | exact upd_same); (case hv_ => exact rfl)) | ((with_reducible refine' fd_Record_word ?ho_ ?hv_ ?_); (case ho_ => first | assumption | exact upd_same); (case hv_ => exact rfl)) | ((with_reducible refine' fd_Record_packet ?ho_ ?hv_ ?_); (case ho_ => first | assumption | exact upd_same); (case hv_ => exact rfl)) | ((with_reducible refine' nw_Record_tick ?ho_ ?hv_ ?_); (case ho_ => first | assumption | exact upd_same); (case hv_ => exact rfl)) | ((with_reducible refine' nw_Record_number ?ho_ ?hv_ ?_); (case ho_ => first | assumption | exact upd_same); (case hv_ => exact rfl)) | ((with_reducible refine' nw_Record_word ?ho_ ?hv_ ?_); (case ho_ => first | assumption | exact upd_same); (case hv_ => exact rfl)) | ((with_reducible refine' nw_Record_packet ?ho_ ?hv_ ?_); (case ho_ => first | assumption | exact upd_same); (case hv_ => exact rfl)) | ((with_reducible refine' st_Record_tick ?ho_ ?hv_ ?_); (case ho_ => first | assumption | exact upd_same); (case hv_ => exact Nat.le_of_ble_eq_true rfl)) | ((with_reducible refine' st_Record_number ?ho_ ?hv_ ?_); (case ho_ => first | assumption | exact upd_same); (case hv_ => exact Nat.le_of_ble_eq_true rfl)) | ((with_reducible refine' st_Record_word ?ho_ ?hv_ ?_); (case ho_ => first | assumption | exact upd_same); (case hv_ => exact Nat.le_of_ble_eq_true rfl)) | ((with_reducible refine' st_Record_packet ?ho_ ?hv_ ?_); (case ho_ => first | assumption | exact upd_same); (case hv_ => exact Nat.le_of_ble_eq_true rfl)) | ((with_reducible refine' me_Record_eq__ ?ho_ ?_); (case ho_ => first | assumption | exact upd_same)))
section
variable {P : Program} {w : World} {K : PySem.W.Frag} {mg : Str → Option Value} {base : Heap}
theorem cut_lo {xs : List V} {k : Nat} : cutV xs none (some (k : Int)) = xs.take k := by
  unfold cutV
  rw [HT.sIx_none, HT.sIx_nat, List.drop_zero, Nat.sub_zero]
  rcases Nat.le_total k xs.length with z | z
  · rw [Nat.min_eq_left z]
  · rw [Nat.min_eq_right z, List.take_of_length_le (Nat.le_refl _), List.take_of_length_le z]
theorem cut_hi {xs : List V} {k : Nat} : cutV xs (some (k : Int)) none = xs.drop k := by
  unfold cutV
  rw [HT.sIx_none, HT.sIx_nat]
  rcases Nat.le_total k xs.length with z | z
  · rw [Nat.min_eq_left z, List.take_of_length_le (by rw [List.length_drop]; omega)]
  · rw [Nat.min_eq_right z, List.drop_of_length_le (Nat.le_refl _), List.drop_of_length_le z, List.take_nil]

theorem g_iteN2 {p A B : Prop} [Decidable p] (h2 : ¬ p → B) (h1 : p → A) : if decide p = true then A else B := g_ite h1 h2
local macro_rules | `(tactic| walk_at "use") => `(tactic| with_reducible first | refine g_makeK ?_ | refine g_callN ?_ | refine g_rEqS ?_ | refine g_rNeS ?_)
theorem u_dig {p : Addr} {n m : Int} {H Q E} (h : H p = some (.lst [.int n])) (h0 : 0 < m) (h1 : m < 18446744073709551616) (q : ∀ H', But p H H' → H' p = some (.lst [.int (n / m)]) → Q (.int (n % m)) H') : sp_l_digit K ([.ref p, .int m] ++ []) H Q E := u_digit h h0 h1 (q _ But.refl.upd upd_same)
/-- a row of a packet -/
def RwP (H : Hp) (a l : Addr) (g : Pk) : Prop := H a = some (.lst [.int g.s, .int g.t, .ref l, .bl g.m]) ∧ H l = some (.lst (g.ds.map V.int))
theorem RwP.same {H H' : Hp} {a l : Addr} {g : Pk} (h : RwP H a l g) (s : Same H H') : RwP H' a l g := ⟨s _ _ h.1, s _ _ h.2⟩
theorem RwP.but {p : Addr} {H H' : Hp} {a l : Addr} {g : Pk} (h : RwP H a l g) (b : But p H H') (n1 : a ≠ p) (n2 : l ≠ p) : RwP H' a l g := ⟨b _ _ n1 h.1, b _ _ n2 h.2⟩
def PkOk (g : Pk) : Prop := 0 ≤ g.s ∧ g.s < 65536 ∧ 0 ≤ g.t ∧ g.t < 65536 ∧ g.ds.length ≤ 7 ∧ ∀ x ∈ g.ds, 0 ≤ x ∧ x < 256
def sp_l_packet (K : PySem.W.Frag) : Sp := fun vs H Q _ => ∃ (p : Addr) (n : Int), vs = [.ref p] ∧ H p = some (.lst [.int n]) ∧ ∀ (a l : Addr) (g : Pk) (n' : Int) H', a ≠ p → l ≠ p → a ≠ l → But p H H' → RwP H' a l g → PkOk g → H' p = some (.lst [.int n']) → Q (.ref a) H'
theorem ok_l_packet (T : Txt K mg) : FnOk P w K mg base CX0 2 T.f_l_packet T.d_l_packet ["state"] (sp_l_packet K) := by
  refine T.F_l_packet.ok sc_l_packet (fun vs H Q E h => ?_) (fun cdv A outer s H vs Q E hr h => ?_)
  · obtain ⟨p, n, rfl, hp, q⟩ := h
    rfl
  · obtain ⟨p, n, rfl, hp, q⟩ := h
    have hu := hu_of hr
    refine ⟨_, (pss_cons (ps_setLc (i := 1) (own := [("k", 2)]) (g := gName 2) (tt := tYes) rfl sc_l_packet.nd rfl rfl (sw_true rfl rfl rfl (by decide +kernel)) (pi_range1 (by rfl) T.n_range (pa_cons (pe_call (ok_l_digit T) (hr.mono (by decide)) rfl T.m_l_digit T.F_l_digit.kp T.b_l_digit .nil pass0 (pa_cons (pv 0) (pa_cons pe_int pa_nil))) pa_nil)) (blkOk_by (N := ["state", "octets", "k"]) (sc := defScope s_l_packet) (by decide +kernel)) (fun _ _ _ _ _ => (pg_name (i := 2) sc_l_packet.nd rfl (Or.inl rfl))) (fun _ _ _ _ _ => pts_nil) (fun _ _ _ _ _ => (pe_call (ok_l_digit T) (hr.mono (by decide)) rfl T.m_l_digit T.F_l_digit.kp T.b_l_digit .nil pass0 (pa_cons (pv 0) (pa_cons pe_int pa_nil)))))
        (pss_one (ps_ret (pe_lst (pa_cons (pe_call (ok_l_digit T) (hr.mono (by decide)) rfl T.m_l_digit T.F_l_digit.kp T.b_l_digit .nil pass0 (pa_cons (pv 0) (pa_cons pe_int pa_nil))) (pa_cons (pe_call (ok_l_digit T) (hr.mono (by decide)) rfl T.m_l_digit T.F_l_digit.kp T.b_l_digit .nil pass0 (pa_cons (pv 0) (pa_cons pe_int pa_nil))) (pa_cons (pv 1) (pa_cons (pe_cmpR op_eq (pe_call (ok_l_digit T) (hr.mono (by decide)) rfl T.m_l_digit T.F_l_digit.kp T.b_l_digit .nil pass0 (pa_cons (pv 0) (pa_cons pe_int pa_nil))) pe_int (nomark _)) pa_nil)))))))), ?_⟩
    dsimp only [cxOf, Cx.nox, Cx.wish, L2.start, List.map, List.cons_append, List.nil_append, List.length_cons, List.length_nil, Nat.reduceAdd, Nat.reduceSub, Nat.zero_add, List.replicate_succ, List.replicate_zero]
    walk_at "go"
    refine u_dig hp (by decide) (by decide) fun H1 b1 k1 => ?_
    walk_at "go"
    have d0 : 0 ≤ n % 7 := Int.emod_nonneg _ (by decide)
    have d1 : n % 7 < 7 := Int.emod_lt_of_pos _ (by decide)
    refine ⟨by omega, by omega, fun D hD => ?_⟩
    refine lc_digs hD k1 (by decide) (by decide) (by omega) (fun x => rfl) fun H2 us n2 b2 e2 k2 l2 r2 => ?_
    have nDp : D ≠ p := (ne_of_none k1 hD).symm
    walk_at "go"
    refine u_dig k2 (by decide) (by decide) fun H3 b3 k3 => ?_
    walk_at "go"
    refine u_dig k3 (by decide) (by decide) fun H4 b4 k4 => ?_
    walk_at "go"
    refine u_dig k4 (by decide) (by decide) fun H5 b5 k5 => ?_
    walk_at "go"
    refine ⟨by show 4 ≤ sizeLine; decide, fun a na => ?_⟩
    have e5 := b5 _ _ nDp (b4 _ _ nDp (b3 _ _ nDp e2))
    have s6 := same_upd (o := .lst [.int (n2 % 65536), .int (n2 / 65536 % 65536), .ref D, .bl (decide (n2 / 65536 / 65536 % 2 = 1))]) na
    refine q a D ⟨n2 % 65536, n2 / 65536 % 65536, us, decide (n2 / 65536 / 65536 % 2 = 1)⟩ _ _ (ne_of_none k5 na).symm nDp (ne_of_none e5 na).symm (((((b1.trans b2).trans b3).trans b4).trans b5).trans (But.of s6)) ⟨upd_same, s6 _ _ e5⟩ ?_ (s6 _ _ k5)
    unfold PkOk
    dsimp only
    exact ⟨by omega, by omega, by omega, by omega, by omega, r2⟩
def sp_l_made (C : Addr) : Sp := fun vs H Q _ => ∃ (N : Addr → Prop) (a l : Addr) (g : Pk), (∀ x, N x → H x ≠ none) ∧ vs = [.ref a] ∧ RwP H a l g ∧ ∀ r H', H r = none → Same H H' → PkO C N H' r g → Q (.ref r) H'
theorem u_pmade {C a l : Addr} {g : Pk} {N : Addr → Prop} {H Q E} (n : ∀ x, N x → H x ≠ none) (h : RwP H a l g) (q : ∀ r H', H r = none → Same H H' → PkO C N H' r g → Q (.ref r) H') : sp_l_made C ([.ref a] ++ []) H Q E := ⟨N, a, l, g, n, rfl, h, q⟩
theorem ok_l_made (T : Txt K mg) : FnOk P w K mg base CX0 3 T.f_l_made T.d_l_made ["row"] (sp_l_made T.C_Packet) := by
  refine T.F_l_made.ok sc_l_made (fun vs H Q E h => ?_) (fun cdv A outer s H vs Q E hr h => ?_)
  · obtain ⟨N, a, l, g, hN, rfl, ⟨ho, hl⟩, q⟩ := h
    rfl
  · obtain ⟨N, a, l, g, hN, rfl, ⟨ho, hl⟩, q⟩ := h
    have hu := hu_of hr
    obtain ⟨gk_0, kb_0⟩ := kbt_0 T
    refine ⟨_, (pss_one (ps_ret (pe_makeK T.mk_Packet (ok_Packet_init__ T) (hr.mono (by decide)) rfl T.c_Packet kb_0 pass0 (pa_cons (pe_ix ix_list (pv 0) pe_int (fun _ _ => rfl)) (pa_cons (pe_ix ix_list (pv 0) pe_int (fun _ _ => rfl)) (pa_cons (pe_callTy call_list_of (by rfl) T.n_list (by decide +kernel) (pa_cons (pe_ix ix_list (pv 0) pe_int (fun _ _ => rfl)) pa_nil)) pa_nil))) (pk_cons (pe_ix ix_list (pv 0) pe_int (fun _ _ => rfl)) pk_nil)))), ?_⟩
    dsimp only [cxOf, Cx.nox, Cx.wish, L2.start, List.map, List.cons_append, List.nil_append, List.length_cons, List.length_nil, Nat.reduceAdd, Nat.reduceSub, Nat.zero_add, List.replicate_succ, List.replicate_zero]
    walk_at "go"
    refine g_ixL (sl ho) (at_of (j := 0) rfl rfl) ?_
    walk_at "go"
    refine g_ixL (sl ho) (at_of (j := 1) rfl rfl) ?_
    walk_at "go"
    refine g_ixL (sl ho) (at_of (j := 2) rfl rfl) ?_
    walk_at "go"
    refine ⟨l, _, rfl, .inl (sl hl), fun l2 n2 => ?_⟩
    walk_at "nw"
    rename_i H2 s2 k2
    walk_at "go"
    refine g_ixL (sl (s2 _ _ ho)) (at_of (j := 3) rfl rfl) ?_
    walk_at "go"
    refine ⟨rfl, rfl, fun x dy nx ndx nxd => ?_⟩
    refine ⟨N, x, dy, l2, g, nOld (nSame hN s2) nx ndx, rfl, upd_same, by rw [upd_ne (ne_of_none k2 nx), upd_ne (ne_of_none k2 ndx)]; exact k2, fun H' b o => ⟨rfl, ?_⟩⟩
    exact q x H' (s2.free nx) (s2.trans (made_same nx ndx nxd b)) o
def OthP (N : Addr → Prop) (g : Pk) (H : Hp) (us : List V) : Prop := ∀ x ∈ us, ∃ u l h, x = V.ref u ∧ RwP H u l h ∧ h ≠ g ∧ ¬ N u ∧ ¬ N l
theorem OthP.same {N : Addr → Prop} {g : Pk} {H H' : Hp} {us : List V} (h : OthP N g H us) (s : Same H H') : OthP N g H' us := fun x hx => let ⟨u, l, d, h1, h2, h3, h4, h5⟩ := h x hx; ⟨u, l, d, h1, h2.same s, h3, h4, h5⟩
theorem OthP.but {N : Addr → Prop} {c : Addr} {g : Pk} {H H' : Hp} {us : List V} (h : OthP N g H us) (hc : N c) (s : But c H H') : OthP N g H' us := fun x hx => let ⟨u, l, d, h1, h2, h3, h4, h5⟩ := h x hx; ⟨u, l, d, h1, h2.but s (fun z => h4 (z ▸ hc)) (fun z => h5 (z ▸ hc)), h3, h4, h5⟩
theorem OthP.mono {N N' : Addr → Prop} {g : Pk} {H : Hp} {us : List V} (h : OthP N g H us) (i : ∀ x, N' x → N x) : OthP N' g H us := fun x hx => let ⟨u, l, d, h1, h2, h3, h4, h5⟩ := h x hx; ⟨u, l, d, h1, h2, h3, fun z => h4 (i _ z), fun z => h5 (i _ z)⟩
theorem OthP.nil {N : Addr → Prop} {g : Pk} {H : Hp} : OthP N g H [] := fun x h => by cases h
theorem OthP.cons {N : Addr → Prop} {g : Pk} {H : Hp} {us : List V} {u l : Addr} {d : Pk} (r : RwP H u l d) (n : d ≠ g) (n1 : ¬ N u) (n2 : ¬ N l) (h : OthP N g H us) : OthP N g H (us ++ [.ref u]) := fun x hx => by
  rcases List.mem_append.mp hx with hx | hx
  · exact h x hx
  · exact ⟨u, l, d, List.mem_singleton.mp hx, r, n, n1, n2⟩
theorem put_ne {ds : List Int} {i : Nat} {o : Int} (hi : i < ds.length) (h : ∀ y, ds[i]? = some y → o ≠ y) : ds.take i ++ [o] ++ ds.drop (i + 1) ≠ ds := fun e => by
  have h1 : (ds.take i ++ [o] ++ ds.drop (i + 1))[i]? = some o := by
    rw [List.append_assoc, List.getElem?_append_right (by rw [List.length_take]; omega), List.length_take, Nat.min_eq_left (by omega), Nat.sub_self]
    rfl
  rw [e] at h1
  exact h o h1 rfl
def sp_l_others (K : PySem.W.Frag) : Sp := fun vs H Q _ => ∃ (p a l : Addr) (n : Int) (g : Pk), vs = [.ref a, .ref p] ∧ H p = some (.lst [.int n]) ∧ RwP H a l g ∧ PkOk g ∧ a ≠ p ∧ l ≠ p ∧
  ∀ (D : Addr) (us : List V) (n' : Int) H', D ≠ p → But p H H' → H' p = some (.lst [.int n']) → H' D = some (.lst us) → 0 < us.length → us.length ≤ 5 → OthP (· = p) g H' us → Q (.ref D) H'
theorem ok_l_others (T : Txt K mg) : FnOk P w K mg base CX0 2 T.f_l_others T.d_l_others ["row", "state"] (sp_l_others K) := by
  refine T.F_l_others.ok sc_l_others (fun vs H Q E h => ?_) (fun cdv A outer s H vs Q E hr h => ?_)
  · obtain ⟨p, a, l, n, ⟨s, t, ds, m⟩, rfl, hp, ⟨ho, hl⟩, ⟨s0, s1, t0, t1, dl, dr⟩, na, nl, q⟩ := h
    rfl
  · obtain ⟨p, a, l, n, ⟨s, t, ds, m⟩, rfl, hp, ⟨ho, hl⟩, ⟨s0, s1, t0, t1, dl, dr⟩, na, nl, q⟩ := h
    have hu := hu_of hr
    refine ⟨_, (pss_cons (ps_set (i := 2) sc_l_others.nd rfl (Or.inl rfl) (pe_op op_add pe_int (pe_call (ok_l_digit T) (hr.mono (by decide)) rfl T.m_l_digit T.F_l_digit.kp T.b_l_digit .nil pass0 (pa_cons (pv 1) (pa_cons pe_int pa_nil)))))
        (pss_cons (ps_set (i := 3) sc_l_others.nd rfl (Or.inl rfl) (pe_op op_cat (pe_ix ix_list (pv 0) pe_int (fun _ _ => rfl)) (pe_lst (pa_cons (pe_call (ok_l_digit T) (hr.mono (by decide)) rfl T.m_l_digit T.F_l_digit.kp T.b_l_digit .nil pass0 (pa_cons (pv 1) (pa_cons pe_int pa_nil))) pa_nil))))
        (pss_cons (ps_set (i := 4) sc_l_others.nd rfl (Or.inl rfl) (pe_lst (pa_cons (pe_lst (pa_cons (pe_op op_mod (pe_callTy call_int1 (by rfl) T.n_int (by decide +kernel) (pa_cons (pe_op op_add (pe_ix ix_list (pv 0) pe_int (fun _ _ => rfl)) (pv 2)) pa_nil)) pe_int) (pa_cons (pe_ix ix_list (pv 0) pe_int (fun _ _ => rfl)) (pa_cons (pe_ix ix_list (pv 0) pe_int (fun _ _ => rfl)) (pa_cons (pe_ix ix_list (pv 0) pe_int (fun _ _ => rfl)) pa_nil))))) (pa_cons (pe_lst (pa_cons (pe_ix ix_list (pv 0) pe_int (fun _ _ => rfl)) (pa_cons (pe_op op_mod (pe_callTy call_int1 (by rfl) T.n_int (by decide +kernel) (pa_cons (pe_op op_add (pe_ix ix_list (pv 0) pe_int (fun _ _ => rfl)) (pv 2)) pa_nil)) pe_int) (pa_cons (pe_ix ix_list (pv 0) pe_int (fun _ _ => rfl)) (pa_cons (pe_ix ix_list (pv 0) pe_int (fun _ _ => rfl)) pa_nil))))) pa_nil))))
        (pss_cons (ps_set (i := 4) sc_l_others.nd rfl (Or.inl rfl) (pe_op op_cat (pv 4) (pe_lst (pa_cons (pe_lst (pa_cons (pe_ix ix_list (pv 0) pe_int (fun _ _ => rfl)) (pa_cons (pe_ix ix_list (pv 0) pe_int (fun _ _ => rfl)) (pa_cons (pv 3) (pa_cons (pe_ix ix_list (pv 0) pe_int (fun _ _ => rfl)) pa_nil))))) (pa_cons (pe_lst (pa_cons (pe_ix ix_list (pv 0) pe_int (fun _ _ => rfl)) (pa_cons (pe_ix ix_list (pv 0) pe_int (fun _ _ => rfl)) (pa_cons (pe_ix ix_list (pv 0) pe_int (fun _ _ => rfl)) (pa_cons (pe_not (pe_ix ix_list (pv 0) pe_int (fun _ _ => rfl))) pa_nil))))) pa_nil)))))
        (pss_cons (ps_if (pt_cmpR op_gt (pe_callB call_len_seq (by rfl) T.n_len (by decide +kernel) (pa_cons (pe_ix ix_list (pv 0) pe_int (fun _ _ => rfl)) pa_nil)) pe_int (nomark _)) (pss_cons (ps_set (i := 5) sc_l_others.nd rfl (Or.inl rfl) (pe_call (ok_l_digit T) (hr.mono (by decide)) rfl T.m_l_digit T.F_l_digit.kp T.b_l_digit .nil pass0 (pa_cons (pv 1) (pa_cons (pe_callB call_len_seq (by rfl) T.n_len (by decide +kernel) (pa_cons (pe_ix ix_list (pv 0) pe_int (fun _ _ => rfl)) pa_nil)) pa_nil))))
        (pss_cons (ps_set (i := 6) sc_l_others.nd rfl (Or.inl rfl) (pe_op op_mod (pe_callTy call_int1 (by rfl) T.n_int (by decide +kernel) (pa_cons (pe_op op_add (pe_op op_add (pe_ix ix_list (pe_ix ix_list (pv 0) pe_int (fun _ _ => rfl)) (pv 5) (fun _ _ => rfl)) pe_int) (pe_call (ok_l_digit T) (hr.mono (by decide)) rfl T.m_l_digit T.F_l_digit.kp T.b_l_digit .nil pass0 (pa_cons (pv 1) (pa_cons pe_int pa_nil)))) pa_nil)) pe_int))
        (pss_one (ps_expr (pe_bm PySem.F.plainAttrs_list PySem.F.slot_list_append PySem.F.type_list_append mt_append (pv 4) (pa_cons (pe_lst (pa_cons (pe_ix ix_list (pv 0) pe_int (fun _ _ => rfl)) (pa_cons (pe_ix ix_list (pv 0) pe_int (fun _ _ => rfl)) (pa_cons (pe_op op_cat (pe_op op_cat (pe_slice sl_list (pe_ix ix_list (pv 0) pe_int (fun _ _ => rfl)) po_none (po_some (pv 5))) (pe_lst (pa_cons (pv 6) pa_nil))) (pe_slice sl_list (pe_ix ix_list (pv 0) pe_int (fun _ _ => rfl)) (po_some (pe_op op_add (pv 5) pe_int)) po_none)) (pa_cons (pe_ix ix_list (pv 0) pe_int (fun _ _ => rfl)) pa_nil))))) pa_nil)))))) pss_nil)
        (pss_one (ps_ret (pv 4)))))))), ?_⟩
    dsimp only [cxOf, Cx.nox, Cx.wish, L2.start, List.map, List.cons_append, List.nil_append, List.length_cons, List.length_nil, Nat.reduceAdd, Nat.reduceSub, Nat.zero_add, List.replicate_succ, List.replicate_zero]
    dsimp only at ho hl s0 s1 t0 t1 dl dr
    have wd : ∀ {z : Int}, 0 ≤ z % 60000 ∧ z % 60000 < 60000 := fun {z} => ⟨Int.emod_nonneg _ (by decide), Int.emod_lt_of_pos _ (by decide)⟩
    walk_at "go"
    refine u_dig hp (by decide) (by decide) fun H1 b1 k1 => ?_
    have fw := wd (z := n)
    generalize n % 60000 = fa at fw
    have ho1 := b1 _ _ na ho
    have hl1 := b1 _ _ nl hl
    walk_at "go"
    refine g_ixL (sl ho1) (at_of (j := 2) rfl rfl) ?_
    walk_at "go"
    refine u_dig k1 (by decide) (by decide) fun H2 b2 k2 => ?_
    have ho2 := b2 _ _ na ho1
    have hl2 := b2 _ _ nl hl1
    have B2 := b1.trans b2
    walk_at "go"
    refine ⟨by show 1 ≤ sizeLine; decide, fun c1 nc1 => ?_⟩
    have pc1 : c1 ≠ p := (ne_of_none k2 nc1).symm
    have lc1 : l ≠ c1 := ne_of_none hl2 nc1
    walk_at "nw"
    rename_i H3 s3 ec1
    have ho3 := s3 _ _ ho2
    have hl3 := s3 _ _ hl2
    have k3 := s3 _ _ k2
    have B3 := B2.trans (But.of s3)
    walk_at "go"
    refine g_cat hl3 ec1 (by rw [List.length_map]; exact szl (by show _ + 1 ≤ _; omega)) fun L nL => ?_
    have pL : L ≠ p := (ne_of_none k3 nL).symm
    have lL : l ≠ L := ne_of_none hl3 nL
    walk_at "nw"
    rename_i H4 s4 eL
    have ho4 := s4 _ _ ho3
    have hl4 := s4 _ _ hl3
    have k4 := s4 _ _ k3
    have B4 := B3.trans (But.of s4)
    have ec1 := s4 _ _ ec1
    walk_at "go"
    refine g_ixL (sl ho4) (at_of (j := 0) rfl rfl) ?_
    walk_at "go"
    refine g_ixL (sl ho4) (at_of (j := 1) rfl rfl) ?_
    walk_at "go"
    refine g_ixL (sl ho4) (at_of (j := 2) rfl rfl) ?_
    walk_at "go"
    refine g_ixL (sl ho4) (at_of (j := 3) rfl rfl) ?_
    walk_at "go"
    refine ⟨by show 4 ≤ sizeLine; decide, fun a1 na1 => ?_⟩
    have pa1 : a1 ≠ p := (ne_of_none k4 na1).symm
    have la1 : l ≠ a1 := ne_of_none hl4 na1
    walk_at "nw"
    rename_i H5 s5 ea1
    have ho5 := s5 _ _ ho4
    have hl5 := s5 _ _ hl4
    have k5 := s5 _ _ k4
    have B5 := B4.trans (But.of s5)
    have ec1 := s5 _ _ ec1
    have eL := s5 _ _ eL
    walk_at "go"
    refine g_ixL (sl ho5) (at_of (j := 0) rfl rfl) ?_
    walk_at "go"
    refine g_ixL (sl ho5) (at_of (j := 1) rfl rfl) ?_
    walk_at "go"
    refine g_ixL (sl ho5) (at_of (j := 2) rfl rfl) ?_
    walk_at "go"
    refine g_ixL (sl ho5) (at_of (j := 3) rfl rfl) ?_
    walk_at "go"
    refine ⟨by show 4 ≤ sizeLine; decide, fun a2 na2 => ?_⟩
    have pa2 : a2 ≠ p := (ne_of_none k5 na2).symm
    have la2 : l ≠ a2 := ne_of_none hl5 na2
    walk_at "nw"
    rename_i H6 s6 ea2
    have ho6 := s6 _ _ ho5
    have hl6 := s6 _ _ hl5
    have k6 := s6 _ _ k5
    have B6 := B5.trans (But.of s6)
    have ec1 := s6 _ _ ec1
    have eL := s6 _ _ eL
    have ea1 := s6 _ _ ea1
    walk_at "go"
    refine ⟨by show 2 ≤ sizeLine; decide, fun o1 no1 => ?_⟩
    have po1 : o1 ≠ p := (ne_of_none k6 no1).symm
    have lo1 : l ≠ o1 := ne_of_none hl6 no1
    walk_at "nw"
    rename_i H7 s7 eo1
    have ho7 := s7 _ _ ho6
    have hl7 := s7 _ _ hl6
    have k7 := s7 _ _ k6
    have B7 := B6.trans (But.of s7)
    have ec1 := s7 _ _ ec1
    have eL := s7 _ _ eL
    have ea1 := s7 _ _ ea1
    have ea2 := s7 _ _ ea2
    walk_at "go"
    refine g_ixL (sl ho7) (at_of (j := 0) rfl rfl) ?_
    walk_at "go"
    refine g_ixL (sl ho7) (at_of (j := 1) rfl rfl) ?_
    walk_at "go"
    refine g_ixL (sl ho7) (at_of (j := 3) rfl rfl) ?_
    walk_at "go"
    refine ⟨by show 4 ≤ sizeLine; decide, fun a3 na3 => ?_⟩
    have pa3 : a3 ≠ p := (ne_of_none k7 na3).symm
    have la3 : l ≠ a3 := ne_of_none hl7 na3
    walk_at "nw"
    rename_i H8 s8 ea3
    have ho8 := s8 _ _ ho7
    have hl8 := s8 _ _ hl7
    have k8 := s8 _ _ k7
    have B8 := B7.trans (But.of s8)
    have ec1 := s8 _ _ ec1
    have eL := s8 _ _ eL
    have ea1 := s8 _ _ ea1
    have ea2 := s8 _ _ ea2
    have eo1 := s8 _ _ eo1
    walk_at "go"
    refine g_ixL (sl ho8) (at_of (j := 0) rfl rfl) ?_
    walk_at "go"
    refine g_ixL (sl ho8) (at_of (j := 1) rfl rfl) ?_
    walk_at "go"
    refine g_ixL (sl ho8) (at_of (j := 2) rfl rfl) ?_
    walk_at "go"
    refine g_ixL (sl ho8) (at_of (j := 3) rfl rfl) ?_
    walk_at "go"
    refine ⟨by show 4 ≤ sizeLine; decide, fun a4 na4 => ?_⟩
    have pa4 : a4 ≠ p := (ne_of_none k8 na4).symm
    have la4 : l ≠ a4 := ne_of_none hl8 na4
    walk_at "nw"
    rename_i H9 s9 ea4
    have ho9 := s9 _ _ ho8
    have hl9 := s9 _ _ hl8
    have k9 := s9 _ _ k8
    have B9 := B8.trans (But.of s9)
    have ec1 := s9 _ _ ec1
    have eL := s9 _ _ eL
    have ea1 := s9 _ _ ea1
    have ea2 := s9 _ _ ea2
    have eo1 := s9 _ _ eo1
    have ea3 := s9 _ _ ea3
    walk_at "go"
    refine ⟨by show 2 ≤ sizeLine; decide, fun o2 no2 => ?_⟩
    have po2 : o2 ≠ p := (ne_of_none k9 no2).symm
    have lo2 : l ≠ o2 := ne_of_none hl9 no2
    walk_at "nw"
    rename_i H10 s10 eo2
    have ho10 := s10 _ _ ho9
    have hl10 := s10 _ _ hl9
    have k10 := s10 _ _ k9
    have B10 := B9.trans (But.of s10)
    have ec1 := s10 _ _ ec1
    have eL := s10 _ _ eL
    have ea1 := s10 _ _ ea1
    have ea2 := s10 _ _ ea2
    have eo1 := s10 _ _ eo1
    have ea3 := s10 _ _ ea3
    have ea4 := s10 _ _ ea4
    walk_at "go"
    refine g_cat eo1 eo2 (by exact szl (by show 2 + 2 ≤ _; omega)) fun D nD => ?_
    have pD : D ≠ p := (ne_of_none k10 nD).symm
    have lD : l ≠ D := ne_of_none hl10 nD
    walk_at "nw"
    rename_i H11 s11 eD
    have ho11 := s11 _ _ ho10
    have hl11 := s11 _ _ hl10
    have k11 := s11 _ _ k10
    have B11 := B10.trans (But.of s11)
    have dc1D : c1 ≠ D := ne_of_none ec1 nD
    have ec1 := s11 _ _ ec1
    have dLD : L ≠ D := ne_of_none eL nD
    have eL := s11 _ _ eL
    have da1D : a1 ≠ D := ne_of_none ea1 nD
    have ea1 := s11 _ _ ea1
    have da2D : a2 ≠ D := ne_of_none ea2 nD
    have ea2 := s11 _ _ ea2
    have do1D : o1 ≠ D := ne_of_none eo1 nD
    have eo1 := s11 _ _ eo1
    have da3D : a3 ≠ D := ne_of_none ea3 nD
    have ea3 := s11 _ _ ea3
    have da4D : a4 ≠ D := ne_of_none ea4 nD
    have ea4 := s11 _ _ ea4
    have do2D : o2 ≠ D := ne_of_none eo2 nD
    have eo2 := s11 _ _ eo2
    have lL : ds.map V.int ++ [V.int (n / 60000 % 256)] = (ds ++ [n / 60000 % 256]).map V.int := by rw [List.map_append]; rfl
    rw [lL] at eL
    have r1 : OthP (fun x => x = p ∨ x = D) ⟨s, t, ds, m⟩ H11 ([V.ref a1, V.ref a2] ++ [V.ref a3, V.ref a4]) := by
      have nn : ∀ {x : Addr}, x ≠ p → x ≠ D → ¬ (x = p ∨ x = D) := fun h1 h2 z => z.elim h1 h2
      refine ((((OthP.nil).cons (u := a1) (l := l) (d := ⟨(s + (1 + fa)) % 65536, t, ds, m⟩) ⟨ea1, hl11⟩ ?_ (nn pa1 da1D) (nn nl lD)).cons (u := a2) (l := l) (d := ⟨s, (t + (1 + fa)) % 65536, ds, m⟩) ⟨ea2, hl11⟩ ?_ (nn pa2 da2D) (nn nl lD)).cons (u := a3) (l := L) (d := ⟨s, t, ds ++ [n / 60000 % 256], m⟩) ⟨ea3, eL⟩ ?_ (nn pa3 da3D) (nn pL dLD)).cons (u := a4) (l := l) (d := ⟨s, t, ds, !m⟩) ⟨ea4, hl11⟩ ?_ (nn pa4 da4D) (nn nl lD)
      · intro z
        injection z with z1
        omega
      · intro z
        injection z with _ z1
        omega
      · intro z
        injection z with _ _ z1
        have := congrArg List.length z1
        rw [List.length_append] at this
        simp at this
      · intro z
        injection z with _ _ _ z1
        cases m <;> cases z1
    walk_at "go"
    refine g_ixL (sl ho11) (at_of (j := 2) rfl rfl) ?_
    walk_at "go"
    refine g_len (.inl (sl hl11)) ?_
    walk_at "go"
    rw [List.length_map]
    refine g_iteN2 (fun c => ?_) (fun c => ?_)
    · walk_at "go"
      exact q D _ _ _ pD B11 k11 eD (by show 0 < 4; exact Nat.succ_pos _) (by show 4 ≤ 5; omega) (r1.mono fun x z => .inl z)
    walk_at "go"
    refine g_ixL (sl ho11) (at_of (j := 2) rfl rfl) ?_
    walk_at "go"
    refine g_len (.inl (sl hl11)) ?_
    walk_at "go"
    rw [List.length_map]
    have i0 : 0 ≤ n / 60000 / 256 % (ds.length : Int) := Int.emod_nonneg _ (by omega)
    have i1 : n / 60000 / 256 % (ds.length : Int) < ds.length := Int.emod_lt_of_pos _ c
    obtain ⟨i, ei⟩ : ∃ i : Nat, n / 60000 / 256 % (ds.length : Int) = i := ⟨(n / 60000 / 256 % (ds.length : Int)).toNat, by omega⟩
    have hi : i < ds.length := by omega
    refine u_dig k11 c (by omega) fun H12 b12 k12 => ?_
    rw [ei]
    clear i0 i1
    have ho12 := b12 _ _ na ho11
    have hl12 := b12 _ _ nl hl11
    have B12 := B11.trans b12
    have r1 := r1.but (.inl rfl) b12
    have eD := b12 _ _ pD eD
    walk_at "go"
    refine g_ixL (sl ho12) (at_of (j := 2) rfl rfl) ?_
    obtain ⟨y, er, ey⟩ := atI_ints (xs := ds) (i := (i : Int)) (by omega) (by omega)
    walk_at "go"
    refine g_ixL (sl hl12) er ?_
    walk_at "go"
    refine u_dig k12 (by decide) (by decide) fun H13 b13 k13 => ?_
    have ho13 := b13 _ _ na ho12
    have hl13 := b13 _ _ nl hl12
    have B13 := B12.trans b13
    have r1 := r1.but (.inl rfl) b13
    have eD := b13 _ _ pD eD
    generalize n / 60000 / 256 / (ds.length : Int) = n5 at k13
    have v0 : 0 ≤ n5 % 255 := Int.emod_nonneg _ (by decide)
    have v1 : n5 % 255 < 255 := Int.emod_lt_of_pos _ (by decide)
    walk_at "go"
    refine ⟨ty_l eD, ?_⟩
    walk_at "go"
    refine g_ixL (sl ho13) (at_of (j := 0) rfl rfl) ?_
    walk_at "go"
    refine g_ixL (sl ho13) (at_of (j := 1) rfl rfl) ?_
    walk_at "go"
    refine g_ixL (sl ho13) (at_of (j := 2) rfl rfl) ?_
    walk_at "go"
    refine g_slL (sl hl13) fun u1 nu1 => ?_
    have pu1 : u1 ≠ p := (ne_of_none k13 nu1).symm
    have lu1 : l ≠ u1 := ne_of_none hl13 nu1
    walk_at "nw"
    rename_i H14 s14 eu1
    have ho14 := s14 _ _ ho13
    have hl14 := s14 _ _ hl13
    have k14 := s14 _ _ k13
    have B14 := B13.trans (But.of s14)
    have dDu1 : D ≠ u1 := ne_of_none eD nu1
    have eD := s14 _ _ eD
    rw [cut_lo, ← List.map_take] at eu1
    walk_at "go"
    refine ⟨by show 1 ≤ sizeLine; decide, fun u2 nu2 => ?_⟩
    have pu2 : u2 ≠ p := (ne_of_none k14 nu2).symm
    have lu2 : l ≠ u2 := ne_of_none hl14 nu2
    walk_at "nw"
    rename_i H15 s15 eu2
    have ho15 := s15 _ _ ho14
    have hl15 := s15 _ _ hl14
    have k15 := s15 _ _ k14
    have B15 := B14.trans (But.of s15)
    have dDu2 : D ≠ u2 := ne_of_none eD nu2
    have eD := s15 _ _ eD
    have eu1 := s15 _ _ eu1
    walk_at "go"
    refine g_cat eu1 eu2 (by rw [List.length_map, List.length_take]; exact szl (by show _ + 1 ≤ _; omega)) fun u3 nu3 => ?_
    have pu3 : u3 ≠ p := (ne_of_none k15 nu3).symm
    have lu3 : l ≠ u3 := ne_of_none hl15 nu3
    walk_at "nw"
    rename_i H16 s16 eu3
    have ho16 := s16 _ _ ho15
    have hl16 := s16 _ _ hl15
    have k16 := s16 _ _ k15
    have B16 := B15.trans (But.of s16)
    have dDu3 : D ≠ u3 := ne_of_none eD nu3
    have eD := s16 _ _ eD
    have eu1 := s16 _ _ eu1
    have eu2 := s16 _ _ eu2
    walk_at "go"
    refine g_ixL (sl ho16) (at_of (j := 2) rfl rfl) ?_
    walk_at "go"
    refine g_slL (sl hl16) fun u4 nu4 => ?_
    have pu4 : u4 ≠ p := (ne_of_none k16 nu4).symm
    have lu4 : l ≠ u4 := ne_of_none hl16 nu4
    walk_at "nw"
    rename_i H17 s17 eu4
    have ho17 := s17 _ _ ho16
    have hl17 := s17 _ _ hl16
    have k17 := s17 _ _ k16
    have B17 := B16.trans (But.of s17)
    have dDu4 : D ≠ u4 := ne_of_none eD nu4
    have eD := s17 _ _ eD
    have eu1 := s17 _ _ eu1
    have eu2 := s17 _ _ eu2
    have eu3 := s17 _ _ eu3
    rw [show (i : Int) + 1 = ((i + 1 : Nat) : Int) by omega, cut_hi, ← List.map_drop] at eu4
    walk_at "go"
    refine g_cat eu3 eu4 (by rw [List.length_append, List.length_map, List.length_map, List.length_take, List.length_drop, List.length_singleton]; refine Nat.le_of_lt (szl ?_); omega) fun u5 nu5 => ?_
    have pu5 : u5 ≠ p := (ne_of_none k17 nu5).symm
    have lu5 : l ≠ u5 := ne_of_none hl17 nu5
    walk_at "nw"
    rename_i H18 s18 eu5
    have ho18 := s18 _ _ ho17
    have hl18 := s18 _ _ hl17
    have k18 := s18 _ _ k17
    have B18 := B17.trans (But.of s18)
    have dDu5 : D ≠ u5 := ne_of_none eD nu5
    have eD := s18 _ _ eD
    have eu1 := s18 _ _ eu1
    have eu2 := s18 _ _ eu2
    have eu3 := s18 _ _ eu3
    have eu4 := s18 _ _ eu4
    walk_at "go"
    refine g_ixL (sl ho18) (at_of (j := 3) rfl rfl) ?_
    walk_at "go"
    refine ⟨by show 4 ≤ sizeLine; decide, fun u6 nu6 => ?_⟩
    have pu6 : u6 ≠ p := (ne_of_none k18 nu6).symm
    have lu6 : l ≠ u6 := ne_of_none hl18 nu6
    walk_at "nw"
    rename_i H19 s19 eu6
    have ho19 := s19 _ _ ho18
    have hl19 := s19 _ _ hl18
    have k19 := s19 _ _ k18
    have B19 := B18.trans (But.of s19)
    have dDu6 : D ≠ u6 := ne_of_none eD nu6
    have eD := s19 _ _ eD
    have eu1 := s19 _ _ eu1
    have eu2 := s19 _ _ eu2
    have eu3 := s19 _ _ eu3
    have eu4 := s19 _ _ eu4
    have eu5 := s19 _ _ eu5
    have sD : Same H13 H19 := (((((s14.trans s15).trans s16).trans s17).trans s18).trans s19)
    have r1 := r1.same sD
    rw [show (ds.take i).map V.int ++ [V.int ((y + 1 + n5 % 255) % 256)] ++ (ds.drop (i + 1)).map V.int = (ds.take i ++ [(y + 1 + n5 % 255) % 256] ++ ds.drop (i + 1)).map V.int by rw [List.map_append, List.map_append]; rfl] at eu5
    have hy : 0 ≤ y ∧ y < 256 := dr y (List.mem_of_getElem? ey)
    rw [Int.toNat_natCast] at ey
    have r2 : OthP (fun x => x = p ∨ x = D) ⟨s, t, ds, m⟩ H19 ([V.ref a1, V.ref a2] ++ [V.ref a3, V.ref a4] ++ [V.ref u6]) := by
      have nn : ∀ {x : Addr}, x ≠ p → x ≠ D → ¬ (x = p ∨ x = D) := fun h1 h2 z => z.elim h1 h2
      refine OthP.cons (d := ⟨s, t, ds.take i ++ [(y + 1 + n5 % 255) % 256] ++ ds.drop (i + 1), m⟩) ⟨eu6, eu5⟩ ?_ (nn pu6 dDu6.symm) (nn pu5 dDu5.symm) r1
      intro z
      injection z with _ _ z1
      refine put_ne hi (fun y' ey' => ?_) z1
      rw [ey] at ey'
      injection ey' with ey'
      omega
    walk_at "go"
    refine g_append eD (szl (by show 5 ≤ _; omega)) ?_
    walk_at "bt"
    rename_i HZ bZ kZ
    walk_at "go"
    exact q D _ _ _ pD (fun x o nx e => bZ _ _ (fun z => by rw [z, But.free B10 pD nD] at e; cases e) (B19 _ _ nx e)) (bZ _ _ pD.symm k19) kZ (by show 0 < 5; exact Nat.succ_pos _) (by show 5 ≤ 5; omega) ((r2.but (.inr rfl) bZ).mono fun x z => .inl z)
end

end My
namespace My
open PySem PySem.Spec L2
local macro_rules | `(tactic| walk_at "side") => `(tactic| first | assumption | decide | omega | exact ⟨by decide, by decide⟩ | exact ⟨by decide, by decide, by decide⟩ | decide +kernel | exact cdivW (by decide +kernel) (by decide +kernel) | exact Or.inl ⟨by omega, by omega⟩ | exact Or.inr ⟨by omega, by omega⟩ | (simp only [List.length_map, List.length_cons, List.length_nil, List.length_append]; omega))
local macro_rules | `(tactic| walk_at "fact") => `(tactic| first | assumption | omega | with_reducible rfl)
local macro_rules | `(tactic| walk_at "use") => `(tactic| fail "use")
local macro_rules | `(tactic| walk_at "go1") => `(tactic| with_reducible first | refine g_seq ?_ | refine g_asg ?_ | refine g_ret ?_ | refine g_ifS ?_ | refine g_drop ?_ | refine g_star ?_ | refine g_nx ?_ | refine g_rt ?_ | refine g_bkE ?_ | refine g_ctE ?_ | refine g_next ?_ | refine g_retN ?_ | refine g_brk ?_ | refine g_ct ?_ | refine g_c ?_ | refine g_op ?_ | refine g_un ?_ | refine g_rI0 ?_ | refine g_rU ?_ | refine g_rEqI ?_ | refine g_rNeI ?_ | refine g_isN ?_ | refine g_rIsB ?_ | refine g_rNotB ?_ | refine g_test ?_ | refine g_B ?_ | refine g_bl ?_ | refine g_and ?_ | refine g_or ?_ | refine g_not ?_ | refine g_andV ?_ | refine g_orV ?_ | refine g_notV ?_ | refine g_if ?_ | refine g_chain ?_ | refine g_yes ?_ | refine g_lc ?_ | refine g_revR ?_ | refine g_rng1 ?_ | refine g_iList ?_ | refine g_nil ?_ | refine g_cons ?_ | refine g_tup ?_ | refine g_lst ?_ | refine g_call ?_ | refine g_CB ?_ | refine g_sl ?_ | refine g_noPart ?_ | refine g_part ?_ | refine g_intE ?_ | refine g_ref ?_ | refine g_fld ?_ | refine g_sfld ?_ | refine g_meth ?_ | refine g_make ?_ | refine g_prop ?_  | refine g_ipI ?_ | refine g_int1 ?_ | refine g_int1B ?_ | refine g_one ?_ | refine g_two ?_ | refine g_isiI ?_ | refine g_isiIB ?_ | refine g_isiB ?_ | refine g_BM ?_ | refine g_BM0 ?_ | refine g_sub ?_)
local macro_rules | `(tactic| walk_at "go") => `(tactic| repeat (first | walk_at "go1" | ((with_reducible refine' g_nameE ?sd_ ?_); case sd_ => dsimp only [List.set_cons_succ, List.set_cons_zero]) | ((with_reducible refine' g_var ?sd_ ?_); case sd_ => exact rfl) | ((with_reducible refine' g_aug ?sd_ ?_); case sd_ => exact rfl) | ((with_reducible refine' g_rI ?sd_ ?_); case sd_ => walk_at "side") | ((with_reducible refine' g_dT ?sd_ ?_); case sd_ => walk_at "fact") | ((with_reducible refine' g_dF ?sd_ ?_); case sd_ => walk_at "fact") | ((with_reducible refine' g_nT ?sd_ ?_); case sd_ => walk_at "fact") | ((with_reducible refine' g_nF ?sd_ ?_); case sd_ => walk_at "fact") | (with_reducible refine g_iT rfl ?_) | (with_reducible refine g_iF rfl ?_) | walk_at "use"))
local macro_rules | `(tactic| walk_at "nw") => `(tactic| (generalize zq : upd _ _ _ = Hq; have sq : Same _ Hq := (by rw [← zq]; exact same_upd (by assumption)); have kq := (congrFun zq _).symm.trans upd_same; clear zq))
local macro_rules | `(tactic| walk_at "bt") => `(tactic| (generalize zq : upd _ _ _ = Hq; have bq : But _ _ Hq := (by rw [← zq]; exact But.refl.upd); have kq := (congrFun zq _).symm.trans upd_same; clear zq))
local macro_rules | `(tactic| walk_at "use") => `(tactic| first | ((with_reducible refine' fd_Rule_fault ?ho_ ?hv_ ?_); (case ho_ => first | assumption | exact upd_same); (case hv_ => exact rfl)) | ((with_reducible refine' fd_Rule_amount ?ho_ ?hv_ ?_); (case ho_ => first | assumption | exact upd_same); (case hv_ => exact rfl)) | ((with_reducible refine' fd_Rule_until ?ho_ ?hv_ ?_); (case ho_ => first | assumption | exact upd_same); (case hv_ => exact rfl)) | ((with_reducible refine' fd_Rule_sender ?ho_ ?hv_ ?_); (case ho_ => first | assumption | exact upd_same); (case hv_ => exact rfl)) | ((with_reducible refine' fd_Rule_target ?ho_ ?hv_ ?_); (case ho_ => first | assumption | exact upd_same); (case hv_ => exact rfl)) | ((with_reducible refine' fd_Rule_ticks ?ho_ ?hv_ ?_); (case ho_ => first | assumption | exact upd_same); (case hv_ => exact rfl)) | ((with_reducible refine' fd_Rule_nth ?ho_ ?hv_ ?_); (case ho_ => first | assumption | exact upd_same); (case hv_ => exact rfl)) | ((with_reducible refine' fd_Rule_chance ?ho_ ?hv_ ?_); (case ho_ => first | assumption | exact upd_same); (case hv_ => exact rfl)) | ((with_reducible refine' nw_Rule_fault ?ho_ ?hv_ ?_); (case ho_ => first | assumption | exact upd_same); (case hv_ => exact rfl)) | ((with_reducible refine' nw_Rule_amount ?ho_ ?hv_ ?_); (case ho_ => first | assumption | exact upd_same); (case hv_ => exact rfl)) | ((with_reducible refine' nw_Rule_until ?ho_ ?hv_ ?_); (case ho_ => first | assumption | exact upd_same); (case hv_ => exact rfl)) | ((with_reducible refine' nw_Rule_sender ?ho_ ?hv_ ?_); (case ho_ => first | assumption | exact upd_same); (case hv_ => exact rfl)) | ((with_reducible refine' nw_Rule_target ?ho_ ?hv_ ?_); (case ho_ => first | assumption | exact upd_same); (case hv_ => exact rfl)) | ((with_reducible refine' nw_Rule_ticks ?ho_ ?hv_ ?_); (case ho_ => first | assumption | exact upd_same); (case hv_ => exact rfl)) | ((with_reducible refine' nw_Rule_nth ?ho_ ?hv_ ?_); (case ho_ => first | assumption | exact upd_same); (case hv_ => exact rfl)) | ((with_reducible refine' nw_Rule_chance ?ho_ ?hv_ ?_); (case ho_ => first | assumption | exact upd_same); (case hv_ => exact rfl)) | ((with_reducible refine' st_Rule_fault ?ho_ ?hv_ ?_); (case ho_ => first | assumption | exact upd_same); (case hv_ => exact Nat.le_of_ble_eq_true rfl)) | ((with_reducible refine' st_Rule_amount ?ho_ ?hv_ ?_); (case ho_ => first | assumption | exact upd_same); (case hv_ => exact Nat.le_of_ble_eq_true rfl)) | ((with_reducible refine' st_Rule_until ?ho_ ?hv_ ?_); (case ho_ => first | assumption | exact upd_same); (case hv_ => exact Nat.le_of_ble_eq_true rfl)) | ((with_reducible refine' st_Rule_sender ?ho_ ?hv_ ?_); (case ho_ => first | assumption | exact upd_same); (case hv_ => exact Nat.le_of_ble_eq_true rfl)) | ((with_reducible refine' st_Rule_target ?ho_ ?hv_ ?_); (case ho_ => first | assumption | exact upd_same); (case hv_ => exact Nat.le_of_ble_eq_true rfl)) | ((with_reducible refine' st_Rule_ticks ?ho_ ?hv_ ?_); (case ho_ => first | assumption | exact upd_same); (case hv_ => exact Nat.le_of_ble_eq_true rfl)) | ((with_reducible refine' st_Rule_nth ?ho_ ?hv_ ?_); (case ho_ => first | assumption | exact upd_same); (case hv_ => exact Nat.le_of_ble_eq_true rfl)) | ((with_reducible refine' st_Rule_chance ?ho_ ?hv_ ?_); (case ho_ => first | assumption | exact upd_same); (case hv_ => exact Nat.le_of_ble_eq_true rfl)) | ((with_reducible refine' me_Rule_considers ?ho_ ?_); (case ho_ => first | assumption | exact upd_same)) | ((with_reducible refine' me_Rule_eq__ ?ho_ ?_); (case ho_ => first | assumption | exact upd_same)) | ((with_reducible refine' me_Rule_fields ?ho_ ?_); (case ho_ => first | assumption | exact upd_same)))
local macro_rules | `(tactic| walk_at "use") => `(tactic| first | ((with_reducible refine' fd_Packet_sender ?ho_ ?hv_ ?_); (case ho_ => first | assumption | exact upd_same); (case hv_ => exact rfl)) | ((with_reducible refine' fd_Packet_target ?ho_ ?hv_ ?_); (case ho_ => first | assumption | exact upd_same); (case hv_ => exact rfl)) | ((with_reducible refine' fd_Packet_octets ?ho_ ?hv_ ?_); (case ho_ => first | assumption | exact upd_same); (case hv_ => exact rfl)) | ((with_reducible refine' fd_Packet_marked ?ho_ ?hv_ ?_); (case ho_ => first | assumption | exact upd_same); (case hv_ => exact rfl)) | ((with_reducible refine' nw_Packet_sender ?ho_ ?hv_ ?_); (case ho_ => first | assumption | exact upd_same); (case hv_ => exact rfl)) | ((with_reducible refine' nw_Packet_target ?ho_ ?hv_ ?_); (case ho_ => first | assumption | exact upd_same); (case hv_ => exact rfl)) | ((with_reducible refine' nw_Packet_octets ?ho_ ?hv_ ?_); (case ho_ => first | assumption | exact upd_same); (case hv_ => exact rfl)) | ((with_reducible refine' nw_Packet_marked ?ho_ ?hv_ ?_); (case ho_ => first | assumption | exact upd_same); (case hv_ => exact rfl)) | ((with_reducible refine' st_Packet_sender ?ho_ ?hv_ ?_); (case ho_ => first | assumption | exact upd_same); (case hv_ => exact Nat.le_of_ble_eq_true rfl)) | ((with_reducible refine' st_Packet_target ?ho_ ?hv_ ?_); (case ho_ => first | assumption | exact upd_same); (case hv_ => exact Nat.le_of_ble_eq_true rfl)) | ((with_reducible refine' st_Packet_octets ?ho_ ?hv_ ?_); (case ho_ => first | assumption | exact upd_same); (case hv_ => exact Nat.le_of_ble_eq_true rfl)) | ((with_reducible refine' st_Packet_marked ?ho_ ?hv_ ?_); (case ho_ => first | assumption | exact upd_same); (case hv_ => exact Nat.le_of_ble_eq_true rfl)) | ((with_reducible refine' me_Packet_fork ?ho_ ?_); (case ho_ => first | assumption | exact upd_same)) | ((with_reducible refine' me_Packet_eq__ ?ho_ ?_); (case ho_ => first | assumption | exact upd_same)) | ((with_reducible refine' me_Packet_fields ?ho_ ?_); (case ho_ => first | assumption | exact upd_same)))
local macro_rules | `(tactic| walk_at "use") => `(tactic| first | ((with_reducible refine' fd_Flight_number ?ho_ ?hv_ ?_); (case ho_ => first | assumption | exact upd_same); (case hv_ => exact rfl)) | ((with_reducible refine' fd_Flight_birth ?ho_ ?hv_ ?_); (case ho_ => first | assumption | exact upd_same); (case hv_ => exact rfl)) | ((with_reducible refine' fd_Flight_packet ?ho_ ?hv_ ?_); (case ho_ => first | assumption | exact upd_same); (case hv_ => exact rfl)) | ((with_reducible refine' nw_Flight_number ?ho_ ?hv_ ?_); (case ho_ => first | assumption | exact upd_same); (case hv_ => exact rfl)) | ((with_reducible refine' nw_Flight_birth ?ho_ ?hv_ ?_); (case ho_ => first | assumption | exact upd_same); (case hv_ => exact rfl)) | ((with_reducible refine' nw_Flight_packet ?ho_ ?hv_ ?_); (case ho_ => first | assumption | exact upd_same); (case hv_ => exact rfl)) | ((with_reducible refine' st_Flight_number ?ho_ ?hv_ ?_); (case ho_ => first | assumption | exact upd_same); (case hv_ => exact Nat.le_of_ble_eq_true rfl)) | ((with_reducible refine' st_Flight_birth ?ho_ ?hv_ ?_); (case ho_ => first | assumption | exact upd_same); (case hv_ => exact Nat.le_of_ble_eq_true rfl)) | ((with_reducible refine' st_Flight_packet ?ho_ ?hv_ ?_); (case ho_ => first | assumption | exact upd_same); (case hv_ => exact Nat.le_of_ble_eq_true rfl)) | ((with_reducible refine' me_Flight_eq__ ?ho_ ?_); (case ho_ => first | assumption | exact upd_same)))
local macro_rules | `(tactic| walk_at "use") => `(tactic| first | ((with_reducible refine' fd_Record_tick ?ho_ ?hv_ ?_); (case ho_ => first | assumption | exact upd_same); (case hv_ => exact rfl)) | ((with_reducible refine' fd_Record_number ?ho_ ?hv_ ?_); (case ho_ => first | assumption | exact upd_same); (case hv_ => exact rfl)) | ((with_reducible refine' fd_Record_word ?ho_ ?hv_ ?_); (case ho_ => first | assumption | exact upd_same); (case hv_ => exact rfl)) | ((with_reducible refine' fd_Record_packet ?ho_ ?hv_ ?_); (case ho_ => first | assumption | exact upd_same); (case hv_ => exact rfl)) | ((with_reducible refine' nw_Record_tick ?ho_ ?hv_ ?_); (case ho_ => first | assumption | exact upd_same); (case hv_ => exact rfl)) | ((with_reducible refine' nw_Record_number ?ho_ ?hv_ ?_); (case ho_ => first | assumption | exact upd_same); (case hv_ => exact rfl)) | ((with_reducible refine' nw_Record_word ?ho_ ?hv_ ?_); (case ho_ => first | assumption | exact upd_same); (case hv_ => exact rfl)) | ((with_reducible refine' nw_Record_packet ?ho_ ?hv_ ?_); (case ho_ => first | assumption | exact upd_same); (case hv_ => exact rfl)) | ((with_reducible refine' st_Record_tick ?ho_ ?hv_ ?_); (case ho_ => first | assumption | exact upd_same); (case hv_ => exact Nat.le_of_ble_eq_true rfl)) | ((with_reducible refine' st_Record_number ?ho_ ?hv_ ?_); (case ho_ => first | assumption | exact upd_same); (case hv_ => exact Nat.le_of_ble_eq_true rfl)) | ((with_reducible refine' st_Record_word ?ho_ ?hv_ ?_); (case ho_ => first | assumption | exact upd_same); (case hv_ => exact Nat.le_of_ble_eq_true rfl)) | ((with_reducible refine' st_Record_packet ?ho_ ?hv_ ?_); (case ho_ => first | assumption | exact upd_same); (case hv_ => exact Nat.le_of_ble_eq_true rfl)) | ((with_reducible refine' me_Record_eq__ ?ho_ ?_); (case ho_ => first | assumption | exact upd_same)))
section
variable {P : Program} {w : World} {K : PySem.W.Frag} {mg : Str → Option Value} {base : Heap}
local macro_rules | `(tactic| walk_at "use") => `(tactic| with_reducible first | refine g_makeK ?_ | refine g_callN ?_ | refine g_rEqS ?_ | refine g_rNeS ?_)
theorem g_nb {A B : Prop} (h : A) : if (!true) = true then B else A := h
theorem u_peq {C x y : Addr} {N : Addr → Prop} {g g' : Pk} {H : Hp} {E : XK} {Q : VK} (h : PkO C N H x g) (h' : PkO C N H y g') (q : ∀ H', Same H H' → Q (.bl (decide (g = g'))) H') : rEqO C (EqR C) (sp_Packet_eq C) E (.ref x) (.ref y) H Q :=
  let ⟨dx, _, _, _, h1, _⟩ := h
  let ⟨dy, _, _, _, h2, _⟩ := h'
  ⟨x, dx, _, rfl, h1, .inl ⟨y, dy, _, rfl, h2⟩, N, x, y, g, g', rfl, h, h', fun H' s => ⟨_, rfl, q H' s⟩⟩
theorem u_feq {C C2 x y k k' : Addr} {N : Addr → Prop} {n b n' b' : Int} {g g' : Pk} {H : Hp} {E : XK} {Q : VK} (h : FlO C C2 N H x k n b g) (h' : FlO C C2 N H y k' n' b' g') (nk : k ≠ k') (q : ∀ H', Same H H' → Q (.bl (decide (n = n' ∧ b = b' ∧ g = g'))) H') : rEqO C (EqR C) (sp_Flight_eq C C2) E (.ref x) (.ref y) H Q :=
  let ⟨⟨dx, h1⟩, _⟩ := h
  let ⟨⟨dy, h2⟩, _⟩ := h'
  ⟨x, dx, _, rfl, h1, .inl ⟨y, dy, _, rfl, h2⟩, N, x, y, k, k', n, b, n', b', g, g', rfl, h, h', nk, fun H' s => ⟨_, rfl, q H' s⟩⟩
theorem u_req {C C2 x y k k' : Addr} {N : Addr → Prop} {n b n' b' : Int} {w w' : Str} {g g' : Pk} {H : Hp} {E : XK} {Q : VK} (h : RcO C C2 N H x k n b w g) (h' : RcO C C2 N H y k' n' b' w' g') (q : ∀ H', Same H H' → Q (.bl (decide (n = n' ∧ b = b' ∧ w = w' ∧ g = g'))) H') : rEqO C (EqR C) (sp_Record_eq C C2) E (.ref x) (.ref y) H Q :=
  let ⟨⟨dx, h1⟩, _⟩ := h
  let ⟨⟨dy, h2⟩, _⟩ := h'
  ⟨x, dx, _, rfl, h1, .inl ⟨y, dy, _, rfl, h2⟩, N, x, y, k, k', n, b, n', b', w, w', g, g', rfl, h, h', fun H' s => ⟨_, rfl, q H' s⟩⟩
def sp_l_packets (K : PySem.W.Frag) : Sp := fun vs H Q _ => ∃ (a l D : Addr) (g : Pk) (us : List V), vs = [.ref a, .ref D] ∧ RwP H a l g ∧ H D = some (.lst us) ∧ OthP (fun _ => False) g H us ∧ ∀ H', Same H H' → Q (.bl true) H'
theorem u_packets {a l D : Addr} {g : Pk} {us : List V} {H Q E} (r : RwP H a l g) (hD : H D = some (.lst us)) (o : OthP (fun _ => False) g H us) (q : ∀ H', Same H H' → Q (.bl true) H') : sp_l_packets K ([.ref a] ++ ([.ref D] ++ [])) H Q E := ⟨a, l, D, g, us, rfl, r, hD, o, q⟩
theorem ok_l_packets (T : Txt K mg) : FnOk P w K mg base CX0 4 T.f_l_packets T.d_l_packets ["row", "others"] (sp_l_packets K) := by
  refine T.F_l_packets.ok sc_l_packets (fun vs H Q E h => ?_) (fun cdv A outer s H vs Q E hr h => ?_)
  · obtain ⟨a, l, D, g, us, rfl, hr0, hD, ho, q⟩ := h
    rfl
  · obtain ⟨a, l, D, g, us, rfl, hr0, hD, ho, q⟩ := h
    have hu := hu_of hr
    refine ⟨_, (pss_cons (ps_set (i := 2) sc_l_packets.nd rfl (Or.inl rfl) (pe_call (ok_l_made T) (hr.mono (by decide)) rfl T.m_l_made T.F_l_made.kp T.b_l_made .nil pass0 (pa_cons (pv 0) pa_nil)))
        (pss_cons (ps_if (pt_not (pt_cmpR (op_eqO (ok_Packet_eq__ T) (hr.mono (by decide)) T.a_Packet_eq__ T.q_Packet T.b_Packet_eq__ pass0) (pv 2) (pe_call (ok_l_made T) (hr.mono (by decide)) rfl T.m_l_made T.F_l_made.kp T.b_l_made .nil pass0 (pa_cons (pv 0) pa_nil)) (nomark _))) (pss_one (ps_ret pe_bl)) pss_nil)
        (pss_cons (ps_for PassesOwn.never rfl (pi_list (pv 1)) (pg_name (i := 3) sc_l_packets.nd rfl (Or.inl rfl)) (pss_one (ps_if (PW.pt (pw_or (pt_cmpR (op_eqO (ok_Packet_eq__ T) (hr.mono (by decide)) T.a_Packet_eq__ T.q_Packet T.b_Packet_eq__ pass0) (pv 2) (pe_call (ok_l_made T) (hr.mono (by decide)) rfl T.m_l_made T.F_l_made.kp T.b_l_made .nil pass0 (pa_cons (pv 3) pa_nil)) (nomark _)) (pw_or1 (pt_cmpR (op_eqO (ok_Packet_eq__ T) (hr.mono (by decide)) T.a_Packet_eq__ T.q_Packet T.b_Packet_eq__ pass0) (pe_call (ok_l_made T) (hr.mono (by decide)) rfl T.m_l_made T.F_l_made.kp T.b_l_made .nil pass0 (pa_cons (pv 3) pa_nil)) (pv 2) (nomark _))))) (pss_one (ps_ret pe_bl)) pss_nil)))
        (pss_one (ps_ret pe_bl))))), ?_⟩
    dsimp only [cxOf, Cx.nox, Cx.wish, L2.start, List.map, List.cons_append, List.nil_append, List.length_cons, List.length_nil, Nat.reduceAdd, Nat.reduceSub, Nat.zero_add, List.replicate_succ, List.replicate_zero]
    have nF : ∀ {H : Hp} (x : Addr), (fun _ : Addr => False) x → H x ≠ none := fun _ h => h.elim
    walk_at "go"
    refine u_pmade nF hr0 fun x H1 nx s1 ox => ?_
    walk_at "go"
    refine u_pmade nF (hr0.same s1) fun y H2 ny s2 oy => ?_
    walk_at "go"
    refine u_peq (ox.same s2) oy fun H3 s3 => ?_
    walk_at "go"
    have s03 := (s1.trans s2).trans s3
    have ox3 := ox.same (s2.trans s3)
    walk_at "go"
    refine for_l (a := D) (xs := us) (fun i σ H' => (∃ v, σ = [some (.ref a), some (.ref D), some (.ref x), v]) ∧ Same H3 H') (sl (s03 _ _ hD)) ⟨⟨_, rfl⟩, fun _ _ h => h⟩ (fun i σ H' _ h => sl (h.2 _ _ (s03 _ _ hD))) ?turn ?done ?ev
    case turn =>
      rintro i z σ H4 hz ⟨⟨v, rfl⟩, s4⟩
      obtain ⟨u, l2, h, rfl, r, ne, _, _⟩ := ho z (List.mem_of_getElem? hz)
      have s04 := s03.trans s4
      walk_at "go"
      refine u_pmade nF (r.same s04) fun y H5 ny s5 oy => ?_
      walk_at "go"
      refine u_peq (ox3.same (s4.trans s5)) oy fun H6 s6 => ?_
      rw [decide_eq_false (fun z : g = h => ne z.symm)]
      walk_at "go"
      refine u_pmade nF (r.same ((s04.trans s5).trans s6)) fun y2 H7 ny s7 oy2 => ?_
      walk_at "go"
      refine u_peq oy2 (ox3.same (((s4.trans s5).trans s6).trans s7)) fun H8 s8 => ?_
      rw [decide_eq_false ne]
      walk_at "go"
      exact ⟨⟨_, rfl⟩, (((s4.trans s5).trans s6).trans s7).trans s8⟩
    case done =>
      rintro σ H4 ⟨⟨v, rfl⟩, s4⟩
      walk_at "go"
      exact q _ (s03.trans s4)
    case ev =>
      intro R r
      walk_at "go"
      exact r
theorem u_rmk {C C2 : Addr} {N : Addr → Prop} {H1 : Hp} {m1 x dx : Addr} {n b : Int} {w : Str} {g : Pk} {E : XK} {R : Hp → Prop} (nx : H1 x = none) (ndx : H1 dx = none) (nxd : dx ≠ x) (hN : ∀ x, N x → H1 x ≠ none) (om : PkO C2 N H1 m1 g) (q : ∀ k HB, Same H1 HB → RcO C C2 N HB x k n b w g → R HB) :
    sp_Record_init__ C C2 (V.ref x :: ([.int n, .int b, .str w, .ref m1] ++ [])) (upd (upd H1 dx (.own x)) x (.ins C dx [])) (fun v H3 => v = .non ∧ R H3) E :=
  ⟨N, x, dx, m1, n, b, w, g, nOld hN nx ndx, rfl, upd_same, om.same (made_same nx ndx nxd But.refl), (let ⟨_, _, _, _, h, _⟩ := om; ne_of_none h nx), fun k HB bB oB => ⟨rfl, q k HB (made_same nx ndx nxd bB) oB⟩⟩
theorem u_fmk {C C2 : Addr} {N : Addr → Prop} {H1 : Hp} {m1 x dx : Addr} {n b : Int} {g : Pk} {E : XK} {R : Hp → Prop} (nx : H1 x = none) (ndx : H1 dx = none) (nxd : dx ≠ x) (hN : ∀ x, N x → H1 x ≠ none) (om : PkO C2 N H1 m1 g) (q : ∀ k HB, H1 k = none → Same H1 HB → FlO C C2 N HB x k n b g → R HB) :
    sp_Flight_init__ C C2 (V.ref x :: ([.int n, .int b, .ref m1] ++ [])) (upd (upd H1 dx (.own x)) x (.ins C dx [])) (fun v H3 => v = .non ∧ R H3) E :=
  ⟨N, x, dx, m1, n, b, g, nOld hN nx ndx, rfl, upd_same, om.same (made_same nx ndx nxd But.refl), (let ⟨_, _, _, _, h, _⟩ := om; ne_of_none h nx), fun k HB nk bB oB => ⟨rfl, q k HB (by
    cases e : H1 k with
    | none => rfl
    | some o => rw [made_same nx ndx nxd (o := .own x) (o' := .ins C dx []) But.refl _ _ e] at nk; cases nk) (made_same nx ndx nxd bB) oB⟩⟩
def sp_l_records (K : PySem.W.Frag) : Sp := fun vs H Q _ => ∃ (a l a2 l2 p : Addr) (g g2 : Pk) (n : Int), vs = [.ref a, .ref a2, .ref p] ∧ RwP H a l g ∧ RwP H a2 l2 g2 ∧ g2 ≠ g ∧ a ≠ p ∧ l ≠ p ∧ a2 ≠ p ∧ l2 ≠ p ∧ H p = some (.lst [.int n]) ∧ ∀ n' H', But p H H' → H' p = some (.lst [.int n']) → Q (.bl true) H'
def wds : List Str := ["sent", "delivered", "lost", "copied", "marked", "expired"]
theorem wds_ne : ∀ i j : Fin 6, i ≠ j → wds[i]? ≠ wds[j]? := by decide +kernel
theorem wds_at {k : Int} (h0 : 0 ≤ k) (h1 : k < 6) : ∃ w : Str, atI (wds.map V.str) k = some (.str w) ∧ wds[k.toNat]? = some w := by
  obtain h | h | h | h | h | h : k = 0 ∨ k = 1 ∨ k = 2 ∨ k = 3 ∨ k = 4 ∨ k = 5 := by omega
  all_goals rw [h]; exact ⟨_, rfl, rfl⟩
theorem wds_dif {i j : Int} {w w' : Str} (h0 : 0 ≤ i) (h1 : i < 6) (h2 : 0 ≤ j) (h3 : j < 6) (n : i ≠ j) (hi : wds[i.toNat]? = some w) (hj : wds[j.toNat]? = some w') : w ≠ w' := fun z => by
  have := wds_ne ⟨i.toNat, by omega⟩ ⟨j.toNat, by omega⟩ (fun z => n (by have := Fin.mk.inj z; omega))
  exact this (hi.trans (by rw [z]; exact hj.symm))
theorem ok_l_records (T : Txt K mg) : FnOk P w K mg base CX0 6 T.f_l_records T.d_l_records ["row", "other", "state"] (sp_l_records K) := by
  refine T.F_l_records.ok sc_l_records (fun vs H Q E h => ?_) (fun cdv A outer s H vs Q E hr h => ?_)
  · obtain ⟨a, l, a2, l2, p, g, g2, n, rfl, hr0, hr2, ne, na, nl, na2, nl2, hp, q⟩ := h
    rfl
  · obtain ⟨a, l, a2, l2, p, g, g2, n, rfl, hr0, hr2, ne, na, nl, na2, nl2, hp, q⟩ := h
    have hu := hu_of hr
    refine ⟨_, (pss_cons (ps_set (i := 3) sc_l_records.nd rfl (Or.inl rfl) (pe_call (ok_l_digit T) (hr.mono (by decide)) rfl T.m_l_digit T.F_l_digit.kp T.b_l_digit .nil pass0 (pa_cons (pv 2) (pa_cons pe_int pa_nil))))
        (pss_cons (ps_set (i := 4) sc_l_records.nd rfl (Or.inl rfl) (pe_call (ok_l_digit T) (hr.mono (by decide)) rfl T.m_l_digit T.F_l_digit.kp T.b_l_digit .nil pass0 (pa_cons (pv 2) (pa_cons pe_int pa_nil))))
        (pss_cons (ps_set (i := 5) sc_l_records.nd rfl (Or.inl rfl) (pe_lst (pa_cons pe_str (pa_cons pe_str (pa_cons pe_str (pa_cons pe_str (pa_cons pe_str (pa_cons pe_str pa_nil))))))))
        (pss_cons (ps_set (i := 6) sc_l_records.nd rfl (Or.inl rfl) (pe_call (ok_l_digit T) (hr.mono (by decide)) rfl T.m_l_digit T.F_l_digit.kp T.b_l_digit .nil pass0 (pa_cons (pv 2) (pa_cons pe_int pa_nil))))
        (pss_cons (ps_set (i := 7) sc_l_records.nd rfl (Or.inl rfl) (pe_ix ix_list (pv 5) (pv 6) (fun _ _ => rfl)))
        (pss_cons (ps_set (i := 8) sc_l_records.nd rfl (Or.inl rfl) (pe_make T.mk_Record (ok_Record_init__ T) (hr.mono (by decide)) rfl T.c_Record T.b_Record_init__ .nil pass0 (pa_cons (pv 3) (pa_cons (pv 4) (pa_cons (pv 7) (pa_cons (pe_call (ok_l_made T) (hr.mono (by decide)) rfl T.m_l_made T.F_l_made.kp T.b_l_made .nil pass0 (pa_cons (pv 0) pa_nil)) pa_nil))))))
        (pss_cons (ps_if (pt_not (pt_cmpR (op_eqO (ok_Record_eq__ T) (hr.mono (by decide)) T.a_Record_eq__ T.q_Record T.b_Record_eq__ pass0) (pv 8) (pe_make T.mk_Record (ok_Record_init__ T) (hr.mono (by decide)) rfl T.c_Record T.b_Record_init__ .nil pass0 (pa_cons (pv 3) (pa_cons (pv 4) (pa_cons (pv 7) (pa_cons (pe_call (ok_l_made T) (hr.mono (by decide)) rfl T.m_l_made T.F_l_made.kp T.b_l_made .nil pass0 (pa_cons (pv 0) pa_nil)) pa_nil))))) (nomark _))) (pss_one (ps_ret pe_bl)) pss_nil)
        (pss_cons (ps_if (PW.pt (pw_or (pt_cmpR (op_eqO (ok_Record_eq__ T) (hr.mono (by decide)) T.a_Record_eq__ T.q_Record T.b_Record_eq__ pass0) (pv 8) (pe_make T.mk_Record (ok_Record_init__ T) (hr.mono (by decide)) rfl T.c_Record T.b_Record_init__ .nil pass0 (pa_cons (pe_op op_add (pv 3) pe_int) (pa_cons (pv 4) (pa_cons (pv 7) (pa_cons (pe_call (ok_l_made T) (hr.mono (by decide)) rfl T.m_l_made T.F_l_made.kp T.b_l_made .nil pass0 (pa_cons (pv 0) pa_nil)) pa_nil))))) (nomark _)) (pw_or1 (pt_cmpR (op_eqO (ok_Record_eq__ T) (hr.mono (by decide)) T.a_Record_eq__ T.q_Record T.b_Record_eq__ pass0) (pv 8) (pe_make T.mk_Record (ok_Record_init__ T) (hr.mono (by decide)) rfl T.c_Record T.b_Record_init__ .nil pass0 (pa_cons (pv 3) (pa_cons (pe_op op_add (pv 4) pe_int) (pa_cons (pv 7) (pa_cons (pe_call (ok_l_made T) (hr.mono (by decide)) rfl T.m_l_made T.F_l_made.kp T.b_l_made .nil pass0 (pa_cons (pv 0) pa_nil)) pa_nil))))) (nomark _))))) (pss_one (ps_ret pe_bl)) pss_nil)
        (pss_cons (ps_if (pt_cmpR (op_eqO (ok_Record_eq__ T) (hr.mono (by decide)) T.a_Record_eq__ T.q_Record T.b_Record_eq__ pass0) (pv 8) (pe_make T.mk_Record (ok_Record_init__ T) (hr.mono (by decide)) rfl T.c_Record T.b_Record_init__ .nil pass0 (pa_cons (pv 3) (pa_cons (pv 4) (pa_cons (pe_ix ix_list (pv 5) (pe_op op_mod (pe_callTy call_int1 (by rfl) T.n_int (by decide +kernel) (pa_cons (pe_op op_add (pe_op op_add (pv 6) pe_int) (pe_call (ok_l_digit T) (hr.mono (by decide)) rfl T.m_l_digit T.F_l_digit.kp T.b_l_digit .nil pass0 (pa_cons (pv 2) (pa_cons pe_int pa_nil)))) pa_nil)) pe_int) (fun _ _ => rfl)) (pa_cons (pe_call (ok_l_made T) (hr.mono (by decide)) rfl T.m_l_made T.F_l_made.kp T.b_l_made .nil pass0 (pa_cons (pv 0) pa_nil)) pa_nil))))) (nomark _)) (pss_one (ps_ret pe_bl)) pss_nil)
        (pss_cons (ps_if (pt_cmpR (op_eqO (ok_Record_eq__ T) (hr.mono (by decide)) T.a_Record_eq__ T.q_Record T.b_Record_eq__ pass0) (pv 8) (pe_make T.mk_Record (ok_Record_init__ T) (hr.mono (by decide)) rfl T.c_Record T.b_Record_init__ .nil pass0 (pa_cons (pv 3) (pa_cons (pv 4) (pa_cons (pv 7) (pa_cons (pe_call (ok_l_made T) (hr.mono (by decide)) rfl T.m_l_made T.F_l_made.kp T.b_l_made .nil pass0 (pa_cons (pv 1) pa_nil)) pa_nil))))) (nomark _)) (pss_one (ps_ret pe_bl)) pss_nil)
        (pss_cons (ps_set (i := 9) sc_l_records.nd rfl (Or.inl rfl) (pe_make T.mk_Flight (ok_Flight_init__ T) (hr.mono (by decide)) rfl T.c_Flight T.b_Flight_init__ .nil pass0 (pa_cons (pv 4) (pa_cons (pv 3) (pa_cons (pe_call (ok_l_made T) (hr.mono (by decide)) rfl T.m_l_made T.F_l_made.kp T.b_l_made .nil pass0 (pa_cons (pv 0) pa_nil)) pa_nil)))))
        (pss_cons (ps_if (pt_not (pt_cmpR (op_eqO (ok_Flight_eq__ T) (hr.mono (by decide)) T.a_Flight_eq__ T.q_Flight T.b_Flight_eq__ pass0) (pv 9) (pe_make T.mk_Flight (ok_Flight_init__ T) (hr.mono (by decide)) rfl T.c_Flight T.b_Flight_init__ .nil pass0 (pa_cons (pv 4) (pa_cons (pv 3) (pa_cons (pe_call (ok_l_made T) (hr.mono (by decide)) rfl T.m_l_made T.F_l_made.kp T.b_l_made .nil pass0 (pa_cons (pv 0) pa_nil)) pa_nil)))) (nomark _))) (pss_one (ps_ret pe_bl)) pss_nil)
        (pss_cons (ps_if (PW.pt (pw_or (pt_cmpR (op_eqO (ok_Flight_eq__ T) (hr.mono (by decide)) T.a_Flight_eq__ T.q_Flight T.b_Flight_eq__ pass0) (pv 9) (pe_make T.mk_Flight (ok_Flight_init__ T) (hr.mono (by decide)) rfl T.c_Flight T.b_Flight_init__ .nil pass0 (pa_cons (pe_op op_add (pv 4) pe_int) (pa_cons (pv 3) (pa_cons (pe_call (ok_l_made T) (hr.mono (by decide)) rfl T.m_l_made T.F_l_made.kp T.b_l_made .nil pass0 (pa_cons (pv 0) pa_nil)) pa_nil)))) (nomark _)) (pw_or1 (pt_cmpR (op_eqO (ok_Flight_eq__ T) (hr.mono (by decide)) T.a_Flight_eq__ T.q_Flight T.b_Flight_eq__ pass0) (pv 9) (pe_make T.mk_Flight (ok_Flight_init__ T) (hr.mono (by decide)) rfl T.c_Flight T.b_Flight_init__ .nil pass0 (pa_cons (pv 4) (pa_cons (pe_op op_add (pv 3) pe_int) (pa_cons (pe_call (ok_l_made T) (hr.mono (by decide)) rfl T.m_l_made T.F_l_made.kp T.b_l_made .nil pass0 (pa_cons (pv 0) pa_nil)) pa_nil)))) (nomark _))))) (pss_one (ps_ret pe_bl)) pss_nil)
        (pss_one (ps_ret (pe_not (pe_cmpR (op_eqO (ok_Flight_eq__ T) (hr.mono (by decide)) T.a_Flight_eq__ T.q_Flight T.b_Flight_eq__ pass0) (pv 9) (pe_make T.mk_Flight (ok_Flight_init__ T) (hr.mono (by decide)) rfl T.c_Flight T.b_Flight_init__ .nil pass0 (pa_cons (pv 4) (pa_cons (pv 3) (pa_cons (pe_call (ok_l_made T) (hr.mono (by decide)) rfl T.m_l_made T.F_l_made.kp T.b_l_made .nil pass0 (pa_cons (pv 1) pa_nil)) pa_nil)))) (nomark _)))))))))))))))))), ?_⟩
    dsimp only [cxOf, Cx.nox, Cx.wish, L2.start, List.map, List.cons_append, List.nil_append, List.length_cons, List.length_nil, Nat.reduceAdd, Nat.reduceSub, Nat.zero_add, List.replicate_succ, List.replicate_zero]
    walk_at "go"
    refine u_dig hp (by decide) (by decide) fun H1 b1 k1 => ?_
    walk_at "go"
    refine u_dig k1 (by decide) (by decide) fun H2 b2 k2 => ?_
    walk_at "go"
    generalize n % 1000 = ti
    generalize n / 1000 % 1000 = nu
    generalize n / 1000 / 1000 = n2 at k2
    refine ⟨by show 6 ≤ sizeLine; decide, fun W nW => ?_⟩
    have pW : W ≠ p := (ne_of_none k2 nW).symm
    walk_at "nw"
    rename_i H3 s3 k3
    walk_at "go"
    refine u_dig (s3 _ _ k2) (by decide) (by decide) fun H4 b4 k4 => ?_
    have c0 : 0 ≤ n2 % 6 := Int.emod_nonneg _ (by decide)
    have c1 : n2 % 6 < 6 := Int.emod_lt_of_pos _ (by decide)
    generalize n2 % 6 = c at c0 c1
    generalize n2 / 6 = n4 at k4
    obtain ⟨wd, ew, ew2⟩ := wds_at c0 c1
    have kW : H4 W = some (.lst (wds.map V.str)) := b4 _ _ pW k3
    walk_at "go"
    refine g_ixL (sl kW) ew ?_
    have B4 : But p H H4 := (b1.trans b2).trans ((But.of s3).trans b4)
    have r4 := hr0.but B4 na nl
    have o4 := hr2.but B4 na2 nl2
    have hN : ∀ x, (fun x => x = p) x → H4 x ≠ none := fun x hx => by
      rw [show x = p from hx, k4]
      exact fun z => nomatch z
    clear hr0 hr2 b1 k1 b2 k2 s3 k3 b4 ew
    walk_at "go"
    refine u_pmade hN r4 fun m1 M1 nm1 t1 om => ?_
    have r4 := r4.same t1
    have o4 := o4.same t1
    have B4 := B4.trans (But.of t1)
    have hN := nSame hN t1
    have k4 := t1 _ _ k4
    have kW := t1 _ _ kW
    walk_at "go"
    refine fun x2 dx2 nx ndx nxd => u_rmk nx ndx nxd hN om fun k102 M2 t2 ot => ?_
    have r4 := r4.same t2
    have o4 := o4.same t2
    have B4 := B4.trans (But.of t2)
    have hN := nSame hN t2
    have k4 := t2 _ _ k4
    have kW := t2 _ _ kW
    walk_at "go"
    refine u_pmade hN r4 fun m3 M3 nm3 t3 om => ?_
    have r4 := r4.same t3
    have o4 := o4.same t3
    have B4 := B4.trans (But.of t3)
    have hN := nSame hN t3
    have k4 := t3 _ _ k4
    have kW := t3 _ _ kW
    have ot := ot.same t3
    walk_at "go"
    refine fun x4 dx4 nx ndx nxd => u_rmk nx ndx nxd hN om fun k104 M4 t4 ox => ?_
    have r4 := r4.same t4
    have o4 := o4.same t4
    have B4 := B4.trans (But.of t4)
    have hN := nSame hN t4
    have k4 := t4 _ _ k4
    have kW := t4 _ _ kW
    have ot := ot.same t4
    walk_at "go"
    refine u_req ot ox fun M5 t5 => ?_
    have r4 := r4.same t5
    have o4 := o4.same t5
    have B4 := B4.trans (But.of t5)
    have hN := nSame hN t5
    have k4 := t5 _ _ k4
    have kW := t5 _ _ kW
    have ot := ot.same t5
    rw [decide_eq_true (show ti = ti ∧ nu = nu ∧ wd = wd ∧ g = g from ⟨rfl, rfl, rfl, rfl⟩)]
    walk_at "go"
    refine u_pmade hN r4 fun m6 M6 nm6 t6 om => ?_
    have r4 := r4.same t6
    have o4 := o4.same t6
    have B4 := B4.trans (But.of t6)
    have hN := nSame hN t6
    have k4 := t6 _ _ k4
    have kW := t6 _ _ kW
    have ot := ot.same t6
    walk_at "go"
    refine fun x7 dx7 nx ndx nxd => u_rmk nx ndx nxd hN om fun k107 M7 t7 ox => ?_
    have r4 := r4.same t7
    have o4 := o4.same t7
    have B4 := B4.trans (But.of t7)
    have hN := nSame hN t7
    have k4 := t7 _ _ k4
    have kW := t7 _ _ kW
    have ot := ot.same t7
    walk_at "go"
    refine u_req ot ox fun M8 t8 => ?_
    have r4 := r4.same t8
    have o4 := o4.same t8
    have B4 := B4.trans (But.of t8)
    have hN := nSame hN t8
    have k4 := t8 _ _ k4
    have kW := t8 _ _ kW
    have ot := ot.same t8
    rw [decide_eq_false (show ¬ (ti = ti + 1 ∧ nu = nu ∧ wd = wd ∧ g = g) from fun z => by have := z.1; omega)]
    walk_at "go"
    refine u_pmade hN r4 fun m9 M9 nm9 t9 om => ?_
    have r4 := r4.same t9
    have o4 := o4.same t9
    have B4 := B4.trans (But.of t9)
    have hN := nSame hN t9
    have k4 := t9 _ _ k4
    have kW := t9 _ _ kW
    have ot := ot.same t9
    walk_at "go"
    refine fun x10 dx10 nx ndx nxd => u_rmk nx ndx nxd hN om fun k110 M10 t10 ox => ?_
    have r4 := r4.same t10
    have o4 := o4.same t10
    have B4 := B4.trans (But.of t10)
    have hN := nSame hN t10
    have k4 := t10 _ _ k4
    have kW := t10 _ _ kW
    have ot := ot.same t10
    walk_at "go"
    refine u_req ot ox fun M11 t11 => ?_
    have r4 := r4.same t11
    have o4 := o4.same t11
    have B4 := B4.trans (But.of t11)
    have hN := nSame hN t11
    have k4 := t11 _ _ k4
    have kW := t11 _ _ kW
    have ot := ot.same t11
    rw [decide_eq_false (show ¬ (ti = ti ∧ nu = nu + 1 ∧ wd = wd ∧ g = g) from fun z => by have := z.2.1; omega)]
    walk_at "go"
    refine u_dig k4 (by decide) (by decide) fun H5 b5 k5 => ?_
    have r4 := r4.but b5 na nl
    have o4 := o4.but b5 na2 nl2
    have B4 := B4.trans b5
    have kW := b5 _ _ pW kW
    have hN : ∀ x, (fun x => x = p) x → H5 x ≠ none := fun x hx => by
      rw [show x = p from hx, k5]
      exact fun z => nomatch z
    have ot := ot.but rfl k4 b5
    have k4 := k5
    have e0 : 0 ≤ n4 % 5 := Int.emod_nonneg _ (by decide)
    have e1 : n4 % 5 < 5 := Int.emod_lt_of_pos _ (by decide)
    generalize n4 % 5 = v at e0 e1
    obtain ⟨wd', ew', ew3⟩ := wds_at (k := (c + 1 + v) % 6) (Int.emod_nonneg _ (by decide)) (Int.emod_lt_of_pos _ (by decide))
    have wne : wd ≠ wd' := wds_dif c0 c1 (Int.emod_nonneg _ (by decide)) (Int.emod_lt_of_pos _ (by decide)) (by omega) ew2 ew3
    walk_at "go"
    refine g_ixL (sl kW) ew' ?_
    walk_at "go"
    refine u_pmade hN r4 fun m12 M12 nm12 t12 om => ?_
    have r4 := r4.same t12
    have o4 := o4.same t12
    have B4 := B4.trans (But.of t12)
    have hN := nSame hN t12
    have k4 := t12 _ _ k4
    have kW := t12 _ _ kW
    have ot := ot.same t12
    walk_at "go"
    refine fun x13 dx13 nx ndx nxd => u_rmk nx ndx nxd hN om fun k113 M13 t13 ox => ?_
    have r4 := r4.same t13
    have o4 := o4.same t13
    have B4 := B4.trans (But.of t13)
    have hN := nSame hN t13
    have k4 := t13 _ _ k4
    have kW := t13 _ _ kW
    have ot := ot.same t13
    walk_at "go"
    refine u_req ot ox fun M14 t14 => ?_
    have r4 := r4.same t14
    have o4 := o4.same t14
    have B4 := B4.trans (But.of t14)
    have hN := nSame hN t14
    have k4 := t14 _ _ k4
    have kW := t14 _ _ kW
    have ot := ot.same t14
    rw [decide_eq_false (show ¬ (ti = ti ∧ nu = nu ∧ wd = wd' ∧ g = g) from fun z => wne z.2.2.1)]
    walk_at "go"
    refine u_pmade hN o4 fun m15 M15 nm15 t15 om => ?_
    have r4 := r4.same t15
    have o4 := o4.same t15
    have B4 := B4.trans (But.of t15)
    have hN := nSame hN t15
    have k4 := t15 _ _ k4
    have kW := t15 _ _ kW
    have ot := ot.same t15
    walk_at "go"
    refine fun x16 dx16 nx ndx nxd => u_rmk nx ndx nxd hN om fun k116 M16 t16 ox => ?_
    have r4 := r4.same t16
    have o4 := o4.same t16
    have B4 := B4.trans (But.of t16)
    have hN := nSame hN t16
    have k4 := t16 _ _ k4
    have kW := t16 _ _ kW
    have ot := ot.same t16
    walk_at "go"
    refine u_req ot ox fun M17 t17 => ?_
    have r4 := r4.same t17
    have o4 := o4.same t17
    have B4 := B4.trans (But.of t17)
    have hN := nSame hN t17
    have k4 := t17 _ _ k4
    have kW := t17 _ _ kW
    have ot := ot.same t17
    rw [decide_eq_false (show ¬ (ti = ti ∧ nu = nu ∧ wd = wd ∧ g = g2) from fun z => ne z.2.2.2.symm)]
    walk_at "go"
    refine u_pmade hN r4 fun m18 M18 nm18 t18 om => ?_
    have r4 := r4.same t18
    have o4 := o4.same t18
    have B4 := B4.trans (But.of t18)
    have hN := nSame hN t18
    have k4 := t18 _ _ k4
    have kW := t18 _ _ kW
    have ot := ot.same t18
    walk_at "go"
    refine fun x19 dx19 nx ndx nxd => u_fmk nx ndx nxd hN om fun kof M19 nkof t19 of => ?_
    have r4 := r4.same t19
    have o4 := o4.same t19
    have B4 := B4.trans (But.of t19)
    have hN := nSame hN t19
    have k4 := t19 _ _ k4
    have kW := t19 _ _ kW
    have ot := ot.same t19
    have of0 := of.2
    walk_at "go"
    refine u_pmade hN r4 fun m20 M20 nm20 t20 om => ?_
    have r4 := r4.same t20
    have o4 := o4.same t20
    have B4 := B4.trans (But.of t20)
    have hN := nSame hN t20
    have k4 := t20 _ _ k4
    have kW := t20 _ _ kW
    have ot := ot.same t20
    have of := of.same t20
    have of0 := of.2
    walk_at "go"
    refine fun x21 dx21 nx ndx nxd => u_fmk nx ndx nxd hN om fun kox M21 nkox t21 ox => ?_
    have nkk : kof ≠ kox := (let ⟨_, _, _, _, e, _⟩ := of0; ne_of_none e nkox)
    have r4 := r4.same t21
    have o4 := o4.same t21
    have B4 := B4.trans (But.of t21)
    have hN := nSame hN t21
    have k4 := t21 _ _ k4
    have kW := t21 _ _ kW
    have ot := ot.same t21
    have of := of.same t21
    walk_at "go"
    refine u_feq of ox nkk fun M22 t22 => ?_
    have r4 := r4.same t22
    have o4 := o4.same t22
    have B4 := B4.trans (But.of t22)
    have hN := nSame hN t22
    have k4 := t22 _ _ k4
    have kW := t22 _ _ kW
    have ot := ot.same t22
    have of := of.same t22
    have of0 := of.2
    rw [decide_eq_true (show nu = nu ∧ ti = ti ∧ g = g from ⟨rfl, rfl, rfl⟩)]
    walk_at "go"
    refine u_pmade hN r4 fun m23 M23 nm23 t23 om => ?_
    have r4 := r4.same t23
    have o4 := o4.same t23
    have B4 := B4.trans (But.of t23)
    have hN := nSame hN t23
    have k4 := t23 _ _ k4
    have kW := t23 _ _ kW
    have ot := ot.same t23
    have of := of.same t23
    have of0 := of.2
    walk_at "go"
    refine fun x24 dx24 nx ndx nxd => u_fmk nx ndx nxd hN om fun kox M24 nkox t24 ox => ?_
    have nkk : kof ≠ kox := (let ⟨_, _, _, _, e, _⟩ := of0; ne_of_none e nkox)
    have r4 := r4.same t24
    have o4 := o4.same t24
    have B4 := B4.trans (But.of t24)
    have hN := nSame hN t24
    have k4 := t24 _ _ k4
    have kW := t24 _ _ kW
    have ot := ot.same t24
    have of := of.same t24
    walk_at "go"
    refine u_feq of ox nkk fun M25 t25 => ?_
    have r4 := r4.same t25
    have o4 := o4.same t25
    have B4 := B4.trans (But.of t25)
    have hN := nSame hN t25
    have k4 := t25 _ _ k4
    have kW := t25 _ _ kW
    have ot := ot.same t25
    have of := of.same t25
    have of0 := of.2
    rw [decide_eq_false (show ¬ (nu = nu + 1 ∧ ti = ti ∧ g = g) from fun z => by have := z.1; omega)]
    walk_at "go"
    refine u_pmade hN r4 fun m26 M26 nm26 t26 om => ?_
    have r4 := r4.same t26
    have o4 := o4.same t26
    have B4 := B4.trans (But.of t26)
    have hN := nSame hN t26
    have k4 := t26 _ _ k4
    have kW := t26 _ _ kW
    have ot := ot.same t26
    have of := of.same t26
    have of0 := of.2
    walk_at "go"
    refine fun x27 dx27 nx ndx nxd => u_fmk nx ndx nxd hN om fun kox M27 nkox t27 ox => ?_
    have nkk : kof ≠ kox := (let ⟨_, _, _, _, e, _⟩ := of0; ne_of_none e nkox)
    have r4 := r4.same t27
    have o4 := o4.same t27
    have B4 := B4.trans (But.of t27)
    have hN := nSame hN t27
    have k4 := t27 _ _ k4
    have kW := t27 _ _ kW
    have ot := ot.same t27
    have of := of.same t27
    walk_at "go"
    refine u_feq of ox nkk fun M28 t28 => ?_
    have r4 := r4.same t28
    have o4 := o4.same t28
    have B4 := B4.trans (But.of t28)
    have hN := nSame hN t28
    have k4 := t28 _ _ k4
    have kW := t28 _ _ kW
    have ot := ot.same t28
    have of := of.same t28
    have of0 := of.2
    rw [decide_eq_false (show ¬ (nu = nu ∧ ti = ti + 1 ∧ g = g) from fun z => by have := z.2.1; omega)]
    walk_at "go"
    refine u_pmade hN o4 fun m29 M29 nm29 t29 om => ?_
    have r4 := r4.same t29
    have o4 := o4.same t29
    have B4 := B4.trans (But.of t29)
    have hN := nSame hN t29
    have k4 := t29 _ _ k4
    have kW := t29 _ _ kW
    have ot := ot.same t29
    have of := of.same t29
    have of0 := of.2
    walk_at "go"
    refine fun x30 dx30 nx ndx nxd => u_fmk nx ndx nxd hN om fun kox M30 nkox t30 ox => ?_
    have nkk : kof ≠ kox := (let ⟨_, _, _, _, e, _⟩ := of0; ne_of_none e nkox)
    have r4 := r4.same t30
    have o4 := o4.same t30
    have B4 := B4.trans (But.of t30)
    have hN := nSame hN t30
    have k4 := t30 _ _ k4
    have kW := t30 _ _ kW
    have ot := ot.same t30
    have of := of.same t30
    walk_at "go"
    refine u_feq of ox nkk fun M31 t31 => ?_
    have r4 := r4.same t31
    have o4 := o4.same t31
    have B4 := B4.trans (But.of t31)
    have hN := nSame hN t31
    have k4 := t31 _ _ k4
    have kW := t31 _ _ kW
    have ot := ot.same t31
    have of := of.same t31
    have of0 := of.2
    rw [decide_eq_false (show ¬ (nu = nu ∧ ti = ti ∧ g = g2) from fun z => ne z.2.2.symm)]
    walk_at "go"
    exact q _ _ B4 k4
end
end My
namespace My
open PySem PySem.Spec L2
local macro_rules | `(tactic| walk_at "side") => `(tactic| first | assumption | decide | omega | exact ⟨by decide, by decide⟩ | exact ⟨by decide, by decide, by decide⟩ | decide +kernel | exact cdivW (by decide +kernel) (by decide +kernel) | exact Or.inl ⟨by omega, by omega⟩ | exact Or.inr ⟨by omega, by omega⟩ | (simp only [List.length_map, List.length_cons, List.length_nil, List.length_append]; omega))
local macro_rules | `(tactic| walk_at "fact") => `(tactic| first | assumption | omega | with_reducible rfl)
local macro_rules | `(tactic| walk_at "use") => `(tactic| fail "use")
local macro_rules | `(tactic| walk_at "go1") => `(tactic| with_reducible first | refine g_seq ?_ | refine g_asg ?_ | refine g_ret ?_ | refine g_ifS ?_ | refine g_drop ?_ | refine g_star ?_ | refine g_nx ?_ | refine g_rt ?_ | refine g_bkE ?_ | refine g_ctE ?_ | refine g_next ?_ | refine g_retN ?_ | refine g_brk ?_ | refine g_ct ?_ | refine g_c ?_ | refine g_op ?_ | refine g_un ?_ | refine g_rI0 ?_ | refine g_rU ?_ | refine g_rEqI ?_ | refine g_rNeI ?_ | refine g_isN ?_ | refine g_rIsB ?_ | refine g_rNotB ?_ | refine g_test ?_ | refine g_B ?_ | refine g_bl ?_ | refine g_and ?_ | refine g_or ?_ | refine g_not ?_ | refine g_andV ?_ | refine g_orV ?_ | refine g_notV ?_ | refine g_if ?_ | refine g_chain ?_ | refine g_yes ?_ | refine g_lc ?_ | refine g_revR ?_ | refine g_rng1 ?_ | refine g_iList ?_ | refine g_nil ?_ | refine g_cons ?_ | refine g_tup ?_ | refine g_lst ?_ | refine g_call ?_ | refine g_CB ?_ | refine g_sl ?_ | refine g_noPart ?_ | refine g_part ?_ | refine g_intE ?_ | refine g_ref ?_ | refine g_fld ?_ | refine g_sfld ?_ | refine g_meth ?_ | refine g_make ?_ | refine g_prop ?_  | refine g_ipI ?_ | refine g_int1 ?_ | refine g_int1B ?_ | refine g_one ?_ | refine g_two ?_ | refine g_isiI ?_ | refine g_isiIB ?_ | refine g_isiB ?_ | refine g_BM ?_ | refine g_BM0 ?_ | refine g_sub ?_)
local macro_rules | `(tactic| walk_at "go") => `(tactic| repeat (first | walk_at "go1" | ((with_reducible refine' g_nameE ?sd_ ?_); case sd_ => dsimp only [List.set_cons_succ, List.set_cons_zero]) | ((with_reducible refine' g_var ?sd_ ?_); case sd_ => exact rfl) | ((with_reducible refine' g_aug ?sd_ ?_); case sd_ => exact rfl) | ((with_reducible refine' g_rI ?sd_ ?_); case sd_ => walk_at "side") | ((with_reducible refine' g_dT ?sd_ ?_); case sd_ => walk_at "fact") | ((with_reducible refine' g_dF ?sd_ ?_); case sd_ => walk_at "fact") | ((with_reducible refine' g_nT ?sd_ ?_); case sd_ => walk_at "fact") | ((with_reducible refine' g_nF ?sd_ ?_); case sd_ => walk_at "fact") | (with_reducible refine g_iT rfl ?_) | (with_reducible refine g_iF rfl ?_) | walk_at "use"))
local macro_rules | `(tactic| walk_at "nw") => `(tactic| (generalize zq : upd _ _ _ = Hq; have sq : Same _ Hq := (by rw [← zq]; exact same_upd (by assumption)); have kq := (congrFun zq _).symm.trans upd_same; clear zq))
local macro_rules | `(tactic| walk_at "bt") => `(tactic| (generalize zq : upd _ _ _ = Hq; have bq : But _ _ Hq := (by rw [← zq]; exact But.refl.upd); have kq := (congrFun zq _).symm.trans upd_same; clear zq))
local macro_rules | `(tactic| walk_at "use") => `(tactic| first | ((with_reducible refine' fd_Rule_fault ?ho_ ?hv_ ?_); (case ho_ => first | assumption | exact upd_same); (case hv_ => exact rfl)) | ((with_reducible refine' fd_Rule_amount ?ho_ ?hv_ ?_); (case ho_ => first | assumption | exact upd_same); (case hv_ => exact rfl)) | ((with_reducible refine' fd_Rule_until ?ho_ ?hv_ ?_); (case ho_ => first | assumption | exact upd_same); (case hv_ => exact rfl)) | ((with_reducible refine' fd_Rule_sender ?ho_ ?hv_ ?_); (case ho_ => first | assumption | exact upd_same); (case hv_ => exact rfl)) | ((with_reducible refine' fd_Rule_target ?ho_ ?hv_ ?_); (case ho_ => first | assumption | exact upd_same); (case hv_ => exact rfl)) | ((with_reducible refine' fd_Rule_ticks ?ho_ ?hv_ ?_); (case ho_ => first | assumption | exact upd_same); (case hv_ => exact rfl)) | ((with_reducible refine' fd_Rule_nth ?ho_ ?hv_ ?_); (case ho_ => first | assumption | exact upd_same); (case hv_ => exact rfl)) | ((with_reducible refine' fd_Rule_chance ?ho_ ?hv_ ?_); (case ho_ => first | assumption | exact upd_same); (case hv_ => exact rfl)) | ((with_reducible refine' nw_Rule_fault ?ho_ ?hv_ ?_); (case ho_ => first | assumption | exact upd_same); (case hv_ => exact rfl)) | ((with_reducible refine' nw_Rule_amount ?ho_ ?hv_ ?_); (case ho_ => first | assumption | exact upd_same); (case hv_ => exact rfl)) | ((with_reducible refine' nw_Rule_until ?ho_ ?hv_ ?_); (case ho_ => first | assumption | exact upd_same); (case hv_ => exact rfl)) | ((with_reducible refine' nw_Rule_sender ?ho_ ?hv_ ?_); (case ho_ => first | assumption | exact upd_same); (case hv_ => exact rfl)) | ((with_reducible refine' nw_Rule_target ?ho_ ?hv_ ?_); (case ho_ => first | assumption | exact upd_same); (case hv_ => exact rfl)) | ((with_reducible refine' nw_Rule_ticks ?ho_ ?hv_ ?_); (case ho_ => first | assumption | exact upd_same); (case hv_ => exact rfl)) | ((with_reducible refine' nw_Rule_nth ?ho_ ?hv_ ?_); (case ho_ => first | assumption | exact upd_same); (case hv_ => exact rfl)) | ((with_reducible refine' nw_Rule_chance ?ho_ ?hv_ ?_); (case ho_ => first | assumption | exact upd_same); (case hv_ => exact rfl)) | ((with_reducible refine' st_Rule_fault ?ho_ ?hv_ ?_); (case ho_ => first | assumption | exact upd_same); (case hv_ => exact Nat.le_of_ble_eq_true rfl)) | ((with_reducible refine' st_Rule_amount ?ho_ ?hv_ ?_); (case ho_ => first | assumption | exact upd_same); (case hv_ => exact Nat.le_of_ble_eq_true rfl)) | ((with_reducible refine' st_Rule_until ?ho_ ?hv_ ?_); (case ho_ => first | assumption | exact upd_same); (case hv_ => exact Nat.le_of_ble_eq_true rfl)) | ((with_reducible refine' st_Rule_sender ?ho_ ?hv_ ?_); (case ho_ => first | assumption | exact upd_same); (case hv_ => exact Nat.le_of_ble_eq_true rfl)) | ((with_reducible refine' st_Rule_target ?ho_ ?hv_ ?_); (case ho_ => first | assumption | exact upd_same); (case hv_ => exact Nat.le_of_ble_eq_true rfl)) | ((with_reducible refine' st_Rule_ticks ?ho_ ?hv_ ?_); (case ho_ => first | assumption | exact upd_same); (case hv_ => exact Nat.le_of_ble_eq_true rfl)) | ((with_reducible refine' st_Rule_nth ?ho_ ?hv_ ?_); (case ho_ => first | assumption | exact upd_same); (case hv_ => exact Nat.le_of_ble_eq_true rfl)) | ((with_reducible refine' st_Rule_chance ?ho_ ?hv_ ?_); (case ho_ => first | assumption | exact upd_same); (case hv_ => exact Nat.le_of_ble_eq_true rfl)) | ((with_reducible refine' me_Rule_considers ?ho_ ?_); (case ho_ => first | assumption | exact upd_same)) | ((with_reducible refine' me_Rule_eq__ ?ho_ ?_); (case ho_ => first | assumption | exact upd_same)) | ((with_reducible refine' me_Rule_fields ?ho_ ?_); (case ho_ => first | assumption | exact upd_same)))
local macro_rules | `(tactic| walk_at "use") => `(tactic| first | ((with_reducible refine' fd_Packet_sender ?ho_ ?hv_ ?_); (case ho_ => first | assumption | exact upd_same); (case hv_ => exact rfl)) | ((with_reducible refine' fd_Packet_target ?ho_ ?hv_ ?_); (case ho_ => first | assumption | exact upd_same); (case hv_ => exact rfl)) | ((with_reducible refine' fd_Packet_octets ?ho_ ?hv_ ?_); (case ho_ => first | assumption | exact upd_same); (case hv_ => exact rfl)) | ((with_reducible refine' fd_Packet_marked ?ho_ ?hv_ ?_); (case ho_ => first | assumption | exact upd_same); (case hv_ => exact rfl)) | ((with_reducible refine' nw_Packet_sender ?ho_ ?hv_ ?_); (case ho_ => first | assumption | exact upd_same); (case hv_ => exact rfl)) | ((with_reducible refine' nw_Packet_target ?ho_ ?hv_ ?_); (case ho_ => first | assumption | exact upd_same); (case hv_ => exact rfl)) | ((with_reducible refine' nw_Packet_octets ?ho_ ?hv_ ?_); (case ho_ => first | assumption | exact upd_same); (case hv_ => exact rfl)) | ((with_reducible refine' nw_Packet_marked ?ho_ ?hv_ ?_); (case ho_ => first | assumption | exact upd_same); (case hv_ => exact rfl)) | ((with_reducible refine' st_Packet_sender ?ho_ ?hv_ ?_); (case ho_ => first | assumption | exact upd_same); (case hv_ => exact Nat.le_of_ble_eq_true rfl)) | ((with_reducible refine' st_Packet_target ?ho_ ?hv_ ?_); (case ho_ => first | assumption | exact upd_same); (case hv_ => exact Nat.le_of_ble_eq_true rfl)) | ((with_reducible refine' st_Packet_octets ?ho_ ?hv_ ?_); (case ho_ => first | assumption | exact upd_same); (case hv_ => exact Nat.le_of_ble_eq_true rfl)) | ((with_reducible refine' st_Packet_marked ?ho_ ?hv_ ?_); (case ho_ => first | assumption | exact upd_same); (case hv_ => exact Nat.le_of_ble_eq_true rfl)) | ((with_reducible refine' me_Packet_fork ?ho_ ?_); (case ho_ => first | assumption | exact upd_same)) | ((with_reducible refine' me_Packet_eq__ ?ho_ ?_); (case ho_ => first | assumption | exact upd_same)) | ((with_reducible refine' me_Packet_fields ?ho_ ?_); (case ho_ => first | assumption | exact upd_same)))
local macro_rules | `(tactic| walk_at "use") => `(tactic| first | ((with_reducible refine' fd_Flight_number ?ho_ ?hv_ ?_); (case ho_ => first | assumption | exact upd_same); (case hv_ => exact rfl)) | ((with_reducible refine' fd_Flight_birth ?ho_ ?hv_ ?_); (case ho_ => first | assumption | exact upd_same); (case hv_ => exact rfl)) | ((with_reducible refine' fd_Flight_packet ?ho_ ?hv_ ?_); (case ho_ => first | assumption | exact upd_same); (case hv_ => exact rfl)) | ((with_reducible refine' nw_Flight_number ?ho_ ?hv_ ?_); (case ho_ => first | assumption | exact upd_same); (case hv_ => exact rfl)) | ((with_reducible refine' nw_Flight_birth ?ho_ ?hv_ ?_); (case ho_ => first | assumption | exact upd_same); (case hv_ => exact rfl)) | ((with_reducible refine' nw_Flight_packet ?ho_ ?hv_ ?_); (case ho_ => first | assumption | exact upd_same); (case hv_ => exact rfl)) | ((with_reducible refine' st_Flight_number ?ho_ ?hv_ ?_); (case ho_ => first | assumption | exact upd_same); (case hv_ => exact Nat.le_of_ble_eq_true rfl)) | ((with_reducible refine' st_Flight_birth ?ho_ ?hv_ ?_); (case ho_ => first | assumption | exact upd_same); (case hv_ => exact Nat.le_of_ble_eq_true rfl)) | ((with_reducible refine' st_Flight_packet ?ho_ ?hv_ ?_); (case ho_ => first | assumption | exact upd_same); (case hv_ => exact Nat.le_of_ble_eq_true rfl)) | ((with_reducible refine' me_Flight_eq__ ?ho_ ?_); (case ho_ => first | assumption | exact upd_same)))
local macro_rules | `(tactic| walk_at "use") => `(tactic| first | ((with_reducible refine' fd_Record_tick ?ho_ ?hv_ ?_); (case ho_ => first | assumption | exact upd_same); (case hv_ => exact rfl)) | ((with_reducible refine' fd_Record_number ?ho_ ?hv_ ?_); (case ho_ => first | assumption | exact upd_same); (case hv_ => exact rfl)) | ((with_reducible refine' fd_Record_word ?ho_ ?hv_ ?_); (case ho_ => first | assumption | exact upd_same); (case hv_ => exact rfl)) | ((with_reducible refine' fd_Record_packet ?ho_ ?hv_ ?_); (case ho_ => first | assumption | exact upd_same); (case hv_ => exact rfl)) | ((with_reducible refine' nw_Record_tick ?ho_ ?hv_ ?_); (case ho_ => first | assumption | exact upd_same); (case hv_ => exact rfl)) | ((with_reducible refine' nw_Record_number ?ho_ ?hv_ ?_); (case ho_ => first | assumption | exact upd_same); (case hv_ => exact rfl)) | ((with_reducible refine' nw_Record_word ?ho_ ?hv_ ?_); (case ho_ => first | assumption | exact upd_same); (case hv_ => exact rfl)) | ((with_reducible refine' nw_Record_packet ?ho_ ?hv_ ?_); (case ho_ => first | assumption | exact upd_same); (case hv_ => exact rfl)) | ((with_reducible refine' st_Record_tick ?ho_ ?hv_ ?_); (case ho_ => first | assumption | exact upd_same); (case hv_ => exact Nat.le_of_ble_eq_true rfl)) | ((with_reducible refine' st_Record_number ?ho_ ?hv_ ?_); (case ho_ => first | assumption | exact upd_same); (case hv_ => exact Nat.le_of_ble_eq_true rfl)) | ((with_reducible refine' st_Record_word ?ho_ ?hv_ ?_); (case ho_ => first | assumption | exact upd_same); (case hv_ => exact Nat.le_of_ble_eq_true rfl)) | ((with_reducible refine' st_Record_packet ?ho_ ?hv_ ?_); (case ho_ => first | assumption | exact upd_same); (case hv_ => exact Nat.le_of_ble_eq_true rfl)) | ((with_reducible refine' me_Record_eq__ ?ho_ ?_); (case ho_ => first | assumption | exact upd_same)))
section
variable {P : Program} {w : World} {K : PySem.W.Frag} {mg : Str → Option Value} {base : Heap}
local macro_rules | `(tactic| walk_at "use") => `(tactic| with_reducible first | refine g_makeK ?_ | refine g_callN ?_ | refine g_rEqS ?_ | refine g_rNeS ?_)
def RwO (H : Hp) (a : Addr) (g : Rl) : Prop := ∃ tv, H a = some (.lst [.str g.fault, .int g.amount, .int g.upto, oV g.sender, oV g.target, tv, oV g.nth, oV g.chance]) ∧ StV H tv g.ticks
theorem RwO.same {H H' : Hp} {a : Addr} {g : Rl} (h : RwO H a g) (s : Same H H') : RwO H' a g := by
  obtain ⟨tv, h1, h2⟩ := h
  exact ⟨tv, s _ _ h1, h2.same s⟩
theorem RwO.butL {p : Addr} {H H' : Hp} {a : Addr} {g : Rl} {xs : List V} (h : RwO H a g) (n : a ≠ p) (b : But p H H') (e : H p = some (.lst xs)) : RwO H' a g := by
  obtain ⟨tv, h1, h2⟩ := h
  exact ⟨tv, b _ _ n h1, h2.butL b e⟩
def Ok16 (o : Option Int) : Prop := ∀ x, o = some x → 0 ≤ x ∧ x < 65536
theorem ok16n : Ok16 none := fun x h => by cases h
theorem ok16m {z : Int} : Ok16 (some (z % 65536)) := fun x h => by
  injection h with h
  subst h
  exact ⟨Int.emod_nonneg _ (by decide), Int.emod_lt_of_pos _ (by decide)⟩
def RlOk (g : Rl) : Prop := PyData.strOk g.fault = true ∧ Ok16 g.sender ∧ Ok16 g.target
def sp_l_rule (K : PySem.W.Frag) : Sp := fun vs H Q _ => ∃ (p : Addr) (n : Int), vs = [.ref p] ∧ H p = some (.lst [.int n]) ∧ ∀ (a : Addr) (g : Rl) (n' : Int) H', H a = none → a ≠ p → But p H H' → RwO H' a g → RlOk g → H' p = some (.lst [.int n']) → Q (.ref a) H'
theorem ok_l_rule (T : Txt K mg) : FnOk P w K mg base CX0 2 T.f_l_rule T.d_l_rule ["state"] (sp_l_rule K) := by
  refine T.F_l_rule.ok sc_l_rule (fun vs H Q E h => ?_) (fun cdv A outer s H vs Q E hr h => ?_)
  · obtain ⟨p, n, rfl, hp, q⟩ := h
    rfl
  · obtain ⟨p, n, rfl, hp, q⟩ := h
    have hu := hu_of hr
    refine ⟨_, (pss_cons (ps_set (i := 1) sc_l_rule.nd rfl (Or.inl rfl) (pe_lst (pa_cons (pe_ix ix_tup (pe_tup (pa_cons pe_str (pa_cons pe_str (pa_cons pe_str (pa_cons pe_str pa_nil))))) (pe_call (ok_l_digit T) (hr.mono (by decide)) rfl T.m_l_digit T.F_l_digit.kp T.b_l_digit .nil pass0 (pa_cons (pv 0) (pa_cons pe_int pa_nil))) (fun _ _ => rfl)) (pa_cons pe_int (pa_cons pe_int (pa_cons pe_non (pa_cons pe_non (pa_cons pe_non (pa_cons pe_non (pa_cons pe_non pa_nil))))))))))
        (C8.pss_cut (ps_if (pt_cmpR op_eq (pe_ix ix_list (pv 1) pe_int (fun _ _ => rfl)) pe_str (nomark _)) (pss_one (ps_asg (pe_op op_add pe_int (pe_call (ok_l_digit T) (hr.mono (by decide)) rfl T.m_l_digit T.F_l_digit.kp T.b_l_digit .nil pass0 (pa_cons (pv 0) (pa_cons pe_int pa_nil)))) (pg_sub (pv 1) pe_int set_list))) pss_nil)
        (C8.pss_cut (ps_if (pt_cmpR op_eq (pe_ix ix_list (pv 1) pe_int (fun _ _ => rfl)) pe_str (nomark _)) (pss_cons (ps_asg (pe_op op_add pe_int (pe_call (ok_l_digit T) (hr.mono (by decide)) rfl T.m_l_digit T.F_l_digit.kp T.b_l_digit .nil pass0 (pa_cons (pv 0) (pa_cons pe_int pa_nil)))) (pg_sub (pv 1) pe_int set_list))
        (pss_one (ps_asg (pe_op op_add (pe_ix ix_list (pv 1) pe_int (fun _ _ => rfl)) (pe_call (ok_l_digit T) (hr.mono (by decide)) rfl T.m_l_digit T.F_l_digit.kp T.b_l_digit .nil pass0 (pa_cons (pv 0) (pa_cons pe_int pa_nil)))) (pg_sub (pv 1) pe_int set_list)))) pss_nil)
        (pss_cons (ps_set (i := 2) sc_l_rule.nd rfl (Or.inl rfl) (pe_call (ok_l_digit T) (hr.mono (by decide)) rfl T.m_l_digit T.F_l_digit.kp T.b_l_digit .nil pass0 (pa_cons (pv 0) (pa_cons pe_int pa_nil))))
        (C8.pss_cut (ps_if (pt_cmpR op_eq (pe_op op_mod (pe_callTy call_int1 (by rfl) T.n_int (by decide +kernel) (pa_cons (pv 2) pa_nil)) pe_int) pe_int (nomark _)) (pss_one (ps_asg (pe_call (ok_l_digit T) (hr.mono (by decide)) rfl T.m_l_digit T.F_l_digit.kp T.b_l_digit .nil pass0 (pa_cons (pv 0) (pa_cons pe_int pa_nil))) (pg_sub (pv 1) pe_int set_list))) pss_nil)
        (C8.pss_cut (ps_if (pt_cmpR op_eq (pe_op op_mod (pe_callTy call_int1 (by rfl) T.n_int (by decide +kernel) (pa_cons (pe_op op_fdiv (pv 2) pe_int) pa_nil)) pe_int) pe_int (nomark _)) (pss_one (ps_asg (pe_call (ok_l_digit T) (hr.mono (by decide)) rfl T.m_l_digit T.F_l_digit.kp T.b_l_digit .nil pass0 (pa_cons (pv 0) (pa_cons pe_int pa_nil))) (pg_sub (pv 1) pe_int set_list))) pss_nil)
        (C8.pss_cut (ps_if (pt_cmpR op_eq (pe_op op_mod (pe_callTy call_int1 (by rfl) T.n_int (by decide +kernel) (pa_cons (pe_op op_fdiv (pv 2) pe_int) pa_nil)) pe_int) pe_int (nomark _)) (pss_cons (ps_set (i := 3) sc_l_rule.nd rfl (Or.inl rfl) (pe_call (ok_l_digit T) (hr.mono (by decide)) rfl T.m_l_digit T.F_l_digit.kp T.b_l_digit .nil pass0 (pa_cons (pv 0) (pa_cons pe_int pa_nil))))
        (pss_one (ps_asg (pe_tup (pa_cons (pv 3) (pa_cons (pe_op op_add (pv 3) (pe_op op_mul (pe_call (ok_l_digit T) (hr.mono (by decide)) rfl T.m_l_digit T.F_l_digit.kp T.b_l_digit .nil pass0 (pa_cons (pv 0) (pa_cons pe_int pa_nil))) (pe_call (ok_l_digit T) (hr.mono (by decide)) rfl T.m_l_digit T.F_l_digit.kp T.b_l_digit .nil pass0 (pa_cons (pv 0) (pa_cons pe_int pa_nil))))) pa_nil))) (pg_sub (pv 1) pe_int set_list)))) pss_nil)
        (C8.pss_cut (ps_if (pt_cmpR op_eq (pe_op op_mod (pe_callTy call_int1 (by rfl) T.n_int (by decide +kernel) (pa_cons (pe_op op_fdiv (pv 2) pe_int) pa_nil)) pe_int) pe_int (nomark _)) (pss_one (ps_asg (pe_op op_add pe_int (pe_call (ok_l_digit T) (hr.mono (by decide)) rfl T.m_l_digit T.F_l_digit.kp T.b_l_digit .nil pass0 (pa_cons (pv 0) (pa_cons pe_int pa_nil)))) (pg_sub (pv 1) pe_int set_list))) pss_nil)
        (pss_cons (ps_if (pt_cmpR op_eq (pe_op op_mod (pe_callTy call_int1 (by rfl) T.n_int (by decide +kernel) (pa_cons (pe_op op_fdiv (pv 2) pe_int) pa_nil)) pe_int) pe_int (nomark _)) (pss_one (ps_asg (pe_call (ok_l_digit T) (hr.mono (by decide)) rfl T.m_l_digit T.F_l_digit.kp T.b_l_digit .nil pass0 (pa_cons (pv 0) (pa_cons pe_int pa_nil))) (pg_sub (pv 1) pe_int set_list))) pss_nil)
        (pss_one (ps_ret (pv 1)))))))))))), ?_⟩
    dsimp only [cxOf, Cx.nox, Cx.wish, L2.start, List.map, List.cons_append, List.nil_append, List.length_cons, List.length_nil, Nat.reduceAdd, Nat.reduceSub, Nat.zero_add, List.replicate_succ, List.replicate_zero]
    walk_at "go"
    refine ⟨by show 4 ≤ sizeLine; decide, fun p1 hp1 => ?_⟩
    have n1 : p1 ≠ p := fun z => by rw [z, hp] at hp1; cases hp1
    walk_at "nw"
    rename_i H1 s1 k1
    walk_at "go"
    refine u_dig (s1 _ _ hp) (by decide) (by decide) fun H2 b2 k2 => ?_
    have k12 := b2 _ _ n1 k1
    have b02 : But p H H2 := (But.of s1).trans b2
    obtain ⟨z, ez, okz⟩ : ∃ z : Str, atI ((["lose", "mark", "copy", "delay"] : List Str).map V.str) (n % 4) = some (.str z) ∧ PyData.strOk z = true := by
      obtain h | h | h | h : n % 4 = 0 ∨ n % 4 = 1 ∨ n % 4 = 2 ∨ n % 4 = 3 := by omega
      · rw [h]; exact ⟨"lose", rfl, by decide +kernel⟩
      · rw [h]; exact ⟨"mark", rfl, by decide +kernel⟩
      · rw [h]; exact ⟨"copy", rfl, by decide +kernel⟩
      · rw [h]; exact ⟨"delay", rfl, by decide +kernel⟩
    generalize n / 4 = n2 at k2
    walk_at "go"
    refine g_ixT (st k12) ez ?_
    walk_at "go"
    refine ⟨by show 8 ≤ sizeLine; decide, fun a ha => ?_⟩
    have nap : a ≠ p := fun z => by rw [z, k2] at ha; cases ha
    have na : H a = none := But.free b02 nap ha
    walk_at "nw"
    rename_i H3 s3 k3
    have o3 : RwO H3 a ⟨z, 0, 0, none, none, none, none, none⟩ := ⟨.non, k3, rfl⟩
    have b03 := b02.trans (But.of s3)
    have kp := s3 _ _ k2
    clear k3
    have up : ∀ {Ha Hb : Hp}, But p H Ha → But a Ha Hb → But p H Hb := fun b c y o' ny e => c _ _ (ne_of_none e na) (b _ _ ny e)
    walk_at "go"
    obtain ⟨g, n0, H0, b0, o0, ok0, kp0, e0⟩ : ∃ g n0 H0, But p H H0 ∧ RwO H0 a g ∧ RlOk g ∧ H0 p = some (.lst [.int n0]) ∧ H0 = H3 := ⟨_, _, _, b03, o3, ⟨okz, ok16n, ok16n⟩, kp, rfl⟩
    rw [← e0]
    clear o3 b03 kp e0
    refine g_cut (fun σ' H' => ∃ (g : Rl) (n' : Int) (lv : Option V), σ' = [some (.ref p), some (.ref a), none, lv] ∧ But p H H' ∧ RwO H' a g ∧ RlOk g ∧ H' p = some (.lst [.int n'])) ?_ ?_
    · walk_at "go"
      obtain ⟨tv0, o01, o02⟩ := id o0
      refine g_ixL (sl o01) (at_of (j := 0) rfl rfl) ?_
      walk_at "go"
      refine g_ite (fun h => ?_) (fun h => ?_)
      · walk_at "go"
        refine u_dig kp0 (by decide) (by decide) fun H7 b7 k7 => ?_
        obtain ⟨tv, o71, o72⟩ := o0.butL nap b7 kp0
        walk_at "go"
        refine g_setL (j := 1) o71 rfl ?_
        exact ⟨{ g with amount := 1 + n0 % 9 }, _, _, rfl, up (b0.trans b7) But.refl.upd, ⟨tv, upd_same, o72.butL But.refl.upd o71⟩, ok0, by rw [upd_ne nap.symm]; exact k7⟩
      · walk_at "go"
        exact ⟨_, _, _, rfl, b0, o0, ok0, kp0⟩
    clear b0 o0 ok0 kp0
    rintro σ' H0 ⟨g, n0, lv, rfl, b0, o0, ok0, kp0⟩
    walk_at "go"
    refine g_cut (fun σ' H' => ∃ (g : Rl) (n' : Int) (lv : Option V), σ' = [some (.ref p), some (.ref a), none, lv] ∧ But p H H' ∧ RwO H' a g ∧ RlOk g ∧ H' p = some (.lst [.int n'])) ?_ ?_
    · walk_at "go"
      obtain ⟨tv0, o01, o02⟩ := id o0
      refine g_ixL (sl o01) (at_of (j := 0) rfl rfl) ?_
      walk_at "go"
      refine g_ite (fun h => ?_) (fun h => ?_)
      · walk_at "go"
        refine u_dig kp0 (by decide) (by decide) fun H7 b7 k7 => ?_
        obtain ⟨tv, o71, o72⟩ := o0.butL nap b7 kp0
        walk_at "go"
        refine g_setL (j := 1) o71 rfl ?_
        walk_at "bt"
        rename_i H8 b8 k8
        walk_at "go"
        refine g_ixL (sl k8) (at_of (j := 1) rfl rfl) ?_
        walk_at "go"
        have k78 := b8 _ _ nap.symm k7
        refine u_dig k78 (by decide) (by decide) fun H9 b9 k9 => ?_
        have k89 := b9 _ _ nap k8
        walk_at "go"
        refine g_setL (j := 2) k89 rfl ?_
        exact ⟨{ g with amount := 1 + n0 % 50, upto := 1 + n0 % 50 + n0 / 50 % 9 }, _, _, rfl, up ((up (b0.trans b7) b8).trans b9) But.refl.upd, ⟨tv, upd_same, ((o72.butL b8 o71).butL b9 k78).butL But.refl.upd k89⟩, ok0, by rw [upd_ne nap.symm]; exact k9⟩
      · walk_at "go"
        exact ⟨_, _, _, rfl, b0, o0, ok0, kp0⟩
    clear b0 o0 ok0 kp0
    rintro σ' H0 ⟨g, n0, lv, rfl, b0, o0, ok0, kp0⟩
    walk_at "go"
    refine u_dig kp0 (by decide) (by decide) fun H6 b6 k6 => ?_
    have o6 := o0.butL nap b6 kp0
    have b06 := b0.trans b6
    generalize n0 % 32 = sh
    generalize n0 / 32 = n6 at k6
    clear b0 o0 kp0
    obtain ⟨n0, b0, o0, kp0⟩ : ∃ n0, But p H H6 ∧ RwO H6 a g ∧ H6 p = some (.lst [.int n0]) := ⟨n6, b06, o6, k6⟩
    clear b06 o6 k6
    walk_at "go"
    refine g_cut (fun σ' H' => ∃ (g : Rl) (n' : Int) (lv : Option V), σ' = [some (.ref p), some (.ref a), some (.int sh), lv] ∧ But p H H' ∧ RwO H' a g ∧ RlOk g ∧ H' p = some (.lst [.int n'])) ?_ ?_
    · walk_at "go"
      refine g_ite (fun h => ?_) (fun h => ?_)
      · walk_at "go"
        refine u_dig kp0 (by decide) (by decide) fun H7 b7 k7 => ?_
        obtain ⟨tv, o71, o72⟩ := o0.butL nap b7 kp0
        walk_at "go"
        refine g_setL (j := 3) o71 rfl ?_
        exact ⟨{ g with sender := some _ }, _, _, rfl, up (b0.trans b7) But.refl.upd, ⟨tv, upd_same, o72.butL But.refl.upd o71⟩, ⟨ok0.1, ok16m, ok0.2.2⟩, by rw [upd_ne nap.symm]; exact k7⟩
      · walk_at "go"
        exact ⟨_, _, _, rfl, b0, o0, ok0, kp0⟩
    clear b0 o0 ok0 kp0
    rintro σ' H0 ⟨g, n0, lv, rfl, b0, o0, ok0, kp0⟩
    walk_at "go"
    refine g_cut (fun σ' H' => ∃ (g : Rl) (n' : Int) (lv : Option V), σ' = [some (.ref p), some (.ref a), some (.int sh), lv] ∧ But p H H' ∧ RwO H' a g ∧ RlOk g ∧ H' p = some (.lst [.int n'])) ?_ ?_
    · walk_at "go"
      refine g_ite (fun h => ?_) (fun h => ?_)
      · walk_at "go"
        refine u_dig kp0 (by decide) (by decide) fun H7 b7 k7 => ?_
        obtain ⟨tv, o71, o72⟩ := o0.butL nap b7 kp0
        walk_at "go"
        refine g_setL (j := 4) o71 rfl ?_
        exact ⟨{ g with target := some _ }, _, _, rfl, up (b0.trans b7) But.refl.upd, ⟨tv, upd_same, o72.butL But.refl.upd o71⟩, ⟨ok0.1, ok0.2.1, ok16m⟩, by rw [upd_ne nap.symm]; exact k7⟩
      · walk_at "go"
        exact ⟨_, _, _, rfl, b0, o0, ok0, kp0⟩
    clear b0 o0 ok0 kp0
    rintro σ' H0 ⟨g, n0, lv, rfl, b0, o0, ok0, kp0⟩
    walk_at "go"
    refine g_cut (fun σ' H' => ∃ (g : Rl) (n' : Int) (lv : Option V), σ' = [some (.ref p), some (.ref a), some (.int sh), lv] ∧ But p H H' ∧ RwO H' a g ∧ RlOk g ∧ H' p = some (.lst [.int n'])) ?_ ?_
    · walk_at "go"
      refine g_ite (fun h => ?_) (fun h => ?_)
      · walk_at "go"
        refine u_dig kp0 (by decide) (by decide) fun H7 b7 k7 => ?_
        walk_at "go"
        refine u_dig k7 (by decide) (by decide) fun H8 b8 k8 => ?_
        walk_at "go"
        refine u_dig k8 (by decide) (by decide) fun H9 b9 k9 => ?_
        obtain ⟨tv, o91, o92⟩ := ((o0.butL nap b7 kp0).butL nap b8 k7).butL nap b9 k8
        walk_at "go"
        refine ⟨by show 2 ≤ sizeLine; decide, fun t ht => ?_⟩
        have nta : t ≠ a := fun z => by rw [z, o91] at ht; cases ht
        have b09 := ((b0.trans b7).trans b8).trans b9
        generalize n0 / 90 % 2 * (n0 / 90 / 2 % 9) = e
        walk_at "go"
        refine g_setL (j := 5) ((same_upd ht) _ _ o91) rfl ?_
        refine ⟨{ g with ticks := some (n0 % 90, n0 % 90 + e) }, n0 / 90 / 2 / 9, some (.int (n0 % 90)), rfl, up (b09.trans (But.of (same_upd ht))) But.refl.upd, ⟨.ref t, upd_same, t, rfl, ?_⟩, ok0, ?_⟩
        · rw [upd_ne nta, upd_same]
          rfl
        · rw [upd_ne nap.symm]
          exact (same_upd ht) _ _ k9
      · walk_at "go"
        exact ⟨_, _, _, rfl, b0, o0, ok0, kp0⟩
    clear b0 o0 ok0 kp0
    rintro σ' H0 ⟨g, n0, lv, rfl, b0, o0, ok0, kp0⟩
    walk_at "go"
    refine g_cut (fun σ' H' => ∃ (g : Rl) (n' : Int) (lv : Option V), σ' = [some (.ref p), some (.ref a), some (.int sh), lv] ∧ But p H H' ∧ RwO H' a g ∧ RlOk g ∧ H' p = some (.lst [.int n'])) ?_ ?_
    · walk_at "go"
      refine g_ite (fun h => ?_) (fun h => ?_)
      · walk_at "go"
        refine u_dig kp0 (by decide) (by decide) fun H7 b7 k7 => ?_
        obtain ⟨tv, o71, o72⟩ := o0.butL nap b7 kp0
        walk_at "go"
        refine g_setL (j := 6) o71 rfl ?_
        exact ⟨{ g with nth := some _ }, _, _, rfl, up (b0.trans b7) But.refl.upd, ⟨tv, upd_same, o72.butL But.refl.upd o71⟩, ok0, by rw [upd_ne nap.symm]; exact k7⟩
      · walk_at "go"
        exact ⟨_, _, _, rfl, b0, o0, ok0, kp0⟩
    clear b0 o0 ok0 kp0
    rintro σ' H0 ⟨g, n0, lv, rfl, b0, o0, ok0, kp0⟩
    walk_at "go"
    refine g_ite (fun h => ?_) (fun h => ?_)
    · walk_at "go"
      refine u_dig kp0 (by decide) (by decide) fun H7 b7 k7 => ?_
      obtain ⟨tv, o71, o72⟩ := o0.butL nap b7 kp0
      walk_at "go"
      refine g_setL (j := 7) o71 rfl ?_
      walk_at "go"
      exact q a { g with chance := some _ } _ _ na nap (up (b0.trans b7) But.refl.upd) ⟨tv, upd_same, o72.butL But.refl.upd o71⟩ ok0 (by rw [upd_ne nap.symm]; exact k7)
    · walk_at "go"
      exact q a g _ _ na nap b0 o0 ok0 kp0
def sp_l_rule_of (C : Addr) : Sp := fun vs H Q _ => ∃ (a : Addr) (g : Rl), vs = [.ref a] ∧ RwO H a g ∧ ∀ r H', H r = none → Same H H' → RlO C H' r g → Q (.ref r) H'
theorem u_rof {C a : Addr} {g : Rl} {H Q E} (h : RwO H a g) (q : ∀ r H', H r = none → Same H H' → RlO C H' r g → Q (.ref r) H') : sp_l_rule_of C ([.ref a] ++ []) H Q E := ⟨a, g, rfl, h, q⟩
theorem kbt_1 {K : PySem.W.Frag} {mg : Str → Option Value} (T : Txt K mg) : ∃ g, KBn K T.d_Rule_init__ ["self", "fault", "amount", "until", "sender", "target", "ticks", "nth", "chance"] 2 ["amount", "until", "sender", "target", "ticks", "nth", "chance"] g (fun vs zs => vs ++ ((zs.drop 0).take 1 ++ ((zs.drop 1).take 1 ++ ((zs.drop 2).take 1 ++ ((zs.drop 3).take 1 ++ ((zs.drop 4).take 1 ++ ((zs.drop 5).take 1 ++ ((zs.drop 6).take 1)))))))) := by
  obtain ⟨mv, h⟩ := T.F_Rule_init__.kbinds0 (ps := ["self", "fault", "amount", "until", "sender", "target", "ticks", "nth", "chance"]) 2 ["amount", "until", "sender", "target", "ticks", "nth", "chance"] [] (fun vs mz zs => vs ++ ((zs.drop 0).take 1 ++ ((zs.drop 1).take 1 ++ ((zs.drop 2).take 1 ++ ((zs.drop 3).take 1 ++ ((zs.drop 4).take 1 ++ ((zs.drop 5).take 1 ++ ((zs.drop 6).take 1)))))))) (by intro h; cases h) (fun q hq => List.Sublist.mem hq (.cons _ (.cons _ (.cons _ (.cons _ (.cons _ (.cons _ (.cons _ (.slnil))))))))) (fun r1 r2 r3 => r1.append (((r3.drop 0).take 1).append (((r3.drop 1).take 1).append (((r3.drop 2).take 1).append (((r3.drop 3).take 1).append (((r3.drop 4).take 1).append (((r3.drop 5).take 1).append ((r3.drop 6).take 1)))))))) (fun D doc pm an cdv ct us mv ws l1 l2 l3 => match us, l1, mv, l2, ws, l3 with | [_, _], _, [], _, [_, _, _, _, _, _, _], _ => (by show _ = _; kernel_rfl))
  exact ⟨_, h⟩
theorem ok_l_rule_of (T : Txt K mg) : FnOk P w K mg base CX0 3 T.f_l_rule_of T.d_l_rule_of ["rule"] (sp_l_rule_of T.C_Rule) := by
  refine T.F_l_rule_of.ok sc_l_rule_of (fun vs H Q E h => ?_) (fun cdv A outer s H vs Q E hr h => ?_)
  · obtain ⟨a, g, rfl, ⟨tv, ho, hv⟩, q⟩ := h
    rfl
  · obtain ⟨a, g, rfl, ⟨tv, ho, hv⟩, q⟩ := h
    have hu := hu_of hr
    obtain ⟨gk_1, kb_1⟩ := kbt_1 T
    refine ⟨_, (pss_one (ps_ret (pe_makeK T.mk_Rule (ok_Rule_init__ T) (hr.mono (by decide)) rfl T.c_Rule kb_1 pass0 (pa_cons (pe_ix ix_list (pv 0) pe_int (fun _ _ => rfl)) pa_nil) (pk_cons (pe_ix ix_list (pv 0) pe_int (fun _ _ => rfl)) (pk_cons (pe_ix ix_list (pv 0) pe_int (fun _ _ => rfl)) (pk_cons (pe_ix ix_list (pv 0) pe_int (fun _ _ => rfl)) (pk_cons (pe_ix ix_list (pv 0) pe_int (fun _ _ => rfl)) (pk_cons (pe_ix ix_list (pv 0) pe_int (fun _ _ => rfl)) (pk_cons (pe_ix ix_list (pv 0) pe_int (fun _ _ => rfl)) (pk_cons (pe_ix ix_list (pv 0) pe_int (fun _ _ => rfl)) pk_nil)))))))))), ?_⟩
    dsimp only [cxOf, Cx.nox, Cx.wish, L2.start, List.map, List.cons_append, List.nil_append, List.length_cons, List.length_nil, Nat.reduceAdd, Nat.reduceSub, Nat.zero_add, List.replicate_succ, List.replicate_zero]
    walk_at "go"
    refine g_ixL (sl ho) (at_of (j := 0) rfl rfl) ?_
    walk_at "go"
    refine g_ixL (sl ho) (at_of (j := 1) rfl rfl) ?_
    walk_at "go"
    refine g_ixL (sl ho) (at_of (j := 2) rfl rfl) ?_
    walk_at "go"
    refine g_ixL (sl ho) (at_of (j := 3) rfl rfl) ?_
    walk_at "go"
    refine g_ixL (sl ho) (at_of (j := 4) rfl rfl) ?_
    walk_at "go"
    refine g_ixL (sl ho) (at_of (j := 5) rfl rfl) ?_
    walk_at "go"
    refine g_ixL (sl ho) (at_of (j := 6) rfl rfl) ?_
    walk_at "go"
    refine g_ixL (sl ho) (at_of (j := 7) rfl rfl) ?_
    walk_at "go"
    refine ⟨rfl, rfl, fun x dx2 nx ndx nxd => ?_⟩
    have b1 : But x H (upd (upd H dx2 (.own x)) x (.ins T.C_Rule dx2 [])) := ((But.of (same_upd (o := .own x) ndx))).upd
    refine ⟨x, dx2, _, _, _, _, _, _, _, _, rfl, upd_same, rfl, ?_⟩
    have s1 := (b1.upd (o := .ins T.C_Rule dx2 (obj ky_Rule [.str g.fault, .int g.amount, .int g.upto, oV g.sender, oV g.target, tv, oV g.nth, oV g.chance]))).same nx
    exact q x _ nx s1 ⟨dx2, tv, upd_same, hv.same s1⟩
end
end My
namespace My
open PySem PySem.Spec L2
local macro_rules | `(tactic| walk_at "side") => `(tactic| first | assumption | decide | omega | exact ⟨by decide, by decide⟩ | exact ⟨by decide, by decide, by decide⟩ | decide +kernel | exact cdivW (by decide +kernel) (by decide +kernel) | exact Or.inl ⟨by omega, by omega⟩ | exact Or.inr ⟨by omega, by omega⟩ | (simp only [List.length_map, List.length_cons, List.length_nil, List.length_append]; omega))
local macro_rules | `(tactic| walk_at "fact") => `(tactic| first | assumption | omega | with_reducible rfl)
local macro_rules | `(tactic| walk_at "use") => `(tactic| fail "use")
local macro_rules | `(tactic| walk_at "go1") => `(tactic| with_reducible first | refine g_seq ?_ | refine g_asg ?_ | refine g_ret ?_ | refine g_ifS ?_ | refine g_drop ?_ | refine g_star ?_ | refine g_nx ?_ | refine g_rt ?_ | refine g_bkE ?_ | refine g_ctE ?_ | refine g_next ?_ | refine g_retN ?_ | refine g_brk ?_ | refine g_ct ?_ | refine g_c ?_ | refine g_op ?_ | refine g_un ?_ | refine g_rI0 ?_ | refine g_rU ?_ | refine g_rEqI ?_ | refine g_rNeI ?_ | refine g_isN ?_ | refine g_rIsB ?_ | refine g_rNotB ?_ | refine g_test ?_ | refine g_B ?_ | refine g_bl ?_ | refine g_and ?_ | refine g_or ?_ | refine g_not ?_ | refine g_andV ?_ | refine g_orV ?_ | refine g_notV ?_ | refine g_if ?_ | refine g_chain ?_ | refine g_yes ?_ | refine g_lc ?_ | refine g_revR ?_ | refine g_rng1 ?_ | refine g_iList ?_ | refine g_nil ?_ | refine g_cons ?_ | refine g_tup ?_ | refine g_lst ?_ | refine g_call ?_ | refine g_CB ?_ | refine g_sl ?_ | refine g_noPart ?_ | refine g_part ?_ | refine g_intE ?_ | refine g_ref ?_ | refine g_fld ?_ | refine g_sfld ?_ | refine g_meth ?_ | refine g_make ?_ | refine g_prop ?_  | refine g_ipI ?_ | refine g_int1 ?_ | refine g_int1B ?_ | refine g_one ?_ | refine g_two ?_ | refine g_isiI ?_ | refine g_isiIB ?_ | refine g_isiB ?_ | refine g_BM ?_ | refine g_BM0 ?_ | refine g_sub ?_)
local macro_rules | `(tactic| walk_at "go") => `(tactic| repeat (first | walk_at "go1" | ((with_reducible refine' g_nameE ?sd_ ?_); case sd_ => dsimp only [List.set_cons_succ, List.set_cons_zero]) | ((with_reducible refine' g_var ?sd_ ?_); case sd_ => exact rfl) | ((with_reducible refine' g_aug ?sd_ ?_); case sd_ => exact rfl) | ((with_reducible refine' g_rI ?sd_ ?_); case sd_ => walk_at "side") | ((with_reducible refine' g_dT ?sd_ ?_); case sd_ => walk_at "fact") | ((with_reducible refine' g_dF ?sd_ ?_); case sd_ => walk_at "fact") | ((with_reducible refine' g_nT ?sd_ ?_); case sd_ => walk_at "fact") | ((with_reducible refine' g_nF ?sd_ ?_); case sd_ => walk_at "fact") | (with_reducible refine g_iT rfl ?_) | (with_reducible refine g_iF rfl ?_) | walk_at "use"))
local macro_rules | `(tactic| walk_at "nw") => `(tactic| (generalize zq : upd _ _ _ = Hq; have sq : Same _ Hq := (by rw [← zq]; exact same_upd (by assumption)); have kq := (congrFun zq _).symm.trans upd_same; clear zq))
local macro_rules | `(tactic| walk_at "bt") => `(tactic| (generalize zq : upd _ _ _ = Hq; have bq : But _ _ Hq := (by rw [← zq]; exact But.refl.upd); have kq := (congrFun zq _).symm.trans upd_same; clear zq))
local macro_rules | `(tactic| walk_at "use") => `(tactic| first | ((with_reducible refine' fd_Rule_fault ?ho_ ?hv_ ?_); (case ho_ => first | assumption | exact upd_same); (case hv_ => exact rfl)) | ((with_reducible refine' fd_Rule_amount ?ho_ ?hv_ ?_); (case ho_ => first | assumption | exact upd_same); (case hv_ => exact rfl)) | ((with_reducible refine' fd_Rule_until ?ho_ ?hv_ ?_); (case ho_ => first | assumption | exact upd_same); (case hv_ => exact rfl)) | ((with_reducible refine' fd_Rule_sender ?ho_ ?hv_ ?_); (case ho_ => first | assumption | exact upd_same); (case hv_ => exact rfl)) | ((with_reducible refine' fd_Rule_target ?ho_ ?hv_ ?_); (case ho_ => first | assumption | exact upd_same); (case hv_ => exact rfl)) | ((with_reducible refine' fd_Rule_ticks ?ho_ ?hv_ ?_); (case ho_ => first | assumption | exact upd_same); (case hv_ => exact rfl)) | ((with_reducible refine' fd_Rule_nth ?ho_ ?hv_ ?_); (case ho_ => first | assumption | exact upd_same); (case hv_ => exact rfl)) | ((with_reducible refine' fd_Rule_chance ?ho_ ?hv_ ?_); (case ho_ => first | assumption | exact upd_same); (case hv_ => exact rfl)) | ((with_reducible refine' nw_Rule_fault ?ho_ ?hv_ ?_); (case ho_ => first | assumption | exact upd_same); (case hv_ => exact rfl)) | ((with_reducible refine' nw_Rule_amount ?ho_ ?hv_ ?_); (case ho_ => first | assumption | exact upd_same); (case hv_ => exact rfl)) | ((with_reducible refine' nw_Rule_until ?ho_ ?hv_ ?_); (case ho_ => first | assumption | exact upd_same); (case hv_ => exact rfl)) | ((with_reducible refine' nw_Rule_sender ?ho_ ?hv_ ?_); (case ho_ => first | assumption | exact upd_same); (case hv_ => exact rfl)) | ((with_reducible refine' nw_Rule_target ?ho_ ?hv_ ?_); (case ho_ => first | assumption | exact upd_same); (case hv_ => exact rfl)) | ((with_reducible refine' nw_Rule_ticks ?ho_ ?hv_ ?_); (case ho_ => first | assumption | exact upd_same); (case hv_ => exact rfl)) | ((with_reducible refine' nw_Rule_nth ?ho_ ?hv_ ?_); (case ho_ => first | assumption | exact upd_same); (case hv_ => exact rfl)) | ((with_reducible refine' nw_Rule_chance ?ho_ ?hv_ ?_); (case ho_ => first | assumption | exact upd_same); (case hv_ => exact rfl)) | ((with_reducible refine' st_Rule_fault ?ho_ ?hv_ ?_); (case ho_ => first | assumption | exact upd_same); (case hv_ => exact Nat.le_of_ble_eq_true rfl)) | ((with_reducible refine' st_Rule_amount ?ho_ ?hv_ ?_); (case ho_ => first | assumption | exact upd_same); (case hv_ => exact Nat.le_of_ble_eq_true rfl)) | ((with_reducible refine' st_Rule_until ?ho_ ?hv_ ?_); (case ho_ => first | assumption | exact upd_same); (case hv_ => exact Nat.le_of_ble_eq_true rfl)) | ((with_reducible refine' st_Rule_sender ?ho_ ?hv_ ?_); (case ho_ => first | assumption | exact upd_same); (case hv_ => exact Nat.le_of_ble_eq_true rfl)) | ((with_reducible refine' st_Rule_target ?ho_ ?hv_ ?_); (case ho_ => first | assumption | exact upd_same); (case hv_ => exact Nat.le_of_ble_eq_true rfl)) | ((with_reducible refine' st_Rule_ticks ?ho_ ?hv_ ?_); (case ho_ => first | assumption | exact upd_same); (case hv_ => exact Nat.le_of_ble_eq_true rfl)) | ((with_reducible refine' st_Rule_nth ?ho_ ?hv_ ?_); (case ho_ => first | assumption | exact upd_same); (case hv_ => exact Nat.le_of_ble_eq_true rfl)) | ((with_reducible refine' st_Rule_chance ?ho_ ?hv_ ?_); (case ho_ => first | assumption | exact upd_same); (case hv_ => exact Nat.le_of_ble_eq_true rfl)) | ((with_reducible refine' me_Rule_considers ?ho_ ?_); (case ho_ => first | assumption | exact upd_same)) | ((with_reducible refine' me_Rule_eq__ ?ho_ ?_); (case ho_ => first | assumption | exact upd_same)) | ((with_reducible refine' me_Rule_fields ?ho_ ?_); (case ho_ => first | assumption | exact upd_same)))
local macro_rules | `(tactic| walk_at "use") => `(tactic| first | ((with_reducible refine' fd_Packet_sender ?ho_ ?hv_ ?_); (case ho_ => first | assumption | exact upd_same); (case hv_ => exact rfl)) | ((with_reducible refine' fd_Packet_target ?ho_ ?hv_ ?_); (case ho_ => first | assumption | exact upd_same); (case hv_ => exact rfl)) | ((with_reducible refine' fd_Packet_octets ?ho_ ?hv_ ?_); (case ho_ => first | assumption | exact upd_same); (case hv_ => exact rfl)) | ((with_reducible refine' fd_Packet_marked ?ho_ ?hv_ ?_); (case ho_ => first | assumption | exact upd_same); (case hv_ => exact rfl)) | ((with_reducible refine' nw_Packet_sender ?ho_ ?hv_ ?_); (case ho_ => first | assumption | exact upd_same); (case hv_ => exact rfl)) | ((with_reducible refine' nw_Packet_target ?ho_ ?hv_ ?_); (case ho_ => first | assumption | exact upd_same); (case hv_ => exact rfl)) | ((with_reducible refine' nw_Packet_octets ?ho_ ?hv_ ?_); (case ho_ => first | assumption | exact upd_same); (case hv_ => exact rfl)) | ((with_reducible refine' nw_Packet_marked ?ho_ ?hv_ ?_); (case ho_ => first | assumption | exact upd_same); (case hv_ => exact rfl)) | ((with_reducible refine' st_Packet_sender ?ho_ ?hv_ ?_); (case ho_ => first | assumption | exact upd_same); (case hv_ => exact Nat.le_of_ble_eq_true rfl)) | ((with_reducible refine' st_Packet_target ?ho_ ?hv_ ?_); (case ho_ => first | assumption | exact upd_same); (case hv_ => exact Nat.le_of_ble_eq_true rfl)) | ((with_reducible refine' st_Packet_octets ?ho_ ?hv_ ?_); (case ho_ => first | assumption | exact upd_same); (case hv_ => exact Nat.le_of_ble_eq_true rfl)) | ((with_reducible refine' st_Packet_marked ?ho_ ?hv_ ?_); (case ho_ => first | assumption | exact upd_same); (case hv_ => exact Nat.le_of_ble_eq_true rfl)) | ((with_reducible refine' me_Packet_fork ?ho_ ?_); (case ho_ => first | assumption | exact upd_same)) | ((with_reducible refine' me_Packet_eq__ ?ho_ ?_); (case ho_ => first | assumption | exact upd_same)) | ((with_reducible refine' me_Packet_fields ?ho_ ?_); (case ho_ => first | assumption | exact upd_same)))
local macro_rules | `(tactic| walk_at "use") => `(tactic| first | ((with_reducible refine' fd_Flight_number ?ho_ ?hv_ ?_); (case ho_ => first | assumption | exact upd_same); (case hv_ => exact rfl)) | ((with_reducible refine' fd_Flight_birth ?ho_ ?hv_ ?_); (case ho_ => first | assumption | exact upd_same); (case hv_ => exact rfl)) | ((with_reducible refine' fd_Flight_packet ?ho_ ?hv_ ?_); (case ho_ => first | assumption | exact upd_same); (case hv_ => exact rfl)) | ((with_reducible refine' nw_Flight_number ?ho_ ?hv_ ?_); (case ho_ => first | assumption | exact upd_same); (case hv_ => exact rfl)) | ((with_reducible refine' nw_Flight_birth ?ho_ ?hv_ ?_); (case ho_ => first | assumption | exact upd_same); (case hv_ => exact rfl)) | ((with_reducible refine' nw_Flight_packet ?ho_ ?hv_ ?_); (case ho_ => first | assumption | exact upd_same); (case hv_ => exact rfl)) | ((with_reducible refine' st_Flight_number ?ho_ ?hv_ ?_); (case ho_ => first | assumption | exact upd_same); (case hv_ => exact Nat.le_of_ble_eq_true rfl)) | ((with_reducible refine' st_Flight_birth ?ho_ ?hv_ ?_); (case ho_ => first | assumption | exact upd_same); (case hv_ => exact Nat.le_of_ble_eq_true rfl)) | ((with_reducible refine' st_Flight_packet ?ho_ ?hv_ ?_); (case ho_ => first | assumption | exact upd_same); (case hv_ => exact Nat.le_of_ble_eq_true rfl)) | ((with_reducible refine' me_Flight_eq__ ?ho_ ?_); (case ho_ => first | assumption | exact upd_same)))
local macro_rules | `(tactic| walk_at "use") => `(tactic| first | ((with_reducible refine' fd_Record_tick ?ho_ ?hv_ ?_); (case ho_ => first | assumption | exact upd_same); (case hv_ => exact rfl)) | ((with_reducible refine' fd_Record_number ?ho_ ?hv_ ?_); (case ho_ => first | assumption | exact upd_same); (case hv_ => exact rfl)) | ((with_reducible refine' fd_Record_word ?ho_ ?hv_ ?_); (case ho_ => first | assumption | exact upd_same); (case hv_ => exact rfl)) | ((with_reducible refine' fd_Record_packet ?ho_ ?hv_ ?_); (case ho_ => first | assumption | exact upd_same); (case hv_ => exact rfl)) | ((with_reducible refine' nw_Record_tick ?ho_ ?hv_ ?_); (case ho_ => first | assumption | exact upd_same); (case hv_ => exact rfl)) | ((with_reducible refine' nw_Record_number ?ho_ ?hv_ ?_); (case ho_ => first | assumption | exact upd_same); (case hv_ => exact rfl)) | ((with_reducible refine' nw_Record_word ?ho_ ?hv_ ?_); (case ho_ => first | assumption | exact upd_same); (case hv_ => exact rfl)) | ((with_reducible refine' nw_Record_packet ?ho_ ?hv_ ?_); (case ho_ => first | assumption | exact upd_same); (case hv_ => exact rfl)) | ((with_reducible refine' st_Record_tick ?ho_ ?hv_ ?_); (case ho_ => first | assumption | exact upd_same); (case hv_ => exact Nat.le_of_ble_eq_true rfl)) | ((with_reducible refine' st_Record_number ?ho_ ?hv_ ?_); (case ho_ => first | assumption | exact upd_same); (case hv_ => exact Nat.le_of_ble_eq_true rfl)) | ((with_reducible refine' st_Record_word ?ho_ ?hv_ ?_); (case ho_ => first | assumption | exact upd_same); (case hv_ => exact Nat.le_of_ble_eq_true rfl)) | ((with_reducible refine' st_Record_packet ?ho_ ?hv_ ?_); (case ho_ => first | assumption | exact upd_same); (case hv_ => exact Nat.le_of_ble_eq_true rfl)) | ((with_reducible refine' me_Record_eq__ ?ho_ ?_); (case ho_ => first | assumption | exact upd_same)))
section
variable {P : Program} {w : World} {K : PySem.W.Frag} {mg : Str → Option Value} {base : Heap}
local macro_rules | `(tactic| walk_at "use") => `(tactic| with_reducible first | refine g_makeK ?_ | refine g_callN ?_ | refine g_rEqS ?_ | refine g_rNeS ?_)
theorem inV_int {s : Int} : ∀ {ws : List Int}, inV (.int s) (ws.map V.int) = decide (s ∈ ws)
  | [] => (decide_eq_false (by simp)).symm
  | t :: ws => by
    show ((t == s) || inV (.int s) (ws.map V.int)) = _
    rw [inV_int, Bool.eq_iff_iff]
    simp only [Bool.or_eq_true, beq_iff_eq, decide_eq_true_eq, List.mem_cons]
    exact ⟨fun h => h.imp Eq.symm id, fun h => h.imp Eq.symm id⟩
theorem flat_ints : ∀ {ws : List Int}, (ws.map V.int).all flatV = true
  | [] => rfl
  | _ :: ws => flat_ints (ws := ws)
theorem g_inI {H : Hp} {Q : VK} {p : Addr} {ws : List Int} {s : Int} (h : SqT K H p (ws.map V.int)) (q : Q (.bl (decide (s ∈ ws))) H) : rIn K false (.int s) (.ref p) H Q :=
  ⟨p, _, rfl, .inr h, rfl, flat_ints, by rw [if_neg (by decide), inV_int]; exact q⟩

theorem cut3 {a b c d e f g h : V} : cutV [a, b, c, d, e, f, g, h] (some (3 : Int)) none = [d, e, f, g, h] := cut_hi (k := 3)
theorem pick2 {x y f : Str} {c : Int} (hc : c = if decide (f = x) = true then 1 else 0) : atI (([x, y] : List Str).map V.str) c = some (.str (if f = x then y else x)) := by
  subst hc
  by_cases h : f = x
  · rw [if_pos h, if_pos (decide_eq_true h)]
    rfl
  · rw [if_neg h, if_neg (by rw [decide_eq_false h]; decide)]
    rfl
def sp_l_other_rule (K : PySem.W.Frag) : Sp := fun vs H Q _ => ∃ (a p : Addr) (k n : Int) (g : Rl), vs = [.ref a, .int k, .ref p] ∧ 0 ≤ k ∧ k < 8 ∧ H p = some (.lst [.int n]) ∧ a ≠ p ∧ RwO H a g ∧ RlOk g ∧ ∀ (b : Addr) (g' : Rl) (n' : Int) H', But p H H' → RwO H' b g' → PyData.strOk g'.fault = true → g' ≠ g → H' p = some (.lst [.int n']) → Q (.ref b) H'
theorem u_other {a p : Addr} {k n : Int} {g : Rl} {H Q E} (k0 : 0 ≤ k) (k1 : k < 8) (hp : H p = some (.lst [.int n])) (na : a ≠ p) (ho : RwO H a g) (ok : RlOk g) (q : ∀ (b : Addr) (g' : Rl) (n' : Int) H', But p H H' → RwO H' b g' → PyData.strOk g'.fault = true → g' ≠ g → H' p = some (.lst [.int n']) → Q (.ref b) H') : sp_l_other_rule K ([.ref a] ++ ([.int k] ++ ([.ref p] ++ []))) H Q E := ⟨a, p, k, n, g, rfl, k0, k1, hp, na, ho, ok, q⟩
theorem ok_l_other_rule (T : Txt K mg) : FnOk P w K mg base CX0 2 T.f_l_other_rule T.d_l_other_rule ["rule", "k", "state"] (sp_l_other_rule K) := by
  refine T.F_l_other_rule.ok sc_l_other_rule (fun vs H Q E h => ?_) (fun cdv A outer s H vs Q E hr h => ?_)
  · obtain ⟨a, p, k, n, ⟨ft, am, un, se, ta, tk, nt, ch⟩, rfl, c0, c1, hp, na, ⟨tv, ho, hv⟩, ⟨okf, oks, okt⟩, q⟩ := h
    rfl
  · obtain ⟨a, p, k, n, ⟨ft, am, un, se, ta, tk, nt, ch⟩, rfl, c0, c1, hp, na, ⟨tv, ho, hv⟩, ⟨okf, oks, okt⟩, q⟩ := h
    have hu := hu_of hr
    refine ⟨_, (pss_cons (ps_set (i := 3) sc_l_other_rule.nd rfl (Or.inl rfl) (pe_callTy call_list_of (by rfl) T.n_list (by decide +kernel) (pa_cons (pv 0) pa_nil)))
        (pss_cons (ps_if (pt_cmpR op_eq (pv 1) pe_int (nomark _)) (pss_one (ps_set (i := 3) sc_l_other_rule.nd rfl (Or.inl rfl) (pe_op op_cat (pe_lst (pa_cons (pe_ix ix_tup (pe_tup (pa_cons pe_str (pa_cons pe_str pa_nil))) (pe_callTy call_int1 (by rfl) T.n_int (by decide +kernel) (pa_cons (pe_cmpR op_eq (pe_ix ix_list (pv 0) pe_int (fun _ _ => rfl)) pe_str (nomark _)) pa_nil)) (fun _ _ => rfl)) (pa_cons pe_int (pa_cons pe_int pa_nil)))) (pe_slice sl_list (pv 0) (po_some pe_int) po_none)))) (pss_one (ps_if (PW.pt (pw_and (pt_cmpR op_eq (pv 1) pe_int (nomark _)) (pw_and1 (pt_cmpR op_eq (pe_ix ix_list (pv 0) pe_int (fun _ _ => rfl)) pe_str (nomark _))))) (pss_one (ps_asg (pe_op op_add pe_int (pe_op op_mod (pe_callTy call_int1 (by rfl) T.n_int (by decide +kernel) (pa_cons (pe_ix ix_list (pv 0) pe_int (fun _ _ => rfl)) pa_nil)) pe_int)) (pg_sub (pv 3) pe_int set_list))) (pss_one (ps_if (PW.pt (pw_and (pt_cmpR op_eq (pv 1) pe_int (nomark _)) (pw_and (pt_cmpR op_eq (pe_ix ix_list (pv 0) pe_int (fun _ _ => rfl)) pe_str (nomark _)) (pw_and1 (pt_cmpR op_gt (pe_ix ix_list (pv 0) pe_int (fun _ _ => rfl)) pe_int (nomark _)))))) (pss_one (ps_asg (pe_op op_sub (pe_ix ix_list (pv 0) pe_int (fun _ _ => rfl)) pe_int) (pg_sub (pv 3) pe_int set_list))) (pss_one (ps_if (pt_cmpR op_in_seq (pv 1) (pe_tup (pa_cons pe_int (pa_cons pe_int pa_nil))) (by with_unfolding_all rfl)) (pss_cons (ps_set (i := 3) sc_l_other_rule.nd rfl (Or.inl rfl) (pe_op op_cat (pe_lst (pa_cons (pe_ix ix_tup (pe_tup (pa_cons pe_str (pa_cons pe_str pa_nil))) (pe_callTy call_int1 (by rfl) T.n_int (by decide +kernel) (pa_cons (pe_cmpR op_eq (pe_ix ix_list (pv 0) pe_int (fun _ _ => rfl)) pe_str (nomark _)) pa_nil)) (fun _ _ => rfl)) (pa_cons pe_int (pa_cons pe_int pa_nil)))) (pe_slice sl_list (pv 0) (po_some pe_int) po_none)))
        (pss_one (ps_if (pt_cmpR op_eq (pe_ix ix_list (pv 0) pe_int (fun _ _ => rfl)) pe_str (nomark _)) (pss_one (ps_set (i := 3) sc_l_other_rule.nd rfl (Or.inl rfl) (pe_op op_cat (pe_lst (pa_cons (pe_ix ix_list (pv 0) pe_int (fun _ _ => rfl)) (pa_cons (pe_ix ix_list (pv 0) pe_int (fun _ _ => rfl)) (pa_cons (pe_op op_add (pe_ix ix_list (pv 0) pe_int (fun _ _ => rfl)) pe_int) pa_nil)))) (pe_slice sl_list (pv 0) (po_some pe_int) po_none)))) pss_nil))) (pss_one (ps_if (PW.pt (pw_and (pt_cmpR op_in_seq (pv 1) (pe_tup (pa_cons pe_int (pa_cons pe_int pa_nil))) (by with_unfolding_all rfl)) (pw_and1 (pt_cmpR op_notN (pe_ix ix_list (pv 0) (pv 1) (fun _ _ => rfl)) pe_non (nomark _))))) (pss_one (ps_asg (pe_op op_mod (pe_callTy call_int1 (by rfl) T.n_int (by decide +kernel) (pa_cons (pe_op op_add (pe_op op_add (pe_ix ix_list (pv 0) (pv 1) (fun _ _ => rfl)) pe_int) (pe_call (ok_l_digit T) (hr.mono (by decide)) rfl T.m_l_digit T.F_l_digit.kp T.b_l_digit .nil pass0 (pa_cons (pv 2) (pa_cons pe_int pa_nil)))) pa_nil)) pe_int) (pg_sub (pv 3) (pv 1) set_list))) (pss_one (ps_if (PW.pt (pw_and (pt_cmpR op_eq (pv 1) pe_int (nomark _)) (pw_and1 (pt_cmpR op_notN (pe_ix ix_list (pv 0) pe_int (fun _ _ => rfl)) pe_non (nomark _))))) (pss_one (ps_asg (pe_tup (pa_cons (pe_ix ix_tup (pe_ix ix_list (pv 0) pe_int (fun _ _ => rfl)) pe_int (fun _ _ => rfl)) (pa_cons (pe_op op_add (pe_ix ix_tup (pe_ix ix_list (pv 0) pe_int (fun _ _ => rfl)) pe_int (fun _ _ => rfl)) pe_int) pa_nil))) (pg_sub (pv 3) pe_int set_list))) (pss_one (ps_if (pt_cmpR op_eq (pv 1) pe_int (nomark _)) (pss_one (ps_asg (pe_tup (pa_cons pe_int (pa_cons pe_int pa_nil))) (pg_sub (pv 3) pe_int set_list))) (pss_one (ps_if (PW.pt (pw_and (pt_cmpR op_eq (pv 1) pe_int (nomark _)) (pw_and1 (pt_cmpR op_notN (pe_ix ix_list (pv 0) pe_int (fun _ _ => rfl)) pe_non (nomark _))))) (pss_one (ps_asg (pe_op op_mod (pe_callTy call_int1 (by rfl) T.n_int (by decide +kernel) (pa_cons (pe_op op_add (pe_ix ix_list (pv 0) pe_int (fun _ _ => rfl)) pe_int) pa_nil)) pe_int) (pg_sub (pv 3) pe_int set_list))) (pss_one (ps_if (pt_cmpR op_notN (pe_ix ix_list (pv 0) (pv 1) (fun _ _ => rfl)) pe_non (nomark _)) (pss_one (ps_asg (pe_op op_add (pe_ix ix_list (pv 0) (pv 1) (fun _ _ => rfl)) pe_int) (pg_sub (pv 3) (pv 1) set_list))) (pss_one (ps_asg (pe_op op_add pe_int (pe_call (ok_l_digit T) (hr.mono (by decide)) rfl T.m_l_digit T.F_l_digit.kp T.b_l_digit .nil pass0 (pa_cons (pv 2) (pa_cons pe_int pa_nil)))) (pg_sub (pv 3) (pv 1) set_list))))))))))))))))))))
        (pss_one (ps_ret (pv 3))))), ?_⟩
    dsimp only [cxOf, Cx.nox, Cx.wish, L2.start, List.map, List.cons_append, List.nil_append, List.length_cons, List.length_nil, Nat.reduceAdd, Nat.reduceSub, Nat.zero_add, List.replicate_succ, List.replicate_zero]
    dsimp only at ho hv okf oks okt
    walk_at "go"
    refine ⟨a, _, rfl, .inl (sl ho), fun b nb => ?_⟩
    have nbp : b ≠ p := (ne_of_none hp nb).symm
    have nba : b ≠ a := (ne_of_none ho nb).symm
    walk_at "nw"
    rename_i H1 s1 k1
    have ho := s1 _ _ ho
    have hv := hv.same s1
    have kp := s1 _ _ hp
    have B : But p H H1 := But.of s1
    have nfree : H b = none := nb
    clear hp nb s1
    have okw : ∀ {f : Str} {x y : Str}, PyData.strOk x = true → PyData.strOk y = true → PyData.strOk (if f = x then y else x) = true := fun h1 h2 => by split <;> assumption
    have new : ∀ {f x y : Str}, x ≠ y → (if f = x then y else x) ≠ f := fun {f x y} h z => by
      by_cases c : f = x
      · rw [if_pos c, c] at z; exact h z.symm
      · rw [if_neg c] at z; exact c z.symm
    obtain rfl | rfl | rfl | rfl | rfl | rfl | rfl | rfl : k = 0 ∨ k = 1 ∨ k = 2 ∨ k = 3 ∨ k = 4 ∨ k = 5 ∨ k = 6 ∨ k = 7 := by omega
    · walk_at "go"
      refine ⟨by show 2 ≤ sizeLine; decide, fun att natt => ?_⟩
      have nattp : att ≠ p := (ne_of_none kp natt).symm
      have nattb : att ≠ b := (ne_of_none k1 natt).symm
      walk_at "nw"
      rename_i H2 s2 eatt
      have ho := s2 _ _ ho
      have hv := hv.same s2
      have kp := s2 _ _ kp
      have B := B.trans (But.of s2)
      have k1 := s2 _ _ k1
      walk_at "go"
      refine g_ixL (sl ho) (at_of (j := 0) rfl rfl) ?_
      walk_at "go"
      refine g_ixT (st eatt) (pick2 (x := "lose") (y := "mark") (f := ft) rfl) ?_
      walk_at "go"
      refine ⟨by show 3 ≤ sizeLine; decide, fun al nal => ?_⟩
      have nalp : al ≠ p := (ne_of_none kp nal).symm
      have nalb : al ≠ b := (ne_of_none k1 nal).symm
      walk_at "nw"
      rename_i H3 s3 eal
      have ho := s3 _ _ ho
      have hv := hv.same s3
      have kp := s3 _ _ kp
      have B := B.trans (But.of s3)
      have k1 := s3 _ _ k1
      have eatt := s3 _ _ eatt
      walk_at "go"
      refine g_slL (sl ho) fun as nas => ?_
      have nasp : as ≠ p := (ne_of_none kp nas).symm
      have nasb : as ≠ b := (ne_of_none k1 nas).symm
      walk_at "nw"
      rename_i H4 s4 eas
      have ho := s4 _ _ ho
      have hv := hv.same s4
      have kp := s4 _ _ kp
      have B := B.trans (But.of s4)
      have k1 := s4 _ _ k1
      have eatt := s4 _ _ eatt
      have eal := s4 _ _ eal
      rw [cut3] at eas
      walk_at "go"
      refine g_cat eal eas (by show 3 + 5 ≤ sizeLine; decide) fun ac nac => ?_
      have nacp : ac ≠ p := (ne_of_none kp nac).symm
      have nacb : ac ≠ b := (ne_of_none k1 nac).symm
      walk_at "nw"
      rename_i H5 s5 eac
      have ho := s5 _ _ ho
      have hv := hv.same s5
      have kp := s5 _ _ kp
      have B := B.trans (But.of s5)
      have k1 := s5 _ _ k1
      have eatt := s5 _ _ eatt
      have eal := s5 _ _ eal
      have eas := s5 _ _ eas
      walk_at "go"
      exact q ac ⟨if ft = "lose" then "mark" else "lose", 0, 0, se, ta, tk, nt, ch⟩ _ _ B ⟨tv, eac, hv⟩ (okw (by decide +kernel) (by decide +kernel)) (fun z => by injection z with z; exact new (by decide +kernel) z) kp
    · walk_at "go"
      refine g_ixL (sl ho) (at_of (j := 0) rfl rfl) ?_
      walk_at "go"
      refine g_ite (fun cc => ?_) (fun cc => ?_)
      · walk_at "go"
        refine g_ixL (sl ho) (at_of (j := 1) rfl rfl) ?_
        walk_at "go"
        refine g_setL (j := 1) k1 rfl ?_
        walk_at "go"
        exact q b ⟨ft, 1 + am % 9, un, se, ta, tk, nt, ch⟩ _ _ (fun x o nx e => by rw [upd_ne (fun z => by rw [z, nfree] at e; cases e)]; exact B _ _ nx e) ⟨_, upd_same, hv.butL But.refl.upd k1⟩ okf (fun z => by injection z with _ z; omega) (by rw [upd_ne nbp.symm]; exact kp)
      · walk_at "go"
        refine g_ixL (sl ho) (at_of (j := 0) rfl rfl) ?_
        walk_at "go"
        refine g_ite (fun cc2 => ?_) (fun cc2 => ?_)
        · walk_at "go"
          refine g_ixL (sl ho) (at_of (j := 1) rfl rfl) ?_
          walk_at "go"
          refine g_ite (fun cc3 => ?_) (fun cc3 => ?_)
          · walk_at "go"
            refine g_ixL (sl ho) (at_of (j := 1) rfl rfl) ?_
            walk_at "go"
            refine g_setL (j := 1) k1 rfl ?_
            walk_at "go"
            exact q b ⟨ft, am - 1, un, se, ta, tk, nt, ch⟩ _ _ (fun x o nx e => by rw [upd_ne (fun z => by rw [z, nfree] at e; cases e)]; exact B _ _ nx e) ⟨_, upd_same, hv.butL But.refl.upd k1⟩ okf (fun z => by injection z with _ z; omega) (by rw [upd_ne nbp.symm]; exact kp)
          · walk_at "go"
            refine ⟨by show 2 ≤ sizeLine; decide, fun u nu => ?_⟩
            have nup : u ≠ p := (ne_of_none kp nu).symm
            have nub : u ≠ b := (ne_of_none k1 nu).symm
            walk_at "nw"
            rename_i H6 s6 eu
            have ho := s6 _ _ ho
            have hv := hv.same s6
            have kp := s6 _ _ kp
            have B := B.trans (But.of s6)
            have k1 := s6 _ _ k1
            walk_at "go"
            refine g_inI (ws := [1, 2]) (st eu) ?_
            walk_at "go"
            refine ⟨by show 2 ≤ sizeLine; decide, fun bxtt nbxtt => ?_⟩
            have nbxttp : bxtt ≠ p := (ne_of_none kp nbxtt).symm
            have nbxttb : bxtt ≠ b := (ne_of_none k1 nbxtt).symm
            walk_at "nw"
            rename_i H7 s7 ebxtt
            have ho := s7 _ _ ho
            have hv := hv.same s7
            have kp := s7 _ _ kp
            have B := B.trans (But.of s7)
            have k1 := s7 _ _ k1
            have eu := s7 _ _ eu
            walk_at "go"
            refine g_ixL (sl ho) (at_of (j := 0) rfl rfl) ?_
            walk_at "go"
            refine g_ixT (st ebxtt) (pick2 (x := "mark") (y := "lose") (f := ft) rfl) ?_
            walk_at "go"
            refine ⟨by show 3 ≤ sizeLine; decide, fun bxl nbxl => ?_⟩
            have nbxlp : bxl ≠ p := (ne_of_none kp nbxl).symm
            have nbxlb : bxl ≠ b := (ne_of_none k1 nbxl).symm
            walk_at "nw"
            rename_i H8 s8 ebxl
            have ho := s8 _ _ ho
            have hv := hv.same s8
            have kp := s8 _ _ kp
            have B := B.trans (But.of s8)
            have k1 := s8 _ _ k1
            have eu := s8 _ _ eu
            have ebxtt := s8 _ _ ebxtt
            walk_at "go"
            refine g_slL (sl ho) fun bxs nbxs => ?_
            have nbxsp : bxs ≠ p := (ne_of_none kp nbxs).symm
            have nbxsb : bxs ≠ b := (ne_of_none k1 nbxs).symm
            walk_at "nw"
            rename_i H9 s9 ebxs
            have ho := s9 _ _ ho
            have hv := hv.same s9
            have kp := s9 _ _ kp
            have B := B.trans (But.of s9)
            have k1 := s9 _ _ k1
            have eu := s9 _ _ eu
            have ebxtt := s9 _ _ ebxtt
            have ebxl := s9 _ _ ebxl
            rw [cut3] at ebxs
            walk_at "go"
            refine g_cat ebxl ebxs (by show 3 + 5 ≤ sizeLine; decide) fun bxc nbxc => ?_
            have nbxcp : bxc ≠ p := (ne_of_none kp nbxc).symm
            have nbxcb : bxc ≠ b := (ne_of_none k1 nbxc).symm
            walk_at "nw"
            rename_i H10 s10 ebxc
            have ho := s10 _ _ ho
            have hv := hv.same s10
            have kp := s10 _ _ kp
            have B := B.trans (But.of s10)
            have k1 := s10 _ _ k1
            have eu := s10 _ _ eu
            have ebxtt := s10 _ _ ebxtt
            have ebxl := s10 _ _ ebxl
            have ebxs := s10 _ _ ebxs
            walk_at "go"
            refine g_ixL (sl ho) (at_of (j := 0) rfl rfl) ?_
            walk_at "go"
            refine g_ixL (sl ho) (at_of (j := 0) rfl rfl) ?_
            walk_at "go"
            refine g_ixL (sl ho) (at_of (j := 1) rfl rfl) ?_
            walk_at "go"
            refine g_ixL (sl ho) (at_of (j := 2) rfl rfl) ?_
            walk_at "go"
            refine ⟨by show 3 ≤ sizeLine; decide, fun dxl ndxl => ?_⟩
            have ndxlp : dxl ≠ p := (ne_of_none kp ndxl).symm
            have ndxlb : dxl ≠ b := (ne_of_none k1 ndxl).symm
            walk_at "nw"
            rename_i H11 s11 edxl
            have ho := s11 _ _ ho
            have hv := hv.same s11
            have kp := s11 _ _ kp
            have B := B.trans (But.of s11)
            have k1 := s11 _ _ k1
            have eu := s11 _ _ eu
            have ebxtt := s11 _ _ ebxtt
            have ebxl := s11 _ _ ebxl
            have ebxs := s11 _ _ ebxs
            have ebxc := s11 _ _ ebxc
            walk_at "go"
            refine g_slL (sl ho) fun dxs ndxs => ?_
            have ndxsp : dxs ≠ p := (ne_of_none kp ndxs).symm
            have ndxsb : dxs ≠ b := (ne_of_none k1 ndxs).symm
            walk_at "nw"
            rename_i H12 s12 edxs
            have ho := s12 _ _ ho
            have hv := hv.same s12
            have kp := s12 _ _ kp
            have B := B.trans (But.of s12)
            have k1 := s12 _ _ k1
            have eu := s12 _ _ eu
            have ebxtt := s12 _ _ ebxtt
            have ebxl := s12 _ _ ebxl
            have ebxs := s12 _ _ ebxs
            have ebxc := s12 _ _ ebxc
            have edxl := s12 _ _ edxl
            rw [cut3] at edxs
            walk_at "go"
            refine g_cat edxl edxs (by show 3 + 5 ≤ sizeLine; decide) fun dxc ndxc => ?_
            have ndxcp : dxc ≠ p := (ne_of_none kp ndxc).symm
            have ndxcb : dxc ≠ b := (ne_of_none k1 ndxc).symm
            walk_at "nw"
            rename_i H13 s13 edxc
            have ho := s13 _ _ ho
            have hv := hv.same s13
            have kp := s13 _ _ kp
            have B := B.trans (But.of s13)
            have k1 := s13 _ _ k1
            have eu := s13 _ _ eu
            have ebxtt := s13 _ _ ebxtt
            have ebxl := s13 _ _ ebxl
            have ebxs := s13 _ _ ebxs
            have ebxc := s13 _ _ ebxc
            have edxl := s13 _ _ edxl
            have edxs := s13 _ _ edxs
            walk_at "go"
            exact q dxc ⟨ft, am, un + 1, se, ta, tk, nt, ch⟩ _ _ B ⟨tv, edxc, hv⟩ okf (fun z => by injection z with _ _ z; omega) kp
        · walk_at "go"
          refine ⟨by show 2 ≤ sizeLine; decide, fun u nu => ?_⟩
          have nup : u ≠ p := (ne_of_none kp nu).symm
          have nub : u ≠ b := (ne_of_none k1 nu).symm
          walk_at "nw"
          rename_i H14 s14 eu
          have ho := s14 _ _ ho
          have hv := hv.same s14
          have kp := s14 _ _ kp
          have B := B.trans (But.of s14)
          have k1 := s14 _ _ k1
          walk_at "go"
          refine g_inI (ws := [1, 2]) (st eu) ?_
          walk_at "go"
          refine ⟨by show 2 ≤ sizeLine; decide, fun bxtt nbxtt => ?_⟩
          have nbxttp : bxtt ≠ p := (ne_of_none kp nbxtt).symm
          have nbxttb : bxtt ≠ b := (ne_of_none k1 nbxtt).symm
          walk_at "nw"
          rename_i H15 s15 ebxtt
          have ho := s15 _ _ ho
          have hv := hv.same s15
          have kp := s15 _ _ kp
          have B := B.trans (But.of s15)
          have k1 := s15 _ _ k1
          have eu := s15 _ _ eu
          walk_at "go"
          refine g_ixL (sl ho) (at_of (j := 0) rfl rfl) ?_
          walk_at "go"
          refine g_ixT (st ebxtt) (pick2 (x := "mark") (y := "lose") (f := ft) rfl) ?_
          walk_at "go"
          refine ⟨by show 3 ≤ sizeLine; decide, fun bxl nbxl => ?_⟩
          have nbxlp : bxl ≠ p := (ne_of_none kp nbxl).symm
          have nbxlb : bxl ≠ b := (ne_of_none k1 nbxl).symm
          walk_at "nw"
          rename_i H16 s16 ebxl
          have ho := s16 _ _ ho
          have hv := hv.same s16
          have kp := s16 _ _ kp
          have B := B.trans (But.of s16)
          have k1 := s16 _ _ k1
          have eu := s16 _ _ eu
          have ebxtt := s16 _ _ ebxtt
          walk_at "go"
          refine g_slL (sl ho) fun bxs nbxs => ?_
          have nbxsp : bxs ≠ p := (ne_of_none kp nbxs).symm
          have nbxsb : bxs ≠ b := (ne_of_none k1 nbxs).symm
          walk_at "nw"
          rename_i H17 s17 ebxs
          have ho := s17 _ _ ho
          have hv := hv.same s17
          have kp := s17 _ _ kp
          have B := B.trans (But.of s17)
          have k1 := s17 _ _ k1
          have eu := s17 _ _ eu
          have ebxtt := s17 _ _ ebxtt
          have ebxl := s17 _ _ ebxl
          rw [cut3] at ebxs
          walk_at "go"
          refine g_cat ebxl ebxs (by show 3 + 5 ≤ sizeLine; decide) fun bxc nbxc => ?_
          have nbxcp : bxc ≠ p := (ne_of_none kp nbxc).symm
          have nbxcb : bxc ≠ b := (ne_of_none k1 nbxc).symm
          walk_at "nw"
          rename_i H18 s18 ebxc
          have ho := s18 _ _ ho
          have hv := hv.same s18
          have kp := s18 _ _ kp
          have B := B.trans (But.of s18)
          have k1 := s18 _ _ k1
          have eu := s18 _ _ eu
          have ebxtt := s18 _ _ ebxtt
          have ebxl := s18 _ _ ebxl
          have ebxs := s18 _ _ ebxs
          walk_at "go"
          refine g_ixL (sl ho) (at_of (j := 0) rfl rfl) ?_
          walk_at "go"
          exact q bxc ⟨if ft = "mark" then "lose" else "mark", 0, 0, se, ta, tk, nt, ch⟩ _ _ B ⟨tv, ebxc, hv⟩ (okw (by decide +kernel) (by decide +kernel)) (fun z => by injection z with z; exact new (by decide +kernel) z) kp
    · walk_at "go"
      refine ⟨by show 2 ≤ sizeLine; decide, fun u nu => ?_⟩
      have nup : u ≠ p := (ne_of_none kp nu).symm
      have nub : u ≠ b := (ne_of_none k1 nu).symm
      walk_at "nw"
      rename_i H19 s19 eu
      have ho := s19 _ _ ho
      have hv := hv.same s19
      have kp := s19 _ _ kp
      have B := B.trans (But.of s19)
      have k1 := s19 _ _ k1
      walk_at "go"
      refine g_inI (ws := [1, 2]) (st eu) ?_
      walk_at "go"
      refine ⟨by show 2 ≤ sizeLine; decide, fun bxtt nbxtt => ?_⟩
      have nbxttp : bxtt ≠ p := (ne_of_none kp nbxtt).symm
      have nbxttb : bxtt ≠ b := (ne_of_none k1 nbxtt).symm
      walk_at "nw"
      rename_i H20 s20 ebxtt
      have ho := s20 _ _ ho
      have hv := hv.same s20
      have kp := s20 _ _ kp
      have B := B.trans (But.of s20)
      have k1 := s20 _ _ k1
      have eu := s20 _ _ eu
      walk_at "go"
      refine g_ixL (sl ho) (at_of (j := 0) rfl rfl) ?_
      walk_at "go"
      refine g_ixT (st ebxtt) (pick2 (x := "mark") (y := "lose") (f := ft) rfl) ?_
      walk_at "go"
      refine ⟨by show 3 ≤ sizeLine; decide, fun bxl nbxl => ?_⟩
      have nbxlp : bxl ≠ p := (ne_of_none kp nbxl).symm
      have nbxlb : bxl ≠ b := (ne_of_none k1 nbxl).symm
      walk_at "nw"
      rename_i H21 s21 ebxl
      have ho := s21 _ _ ho
      have hv := hv.same s21
      have kp := s21 _ _ kp
      have B := B.trans (But.of s21)
      have k1 := s21 _ _ k1
      have eu := s21 _ _ eu
      have ebxtt := s21 _ _ ebxtt
      walk_at "go"
      refine g_slL (sl ho) fun bxs nbxs => ?_
      have nbxsp : bxs ≠ p := (ne_of_none kp nbxs).symm
      have nbxsb : bxs ≠ b := (ne_of_none k1 nbxs).symm
      walk_at "nw"
      rename_i H22 s22 ebxs
      have ho := s22 _ _ ho
      have hv := hv.same s22
      have kp := s22 _ _ kp
      have B := B.trans (But.of s22)
      have k1 := s22 _ _ k1
      have eu := s22 _ _ eu
      have ebxtt := s22 _ _ ebxtt
      have ebxl := s22 _ _ ebxl
      rw [cut3] at ebxs
      walk_at "go"
      refine g_cat ebxl ebxs (by show 3 + 5 ≤ sizeLine; decide) fun bxc nbxc => ?_
      have nbxcp : bxc ≠ p := (ne_of_none kp nbxc).symm
      have nbxcb : bxc ≠ b := (ne_of_none k1 nbxc).symm
      walk_at "nw"
      rename_i H23 s23 ebxc
      have ho := s23 _ _ ho
      have hv := hv.same s23
      have kp := s23 _ _ kp
      have B := B.trans (But.of s23)
      have k1 := s23 _ _ k1
      have eu := s23 _ _ eu
      have ebxtt := s23 _ _ ebxtt
      have ebxl := s23 _ _ ebxl
      have ebxs := s23 _ _ ebxs
      walk_at "go"
      refine g_ixL (sl ho) (at_of (j := 0) rfl rfl) ?_
      walk_at "go"
      refine g_ite (fun cd => ?_) (fun cd => ?_)
      · walk_at "go"
        refine g_ixL (sl ho) (at_of (j := 0) rfl rfl) ?_
        walk_at "go"
        refine g_ixL (sl ho) (at_of (j := 1) rfl rfl) ?_
        walk_at "go"
        refine g_ixL (sl ho) (at_of (j := 2) rfl rfl) ?_
        walk_at "go"
        refine ⟨by show 3 ≤ sizeLine; decide, fun dxl ndxl => ?_⟩
        have ndxlp : dxl ≠ p := (ne_of_none kp ndxl).symm
        have ndxlb : dxl ≠ b := (ne_of_none k1 ndxl).symm
        walk_at "nw"
        rename_i H24 s24 edxl
        have ho := s24 _ _ ho
        have hv := hv.same s24
        have kp := s24 _ _ kp
        have B := B.trans (But.of s24)
        have k1 := s24 _ _ k1
        have eu := s24 _ _ eu
        have ebxtt := s24 _ _ ebxtt
        have ebxl := s24 _ _ ebxl
        have ebxs := s24 _ _ ebxs
        have ebxc := s24 _ _ ebxc
        walk_at "go"
        refine g_slL (sl ho) fun dxs ndxs => ?_
        have ndxsp : dxs ≠ p := (ne_of_none kp ndxs).symm
        have ndxsb : dxs ≠ b := (ne_of_none k1 ndxs).symm
        walk_at "nw"
        rename_i H25 s25 edxs
        have ho := s25 _ _ ho
        have hv := hv.same s25
        have kp := s25 _ _ kp
        have B := B.trans (But.of s25)
        have k1 := s25 _ _ k1
        have eu := s25 _ _ eu
        have ebxtt := s25 _ _ ebxtt
        have ebxl := s25 _ _ ebxl
        have ebxs := s25 _ _ ebxs
        have ebxc := s25 _ _ ebxc
        have edxl := s25 _ _ edxl
        rw [cut3] at edxs
        walk_at "go"
        refine g_cat edxl edxs (by show 3 + 5 ≤ sizeLine; decide) fun dxc ndxc => ?_
        have ndxcp : dxc ≠ p := (ne_of_none kp ndxc).symm
        have ndxcb : dxc ≠ b := (ne_of_none k1 ndxc).symm
        walk_at "nw"
        rename_i H26 s26 edxc
        have ho := s26 _ _ ho
        have hv := hv.same s26
        have kp := s26 _ _ kp
        have B := B.trans (But.of s26)
        have k1 := s26 _ _ k1
        have eu := s26 _ _ eu
        have ebxtt := s26 _ _ ebxtt
        have ebxl := s26 _ _ ebxl
        have ebxs := s26 _ _ ebxs
        have ebxc := s26 _ _ ebxc
        have edxl := s26 _ _ edxl
        have edxs := s26 _ _ edxs
        walk_at "go"
        exact q dxc ⟨ft, am, un + 1, se, ta, tk, nt, ch⟩ _ _ B ⟨tv, edxc, hv⟩ okf (fun z => by injection z with _ _ z; omega) kp
      · walk_at "go"
        exact q bxc ⟨if ft = "mark" then "lose" else "mark", 0, 0, se, ta, tk, nt, ch⟩ _ _ B ⟨tv, ebxc, hv⟩ (okw (by decide +kernel) (by decide +kernel)) (fun z => by injection z with z; exact new (by decide +kernel) z) kp
    · walk_at "go"
      refine ⟨by show 2 ≤ sizeLine; decide, fun u nu => ?_⟩
      have nup : u ≠ p := (ne_of_none kp nu).symm
      have nub : u ≠ b := (ne_of_none k1 nu).symm
      walk_at "nw"
      rename_i H27 s27 eu
      have ho := s27 _ _ ho
      have hv := hv.same s27
      have kp := s27 _ _ kp
      have B := B.trans (But.of s27)
      have k1 := s27 _ _ k1
      walk_at "go"
      refine g_inI (ws := [1, 2]) (st eu) ?_
      walk_at "go"
      walk_at "go"
      refine ⟨by show 2 ≤ sizeLine; decide, fun v nv => ?_⟩
      have nvp : v ≠ p := (ne_of_none kp nv).symm
      have nvb : v ≠ b := (ne_of_none k1 nv).symm
      walk_at "nw"
      rename_i H28 s28 ev
      have ho := s28 _ _ ho
      have hv := hv.same s28
      have kp := s28 _ _ kp
      have B := B.trans (But.of s28)
      have k1 := s28 _ _ k1
      have eu := s28 _ _ eu
      walk_at "go"
      refine g_inI (ws := [3, 4]) (st ev) ?_
      walk_at "go"
      rcases se with _ | x
      · refine g_ixL (sl ho) (at_of (j := 3) rfl rfl) ?_
        walk_at "go"
        refine g_ixL (sl ho) (at_of (j := 3) rfl rfl) ?_
        walk_at "go"
        refine u_dig kp (by decide) (by decide) fun H29 b29 k29 => ?_
        have ho := b29 _ _ na ho
        have hv := hv.butL b29 kp
        have k1 := b29 _ _ nbp k1
        have B := B.trans b29
        have kp := k29
        walk_at "go"
        refine g_setL (j := 3) k1 rfl ?_
        walk_at "go"
        exact q b ⟨ft, am, un, some (1 + _), ta, tk, nt, ch⟩ _ _ (fun x o nx e => by rw [upd_ne (fun z => by rw [z, nfree] at e; cases e)]; exact B _ _ nx e) ⟨_, upd_same, hv.butL But.refl.upd k1⟩ okf (fun z => by injection z with _ _ _ z; cases z) (by rw [upd_ne nbp.symm]; exact kp)
      · refine g_ixL (sl ho) (at_of (j := 3) rfl rfl) ?_
        walk_at "go"
        refine g_ixL (sl ho) (at_of (j := 3) rfl rfl) ?_
        walk_at "go"
        have hx := oks x rfl
        have wd : ∀ {z : Int}, 0 ≤ z % 65000 ∧ z % 65000 < 65000 := fun {z} => ⟨Int.emod_nonneg _ (by decide), Int.emod_lt_of_pos _ (by decide)⟩
        have wd := wd (z := n)
        refine g_rI0 (i := x) (j := 1) ?_
        walk_at "go"
        refine u_dig kp (by decide) (by decide) fun H30 b30 k30 => ?_
        have ho := b30 _ _ na ho
        have hv := hv.butL b30 kp
        have k1 := b30 _ _ nbp k1
        have B := B.trans b30
        have kp := k30
        walk_at "go"
        refine g_setL (j := 3) k1 rfl ?_
        walk_at "go"
        exact q b ⟨ft, am, un, some ((x + 1 + n % 65000) % 65536), ta, tk, nt, ch⟩ _ _ (fun x o nx e => by rw [upd_ne (fun z => by rw [z, nfree] at e; cases e)]; exact B _ _ nx e) ⟨_, upd_same, hv.butL But.refl.upd k1⟩ okf (fun z => by injection z with _ _ _ z; injection z with z; omega) (by rw [upd_ne nbp.symm]; exact kp)
    · walk_at "go"
      refine ⟨by show 2 ≤ sizeLine; decide, fun u nu => ?_⟩
      have nup : u ≠ p := (ne_of_none kp nu).symm
      have nub : u ≠ b := (ne_of_none k1 nu).symm
      walk_at "nw"
      rename_i H31 s31 eu
      have ho := s31 _ _ ho
      have hv := hv.same s31
      have kp := s31 _ _ kp
      have B := B.trans (But.of s31)
      have k1 := s31 _ _ k1
      walk_at "go"
      refine g_inI (ws := [1, 2]) (st eu) ?_
      walk_at "go"
      walk_at "go"
      refine ⟨by show 2 ≤ sizeLine; decide, fun v nv => ?_⟩
      have nvp : v ≠ p := (ne_of_none kp nv).symm
      have nvb : v ≠ b := (ne_of_none k1 nv).symm
      walk_at "nw"
      rename_i H32 s32 ev
      have ho := s32 _ _ ho
      have hv := hv.same s32
      have kp := s32 _ _ kp
      have B := B.trans (But.of s32)
      have k1 := s32 _ _ k1
      have eu := s32 _ _ eu
      walk_at "go"
      refine g_inI (ws := [3, 4]) (st ev) ?_
      walk_at "go"
      rcases ta with _ | x
      · refine g_ixL (sl ho) (at_of (j := 4) rfl rfl) ?_
        walk_at "go"
        refine g_ixL (sl ho) (at_of (j := 4) rfl rfl) ?_
        walk_at "go"
        refine u_dig kp (by decide) (by decide) fun H33 b33 k33 => ?_
        have ho := b33 _ _ na ho
        have hv := hv.butL b33 kp
        have k1 := b33 _ _ nbp k1
        have B := B.trans b33
        have kp := k33
        walk_at "go"
        refine g_setL (j := 4) k1 rfl ?_
        walk_at "go"
        exact q b ⟨ft, am, un, se, some (1 + _), tk, nt, ch⟩ _ _ (fun x o nx e => by rw [upd_ne (fun z => by rw [z, nfree] at e; cases e)]; exact B _ _ nx e) ⟨_, upd_same, hv.butL But.refl.upd k1⟩ okf (fun z => by injection z with _ _ _ _ z; cases z) (by rw [upd_ne nbp.symm]; exact kp)
      · refine g_ixL (sl ho) (at_of (j := 4) rfl rfl) ?_
        walk_at "go"
        refine g_ixL (sl ho) (at_of (j := 4) rfl rfl) ?_
        walk_at "go"
        have hx := okt x rfl
        have wd : ∀ {z : Int}, 0 ≤ z % 65000 ∧ z % 65000 < 65000 := fun {z} => ⟨Int.emod_nonneg _ (by decide), Int.emod_lt_of_pos _ (by decide)⟩
        have wd := wd (z := n)
        refine g_rI0 (i := x) (j := 1) ?_
        walk_at "go"
        refine u_dig kp (by decide) (by decide) fun H34 b34 k34 => ?_
        have ho := b34 _ _ na ho
        have hv := hv.butL b34 kp
        have k1 := b34 _ _ nbp k1
        have B := B.trans b34
        have kp := k34
        walk_at "go"
        refine g_setL (j := 4) k1 rfl ?_
        walk_at "go"
        exact q b ⟨ft, am, un, se, some ((x + 1 + n % 65000) % 65536), tk, nt, ch⟩ _ _ (fun x o nx e => by rw [upd_ne (fun z => by rw [z, nfree] at e; cases e)]; exact B _ _ nx e) ⟨_, upd_same, hv.butL But.refl.upd k1⟩ okf (fun z => by injection z with _ _ _ _ z; injection z with z; omega) (by rw [upd_ne nbp.symm]; exact kp)
    · rcases tk with _ | ⟨lo, hi⟩
      · have e : tv = .non := hv
        subst e
        walk_at "go"
        refine ⟨by show 2 ≤ sizeLine; decide, fun u nu => ?_⟩
        have nup : u ≠ p := (ne_of_none kp nu).symm
        have nub : u ≠ b := (ne_of_none k1 nu).symm
        walk_at "nw"
        rename_i H35 s35 eu
        have ho := s35 _ _ ho
        have hv := hv.same s35
        have kp := s35 _ _ kp
        have B := B.trans (But.of s35)
        have k1 := s35 _ _ k1
        walk_at "go"
        refine g_inI (ws := [1, 2]) (st eu) ?_
        walk_at "go"
        walk_at "go"
        refine ⟨by show 2 ≤ sizeLine; decide, fun v nv => ?_⟩
        have nvp : v ≠ p := (ne_of_none kp nv).symm
        have nvb : v ≠ b := (ne_of_none k1 nv).symm
        walk_at "nw"
        rename_i H36 s36 ev
        have ho := s36 _ _ ho
        have hv := hv.same s36
        have kp := s36 _ _ kp
        have B := B.trans (But.of s36)
        have k1 := s36 _ _ k1
        have eu := s36 _ _ eu
        walk_at "go"
        refine g_inI (ws := [3, 4]) (st ev) ?_
        walk_at "go"
        refine g_ixL (sl ho) (at_of (j := 5) rfl rfl) ?_
        walk_at "go"
        refine ⟨by show 2 ≤ sizeLine; decide, fun x nx => ?_⟩
        have nxp : x ≠ p := (ne_of_none kp nx).symm
        have nxb : x ≠ b := (ne_of_none k1 nx).symm
        walk_at "nw"
        rename_i H37 s37 ex
        have ho := s37 _ _ ho
        have hv := hv.same s37
        have kp := s37 _ _ kp
        have B := B.trans (But.of s37)
        have k1 := s37 _ _ k1
        have eu := s37 _ _ eu
        have ev := s37 _ _ ev
        walk_at "go"
        refine g_setL (j := 5) k1 rfl ?_
        walk_at "go"
        exact q b ⟨ft, am, un, se, ta, some (0, 7), nt, ch⟩ _ _ (fun x o nx e => by rw [upd_ne (fun z => by rw [z, nfree] at e; cases e)]; exact B _ _ nx e) ⟨_, upd_same, ⟨x, rfl, by rw [upd_ne nxb]; exact ex⟩⟩ okf (fun z => by injection z with _ _ _ _ _ z; cases z) (by rw [upd_ne nbp.symm]; exact kp)
      · obtain ⟨t0, rfl, _⟩ := id hv
        walk_at "go"
        refine ⟨by show 2 ≤ sizeLine; decide, fun u nu => ?_⟩
        have nup : u ≠ p := (ne_of_none kp nu).symm
        have nub : u ≠ b := (ne_of_none k1 nu).symm
        walk_at "nw"
        rename_i H38 s38 eu
        have ho := s38 _ _ ho
        have hv := hv.same s38
        have kp := s38 _ _ kp
        have B := B.trans (But.of s38)
        have k1 := s38 _ _ k1
        walk_at "go"
        refine g_inI (ws := [1, 2]) (st eu) ?_
        walk_at "go"
        walk_at "go"
        refine ⟨by show 2 ≤ sizeLine; decide, fun v nv => ?_⟩
        have nvp : v ≠ p := (ne_of_none kp nv).symm
        have nvb : v ≠ b := (ne_of_none k1 nv).symm
        walk_at "nw"
        rename_i H39 s39 ev
        have ho := s39 _ _ ho
        have hv := hv.same s39
        have kp := s39 _ _ kp
        have B := B.trans (But.of s39)
        have k1 := s39 _ _ k1
        have eu := s39 _ _ eu
        walk_at "go"
        refine g_inI (ws := [3, 4]) (st ev) ?_
        walk_at "go"
        obtain ⟨t1, et, ht⟩ := id hv
        injection et with et
        subst et
        refine g_ixL (sl ho) (at_of (j := 5) rfl rfl) ?_
        walk_at "go"
        refine g_ixL (sl ho) (at_of (j := 5) rfl rfl) ?_
        walk_at "go"
        refine g_ixT (st ht) (at_of (j := 0) rfl rfl) ?_
        walk_at "go"
        refine g_ixL (sl ho) (at_of (j := 5) rfl rfl) ?_
        walk_at "go"
        refine g_ixT (st ht) (at_of (j := 1) rfl rfl) ?_
        walk_at "go"
        refine ⟨by show 2 ≤ sizeLine; decide, fun x nx => ?_⟩
        have nxp : x ≠ p := (ne_of_none kp nx).symm
        have nxb : x ≠ b := (ne_of_none k1 nx).symm
        walk_at "nw"
        rename_i H40 s40 ex
        have ho := s40 _ _ ho
        have hv := hv.same s40
        have kp := s40 _ _ kp
        have B := B.trans (But.of s40)
        have k1 := s40 _ _ k1
        have eu := s40 _ _ eu
        have ev := s40 _ _ ev
        walk_at "go"
        refine g_setL (j := 5) k1 rfl ?_
        walk_at "go"
        exact q b ⟨ft, am, un, se, ta, some (lo, hi + 1), nt, ch⟩ _ _ (fun x o nx e => by rw [upd_ne (fun z => by rw [z, nfree] at e; cases e)]; exact B _ _ nx e) ⟨_, upd_same, ⟨x, rfl, by rw [upd_ne nxb]; exact ex⟩⟩ okf (fun z => by injection z with _ _ _ _ _ z; injection z with z; injection z with _ z; omega) (by rw [upd_ne nbp.symm]; exact kp)
    · walk_at "go"
      refine ⟨by show 2 ≤ sizeLine; decide, fun u nu => ?_⟩
      have nup : u ≠ p := (ne_of_none kp nu).symm
      have nub : u ≠ b := (ne_of_none k1 nu).symm
      walk_at "nw"
      rename_i H41 s41 eu
      have ho := s41 _ _ ho
      have hv := hv.same s41
      have kp := s41 _ _ kp
      have B := B.trans (But.of s41)
      have k1 := s41 _ _ k1
      walk_at "go"
      refine g_inI (ws := [1, 2]) (st eu) ?_
      walk_at "go"
      walk_at "go"
      refine ⟨by show 2 ≤ sizeLine; decide, fun v nv => ?_⟩
      have nvp : v ≠ p := (ne_of_none kp nv).symm
      have nvb : v ≠ b := (ne_of_none k1 nv).symm
      walk_at "nw"
      rename_i H42 s42 ev
      have ho := s42 _ _ ho
      have hv := hv.same s42
      have kp := s42 _ _ kp
      have B := B.trans (But.of s42)
      have k1 := s42 _ _ k1
      have eu := s42 _ _ eu
      walk_at "go"
      refine g_inI (ws := [3, 4]) (st ev) ?_
      walk_at "go"
      rcases nt with _ | x
      · refine g_ixL (sl ho) (at_of (j := 6) rfl rfl) ?_
        walk_at "go"
        refine u_dig kp (by decide) (by decide) fun H43 b43 k43 => ?_
        have ho := b43 _ _ na ho
        have hv := hv.butL b43 kp
        have k1 := b43 _ _ nbp k1
        have B := B.trans b43
        have kp := k43
        walk_at "go"
        refine g_setL (j := 6) k1 rfl ?_
        walk_at "go"
        exact q b ⟨ft, am, un, se, ta, tk, some (1 + _), ch⟩ _ _ (fun x o nx e => by rw [upd_ne (fun z => by rw [z, nfree] at e; cases e)]; exact B _ _ nx e) ⟨_, upd_same, hv.butL But.refl.upd k1⟩ okf (fun z => by injection z with _ _ _ _ _ _ z; cases z) (by rw [upd_ne nbp.symm]; exact kp)
      · refine g_ixL (sl ho) (at_of (j := 6) rfl rfl) ?_
        walk_at "go"
        refine g_ixL (sl ho) (at_of (j := 6) rfl rfl) ?_
        walk_at "go"
        refine g_rI0 (i := x) (j := 1) ?_
        walk_at "go"
        refine g_setL (j := 6) k1 rfl ?_
        walk_at "go"
        exact q b ⟨ft, am, un, se, ta, tk, some (x + 1), ch⟩ _ _ (fun x o nx e => by rw [upd_ne (fun z => by rw [z, nfree] at e; cases e)]; exact B _ _ nx e) ⟨_, upd_same, hv.butL But.refl.upd k1⟩ okf (fun z => by injection z with _ _ _ _ _ _ z; injection z with z; omega) (by rw [upd_ne nbp.symm]; exact kp)
    · walk_at "go"
      refine ⟨by show 2 ≤ sizeLine; decide, fun u nu => ?_⟩
      have nup : u ≠ p := (ne_of_none kp nu).symm
      have nub : u ≠ b := (ne_of_none k1 nu).symm
      walk_at "nw"
      rename_i H44 s44 eu
      have ho := s44 _ _ ho
      have hv := hv.same s44
      have kp := s44 _ _ kp
      have B := B.trans (But.of s44)
      have k1 := s44 _ _ k1
      walk_at "go"
      refine g_inI (ws := [1, 2]) (st eu) ?_
      walk_at "go"
      walk_at "go"
      refine ⟨by show 2 ≤ sizeLine; decide, fun v nv => ?_⟩
      have nvp : v ≠ p := (ne_of_none kp nv).symm
      have nvb : v ≠ b := (ne_of_none k1 nv).symm
      walk_at "nw"
      rename_i H45 s45 ev
      have ho := s45 _ _ ho
      have hv := hv.same s45
      have kp := s45 _ _ kp
      have B := B.trans (But.of s45)
      have k1 := s45 _ _ k1
      have eu := s45 _ _ eu
      walk_at "go"
      refine g_inI (ws := [3, 4]) (st ev) ?_
      walk_at "go"
      rcases ch with _ | x
      · refine g_ixL (sl ho) (at_of (j := 7) rfl rfl) ?_
        walk_at "go"
        refine g_ixL (sl ho) (at_of (j := 7) rfl rfl) ?_
        walk_at "go"
        refine u_dig kp (by decide) (by decide) fun H46 b46 k46 => ?_
        have ho := b46 _ _ na ho
        have hv := hv.butL b46 kp
        have k1 := b46 _ _ nbp k1
        have B := B.trans b46
        have kp := k46
        walk_at "go"
        refine g_setL (j := 7) k1 rfl ?_
        walk_at "go"
        exact q b ⟨ft, am, un, se, ta, tk, nt, some (1 + _)⟩ _ _ (fun x o nx e => by rw [upd_ne (fun z => by rw [z, nfree] at e; cases e)]; exact B _ _ nx e) ⟨_, upd_same, hv.butL But.refl.upd k1⟩ okf (fun z => by injection z with _ _ _ _ _ _ _ z; cases z) (by rw [upd_ne nbp.symm]; exact kp)
      · refine g_ixL (sl ho) (at_of (j := 7) rfl rfl) ?_
        walk_at "go"
        refine g_ixL (sl ho) (at_of (j := 7) rfl rfl) ?_
        walk_at "go"
        refine g_rI0 (i := x) (j := 1) ?_
        walk_at "go"
        refine g_setL (j := 7) k1 rfl ?_
        walk_at "go"
        exact q b ⟨ft, am, un, se, ta, tk, nt, some ((x + 1) % 1001)⟩ _ _ (fun x o nx e => by rw [upd_ne (fun z => by rw [z, nfree] at e; cases e)]; exact B _ _ nx e) ⟨_, upd_same, hv.butL But.refl.upd k1⟩ okf (fun z => by injection z with _ _ _ _ _ _ _ z; injection z with z; omega) (by rw [upd_ne nbp.symm]; exact kp)
end
end My
namespace My
open PySem PySem.Spec L2
local macro_rules | `(tactic| walk_at "side") => `(tactic| first | assumption | decide | omega | exact ⟨by decide, by decide⟩ | exact ⟨by decide, by decide, by decide⟩ | decide +kernel | exact cdivW (by decide +kernel) (by decide +kernel) | exact Or.inl ⟨by omega, by omega⟩ | exact Or.inr ⟨by omega, by omega⟩ | (simp only [List.length_map, List.length_cons, List.length_nil, List.length_append]; omega))
local macro_rules | `(tactic| walk_at "fact") => `(tactic| first | assumption | omega | with_reducible rfl)
local macro_rules | `(tactic| walk_at "use") => `(tactic| fail "use")
local macro_rules | `(tactic| walk_at "go1") => `(tactic| with_reducible first | refine g_seq ?_ | refine g_asg ?_ | refine g_ret ?_ | refine g_ifS ?_ | refine g_drop ?_ | refine g_star ?_ | refine g_nx ?_ | refine g_rt ?_ | refine g_bkE ?_ | refine g_ctE ?_ | refine g_next ?_ | refine g_retN ?_ | refine g_brk ?_ | refine g_ct ?_ | refine g_c ?_ | refine g_op ?_ | refine g_un ?_ | refine g_rI0 ?_ | refine g_rU ?_ | refine g_rEqI ?_ | refine g_rNeI ?_ | refine g_isN ?_ | refine g_rIsB ?_ | refine g_rNotB ?_ | refine g_test ?_ | refine g_B ?_ | refine g_bl ?_ | refine g_and ?_ | refine g_or ?_ | refine g_not ?_ | refine g_andV ?_ | refine g_orV ?_ | refine g_notV ?_ | refine g_if ?_ | refine g_chain ?_ | refine g_yes ?_ | refine g_lc ?_ | refine g_revR ?_ | refine g_rng1 ?_ | refine g_iList ?_ | refine g_nil ?_ | refine g_cons ?_ | refine g_tup ?_ | refine g_lst ?_ | refine g_call ?_ | refine g_CB ?_ | refine g_sl ?_ | refine g_noPart ?_ | refine g_part ?_ | refine g_intE ?_ | refine g_ref ?_ | refine g_fld ?_ | refine g_sfld ?_ | refine g_meth ?_ | refine g_make ?_ | refine g_prop ?_  | refine g_ipI ?_ | refine g_int1 ?_ | refine g_int1B ?_ | refine g_one ?_ | refine g_two ?_ | refine g_isiI ?_ | refine g_isiIB ?_ | refine g_isiB ?_ | refine g_BM ?_ | refine g_BM0 ?_ | refine g_sub ?_)
local macro_rules | `(tactic| walk_at "go") => `(tactic| repeat (first | walk_at "go1" | ((with_reducible refine' g_nameE ?sd_ ?_); case sd_ => dsimp only [List.set_cons_succ, List.set_cons_zero]) | ((with_reducible refine' g_var ?sd_ ?_); case sd_ => exact rfl) | ((with_reducible refine' g_aug ?sd_ ?_); case sd_ => exact rfl) | ((with_reducible refine' g_rI ?sd_ ?_); case sd_ => walk_at "side") | ((with_reducible refine' g_dT ?sd_ ?_); case sd_ => walk_at "fact") | ((with_reducible refine' g_dF ?sd_ ?_); case sd_ => walk_at "fact") | ((with_reducible refine' g_nT ?sd_ ?_); case sd_ => walk_at "fact") | ((with_reducible refine' g_nF ?sd_ ?_); case sd_ => walk_at "fact") | (with_reducible refine g_iT rfl ?_) | (with_reducible refine g_iF rfl ?_) | walk_at "use"))
local macro_rules | `(tactic| walk_at "nw") => `(tactic| (generalize zq : upd _ _ _ = Hq; have sq : Same _ Hq := (by rw [← zq]; exact same_upd (by assumption)); have kq := (congrFun zq _).symm.trans upd_same; clear zq))
local macro_rules | `(tactic| walk_at "bt") => `(tactic| (generalize zq : upd _ _ _ = Hq; have bq : But _ _ Hq := (by rw [← zq]; exact But.refl.upd); have kq := (congrFun zq _).symm.trans upd_same; clear zq))
local macro_rules | `(tactic| walk_at "use") => `(tactic| first | ((with_reducible refine' fd_Rule_fault ?ho_ ?hv_ ?_); (case ho_ => first | assumption | exact upd_same); (case hv_ => exact rfl)) | ((with_reducible refine' fd_Rule_amount ?ho_ ?hv_ ?_); (case ho_ => first | assumption | exact upd_same); (case hv_ => exact rfl)) | ((with_reducible refine' fd_Rule_until ?ho_ ?hv_ ?_); (case ho_ => first | assumption | exact upd_same); (case hv_ => exact rfl)) | ((with_reducible refine' fd_Rule_sender ?ho_ ?hv_ ?_); (case ho_ => first | assumption | exact upd_same); (case hv_ => exact rfl)) | ((with_reducible refine' fd_Rule_target ?ho_ ?hv_ ?_); (case ho_ => first | assumption | exact upd_same); (case hv_ => exact rfl)) | ((with_reducible refine' fd_Rule_ticks ?ho_ ?hv_ ?_); (case ho_ => first | assumption | exact upd_same); (case hv_ => exact rfl)) | ((with_reducible refine' fd_Rule_nth ?ho_ ?hv_ ?_); (case ho_ => first | assumption | exact upd_same); (case hv_ => exact rfl)) | ((with_reducible refine' fd_Rule_chance ?ho_ ?hv_ ?_); (case ho_ => first | assumption | exact upd_same); (case hv_ => exact rfl)) | ((with_reducible refine' nw_Rule_fault ?ho_ ?hv_ ?_); (case ho_ => first | assumption | exact upd_same); (case hv_ => exact rfl)) | ((with_reducible refine' nw_Rule_amount ?ho_ ?hv_ ?_); (case ho_ => first | assumption | exact upd_same); (case hv_ => exact rfl)) | ((with_reducible refine' nw_Rule_until ?ho_ ?hv_ ?_); (case ho_ => first | assumption | exact upd_same); (case hv_ => exact rfl)) | ((with_reducible refine' nw_Rule_sender ?ho_ ?hv_ ?_); (case ho_ => first | assumption | exact upd_same); (case hv_ => exact rfl)) | ((with_reducible refine' nw_Rule_target ?ho_ ?hv_ ?_); (case ho_ => first | assumption | exact upd_same); (case hv_ => exact rfl)) | ((with_reducible refine' nw_Rule_ticks ?ho_ ?hv_ ?_); (case ho_ => first | assumption | exact upd_same); (case hv_ => exact rfl)) | ((with_reducible refine' nw_Rule_nth ?ho_ ?hv_ ?_); (case ho_ => first | assumption | exact upd_same); (case hv_ => exact rfl)) | ((with_reducible refine' nw_Rule_chance ?ho_ ?hv_ ?_); (case ho_ => first | assumption | exact upd_same); (case hv_ => exact rfl)) | ((with_reducible refine' st_Rule_fault ?ho_ ?hv_ ?_); (case ho_ => first | assumption | exact upd_same); (case hv_ => exact Nat.le_of_ble_eq_true rfl)) | ((with_reducible refine' st_Rule_amount ?ho_ ?hv_ ?_); (case ho_ => first | assumption | exact upd_same); (case hv_ => exact Nat.le_of_ble_eq_true rfl)) | ((with_reducible refine' st_Rule_until ?ho_ ?hv_ ?_); (case ho_ => first | assumption | exact upd_same); (case hv_ => exact Nat.le_of_ble_eq_true rfl)) | ((with_reducible refine' st_Rule_sender ?ho_ ?hv_ ?_); (case ho_ => first | assumption | exact upd_same); (case hv_ => exact Nat.le_of_ble_eq_true rfl)) | ((with_reducible refine' st_Rule_target ?ho_ ?hv_ ?_); (case ho_ => first | assumption | exact upd_same); (case hv_ => exact Nat.le_of_ble_eq_true rfl)) | ((with_reducible refine' st_Rule_ticks ?ho_ ?hv_ ?_); (case ho_ => first | assumption | exact upd_same); (case hv_ => exact Nat.le_of_ble_eq_true rfl)) | ((with_reducible refine' st_Rule_nth ?ho_ ?hv_ ?_); (case ho_ => first | assumption | exact upd_same); (case hv_ => exact Nat.le_of_ble_eq_true rfl)) | ((with_reducible refine' st_Rule_chance ?ho_ ?hv_ ?_); (case ho_ => first | assumption | exact upd_same); (case hv_ => exact Nat.le_of_ble_eq_true rfl)) | ((with_reducible refine' me_Rule_considers ?ho_ ?_); (case ho_ => first | assumption | exact upd_same)) | ((with_reducible refine' me_Rule_eq__ ?ho_ ?_); (case ho_ => first | assumption | exact upd_same)) | ((with_reducible refine' me_Rule_fields ?ho_ ?_); (case ho_ => first | assumption | exact upd_same)))
local macro_rules | `(tactic| walk_at "use") => `(tactic| first | ((with_reducible refine' fd_Packet_sender ?ho_ ?hv_ ?_); (case ho_ => first | assumption | exact upd_same); (case hv_ => exact rfl)) | ((with_reducible refine' fd_Packet_target ?ho_ ?hv_ ?_); (case ho_ => first | assumption | exact upd_same); (case hv_ => exact rfl)) | ((with_reducible refine' fd_Packet_octets ?ho_ ?hv_ ?_); (case ho_ => first | assumption | exact upd_same); (case hv_ => exact rfl)) | ((with_reducible refine' fd_Packet_marked ?ho_ ?hv_ ?_); (case ho_ => first | assumption | exact upd_same); (case hv_ => exact rfl)) | ((with_reducible refine' nw_Packet_sender ?ho_ ?hv_ ?_); (case ho_ => first | assumption | exact upd_same); (case hv_ => exact rfl)) | ((with_reducible refine' nw_Packet_target ?ho_ ?hv_ ?_); (case ho_ => first | assumption | exact upd_same); (case hv_ => exact rfl)) | ((with_reducible refine' nw_Packet_octets ?ho_ ?hv_ ?_); (case ho_ => first | assumption | exact upd_same); (case hv_ => exact rfl)) | ((with_reducible refine' nw_Packet_marked ?ho_ ?hv_ ?_); (case ho_ => first | assumption | exact upd_same); (case hv_ => exact rfl)) | ((with_reducible refine' st_Packet_sender ?ho_ ?hv_ ?_); (case ho_ => first | assumption | exact upd_same); (case hv_ => exact Nat.le_of_ble_eq_true rfl)) | ((with_reducible refine' st_Packet_target ?ho_ ?hv_ ?_); (case ho_ => first | assumption | exact upd_same); (case hv_ => exact Nat.le_of_ble_eq_true rfl)) | ((with_reducible refine' st_Packet_octets ?ho_ ?hv_ ?_); (case ho_ => first | assumption | exact upd_same); (case hv_ => exact Nat.le_of_ble_eq_true rfl)) | ((with_reducible refine' st_Packet_marked ?ho_ ?hv_ ?_); (case ho_ => first | assumption | exact upd_same); (case hv_ => exact Nat.le_of_ble_eq_true rfl)) | ((with_reducible refine' me_Packet_fork ?ho_ ?_); (case ho_ => first | assumption | exact upd_same)) | ((with_reducible refine' me_Packet_eq__ ?ho_ ?_); (case ho_ => first | assumption | exact upd_same)) | ((with_reducible refine' me_Packet_fields ?ho_ ?_); (case ho_ => first | assumption | exact upd_same)))
local macro_rules | `(tactic| walk_at "use") => `(tactic| first | ((with_reducible refine' fd_Flight_number ?ho_ ?hv_ ?_); (case ho_ => first | assumption | exact upd_same); (case hv_ => exact rfl)) | ((with_reducible refine' fd_Flight_birth ?ho_ ?hv_ ?_); (case ho_ => first | assumption | exact upd_same); (case hv_ => exact rfl)) | ((with_reducible refine' fd_Flight_packet ?ho_ ?hv_ ?_); (case ho_ => first | assumption | exact upd_same); (case hv_ => exact rfl)) | ((with_reducible refine' nw_Flight_number ?ho_ ?hv_ ?_); (case ho_ => first | assumption | exact upd_same); (case hv_ => exact rfl)) | ((with_reducible refine' nw_Flight_birth ?ho_ ?hv_ ?_); (case ho_ => first | assumption | exact upd_same); (case hv_ => exact rfl)) | ((with_reducible refine' nw_Flight_packet ?ho_ ?hv_ ?_); (case ho_ => first | assumption | exact upd_same); (case hv_ => exact rfl)) | ((with_reducible refine' st_Flight_number ?ho_ ?hv_ ?_); (case ho_ => first | assumption | exact upd_same); (case hv_ => exact Nat.le_of_ble_eq_true rfl)) | ((with_reducible refine' st_Flight_birth ?ho_ ?hv_ ?_); (case ho_ => first | assumption | exact upd_same); (case hv_ => exact Nat.le_of_ble_eq_true rfl)) | ((with_reducible refine' st_Flight_packet ?ho_ ?hv_ ?_); (case ho_ => first | assumption | exact upd_same); (case hv_ => exact Nat.le_of_ble_eq_true rfl)) | ((with_reducible refine' me_Flight_eq__ ?ho_ ?_); (case ho_ => first | assumption | exact upd_same)))
local macro_rules | `(tactic| walk_at "use") => `(tactic| first | ((with_reducible refine' fd_Record_tick ?ho_ ?hv_ ?_); (case ho_ => first | assumption | exact upd_same); (case hv_ => exact rfl)) | ((with_reducible refine' fd_Record_number ?ho_ ?hv_ ?_); (case ho_ => first | assumption | exact upd_same); (case hv_ => exact rfl)) | ((with_reducible refine' fd_Record_word ?ho_ ?hv_ ?_); (case ho_ => first | assumption | exact upd_same); (case hv_ => exact rfl)) | ((with_reducible refine' fd_Record_packet ?ho_ ?hv_ ?_); (case ho_ => first | assumption | exact upd_same); (case hv_ => exact rfl)) | ((with_reducible refine' nw_Record_tick ?ho_ ?hv_ ?_); (case ho_ => first | assumption | exact upd_same); (case hv_ => exact rfl)) | ((with_reducible refine' nw_Record_number ?ho_ ?hv_ ?_); (case ho_ => first | assumption | exact upd_same); (case hv_ => exact rfl)) | ((with_reducible refine' nw_Record_word ?ho_ ?hv_ ?_); (case ho_ => first | assumption | exact upd_same); (case hv_ => exact rfl)) | ((with_reducible refine' nw_Record_packet ?ho_ ?hv_ ?_); (case ho_ => first | assumption | exact upd_same); (case hv_ => exact rfl)) | ((with_reducible refine' st_Record_tick ?ho_ ?hv_ ?_); (case ho_ => first | assumption | exact upd_same); (case hv_ => exact Nat.le_of_ble_eq_true rfl)) | ((with_reducible refine' st_Record_number ?ho_ ?hv_ ?_); (case ho_ => first | assumption | exact upd_same); (case hv_ => exact Nat.le_of_ble_eq_true rfl)) | ((with_reducible refine' st_Record_word ?ho_ ?hv_ ?_); (case ho_ => first | assumption | exact upd_same); (case hv_ => exact Nat.le_of_ble_eq_true rfl)) | ((with_reducible refine' st_Record_packet ?ho_ ?hv_ ?_); (case ho_ => first | assumption | exact upd_same); (case hv_ => exact Nat.le_of_ble_eq_true rfl)) | ((with_reducible refine' me_Record_eq__ ?ho_ ?_); (case ho_ => first | assumption | exact upd_same)))
section
variable {P : Program} {w : World} {K : PySem.W.Frag} {mg : Str → Option Value} {base : Heap}
/-! ### an expression that changes nothing, by its value: the ways of a chain are joined -/
def tCutV (t : TE) : TE := fun σ H Q => ∃ v, t σ H (fun v' H' => v' = v ∧ H' = H) ∧ Q v H
theorem pe_cutV {X : Cx} {e : Expr} {t : TE} (h : PE X e t) : PE X e (tCutV t) := by
  refine ⟨fun pins s σ H Q I hq => ?_⟩
  obtain ⟨v, hv, q⟩ := hq
  refine thn (h.run pins s σ H _ I hv) fun u s1 ⟨x, H1, I1, rx, e1, e2⟩ => ?_
  subst e1
  subst e2
  exact ⟨_, _, I1, rx, q⟩
theorem g_cutV {t : TE} {σ : St} {H : Hp} {Q : VK} (v : V) (h : t σ H fun v' H' => v' = v ∧ H' = H) (q : Q v H) : tCutV t σ H Q := ⟨v, h, q⟩
local macro_rules | `(tactic| walk_at "vb") => `(tactic| first | exact ⟨congrArg V.bl (decide_eq_decide.mpr (by omega)), rfl⟩ | exact ⟨congrArg V.bl (decide_eq_false (by omega)).symm, rfl⟩ | exact ⟨congrArg V.bl (decide_eq_true (by omega)).symm, rfl⟩)
/-! the same of a test -/
def tCutT (t : TT) : TT := fun σ H P => ∃ b, t σ H (fun b' H' => b' = b ∧ H' = H) ∧ P b H
theorem pt_cutT {X : Cx} {e : Expr} {t : TT} (h : PT X e t) : PT X e (tCutT t) := by
  refine ⟨fun pins s σ H P I hq => ?_⟩
  obtain ⟨b, hb, p⟩ := hq
  refine thn (h.run pins s σ H _ I hb) fun b' s1 ⟨H1, I1, e1, e2⟩ => ?_
  subst e1
  subst e2
  exact ⟨_, I1, p⟩
theorem g_cutT {t : TT} {σ : St} {H : Hp} {P : Bool → Hp → Prop} (b : Bool) (h : t σ H fun b' H' => b' = b ∧ H' = H) (p : P b H) : tCutT t σ H P := ⟨b, h, p⟩

local macro_rules | `(tactic| walk_at "use") => `(tactic| with_reducible first | refine g_makeK ?_ | refine g_callN ?_ | refine g_rEqS ?_ | refine g_rNeS ?_)
theorem RwO.copy {H : Hp} {a b : Addr} {g : Rl} (h : RwO H a g) (e : H b = H a) : RwO H b g := let ⟨tv, h1, h2⟩ := h; ⟨tv, e.trans h1, h2⟩
theorem u_rleq {C x y : Addr} {g g' : Rl} {H : Hp} {E : XK} {Q : VK} (h : RlO C H x g) (h' : RlO C H y g') (ok : PyData.strOk g.fault = true) (ok' : PyData.strOk g'.fault = true) (q : ∀ H', Same H H' → Q (.bl (decide (g = g'))) H') : rEqO C (EqR C) (sp_Rule_eq C) E (.ref x) (.ref y) H Q :=
  let ⟨dx, _, h1, _⟩ := h
  let ⟨dy, _, h2, _⟩ := h'
  ⟨x, dx, _, rfl, h1, .inl ⟨y, dy, _, rfl, h2⟩, x, y, g, g', rfl, h, h', ok, ok', fun H' s => ⟨_, rfl, q H' s⟩⟩
def sp_l_rules (K : PySem.W.Frag) : Sp := fun vs H Q _ => ∃ (a p : Addr) (n : Int) (g : Rl), vs = [.ref a, .ref p] ∧ H p = some (.lst [.int n]) ∧ a ≠ p ∧ RwO H a g ∧ RlOk g ∧ ∀ n' H', But p H H' → H' p = some (.lst [.int n']) → Q (.bl true) H'
theorem ok_l_rules (T : Txt K mg) : FnOk P w K mg base CX0 4 T.f_l_rules T.d_l_rules ["rule", "state"] (sp_l_rules K) := by
  refine T.F_l_rules.ok sc_l_rules (fun vs H Q E h => ?_) (fun cdv A outer s H vs Q E hr h => ?_)
  · obtain ⟨a, p, n, g, rfl, hp, na, ho, ok, q⟩ := h
    rfl
  · obtain ⟨a, p, n, g, rfl, hp, na, ho, ok, q⟩ := h
    have hu := hu_of hr
    refine ⟨_, (pss_cons (ps_set (i := 2) sc_l_rules.nd rfl (Or.inl rfl) (pe_call (ok_l_rule_of T) (hr.mono (by decide)) rfl T.m_l_rule_of T.F_l_rule_of.kp T.b_l_rule_of .nil pass0 (pa_cons (pv 0) pa_nil)))
        (pss_cons (ps_if (pt_not (pt_cmpR (op_eqO (ok_Rule_eq__ T) (hr.mono (by decide)) T.a_Rule_eq__ T.q_Rule T.b_Rule_eq__ pass0) (pv 2) (pe_call (ok_l_rule_of T) (hr.mono (by decide)) rfl T.m_l_rule_of T.F_l_rule_of.kp T.b_l_rule_of .nil pass0 (pa_cons (pe_callTy call_list_of (by rfl) T.n_list (by decide +kernel) (pa_cons (pv 0) pa_nil)) pa_nil)) (nomark _))) (pss_one (ps_ret pe_bl)) pss_nil)
        (pss_cons (ps_for PassesOwn.never rfl (pi_range1 (by rfl) T.n_range (pa_cons pe_int pa_nil)) (pg_name (i := 3) sc_l_rules.nd rfl (Or.inl rfl)) (pss_one (ps_if (pt_cmpR (op_eqO (ok_Rule_eq__ T) (hr.mono (by decide)) T.a_Rule_eq__ T.q_Rule T.b_Rule_eq__ pass0) (pv 2) (pe_call (ok_l_rule_of T) (hr.mono (by decide)) rfl T.m_l_rule_of T.F_l_rule_of.kp T.b_l_rule_of .nil pass0 (pa_cons (pe_call (ok_l_other_rule T) (hr.mono (by decide)) rfl T.m_l_other_rule T.F_l_other_rule.kp T.b_l_other_rule .nil pass0 (pa_cons (pv 0) (pa_cons (pv 3) (pa_cons (pv 1) pa_nil)))) pa_nil)) (nomark _)) (pss_one (ps_ret pe_bl)) pss_nil)))
        (pss_one (ps_ret pe_bl))))), ?_⟩
    dsimp only [cxOf, Cx.nox, Cx.wish, L2.start, List.map, List.cons_append, List.nil_append, List.length_cons, List.length_nil, Nat.reduceAdd, Nat.reduceSub, Nat.zero_add, List.replicate_succ, List.replicate_zero]
    walk_at "go"
    refine u_rof ho fun x H1 nx s1 ox => ?_
    obtain ⟨tv, h1, h2⟩ := id (ho.same s1)
    walk_at "go"
    refine ⟨a, _, rfl, .inl (sl h1), fun b nb => ?_⟩
    walk_at "nw"
    rename_i H2 s2 k2
    walk_at "go"
    refine u_rof (g := g) ⟨tv, k2, h2.same s2⟩ fun y H3 ny s3 oy => ?_
    walk_at "go"
    refine u_rleq (ox.same (s2.trans s3)) oy ok.1 ok.1 fun H4 s4 => ?_
    rw [decide_eq_true (rfl : g = g)]
    have s04 := ((s1.trans s2).trans s3).trans s4
    have ox := ox.same ((s2.trans s3).trans s4)
    have ho4 := ho.same s04
    have kp := s04 _ _ hp
    have B4 : But p H H4 := But.of s04
    walk_at "go"
    refine for_r (n := 8) 8 rfl (by decide) (by decide) (fun i σ H' => (∃ v, σ = [some (.ref a), some (.ref p), some (.ref x), v]) ∧ But p H4 H' ∧ ∃ n', H' p = some (.lst [.int n'])) ⟨⟨_, rfl⟩, fun _ _ _ h => h, _, kp⟩ ?turn ?done ?ev
    case turn =>
      rintro i σ H5 hi ⟨⟨v, rfl⟩, b5, n5, k5⟩
      walk_at "go"
      refine u_other (by omega) (by omega) k5 na (ho4.butL na b5 kp) ok fun b g' n6 H6 b6 o6 ok6 ne k6 => ?_
      walk_at "go"
      refine u_rof o6 fun y H7 ny s7 oy => ?_
      walk_at "go"
      refine u_rleq (((ox.butL b5 kp).butL b6 k5).same s7) oy ok.1 ok6 fun H8 s8 => ?_
      rw [decide_eq_false (fun z => ne z.symm : ¬ g = g')]
      walk_at "go"
      exact ⟨⟨_, rfl⟩, ((b5.trans b6).trans (But.of s7)).trans (But.of s8), n6, s8 _ _ (s7 _ _ k6)⟩
    case done =>
      rintro σ H5 ⟨⟨v, rfl⟩, b5, n5, k5⟩
      walk_at "go"
      exact q _ _ (B4.trans b5) k5
    case ev =>
      intro R r
      walk_at "go"
      exact r
def sp_l_near (K : PySem.W.Frag) : Sp := fun vs H Q _ => ∃ (p : Addr) (o : Option Int) (n : Int), vs = [.ref p, oV o] ∧ H p = some (.lst [.int n]) ∧ ∀ i n' H', But p H H' → H' p = some (.lst [.int n']) → Q (.int i) H'
theorem u_near {p : Addr} {o : Option Int} {n : Int} {H Q E} (hp : H p = some (.lst [.int n])) (q : ∀ i n' H', But p H H' → H' p = some (.lst [.int n']) → Q (.int i) H') : sp_l_near K ([.ref p] ++ ([oV o] ++ [])) H Q E := ⟨p, o, n, rfl, hp, q⟩
theorem ok_l_near (T : Txt K mg) : FnOk P w K mg base CX0 2 T.f_l_near T.d_l_near ["state", "value"] (sp_l_near K) := by
  refine T.F_l_near.ok sc_l_near (fun vs H Q E h => ?_) (fun cdv A outer s H vs Q E hr h => ?_)
  · obtain ⟨p, o, n, rfl, hp, q⟩ := h
    rfl
  · obtain ⟨p, o, n, rfl, hp, q⟩ := h
    have hu := hu_of hr
    refine ⟨_, (pss_cons (ps_if (PW.pt (pw_or (pt_cmpR op_isN (pv 1) pe_non (nomark _)) (pw_or1 (pt_cmpR op_eq (pe_call (ok_l_digit T) (hr.mono (by decide)) rfl T.m_l_digit T.F_l_digit.kp T.b_l_digit .nil pass0 (pa_cons (pv 0) (pa_cons pe_int pa_nil))) pe_int (nomark _))))) (pss_one (ps_ret (pe_call (ok_l_digit T) (hr.mono (by decide)) rfl T.m_l_digit T.F_l_digit.kp T.b_l_digit .nil pass0 (pa_cons (pv 0) (pa_cons pe_int pa_nil))))) pss_nil)
        (pss_one (ps_ret (pe_ix ix_tup (pe_tup (pa_cons (pv 1) (pa_cons (pv 1) (pa_cons (pe_callB (call_min2 rfl) (by rfl) T.n_min (by decide +kernel) (pa_cons pe_int (pa_cons (pe_op op_add (pv 1) pe_int) pa_nil))) (pa_cons (pe_callB (call_max2 rfl) (by rfl) T.n_max (by decide +kernel) (pa_cons pe_int (pa_cons (pe_op op_sub (pv 1) pe_int) pa_nil))) pa_nil))))) (pe_call (ok_l_digit T) (hr.mono (by decide)) rfl T.m_l_digit T.F_l_digit.kp T.b_l_digit .nil pass0 (pa_cons (pv 0) (pa_cons pe_int pa_nil))) (fun _ _ => rfl))))), ?_⟩
    dsimp only [cxOf, Cx.nox, Cx.wish, L2.start, List.map, List.cons_append, List.nil_append, List.length_cons, List.length_nil, Nat.reduceAdd, Nat.reduceSub, Nat.zero_add, List.replicate_succ, List.replicate_zero]
    rcases o with _ | x
    · walk_at "go"
      refine u_dig hp (by decide) (by decide) fun H1 b1 k1 => ?_
      exact q _ _ _ b1 k1
    walk_at "go"
    refine u_dig hp (by decide) (by decide) fun H1 b1 k1 => ?_
    walk_at "go"
    refine g_ite (fun c => ?_) (fun c => ?_)
    · walk_at "go"
      refine u_dig k1 (by decide) (by decide) fun H2 b2 k2 => ?_
      exact q _ _ _ (b1.trans b2) k2
    walk_at "go"
    refine g_rI0 (i := x) (j := 1) ?_
    walk_at "go"
    refine g_rI0 (i := x) (j := 1) ?_
    walk_at "go"
    refine ⟨by show 4 ≤ sizeLine; decide, fun t nt => ?_⟩
    have ntp : t ≠ p := (ne_of_none k1 nt).symm
    walk_at "nw"
    rename_i H2 s2 k2
    obtain ⟨xs, lx, ex⟩ : ∃ xs : List Int, xs.length = 4 ∧ H2 t = some (.tup (xs.map V.int)) := ⟨[x, x, _, _], rfl, k2⟩
    walk_at "go"
    refine u_dig (s2 _ _ k1) (by decide) (by decide) fun H3 b3 k3 => ?_
    have d0 : 0 ≤ n / 3 % 4 := Int.emod_nonneg _ (by decide)
    have d1 : n / 3 % 4 < 4 := Int.emod_lt_of_pos _ (by decide)
    obtain ⟨v, ev, _⟩ := atI_ints (xs := xs) (i := n / 3 % 4) d0 (by omega)
    walk_at "go"
    refine g_ixT (st (b3 _ _ ntp ex)) ev ?_
    exact q _ _ _ ((b1.trans (But.of s2)).trans b3) k3
def sp_l_considers (C : Addr) (K : PySem.W.Frag) : Sp := fun vs H Q _ => ∃ (a p : Addr) (n : Int) (g : Rl), vs = [.ref a, .ref p] ∧ H p = some (.lst [.int n]) ∧ a ≠ p ∧ RwO H a g ∧ ∀ n' H', But p H H' → H' p = some (.lst [.int n']) → Q (.bl true) H'
theorem ok_l_considers (T : Txt K mg) : FnOk P w K mg base CX0 4 T.f_l_considers T.d_l_considers ["rule", "state"] (sp_l_considers T.C_Rule K) := by
  refine T.F_l_considers.ok sc_l_considers (fun vs H Q E h => ?_) (fun cdv A outer s H vs Q E hr h => ?_)
  · obtain ⟨a, p, n, ⟨ft, am, un, gs, gt, tk, nt, ch⟩, rfl, hp, na, ho, q⟩ := h
    rfl
  · obtain ⟨a, p, n, ⟨ft, am, un, gs, gt, tk, nt, ch⟩, rfl, hp, na, ho, q⟩ := h
    have hu := hu_of hr
    refine ⟨_, (pss_cons (ps_set (i := 2) sc_l_considers.nd rfl (Or.inl rfl) (pe_call (ok_l_rule_of T) (hr.mono (by decide)) rfl T.m_l_rule_of T.F_l_rule_of.kp T.b_l_rule_of .nil pass0 (pa_cons (pv 0) pa_nil)))
        (pss_cons (ps_for PassesOwn.never rfl (pi_range1 (by rfl) T.n_range (pa_cons pe_int pa_nil)) (pg_name (i := 3) sc_l_considers.nd rfl (Or.inl rfl)) (pss_cons (ps_set (i := 4) sc_l_considers.nd rfl (Or.inl rfl) (pe_call (ok_l_near T) (hr.mono (by decide)) rfl T.m_l_near T.F_l_near.kp T.b_l_near .nil pass0 (pa_cons (pv 1) (pa_cons (pe_ix ix_list (pv 0) pe_int (fun _ _ => rfl)) pa_nil))))
        (pss_cons (ps_set (i := 5) sc_l_considers.nd rfl (Or.inl rfl) (pe_call (ok_l_near T) (hr.mono (by decide)) rfl T.m_l_near T.F_l_near.kp T.b_l_near .nil pass0 (pa_cons (pv 1) (pa_cons (pe_ix ix_list (pv 0) pe_int (fun _ _ => rfl)) pa_nil))))
        (pss_cons (ps_set (i := 6) sc_l_considers.nd rfl (Or.inl rfl) (pe_call (ok_l_digit T) (hr.mono (by decide)) rfl T.m_l_digit T.F_l_digit.kp T.b_l_digit .nil pass0 (pa_cons (pv 1) (pa_cons pe_int pa_nil))))
        (C8.pss_cut (ps_if (pt_cmpR op_notN (pe_ix ix_list (pv 0) pe_int (fun _ _ => rfl)) pe_non (nomark _)) (pss_one (ps_set (i := 6) sc_l_considers.nd rfl (Or.inl rfl) (pe_callB (call_max2 rfl) (by rfl) T.n_max (by decide +kernel) (pa_cons pe_int (pa_cons (pe_op op_sub (pe_op op_add (pe_ix ix_tup (pe_ix ix_list (pv 0) pe_int (fun _ _ => rfl)) (pe_call (ok_l_digit T) (hr.mono (by decide)) rfl T.m_l_digit T.F_l_digit.kp T.b_l_digit .nil pass0 (pa_cons (pv 1) (pa_cons pe_int pa_nil))) (fun _ _ => rfl)) (pe_call (ok_l_digit T) (hr.mono (by decide)) rfl T.m_l_digit T.F_l_digit.kp T.b_l_digit .nil pass0 (pa_cons (pv 1) (pa_cons pe_int pa_nil)))) pe_int) pa_nil))))) pss_nil)
        (pss_cons (ps_set (i := 7) sc_l_considers.nd rfl (Or.inl rfl) (pe_cutV (pe_or (pe_cmpR op_isN (pe_ix ix_list (pv 0) pe_int (fun _ _ => rfl)) pe_non (nomark _)) (pe_one (pe_cmpR op_eq (pe_ix ix_list (pv 0) pe_int (fun _ _ => rfl)) (pv 4) (nomark _))))))
        (pss_cons (ps_set (i := 7) sc_l_considers.nd rfl (Or.inl rfl) (pe_cutV (pe_and (pv 7) (pe_one (pe_or (pe_cmpR op_isN (pe_ix ix_list (pv 0) pe_int (fun _ _ => rfl)) pe_non (nomark _)) (pe_one (pe_cmpR op_eq (pe_ix ix_list (pv 0) pe_int (fun _ _ => rfl)) (pv 5) (nomark _))))))))
        (pss_cons (ps_set (i := 7) sc_l_considers.nd rfl (Or.inl rfl) (pe_cutV (pe_and (pv 7) (pe_one (pe_or (pe_cmpR op_isN (pe_ix ix_list (pv 0) pe_int (fun _ _ => rfl)) pe_non (nomark _)) (pe_one (pe_chain op_le op_le (pe_ix ix_tup (pe_ix ix_list (pv 0) pe_int (fun _ _ => rfl)) pe_int (fun _ _ => rfl)) (pv 6) (pe_ix ix_tup (pe_ix ix_list (pv 0) pe_int (fun _ _ => rfl)) pe_int (fun _ _ => rfl)))))))))
        (pss_cons (ps_set (i := 8) sc_l_considers.nd rfl (Or.inl rfl) (pe_meth (pv 2) T.k_Rule T.a_Rule_considers (ok_Rule_considers T) (hr.mono (by decide)) T.b_Rule_considers .nil pass0 (pa_cons (pv 4) (pa_cons (pv 5) (pa_cons (pv 6) pa_nil)))))
        (pss_one (ps_if (PW.pt (pw_or (pt_not (pt_val (pe_callB call_isi (by rfl) T.n_isinstance (by decide +kernel) (pa_cons (pv 8) (pa_cons (pe_bltn (v := .ty "bool") (by rfl) T.n_bool (by decide +kernel) rfl) pa_nil))))) (pw_or1 (pt_cmpR op_ne (pv 8) (pv 7) (nomark _))))) (pss_one (ps_ret pe_bl)) pss_nil)))))))))))
        (pss_one (ps_ret pe_bl)))), ?_⟩
    dsimp only [cxOf, Cx.nox, Cx.wish, L2.start, List.map, List.cons_append, List.nil_append, List.length_cons, List.length_nil, Nat.reduceAdd, Nat.reduceSub, Nat.zero_add, List.replicate_succ, List.replicate_zero]
    walk_at "go"
    refine u_rof ho fun x H1 nx s1 ox => ?_
    have ho1 := ho.same s1
    have kp := s1 _ _ hp
    walk_at "go"
    refine for_r (n := 6) 6 rfl (by decide) (by decide) (fun i σ H' => (∃ v1 v2 v3 v4 v5 v6, σ = [some (.ref a), some (.ref p), some (.ref x), v1, v2, v3, v4, v5, v6]) ∧ But p H1 H' ∧ ∃ n', H' p = some (.lst [.int n'])) ⟨⟨_, _, _, _, _, _, rfl⟩, fun _ _ _ h => h, _, kp⟩ ?turn ?done ?ev
    case turn =>
      rintro i σ H5 hi ⟨⟨v1, v2, v3, v4, v5, v6, rfl⟩, b5, n5, k5⟩
      obtain ⟨tv, h1, h2⟩ := id (ho1.butL na b5 kp)
      walk_at "go"
      refine g_ixL (sl h1) (at_of (j := 3) rfl rfl) ?_
      walk_at "go"
      refine u_near k5 fun se n6 H6 b6 k6 => ?_
      walk_at "go"
      refine g_ixL (sl (b6 _ _ na h1)) (at_of (j := 4) rfl rfl) ?_
      walk_at "go"
      refine u_near k6 fun ta n7 H7 b7 k7 => ?_
      walk_at "go"
      refine u_dig k7 (by decide) (by decide) fun H8 b8 k8 => ?_
      have b18 := ((b5.trans b6).trans b7).trans b8
      have h8 := ho1.butL na b18 kp
      have x8 := ox.butL b18 kp
      clear h1 h2
      obtain ⟨tv, h1, h2⟩ := id h8
      dsimp only at h1 h2
      walk_at "go"
      refine g_cut (fun σ' H' => ∃ (bi : Int) (n' : Int), σ' = [some (.ref a), some (.ref p), some (.ref x), some (.int i), some (.int se), some (.int ta), some (.int bi), v5, v6] ∧ But p H8 H' ∧ H' p = some (.lst [.int n'])) ?_ ?_
      · walk_at "go"
        refine g_ixL (sl h1) (at_of (j := 5) rfl rfl) ?_
        rcases tk with _ | ⟨lo, hi⟩
        · have e : tv = .non := h2
          subst e
          walk_at "go"
          exact ⟨_, _, rfl, fun _ _ _ h => h, k8⟩
        · obtain ⟨tt, rfl, ht⟩ := h2
          have ntp : tt ≠ p := fun z => by rw [z, k8] at ht; cases ht
          walk_at "go"
          refine g_ixL (sl h1) (at_of (j := 5) rfl rfl) ?_
          walk_at "go"
          refine u_dig k8 (by decide) (by decide) fun H9 b9 k9 => ?_
          obtain ⟨v, ev, _⟩ := atI_ints (xs := [lo, hi]) (i := n7 / 100 % 2) (Int.emod_nonneg _ (by decide)) (Int.emod_lt_of_pos _ (by decide))
          walk_at "go"
          refine g_ixT (st (b9 _ _ ntp ht)) ev ?_
          walk_at "go"
          refine u_dig k9 (by decide) (by decide) fun H10 b10 k10 => ?_
          walk_at "go"
          exact ⟨_, _, rfl, b9.trans b10, k10⟩
      rintro σ' H9 ⟨bi, n9, rfl, b9, k9⟩
      have b19 := b18.trans b9
      have h9 := ho1.butL na b19 kp
      have x9 := ox.butL b19 kp
      clear h1 h2
      obtain ⟨tv, h1, h2⟩ := id h9
      dsimp only at h1 h2
      walk_at "go"
      refine g_cutV (.bl (okO gs se)) ?_ ?_
      · walk_at "go"
        refine g_ixL (sl h1) (at_of (j := 3) rfl rfl) ?_
        rcases gs with _ | y
        · walk_at "go"
          exact ⟨rfl, rfl⟩
        · walk_at "go"
          refine g_ixL (sl h1) (at_of (j := 3) rfl rfl) ?_
          walk_at "go"
          refine g_rEqI (i := y) (j := se) ?_
          exact ⟨congrArg V.bl (decide_eq_decide.mpr ⟨Eq.symm, Eq.symm⟩), rfl⟩
      have ea : adm ⟨ft, am, un, gs, gt, tk, nt, ch⟩ se ta bi = (okO gs se && okO gt ta && okR tk bi) := by
        unfold adm
        rw [Bool.and_assoc]
      generalize okO gs se = d1 at ea
      walk_at "go"
      refine g_cutV (.bl (d1 && okO gt ta)) ?_ ?_
      · cases d1
        · walk_at "go"
          exact ⟨rfl, rfl⟩
        walk_at "go"
        refine g_ixL (sl h1) (at_of (j := 4) rfl rfl) ?_
        rcases gt with _ | y
        · walk_at "go"
          exact ⟨rfl, rfl⟩
        · walk_at "go"
          refine g_ixL (sl h1) (at_of (j := 4) rfl rfl) ?_
          walk_at "go"
          refine g_rEqI (i := y) (j := ta) ?_
          exact ⟨congrArg V.bl (decide_eq_decide.mpr ⟨Eq.symm, Eq.symm⟩), rfl⟩
      generalize (d1 && okO gt ta) = d2 at ea
      walk_at "go"
      refine g_cutV (.bl (d2 && okR tk bi)) ?_ ?_
      · cases d2
        · walk_at "go"
          exact ⟨rfl, rfl⟩
        walk_at "go"
        refine g_ixL (sl h1) (at_of (j := 5) rfl rfl) ?_
        rcases tk with _ | ⟨lo, hi⟩
        · have e : tv = .non := h2
          subst e
          walk_at "go"
          exact ⟨rfl, rfl⟩
        · obtain ⟨tt, rfl, ht⟩ := h2
          walk_at "go"
          refine g_ixL (sl h1) (at_of (j := 5) rfl rfl) ?_
          walk_at "go"
          refine g_ixT (st ht) (at_of (j := 0) rfl rfl) ?_
          walk_at "go"
          refine g_ite (fun c => ?_) (fun c => ?_)
          · walk_at "go"
            refine g_ixL (sl h1) (at_of (j := 5) rfl rfl) ?_
            walk_at "go"
            refine g_ixT (st ht) (at_of (j := 1) rfl rfl) ?_
            walk_at "go"
            exact ⟨by show V.bl _ = V.bl (true && (decide (lo ≤ bi) && decide (bi ≤ hi))); rw [decide_eq_true c]; rfl, rfl⟩
          · exact ⟨by show V.bl _ = V.bl (true && (decide (lo ≤ bi) && decide (bi ≤ hi))); rw [decide_eq_false c]; rfl, rfl⟩
      obtain ⟨dx, tv2, hx1, hx2⟩ := id x9
      walk_at "go"
      refine ⟨x, ⟨ft, am, un, gs, gt, tk, nt, ch⟩, se, ta, bi, rfl, x9, ?_⟩
      rw [ea]
      generalize (d2 && okR tk bi) = d3
      walk_at "go"
      refine g_rNe rfl ?_
      rw [decide_eq_true (rfl : V.bl d3 = V.bl d3)]
      walk_at "go"
      exact ⟨⟨_, _, _, _, _, _, rfl⟩, b19, _, k9⟩
    case done =>
      rintro σ H5 ⟨⟨v1, v2, v3, v4, v5, v6, rfl⟩, b5, n5, k5⟩
      walk_at "go"
      exact q _ _ ((But.of s1).trans b5) k5
    case ev =>
      intro R r
      walk_at "go"
      exact r
def sp_law (K : PySem.W.Frag) : Sp := fun vs H Q _ => ∃ (a : Addr) (ns : List Int), vs = [.ref a] ∧ SqL K H a (ns.map V.int) ∧ ns.length ≤ 63 ∧ ∀ H', Q (.bl true) H'

theorem ok_law (T : Txt K mg) : FnOk P w K mg base CX0 7 T.f_law T.d_law ["script"] (sp_law K) := by
  refine T.F_law.ok sc_law (fun vs H Q E h => ?_) (fun cdv A outer s H vs Q E hr h => ?_)
  · obtain ⟨a, ns, rfl, hS, hlen, q⟩ := h
    rfl
  · obtain ⟨a, ns, rfl, hS, hlen, q⟩ := h
    have hu := hu_of hr
    refine ⟨_, (pss_cons (ps_for PassesOwn.never rfl (pi_range1 (by rfl) T.n_range (pa_cons (pe_callB (call_min2 rfl) (by rfl) T.n_min (by decide +kernel) (pa_cons pe_int (pa_cons (pe_callB (call_max2 rfl) (by rfl) T.n_max (by decide +kernel) (pa_cons pe_int (pa_cons (pe_callB call_len_seq (by rfl) T.n_len (by decide +kernel) (pa_cons (pv 0) pa_nil)) pa_nil))) pa_nil))) pa_nil)) (pg_name (i := 1) sc_law.nd rfl (Or.inl rfl)) (pss_cons (ps_set (i := 2) sc_law.nd rfl (Or.inl rfl) (pe_call (ok_l_start T) (hr.mono (by decide)) rfl T.m_l_start T.F_l_start.kp T.b_l_start .nil pass0 (pa_cons (pe_call (ok_l_cell T) (hr.mono (by decide)) rfl T.m_l_cell T.F_l_cell.kp T.b_l_cell .nil pass0 (pa_cons (pv 0) (pa_cons (pv 1) pa_nil))) (pa_cons (pv 1) pa_nil))))
        (pss_cons (ps_set (i := 3) sc_law.nd rfl (Or.inl rfl) (pe_call (ok_l_packet T) (hr.mono (by decide)) rfl T.m_l_packet T.F_l_packet.kp T.b_l_packet .nil pass0 (pa_cons (pv 2) pa_nil)))
        (pss_cons (ps_set (i := 4) sc_law.nd rfl (Or.inl rfl) (pe_call (ok_l_others T) (hr.mono (by decide)) rfl T.m_l_others T.F_l_others.kp T.b_l_others .nil pass0 (pa_cons (pv 3) (pa_cons (pv 2) pa_nil))))
        (pss_cons (ps_set (i := 5) sc_law.nd rfl (Or.inl rfl) (pe_ix ix_list (pv 4) (pe_call (ok_l_digit T) (hr.mono (by decide)) rfl T.m_l_digit T.F_l_digit.kp T.b_l_digit .nil pass0 (pa_cons (pv 2) (pa_cons (pe_callB call_len_seq (by rfl) T.n_len (by decide +kernel) (pa_cons (pv 4) pa_nil)) pa_nil))) (fun _ _ => rfl)))
        (pss_cons (ps_if (PW.pt (pw_or (pt_not (pt_val (pe_call (ok_l_packets T) (hr.mono (by decide)) rfl T.m_l_packets T.F_l_packets.kp T.b_l_packets .nil pass0 (pa_cons (pv 3) (pa_cons (pv 4) pa_nil))))) (pw_or1 (pt_not (pt_val (pe_call (ok_l_records T) (hr.mono (by decide)) rfl T.m_l_records T.F_l_records.kp T.b_l_records .nil pass0 (pa_cons (pv 3) (pa_cons (pv 5) (pa_cons (pv 2) pa_nil))))))))) (pss_one (ps_ret pe_bl)) pss_nil)
        (pss_cons (ps_set (i := 2) sc_law.nd rfl (Or.inl rfl) (pe_call (ok_l_start T) (hr.mono (by decide)) rfl T.m_l_start T.F_l_start.kp T.b_l_start .nil pass0 (pa_cons (pe_call (ok_l_cell T) (hr.mono (by decide)) rfl T.m_l_cell T.F_l_cell.kp T.b_l_cell .nil pass0 (pa_cons (pv 0) (pa_cons (pe_op op_add (pv 1) pe_int) pa_nil))) (pa_cons (pe_op op_add (pv 1) pe_int) pa_nil))))
        (pss_cons (ps_set (i := 6) sc_law.nd rfl (Or.inl rfl) (pe_call (ok_l_rule T) (hr.mono (by decide)) rfl T.m_l_rule T.F_l_rule.kp T.b_l_rule .nil pass0 (pa_cons (pv 2) pa_nil)))
        (pss_one (ps_if (PW.pt (pw_or (pt_not (pt_val (pe_call (ok_l_rules T) (hr.mono (by decide)) rfl T.m_l_rules T.F_l_rules.kp T.b_l_rules .nil pass0 (pa_cons (pv 6) (pa_cons (pv 2) pa_nil))))) (pw_or1 (pt_not (pt_val (pe_call (ok_l_considers T) (hr.mono (by decide)) rfl T.m_l_considers T.F_l_considers.kp T.b_l_considers .nil pass0 (pa_cons (pv 6) (pa_cons (pv 2) pa_nil)))))))) (pss_one (ps_ret pe_bl)) pss_nil))))))))))
        (pss_one (ps_ret pe_bl))), ?_⟩
    dsimp only [cxOf, Cx.nox, Cx.wish, L2.start, List.map, List.cons_append, List.nil_append, List.length_cons, List.length_nil, Nat.reduceAdd, Nat.reduceSub, Nat.zero_add, List.replicate_succ, List.replicate_zero]
    walk_at "go"
    obtain ⟨nn, en⟩ : ∃ nn : Int, nn = (if (if (ns.length : Int) > 2 then (ns.length : Int) else 2) < 8 then (if (ns.length : Int) > 2 then (ns.length : Int) else 2) else 8) := ⟨_, rfl⟩
    have n0 : 0 ≤ nn ∧ nn ≤ 8 := by rw [en]; split <;> split <;> omega
    refine for_r (n := nn) nn.toNat rfl (by omega) (by omega) (fun i σ H' => (∃ v1 v2 v3 v4 v5 v6, σ = [some (.ref a), v1, v2, v3, v4, v5, v6]) ∧ Same H H') ⟨⟨_, _, _, _, _, _, rfl⟩, fun _ _ h => h⟩ ?turn ?done ?ev
    case turn =>
      rintro i σ H1 hi ⟨⟨v1, v2, v3, v4, v5, v6, rfl⟩, s1⟩
      have hS1 := s1.seq hS
      walk_at "go"
      refine u_cell hS1 (by omega) ?_
      walk_at "go"
      refine u_start fun p n np => ?_
      walk_at "nw"
      rename_i H2 s2 k2
      walk_at "go"
      refine ⟨p, n, rfl, k2, fun b l g n3 H3 nap nlp nal b3 r3 ok3 k3 => ?_⟩
      walk_at "go"
      refine ⟨p, b, l, n3, g, rfl, k3, r3, ok3, nap, nlp, fun D us n4 H4 nDp b4 k4 eD hu0 hu5 o4 => ?_⟩
      walk_at "go"
      refine g_len (.inl (sl eD)) ?_
      walk_at "go"
      refine u_dig k4 (by omega) (by omega) fun H5 b5 k5 => ?_
      have d0 : 0 ≤ n4 % (us.length : Int) := Int.emod_nonneg _ (by omega)
      have d1 : n4 % (us.length : Int) < us.length := Int.emod_lt_of_pos _ (by omega)
      obtain ⟨j, ej⟩ : ∃ j : Nat, n4 % (us.length : Int) = j := ⟨(n4 % (us.length : Int)).toNat, by omega⟩
      have hj : j < us.length := by omega
      rw [ej]
      obtain ⟨u, l2, g2, eu, r5, ne, nu, nl2⟩ := (o4.but rfl b5) us[j] (List.getElem_mem hj)
      walk_at "go"
      refine g_ixL (sl (b5 _ _ nDp eD)) (at_of (j := j) rfl (by rw [List.getElem?_eq_getElem hj, eu])) ?_
      have r35 := (r3.but b4 nap nlp).but b5 nap nlp
      walk_at "go"
      refine u_packets r35 (b5 _ _ nDp eD) ((o4.but rfl b5).mono fun _ h => h.elim) fun H6 s6 => ?_
      walk_at "go"
      refine ⟨b, l, u, l2, p, g, g2, _, rfl, r35.same s6, r5.same s6, ne, nap, nlp, nu, nl2, s6 _ _ k5, fun n7 H7 b7 k7 => ?_⟩
      have s17 : Same H1 H7 := ((((But.of s2).trans (b3.trans b4)).trans b5).trans ((But.of s6).trans b7)).same np
      have hS7 := s17.seq hS1
      walk_at "go"
      refine u_cell hS7 (by omega) ?_
      walk_at "go"
      refine u_start fun p2 m np2 => ?_
      walk_at "nw"
      rename_i H8 s8 k8
      walk_at "go"
      refine ⟨p2, m, rfl, k8, fun c h m9 H9 nc ncp b9 o9 ok9 k9 => ?_⟩
      walk_at "go"
      refine ⟨c, p2, m9, h, rfl, k9, ncp, o9, ok9, fun m10 H10 b10 k10 => ?_⟩
      walk_at "go"
      refine ⟨c, p2, m10, h, rfl, k10, ncp, o9.butL ncp b10 k9, fun m11 H11 b11 k11 => ?_⟩
      walk_at "go"
      exact ⟨⟨_, _, _, _, _, _, rfl⟩, (s1.trans s17).trans ((((But.of s8).trans b9).trans (b10.trans b11)).same np2)⟩
    case done =>
      rintro σ H1 ⟨⟨v1, v2, v3, v4, v5, v6, rfl⟩, s1⟩
      walk_at "go"
      exact q _
    case ev =>
      intro R r
      walk_at "go"
      refine g_len (.inl hS) ?_
      walk_at "go"
      rw [List.length_map, ← en]
      exact r
end
end My
namespace My
open PySem PySem.Spec L2
local macro_rules | `(tactic| walk_at "side") => `(tactic| first | assumption | decide | omega | exact ⟨by decide, by decide⟩ | exact ⟨by decide, by decide, by decide⟩ | decide +kernel | exact cdivW (by decide +kernel) (by decide +kernel) | exact Or.inl ⟨by omega, by omega⟩ | exact Or.inr ⟨by omega, by omega⟩ | (simp only [List.length_map, List.length_cons, List.length_nil, List.length_append]; omega))
local macro_rules | `(tactic| walk_at "fact") => `(tactic| first | assumption | omega | with_reducible rfl)
local macro_rules | `(tactic| walk_at "use") => `(tactic| fail "use")
local macro_rules | `(tactic| walk_at "go1") => `(tactic| with_reducible first | refine g_seq ?_ | refine g_asg ?_ | refine g_ret ?_ | refine g_ifS ?_ | refine g_drop ?_ | refine g_star ?_ | refine g_nx ?_ | refine g_rt ?_ | refine g_bkE ?_ | refine g_ctE ?_ | refine g_next ?_ | refine g_retN ?_ | refine g_brk ?_ | refine g_ct ?_ | refine g_c ?_ | refine g_op ?_ | refine g_un ?_ | refine g_rI0 ?_ | refine g_rU ?_ | refine g_rEqI ?_ | refine g_rNeI ?_ | refine g_isN ?_ | refine g_rIsB ?_ | refine g_rNotB ?_ | refine g_test ?_ | refine g_B ?_ | refine g_bl ?_ | refine g_and ?_ | refine g_or ?_ | refine g_not ?_ | refine g_andV ?_ | refine g_orV ?_ | refine g_notV ?_ | refine g_if ?_ | refine g_chain ?_ | refine g_yes ?_ | refine g_lc ?_ | refine g_revR ?_ | refine g_rng1 ?_ | refine g_iList ?_ | refine g_nil ?_ | refine g_cons ?_ | refine g_tup ?_ | refine g_lst ?_ | refine g_call ?_ | refine g_CB ?_ | refine g_sl ?_ | refine g_noPart ?_ | refine g_part ?_ | refine g_intE ?_ | refine g_ref ?_ | refine g_fld ?_ | refine g_sfld ?_ | refine g_meth ?_ | refine g_make ?_ | refine g_prop ?_  | refine g_ipI ?_ | refine g_int1 ?_ | refine g_int1B ?_ | refine g_one ?_ | refine g_two ?_ | refine g_isiI ?_ | refine g_isiIB ?_ | refine g_isiB ?_ | refine g_BM ?_ | refine g_BM0 ?_ | refine g_sub ?_)
local macro_rules | `(tactic| walk_at "go") => `(tactic| repeat (first | walk_at "go1" | ((with_reducible refine' g_nameE ?sd_ ?_); case sd_ => dsimp only [List.set_cons_succ, List.set_cons_zero]) | ((with_reducible refine' g_var ?sd_ ?_); case sd_ => exact rfl) | ((with_reducible refine' g_aug ?sd_ ?_); case sd_ => exact rfl) | ((with_reducible refine' g_rI ?sd_ ?_); case sd_ => walk_at "side") | ((with_reducible refine' g_dT ?sd_ ?_); case sd_ => walk_at "fact") | ((with_reducible refine' g_dF ?sd_ ?_); case sd_ => walk_at "fact") | ((with_reducible refine' g_nT ?sd_ ?_); case sd_ => walk_at "fact") | ((with_reducible refine' g_nF ?sd_ ?_); case sd_ => walk_at "fact") | (with_reducible refine g_iT rfl ?_) | (with_reducible refine g_iF rfl ?_) | walk_at "use"))
local macro_rules | `(tactic| walk_at "nw") => `(tactic| (generalize zq : upd _ _ _ = Hq; have sq : Same _ Hq := (by rw [← zq]; exact same_upd (by assumption)); have kq := (congrFun zq _).symm.trans upd_same; clear zq))
local macro_rules | `(tactic| walk_at "bt") => `(tactic| (generalize zq : upd _ _ _ = Hq; have bq : But _ _ Hq := (by rw [← zq]; exact But.refl.upd); have kq := (congrFun zq _).symm.trans upd_same; clear zq))
theorem all_mk {l : PySem.W.OpenLaw} {w : World} {K : PySem.W.Frag} {h : Heap} {mg : Str → Option Value} {fa : Addr} (X : K.In h) (G : h.Ns mainGlobals mg) (hfa : mg "law" = some (.ref fa))
    {C_Rule : Addr} {C_Packet : Addr} {C_Flight : Addr} {C_Record : Addr} {f_Rule_init__ : Addr} {od_Rule_init__ an_Rule_init__ : Option Addr} {sl_Rule_init__ : Array (Option Value)} {oc_Rule_init__ dc_Rule_init__ pm_Rule_init__ cd_Rule_init__ ct_Rule_init__ : Value} {kd_Rule_init__ : Addr} {tk_Rule_init___amount : Tok} {tk_Rule_init___until : Tok} {f_Rule_considers : Addr} {od_Rule_considers an_Rule_considers : Option Addr} {sl_Rule_considers : Array (Option Value)} {oc_Rule_considers kV_Rule_considers dc_Rule_considers pm_Rule_considers cd_Rule_considers ct_Rule_considers : Value} {f_Rule_eq__ : Addr} {od_Rule_eq__ an_Rule_eq__ : Option Addr} {sl_Rule_eq__ : Array (Option Value)} {oc_Rule_eq__ kV_Rule_eq__ dc_Rule_eq__ pm_Rule_eq__ cd_Rule_eq__ ct_Rule_eq__ : Value} {f_Rule_fields : Addr} {od_Rule_fields an_Rule_fields : Option Addr} {sl_Rule_fields : Array (Option Value)} {oc_Rule_fields kV_Rule_fields dc_Rule_fields pm_Rule_fields cd_Rule_fields ct_Rule_fields : Value} {f_Packet_init__ : Addr} {od_Packet_init__ an_Packet_init__ : Option Addr} {sl_Packet_init__ : Array (Option Value)} {oc_Packet_init__ dc_Packet_init__ pm_Packet_init__ cd_Packet_init__ ct_Packet_init__ : Value} {kd_Packet_init__ : Addr} {f_Packet_fork : Addr} {od_Packet_fork an_Packet_fork : Option Addr} {sl_Packet_fork : Array (Option Value)} {oc_Packet_fork kV_Packet_fork dc_Packet_fork pm_Packet_fork cd_Packet_fork ct_Packet_fork : Value} {f_Packet_eq__ : Addr} {od_Packet_eq__ an_Packet_eq__ : Option Addr} {sl_Packet_eq__ : Array (Option Value)} {oc_Packet_eq__ kV_Packet_eq__ dc_Packet_eq__ pm_Packet_eq__ cd_Packet_eq__ ct_Packet_eq__ : Value} {f_Packet_fields : Addr} {od_Packet_fields an_Packet_fields : Option Addr} {sl_Packet_fields : Array (Option Value)} {oc_Packet_fields kV_Packet_fields dc_Packet_fields pm_Packet_fields cd_Packet_fields ct_Packet_fields : Value} {f_Flight_init__ : Addr} {od_Flight_init__ an_Flight_init__ : Option Addr} {sl_Flight_init__ : Array (Option Value)} {oc_Flight_init__ kV_Flight_init__ dc_Flight_init__ pm_Flight_init__ cd_Flight_init__ ct_Flight_init__ : Value} {f_Flight_eq__ : Addr} {od_Flight_eq__ an_Flight_eq__ : Option Addr} {sl_Flight_eq__ : Array (Option Value)} {oc_Flight_eq__ kV_Flight_eq__ dc_Flight_eq__ pm_Flight_eq__ cd_Flight_eq__ ct_Flight_eq__ : Value} {f_Record_init__ : Addr} {od_Record_init__ an_Record_init__ : Option Addr} {sl_Record_init__ : Array (Option Value)} {oc_Record_init__ kV_Record_init__ dc_Record_init__ pm_Record_init__ cd_Record_init__ ct_Record_init__ : Value} {f_Record_eq__ : Addr} {od_Record_eq__ an_Record_eq__ : Option Addr} {sl_Record_eq__ : Array (Option Value)} {oc_Record_eq__ kV_Record_eq__ dc_Record_eq__ pm_Record_eq__ cd_Record_eq__ ct_Record_eq__ : Value} {f_l_cell : Addr} {od_l_cell an_l_cell : Option Addr} {sl_l_cell : Array (Option Value)} {oc_l_cell kV_l_cell dc_l_cell pm_l_cell cd_l_cell ct_l_cell : Value} {f_l_start : Addr} {od_l_start an_l_start : Option Addr} {sl_l_start : Array (Option Value)} {oc_l_start kV_l_start dc_l_start pm_l_start cd_l_start ct_l_start : Value} {f_l_digit : Addr} {od_l_digit an_l_digit : Option Addr} {sl_l_digit : Array (Option Value)} {oc_l_digit kV_l_digit dc_l_digit pm_l_digit cd_l_digit ct_l_digit : Value} {f_l_packet : Addr} {od_l_packet an_l_packet : Option Addr} {sl_l_packet : Array (Option Value)} {oc_l_packet kV_l_packet dc_l_packet pm_l_packet cd_l_packet ct_l_packet : Value} {f_l_made : Addr} {od_l_made an_l_made : Option Addr} {sl_l_made : Array (Option Value)} {oc_l_made kV_l_made dc_l_made pm_l_made cd_l_made ct_l_made : Value} {f_l_others : Addr} {od_l_others an_l_others : Option Addr} {sl_l_others : Array (Option Value)} {oc_l_others kV_l_others dc_l_others pm_l_others cd_l_others ct_l_others : Value} {f_l_packets : Addr} {od_l_packets an_l_packets : Option Addr} {sl_l_packets : Array (Option Value)} {oc_l_packets kV_l_packets dc_l_packets pm_l_packets cd_l_packets ct_l_packets : Value} {f_l_records : Addr} {od_l_records an_l_records : Option Addr} {sl_l_records : Array (Option Value)} {oc_l_records kV_l_records dc_l_records pm_l_records cd_l_records ct_l_records : Value} {f_l_rule : Addr} {od_l_rule an_l_rule : Option Addr} {sl_l_rule : Array (Option Value)} {oc_l_rule kV_l_rule dc_l_rule pm_l_rule cd_l_rule ct_l_rule : Value} {f_l_rule_of : Addr} {od_l_rule_of an_l_rule_of : Option Addr} {sl_l_rule_of : Array (Option Value)} {oc_l_rule_of kV_l_rule_of dc_l_rule_of pm_l_rule_of cd_l_rule_of ct_l_rule_of : Value} {f_l_other_rule : Addr} {od_l_other_rule an_l_other_rule : Option Addr} {sl_l_other_rule : Array (Option Value)} {oc_l_other_rule kV_l_other_rule dc_l_other_rule pm_l_other_rule cd_l_other_rule ct_l_other_rule : Value} {f_l_rules : Addr} {od_l_rules an_l_rules : Option Addr} {sl_l_rules : Array (Option Value)} {oc_l_rules kV_l_rules dc_l_rules pm_l_rules cd_l_rules ct_l_rules : Value} {f_l_near : Addr} {od_l_near an_l_near : Option Addr} {sl_l_near : Array (Option Value)} {oc_l_near kV_l_near dc_l_near pm_l_near cd_l_near ct_l_near : Value} {f_l_considers : Addr} {od_l_considers an_l_considers : Option Addr} {sl_l_considers : Array (Option Value)} {oc_l_considers kV_l_considers dc_l_considers pm_l_considers cd_l_considers ct_l_considers : Value} {f_law : Addr} {od_law an_law : Option Addr} {sl_law : Array (Option Value)} {oc_law kV_law dc_law pm_law cd_law ct_law : Value}
    (c_Rule : PySem.W.nsIn K mainGlobals "Rule" = some (some (.ref C_Rule)))
    (pg_Rule : PySem.W.plainGet K C_Rule Str.empty = true)
    (hd_Rule : PySem.W.hasDictIn K C_Rule = true)
    (po_Rule : PySem.W.plainOver K C_Rule = true)
    (sa_Rule : PySem.W.findIn K (.ref C_Rule) "__setattr__" = some (some (.builtin "object.__setattr__")))
    (mk0_Rule : PySem.W.makesIn K C_Rule = true)
    (kc_Rule : PySem.W.keepIn K (.ref C_Rule) = true)
    (ha_Rule : PySem.W.findIn K (.ref C_Rule) "__class__" = some (some (.builtin "object.__class__")))
    (hm_Rule : PySem.W.mroIn K C_Rule (.type "object") = some true)
    (hn_all : PySem.W.specialIn K (.builtin "object.__class__") "__get__" = some (some (.builtin "getset_descriptor.__get__")))
    (ht_all : PySem.W.takesIn K (.builtin "object.__class__") = some true)
    (q_Rule : PySem.W.subIn K (.type "int") (.ref C_Rule) = some false)
    (ic_Rule : PySem.W.isClsIn K C_Rule = true)
    (tc_Rule : PySem.W.typeIn K (.ref C_Rule) = some (.type "type"))
    (n_Rule_fault : PySem.W.findIn K (.ref C_Rule) "fault" = some none)
    (n_Rule_amount : PySem.W.findIn K (.ref C_Rule) "amount" = some none)
    (n_Rule_until : PySem.W.findIn K (.ref C_Rule) "until" = some none)
    (n_Rule_sender : PySem.W.findIn K (.ref C_Rule) "sender" = some none)
    (n_Rule_target : PySem.W.findIn K (.ref C_Rule) "target" = some none)
    (n_Rule_ticks : PySem.W.findIn K (.ref C_Rule) "ticks" = some none)
    (n_Rule_nth : PySem.W.findIn K (.ref C_Rule) "nth" = some none)
    (n_Rule_chance : PySem.W.findIn K (.ref C_Rule) "chance" = some none)
    (c_Packet : PySem.W.nsIn K mainGlobals "Packet" = some (some (.ref C_Packet)))
    (pg_Packet : PySem.W.plainGet K C_Packet Str.empty = true)
    (hd_Packet : PySem.W.hasDictIn K C_Packet = true)
    (po_Packet : PySem.W.plainOver K C_Packet = true)
    (sa_Packet : PySem.W.findIn K (.ref C_Packet) "__setattr__" = some (some (.builtin "object.__setattr__")))
    (mk0_Packet : PySem.W.makesIn K C_Packet = true)
    (kc_Packet : PySem.W.keepIn K (.ref C_Packet) = true)
    (ha_Packet : PySem.W.findIn K (.ref C_Packet) "__class__" = some (some (.builtin "object.__class__")))
    (hm_Packet : PySem.W.mroIn K C_Packet (.type "object") = some true)
    (q_Packet : PySem.W.subIn K (.type "int") (.ref C_Packet) = some false)
    (ic_Packet : PySem.W.isClsIn K C_Packet = true)
    (tc_Packet : PySem.W.typeIn K (.ref C_Packet) = some (.type "type"))
    (n_Packet_sender : PySem.W.findIn K (.ref C_Packet) "sender" = some none)
    (n_Packet_target : PySem.W.findIn K (.ref C_Packet) "target" = some none)
    (n_Packet_octets : PySem.W.findIn K (.ref C_Packet) "octets" = some none)
    (n_Packet_marked : PySem.W.findIn K (.ref C_Packet) "marked" = some none)
    (c_Flight : PySem.W.nsIn K mainGlobals "Flight" = some (some (.ref C_Flight)))
    (pg_Flight : PySem.W.plainGet K C_Flight Str.empty = true)
    (hd_Flight : PySem.W.hasDictIn K C_Flight = true)
    (po_Flight : PySem.W.plainOver K C_Flight = true)
    (sa_Flight : PySem.W.findIn K (.ref C_Flight) "__setattr__" = some (some (.builtin "object.__setattr__")))
    (mk0_Flight : PySem.W.makesIn K C_Flight = true)
    (kc_Flight : PySem.W.keepIn K (.ref C_Flight) = true)
    (ha_Flight : PySem.W.findIn K (.ref C_Flight) "__class__" = some (some (.builtin "object.__class__")))
    (hm_Flight : PySem.W.mroIn K C_Flight (.type "object") = some true)
    (q_Flight : PySem.W.subIn K (.type "int") (.ref C_Flight) = some false)
    (ic_Flight : PySem.W.isClsIn K C_Flight = true)
    (tc_Flight : PySem.W.typeIn K (.ref C_Flight) = some (.type "type"))
    (n_Flight_number : PySem.W.findIn K (.ref C_Flight) "number" = some none)
    (n_Flight_birth : PySem.W.findIn K (.ref C_Flight) "birth" = some none)
    (n_Flight_packet : PySem.W.findIn K (.ref C_Flight) "packet" = some none)
    (c_Record : PySem.W.nsIn K mainGlobals "Record" = some (some (.ref C_Record)))
    (pg_Record : PySem.W.plainGet K C_Record Str.empty = true)
    (hd_Record : PySem.W.hasDictIn K C_Record = true)
    (po_Record : PySem.W.plainOver K C_Record = true)
    (sa_Record : PySem.W.findIn K (.ref C_Record) "__setattr__" = some (some (.builtin "object.__setattr__")))
    (mk0_Record : PySem.W.makesIn K C_Record = true)
    (kc_Record : PySem.W.keepIn K (.ref C_Record) = true)
    (ha_Record : PySem.W.findIn K (.ref C_Record) "__class__" = some (some (.builtin "object.__class__")))
    (hm_Record : PySem.W.mroIn K C_Record (.type "object") = some true)
    (q_Record : PySem.W.subIn K (.type "int") (.ref C_Record) = some false)
    (ic_Record : PySem.W.isClsIn K C_Record = true)
    (tc_Record : PySem.W.typeIn K (.ref C_Record) = some (.type "type"))
    (n_Record_tick : PySem.W.findIn K (.ref C_Record) "tick" = some none)
    (n_Record_number : PySem.W.findIn K (.ref C_Record) "number" = some none)
    (n_Record_word : PySem.W.findIn K (.ref C_Record) "word" = some none)
    (n_Record_packet : PySem.W.findIn K (.ref C_Record) "packet" = some none)
    (a_Rule_init__ : PySem.W.findIn K (.ref C_Rule) "__init__" = some (some (.ref f_Rule_init__)))
    (i_Rule_init__ : PySem.W.isFn K (.ref f_Rule_init__) = true)
    (l_Rule_init__ : K.lookup f_Rule_init__ = some ⟨oc_Rule_init__, od_Rule_init__, .func (PySem.W.fnOf "__init__" "Rule.__init__" (defArgs s_Rule_init__) (defBody s_Rule_init__) (defScope s_Rule_init__) .none (.ref kd_Rule_init__) dc_Rule_init__ pm_Rule_init__ an_Rule_init__ cd_Rule_init__ ct_Rule_init__), sl_Rule_init__⟩)
    (kw_Rule_init___amount : PySem.W.nsIn K kd_Rule_init__ "amount" = some (some (.int 0 tk_Rule_init___amount)))
    (kw_Rule_init___until : PySem.W.nsIn K kd_Rule_init__ "until" = some (some (.int 0 tk_Rule_init___until)))
    (kw_Rule_init___sender : PySem.W.nsIn K kd_Rule_init__ "sender" = some (some .none))
    (kw_Rule_init___target : PySem.W.nsIn K kd_Rule_init__ "target" = some (some .none))
    (kw_Rule_init___ticks : PySem.W.nsIn K kd_Rule_init__ "ticks" = some (some .none))
    (kw_Rule_init___nth : PySem.W.nsIn K kd_Rule_init__ "nth" = some (some .none))
    (kw_Rule_init___chance : PySem.W.nsIn K kd_Rule_init__ "chance" = some (some .none))
    (cc_Rule_init__ : PySem.W.codeIn K cd_Rule_init__ "Rule.__init__" = true)
    (kk_Rule_init__ : PySem.W.keepIn K (.ref f_Rule_init__) = true)
    (a_Rule_considers : PySem.W.findIn K (.ref C_Rule) "considers" = some (some (.ref f_Rule_considers)))
    (i_Rule_considers : PySem.W.isFn K (.ref f_Rule_considers) = true)
    (l_Rule_considers : K.lookup f_Rule_considers = some ⟨oc_Rule_considers, od_Rule_considers, .func (PySem.W.fnOf "considers" "Rule.considers" (defArgs s_Rule_considers) (defBody s_Rule_considers) (defScope s_Rule_considers) .none kV_Rule_considers dc_Rule_considers pm_Rule_considers an_Rule_considers cd_Rule_considers ct_Rule_considers), sl_Rule_considers⟩)
    (cc_Rule_considers : PySem.W.codeIn K cd_Rule_considers "Rule.considers" = true)
    (kk_Rule_considers : PySem.W.keepIn K (.ref f_Rule_considers) = true)
    (a_Rule_eq__ : PySem.W.findIn K (.ref C_Rule) "__eq__" = some (some (.ref f_Rule_eq__)))
    (i_Rule_eq__ : PySem.W.isFn K (.ref f_Rule_eq__) = true)
    (l_Rule_eq__ : K.lookup f_Rule_eq__ = some ⟨oc_Rule_eq__, od_Rule_eq__, .func (PySem.W.fnOf "__eq__" "Rule.__eq__" (defArgs s_Rule_eq__) (defBody s_Rule_eq__) (defScope s_Rule_eq__) .none kV_Rule_eq__ dc_Rule_eq__ pm_Rule_eq__ an_Rule_eq__ cd_Rule_eq__ ct_Rule_eq__), sl_Rule_eq__⟩)
    (cc_Rule_eq__ : PySem.W.codeIn K cd_Rule_eq__ "Rule.__eq__" = true)
    (kk_Rule_eq__ : PySem.W.keepIn K (.ref f_Rule_eq__) = true)
    (a_Rule_fields : PySem.W.findIn K (.ref C_Rule) "_fields" = some (some (.ref f_Rule_fields)))
    (i_Rule_fields : PySem.W.isFn K (.ref f_Rule_fields) = true)
    (l_Rule_fields : K.lookup f_Rule_fields = some ⟨oc_Rule_fields, od_Rule_fields, .func (PySem.W.fnOf "_fields" "Rule._fields" (defArgs s_Rule_fields) (defBody s_Rule_fields) (defScope s_Rule_fields) .none kV_Rule_fields dc_Rule_fields pm_Rule_fields an_Rule_fields cd_Rule_fields ct_Rule_fields), sl_Rule_fields⟩)
    (cc_Rule_fields : PySem.W.codeIn K cd_Rule_fields "Rule._fields" = true)
    (kk_Rule_fields : PySem.W.keepIn K (.ref f_Rule_fields) = true)
    (a_Packet_init__ : PySem.W.findIn K (.ref C_Packet) "__init__" = some (some (.ref f_Packet_init__)))
    (i_Packet_init__ : PySem.W.isFn K (.ref f_Packet_init__) = true)
    (l_Packet_init__ : K.lookup f_Packet_init__ = some ⟨oc_Packet_init__, od_Packet_init__, .func (PySem.W.fnOf "__init__" "Packet.__init__" (defArgs s_Packet_init__) (defBody s_Packet_init__) (defScope s_Packet_init__) .none (.ref kd_Packet_init__) dc_Packet_init__ pm_Packet_init__ an_Packet_init__ cd_Packet_init__ ct_Packet_init__), sl_Packet_init__⟩)
    (kw_Packet_init___marked : PySem.W.nsIn K kd_Packet_init__ "marked" = some (some (.bool false)))
    (cc_Packet_init__ : PySem.W.codeIn K cd_Packet_init__ "Packet.__init__" = true)
    (kk_Packet_init__ : PySem.W.keepIn K (.ref f_Packet_init__) = true)
    (a_Packet_fork : PySem.W.findIn K (.ref C_Packet) "fork" = some (some (.ref f_Packet_fork)))
    (i_Packet_fork : PySem.W.isFn K (.ref f_Packet_fork) = true)
    (l_Packet_fork : K.lookup f_Packet_fork = some ⟨oc_Packet_fork, od_Packet_fork, .func (PySem.W.fnOf "fork" "Packet.fork" (defArgs s_Packet_fork) (defBody s_Packet_fork) (defScope s_Packet_fork) .none kV_Packet_fork dc_Packet_fork pm_Packet_fork an_Packet_fork cd_Packet_fork ct_Packet_fork), sl_Packet_fork⟩)
    (cc_Packet_fork : PySem.W.codeIn K cd_Packet_fork "Packet.fork" = true)
    (kk_Packet_fork : PySem.W.keepIn K (.ref f_Packet_fork) = true)
    (a_Packet_eq__ : PySem.W.findIn K (.ref C_Packet) "__eq__" = some (some (.ref f_Packet_eq__)))
    (i_Packet_eq__ : PySem.W.isFn K (.ref f_Packet_eq__) = true)
    (l_Packet_eq__ : K.lookup f_Packet_eq__ = some ⟨oc_Packet_eq__, od_Packet_eq__, .func (PySem.W.fnOf "__eq__" "Packet.__eq__" (defArgs s_Packet_eq__) (defBody s_Packet_eq__) (defScope s_Packet_eq__) .none kV_Packet_eq__ dc_Packet_eq__ pm_Packet_eq__ an_Packet_eq__ cd_Packet_eq__ ct_Packet_eq__), sl_Packet_eq__⟩)
    (cc_Packet_eq__ : PySem.W.codeIn K cd_Packet_eq__ "Packet.__eq__" = true)
    (kk_Packet_eq__ : PySem.W.keepIn K (.ref f_Packet_eq__) = true)
    (a_Packet_fields : PySem.W.findIn K (.ref C_Packet) "_fields" = some (some (.ref f_Packet_fields)))
    (i_Packet_fields : PySem.W.isFn K (.ref f_Packet_fields) = true)
    (l_Packet_fields : K.lookup f_Packet_fields = some ⟨oc_Packet_fields, od_Packet_fields, .func (PySem.W.fnOf "_fields" "Packet._fields" (defArgs s_Packet_fields) (defBody s_Packet_fields) (defScope s_Packet_fields) .none kV_Packet_fields dc_Packet_fields pm_Packet_fields an_Packet_fields cd_Packet_fields ct_Packet_fields), sl_Packet_fields⟩)
    (cc_Packet_fields : PySem.W.codeIn K cd_Packet_fields "Packet._fields" = true)
    (kk_Packet_fields : PySem.W.keepIn K (.ref f_Packet_fields) = true)
    (a_Flight_init__ : PySem.W.findIn K (.ref C_Flight) "__init__" = some (some (.ref f_Flight_init__)))
    (i_Flight_init__ : PySem.W.isFn K (.ref f_Flight_init__) = true)
    (l_Flight_init__ : K.lookup f_Flight_init__ = some ⟨oc_Flight_init__, od_Flight_init__, .func (PySem.W.fnOf "__init__" "Flight.__init__" (defArgs s_Flight_init__) (defBody s_Flight_init__) (defScope s_Flight_init__) .none kV_Flight_init__ dc_Flight_init__ pm_Flight_init__ an_Flight_init__ cd_Flight_init__ ct_Flight_init__), sl_Flight_init__⟩)
    (cc_Flight_init__ : PySem.W.codeIn K cd_Flight_init__ "Flight.__init__" = true)
    (kk_Flight_init__ : PySem.W.keepIn K (.ref f_Flight_init__) = true)
    (a_Flight_eq__ : PySem.W.findIn K (.ref C_Flight) "__eq__" = some (some (.ref f_Flight_eq__)))
    (i_Flight_eq__ : PySem.W.isFn K (.ref f_Flight_eq__) = true)
    (l_Flight_eq__ : K.lookup f_Flight_eq__ = some ⟨oc_Flight_eq__, od_Flight_eq__, .func (PySem.W.fnOf "__eq__" "Flight.__eq__" (defArgs s_Flight_eq__) (defBody s_Flight_eq__) (defScope s_Flight_eq__) .none kV_Flight_eq__ dc_Flight_eq__ pm_Flight_eq__ an_Flight_eq__ cd_Flight_eq__ ct_Flight_eq__), sl_Flight_eq__⟩)
    (cc_Flight_eq__ : PySem.W.codeIn K cd_Flight_eq__ "Flight.__eq__" = true)
    (kk_Flight_eq__ : PySem.W.keepIn K (.ref f_Flight_eq__) = true)
    (a_Record_init__ : PySem.W.findIn K (.ref C_Record) "__init__" = some (some (.ref f_Record_init__)))
    (i_Record_init__ : PySem.W.isFn K (.ref f_Record_init__) = true)
    (l_Record_init__ : K.lookup f_Record_init__ = some ⟨oc_Record_init__, od_Record_init__, .func (PySem.W.fnOf "__init__" "Record.__init__" (defArgs s_Record_init__) (defBody s_Record_init__) (defScope s_Record_init__) .none kV_Record_init__ dc_Record_init__ pm_Record_init__ an_Record_init__ cd_Record_init__ ct_Record_init__), sl_Record_init__⟩)
    (cc_Record_init__ : PySem.W.codeIn K cd_Record_init__ "Record.__init__" = true)
    (kk_Record_init__ : PySem.W.keepIn K (.ref f_Record_init__) = true)
    (a_Record_eq__ : PySem.W.findIn K (.ref C_Record) "__eq__" = some (some (.ref f_Record_eq__)))
    (i_Record_eq__ : PySem.W.isFn K (.ref f_Record_eq__) = true)
    (l_Record_eq__ : K.lookup f_Record_eq__ = some ⟨oc_Record_eq__, od_Record_eq__, .func (PySem.W.fnOf "__eq__" "Record.__eq__" (defArgs s_Record_eq__) (defBody s_Record_eq__) (defScope s_Record_eq__) .none kV_Record_eq__ dc_Record_eq__ pm_Record_eq__ an_Record_eq__ cd_Record_eq__ ct_Record_eq__), sl_Record_eq__⟩)
    (cc_Record_eq__ : PySem.W.codeIn K cd_Record_eq__ "Record.__eq__" = true)
    (kk_Record_eq__ : PySem.W.keepIn K (.ref f_Record_eq__) = true)
    (a_l_cell : PySem.W.nsIn K mainGlobals "_law_cell" = some (some (.ref f_l_cell)))
    (l_l_cell : K.lookup f_l_cell = some ⟨oc_l_cell, od_l_cell, .func (PySem.W.fnOf "_law_cell" "_law_cell" (defArgs s_l_cell) (defBody s_l_cell) (defScope s_l_cell) .none kV_l_cell dc_l_cell pm_l_cell an_l_cell cd_l_cell ct_l_cell), sl_l_cell⟩)
    (cc_l_cell : PySem.W.codeIn K cd_l_cell "_law_cell" = true)
    (kk_l_cell : PySem.W.keepIn K (.ref f_l_cell) = true)
    (a_l_start : PySem.W.nsIn K mainGlobals "_law_start" = some (some (.ref f_l_start)))
    (l_l_start : K.lookup f_l_start = some ⟨oc_l_start, od_l_start, .func (PySem.W.fnOf "_law_start" "_law_start" (defArgs s_l_start) (defBody s_l_start) (defScope s_l_start) .none kV_l_start dc_l_start pm_l_start an_l_start cd_l_start ct_l_start), sl_l_start⟩)
    (cc_l_start : PySem.W.codeIn K cd_l_start "_law_start" = true)
    (kk_l_start : PySem.W.keepIn K (.ref f_l_start) = true)
    (a_l_digit : PySem.W.nsIn K mainGlobals "_law_digit" = some (some (.ref f_l_digit)))
    (l_l_digit : K.lookup f_l_digit = some ⟨oc_l_digit, od_l_digit, .func (PySem.W.fnOf "_law_digit" "_law_digit" (defArgs s_l_digit) (defBody s_l_digit) (defScope s_l_digit) .none kV_l_digit dc_l_digit pm_l_digit an_l_digit cd_l_digit ct_l_digit), sl_l_digit⟩)
    (cc_l_digit : PySem.W.codeIn K cd_l_digit "_law_digit" = true)
    (kk_l_digit : PySem.W.keepIn K (.ref f_l_digit) = true)
    (a_l_packet : PySem.W.nsIn K mainGlobals "_law_packet" = some (some (.ref f_l_packet)))
    (l_l_packet : K.lookup f_l_packet = some ⟨oc_l_packet, od_l_packet, .func (PySem.W.fnOf "_law_packet" "_law_packet" (defArgs s_l_packet) (defBody s_l_packet) (defScope s_l_packet) .none kV_l_packet dc_l_packet pm_l_packet an_l_packet cd_l_packet ct_l_packet), sl_l_packet⟩)
    (cc_l_packet : PySem.W.codeIn K cd_l_packet "_law_packet" = true)
    (kk_l_packet : PySem.W.keepIn K (.ref f_l_packet) = true)
    (a_l_made : PySem.W.nsIn K mainGlobals "_law_made" = some (some (.ref f_l_made)))
    (l_l_made : K.lookup f_l_made = some ⟨oc_l_made, od_l_made, .func (PySem.W.fnOf "_law_made" "_law_made" (defArgs s_l_made) (defBody s_l_made) (defScope s_l_made) .none kV_l_made dc_l_made pm_l_made an_l_made cd_l_made ct_l_made), sl_l_made⟩)
    (cc_l_made : PySem.W.codeIn K cd_l_made "_law_made" = true)
    (kk_l_made : PySem.W.keepIn K (.ref f_l_made) = true)
    (a_l_others : PySem.W.nsIn K mainGlobals "_law_others" = some (some (.ref f_l_others)))
    (l_l_others : K.lookup f_l_others = some ⟨oc_l_others, od_l_others, .func (PySem.W.fnOf "_law_others" "_law_others" (defArgs s_l_others) (defBody s_l_others) (defScope s_l_others) .none kV_l_others dc_l_others pm_l_others an_l_others cd_l_others ct_l_others), sl_l_others⟩)
    (cc_l_others : PySem.W.codeIn K cd_l_others "_law_others" = true)
    (kk_l_others : PySem.W.keepIn K (.ref f_l_others) = true)
    (a_l_packets : PySem.W.nsIn K mainGlobals "_law_packets" = some (some (.ref f_l_packets)))
    (l_l_packets : K.lookup f_l_packets = some ⟨oc_l_packets, od_l_packets, .func (PySem.W.fnOf "_law_packets" "_law_packets" (defArgs s_l_packets) (defBody s_l_packets) (defScope s_l_packets) .none kV_l_packets dc_l_packets pm_l_packets an_l_packets cd_l_packets ct_l_packets), sl_l_packets⟩)
    (cc_l_packets : PySem.W.codeIn K cd_l_packets "_law_packets" = true)
    (kk_l_packets : PySem.W.keepIn K (.ref f_l_packets) = true)
    (a_l_records : PySem.W.nsIn K mainGlobals "_law_records" = some (some (.ref f_l_records)))
    (l_l_records : K.lookup f_l_records = some ⟨oc_l_records, od_l_records, .func (PySem.W.fnOf "_law_records" "_law_records" (defArgs s_l_records) (defBody s_l_records) (defScope s_l_records) .none kV_l_records dc_l_records pm_l_records an_l_records cd_l_records ct_l_records), sl_l_records⟩)
    (cc_l_records : PySem.W.codeIn K cd_l_records "_law_records" = true)
    (kk_l_records : PySem.W.keepIn K (.ref f_l_records) = true)
    (a_l_rule : PySem.W.nsIn K mainGlobals "_law_rule" = some (some (.ref f_l_rule)))
    (l_l_rule : K.lookup f_l_rule = some ⟨oc_l_rule, od_l_rule, .func (PySem.W.fnOf "_law_rule" "_law_rule" (defArgs s_l_rule) (defBody s_l_rule) (defScope s_l_rule) .none kV_l_rule dc_l_rule pm_l_rule an_l_rule cd_l_rule ct_l_rule), sl_l_rule⟩)
    (cc_l_rule : PySem.W.codeIn K cd_l_rule "_law_rule" = true)
    (kk_l_rule : PySem.W.keepIn K (.ref f_l_rule) = true)
    (a_l_rule_of : PySem.W.nsIn K mainGlobals "_law_rule_of" = some (some (.ref f_l_rule_of)))
    (l_l_rule_of : K.lookup f_l_rule_of = some ⟨oc_l_rule_of, od_l_rule_of, .func (PySem.W.fnOf "_law_rule_of" "_law_rule_of" (defArgs s_l_rule_of) (defBody s_l_rule_of) (defScope s_l_rule_of) .none kV_l_rule_of dc_l_rule_of pm_l_rule_of an_l_rule_of cd_l_rule_of ct_l_rule_of), sl_l_rule_of⟩)
    (cc_l_rule_of : PySem.W.codeIn K cd_l_rule_of "_law_rule_of" = true)
    (kk_l_rule_of : PySem.W.keepIn K (.ref f_l_rule_of) = true)
    (a_l_other_rule : PySem.W.nsIn K mainGlobals "_law_other_rule" = some (some (.ref f_l_other_rule)))
    (l_l_other_rule : K.lookup f_l_other_rule = some ⟨oc_l_other_rule, od_l_other_rule, .func (PySem.W.fnOf "_law_other_rule" "_law_other_rule" (defArgs s_l_other_rule) (defBody s_l_other_rule) (defScope s_l_other_rule) .none kV_l_other_rule dc_l_other_rule pm_l_other_rule an_l_other_rule cd_l_other_rule ct_l_other_rule), sl_l_other_rule⟩)
    (cc_l_other_rule : PySem.W.codeIn K cd_l_other_rule "_law_other_rule" = true)
    (kk_l_other_rule : PySem.W.keepIn K (.ref f_l_other_rule) = true)
    (a_l_rules : PySem.W.nsIn K mainGlobals "_law_rules" = some (some (.ref f_l_rules)))
    (l_l_rules : K.lookup f_l_rules = some ⟨oc_l_rules, od_l_rules, .func (PySem.W.fnOf "_law_rules" "_law_rules" (defArgs s_l_rules) (defBody s_l_rules) (defScope s_l_rules) .none kV_l_rules dc_l_rules pm_l_rules an_l_rules cd_l_rules ct_l_rules), sl_l_rules⟩)
    (cc_l_rules : PySem.W.codeIn K cd_l_rules "_law_rules" = true)
    (kk_l_rules : PySem.W.keepIn K (.ref f_l_rules) = true)
    (a_l_near : PySem.W.nsIn K mainGlobals "_law_near" = some (some (.ref f_l_near)))
    (l_l_near : K.lookup f_l_near = some ⟨oc_l_near, od_l_near, .func (PySem.W.fnOf "_law_near" "_law_near" (defArgs s_l_near) (defBody s_l_near) (defScope s_l_near) .none kV_l_near dc_l_near pm_l_near an_l_near cd_l_near ct_l_near), sl_l_near⟩)
    (cc_l_near : PySem.W.codeIn K cd_l_near "_law_near" = true)
    (kk_l_near : PySem.W.keepIn K (.ref f_l_near) = true)
    (a_l_considers : PySem.W.nsIn K mainGlobals "_law_considers" = some (some (.ref f_l_considers)))
    (l_l_considers : K.lookup f_l_considers = some ⟨oc_l_considers, od_l_considers, .func (PySem.W.fnOf "_law_considers" "_law_considers" (defArgs s_l_considers) (defBody s_l_considers) (defScope s_l_considers) .none kV_l_considers dc_l_considers pm_l_considers an_l_considers cd_l_considers ct_l_considers), sl_l_considers⟩)
    (cc_l_considers : PySem.W.codeIn K cd_l_considers "_law_considers" = true)
    (kk_l_considers : PySem.W.keepIn K (.ref f_l_considers) = true)
    (a_law : PySem.W.nsIn K mainGlobals "law" = some (some (.ref f_law)))
    (l_law : K.lookup f_law = some ⟨oc_law, od_law, .func (PySem.W.fnOf "law" "law" (defArgs s_law) (defBody s_law) (defScope s_law) .none kV_law dc_law pm_law an_law cd_law ct_law), sl_law⟩)
    (cc_law : PySem.W.codeIn K cd_law "law" = true)
    (kk_law : PySem.W.keepIn K (.ref f_law) = true)
    (z_bool : PySem.W.nsIn K mainGlobals "bool" = some none)
    (z_int : PySem.W.nsIn K mainGlobals "int" = some none)
    (z_isinstance : PySem.W.nsIn K mainGlobals "isinstance" = some none)
    (z_len : PySem.W.nsIn K mainGlobals "len" = some none)
    (z_list : PySem.W.nsIn K mainGlobals "list" = some none)
    (z_max : PySem.W.nsIn K mainGlobals "max" = some none)
    (z_min : PySem.W.nsIn K mainGlobals "min" = some none)
    (z_range : PySem.W.nsIn K mainGlobals "range" = some none)
    : ∃ fd : FuncData, (∀ (s : Shared) (v : Value), BindsTo s fd ⟨[v], []⟩ [("script", v)]) ∧ ∀ base : Heap, K.In base → base.Ns mainGlobals mg → FnOk l.prog w K mg base CX0 7 fa fd ["script"] (sp_law K) := by
  have e := hfa.symm.trans (PySem.W.mg_of X G a_law)
  have e2 : f_law = fa := by
    injection e with e
    injection e with e
    exact e.symm
  subst e2
  have F_Rule_init__ : FunD K "__init__" "Rule.__init__" (defArgs s_Rule_init__) (defBody s_Rule_init__) (defScope s_Rule_init__) [] [("amount", .int 0), ("until", .int 0), ("sender", .non), ("target", .non), ("ticks", .non), ("nth", .non), ("chance", .non)] f_Rule_init__ _ := ⟨⟨_, _, _, _, _, _, _, _, _, _, rfl, l_Rule_init__, cc_Rule_init__, .inl ⟨rfl, rfl⟩, .inr ⟨kd_Rule_init__, rfl, fun q hq => by
      simp only [List.mem_cons, List.not_mem_nil, or_false] at hq
      rcases hq with rfl | rfl | rfl | rfl | rfl | rfl | rfl
      · exact ⟨_, kw_Rule_init___amount, by first | exact rfl | exact ⟨_, rfl⟩⟩
      · exact ⟨_, kw_Rule_init___until, by first | exact rfl | exact ⟨_, rfl⟩⟩
      · exact ⟨_, kw_Rule_init___sender, by first | exact rfl | exact ⟨_, rfl⟩⟩
      · exact ⟨_, kw_Rule_init___target, by first | exact rfl | exact ⟨_, rfl⟩⟩
      · exact ⟨_, kw_Rule_init___ticks, by first | exact rfl | exact ⟨_, rfl⟩⟩
      · exact ⟨_, kw_Rule_init___nth, by first | exact rfl | exact ⟨_, rfl⟩⟩
      · exact ⟨_, kw_Rule_init___chance, by first | exact rfl | exact ⟨_, rfl⟩⟩⟩⟩, kk_Rule_init__⟩
  have F_Rule_considers := fun_mk (st := s_Rule_considers) l_Rule_considers cc_Rule_considers kk_Rule_considers
  have b_Rule_considers := F_Rule_considers.binds (ps := ["self", "sender", "target", "birth"]) fun _ _ _ _ _ _ us hl => match us, hl with | [_, _, _, _], _ => rfl
  have F_Rule_eq__ := fun_mk (st := s_Rule_eq__) l_Rule_eq__ cc_Rule_eq__ kk_Rule_eq__
  have b_Rule_eq__ := F_Rule_eq__.binds (ps := ["self", "other"]) fun _ _ _ _ _ _ us hl => match us, hl with | [_, _], _ => rfl
  have F_Rule_fields := fun_mk (st := s_Rule_fields) l_Rule_fields cc_Rule_fields kk_Rule_fields
  have b_Rule_fields := F_Rule_fields.binds (ps := ["self"]) fun _ _ _ _ _ _ us hl => match us, hl with | [_], _ => rfl
  have F_Packet_init__ : FunD K "__init__" "Packet.__init__" (defArgs s_Packet_init__) (defBody s_Packet_init__) (defScope s_Packet_init__) [] [("marked", .bl false)] f_Packet_init__ _ := ⟨⟨_, _, _, _, _, _, _, _, _, _, rfl, l_Packet_init__, cc_Packet_init__, .inl ⟨rfl, rfl⟩, .inr ⟨kd_Packet_init__, rfl, fun q hq => by
      simp only [List.mem_cons, List.not_mem_nil, or_false] at hq
      rcases hq with rfl
      · exact ⟨_, kw_Packet_init___marked, by first | exact rfl | exact ⟨_, rfl⟩⟩⟩⟩, kk_Packet_init__⟩
  have F_Packet_fork := fun_mk (st := s_Packet_fork) l_Packet_fork cc_Packet_fork kk_Packet_fork
  have b_Packet_fork := F_Packet_fork.binds (ps := ["self"]) fun _ _ _ _ _ _ us hl => match us, hl with | [_], _ => rfl
  have F_Packet_eq__ := fun_mk (st := s_Packet_eq__) l_Packet_eq__ cc_Packet_eq__ kk_Packet_eq__
  have b_Packet_eq__ := F_Packet_eq__.binds (ps := ["self", "other"]) fun _ _ _ _ _ _ us hl => match us, hl with | [_, _], _ => rfl
  have F_Packet_fields := fun_mk (st := s_Packet_fields) l_Packet_fields cc_Packet_fields kk_Packet_fields
  have b_Packet_fields := F_Packet_fields.binds (ps := ["self"]) fun _ _ _ _ _ _ us hl => match us, hl with | [_], _ => rfl
  have F_Flight_init__ := fun_mk (st := s_Flight_init__) l_Flight_init__ cc_Flight_init__ kk_Flight_init__
  have b_Flight_init__ := F_Flight_init__.binds (ps := ["self", "number", "birth", "packet"]) fun _ _ _ _ _ _ us hl => match us, hl with | [_, _, _, _], _ => rfl
  have F_Flight_eq__ := fun_mk (st := s_Flight_eq__) l_Flight_eq__ cc_Flight_eq__ kk_Flight_eq__
  have b_Flight_eq__ := F_Flight_eq__.binds (ps := ["self", "other"]) fun _ _ _ _ _ _ us hl => match us, hl with | [_, _], _ => rfl
  have F_Record_init__ := fun_mk (st := s_Record_init__) l_Record_init__ cc_Record_init__ kk_Record_init__
  have b_Record_init__ := F_Record_init__.binds (ps := ["self", "tick", "number", "word", "packet"]) fun _ _ _ _ _ _ us hl => match us, hl with | [_, _, _, _, _], _ => rfl
  have F_Record_eq__ := fun_mk (st := s_Record_eq__) l_Record_eq__ cc_Record_eq__ kk_Record_eq__
  have b_Record_eq__ := F_Record_eq__.binds (ps := ["self", "other"]) fun _ _ _ _ _ _ us hl => match us, hl with | [_, _], _ => rfl
  have F_l_cell := fun_mk (st := s_l_cell) l_l_cell cc_l_cell kk_l_cell
  have b_l_cell := F_l_cell.binds (ps := ["script", "k"]) fun _ _ _ _ _ _ us hl => match us, hl with | [_, _], _ => rfl
  have F_l_start := fun_mk (st := s_l_start) l_l_start cc_l_start kk_l_start
  have b_l_start := F_l_start.binds (ps := ["cell", "k"]) fun _ _ _ _ _ _ us hl => match us, hl with | [_, _], _ => rfl
  have F_l_digit := fun_mk (st := s_l_digit) l_l_digit cc_l_digit kk_l_digit
  have b_l_digit := F_l_digit.binds (ps := ["state", "many"]) fun _ _ _ _ _ _ us hl => match us, hl with | [_, _], _ => rfl
  have F_l_packet := fun_mk (st := s_l_packet) l_l_packet cc_l_packet kk_l_packet
  have b_l_packet := F_l_packet.binds (ps := ["state"]) fun _ _ _ _ _ _ us hl => match us, hl with | [_], _ => rfl
  have F_l_made := fun_mk (st := s_l_made) l_l_made cc_l_made kk_l_made
  have b_l_made := F_l_made.binds (ps := ["row"]) fun _ _ _ _ _ _ us hl => match us, hl with | [_], _ => rfl
  have F_l_others := fun_mk (st := s_l_others) l_l_others cc_l_others kk_l_others
  have b_l_others := F_l_others.binds (ps := ["row", "state"]) fun _ _ _ _ _ _ us hl => match us, hl with | [_, _], _ => rfl
  have F_l_packets := fun_mk (st := s_l_packets) l_l_packets cc_l_packets kk_l_packets
  have b_l_packets := F_l_packets.binds (ps := ["row", "others"]) fun _ _ _ _ _ _ us hl => match us, hl with | [_, _], _ => rfl
  have F_l_records := fun_mk (st := s_l_records) l_l_records cc_l_records kk_l_records
  have b_l_records := F_l_records.binds (ps := ["row", "other", "state"]) fun _ _ _ _ _ _ us hl => match us, hl with | [_, _, _], _ => rfl
  have F_l_rule := fun_mk (st := s_l_rule) l_l_rule cc_l_rule kk_l_rule
  have b_l_rule := F_l_rule.binds (ps := ["state"]) fun _ _ _ _ _ _ us hl => match us, hl with | [_], _ => rfl
  have F_l_rule_of := fun_mk (st := s_l_rule_of) l_l_rule_of cc_l_rule_of kk_l_rule_of
  have b_l_rule_of := F_l_rule_of.binds (ps := ["rule"]) fun _ _ _ _ _ _ us hl => match us, hl with | [_], _ => rfl
  have F_l_other_rule := fun_mk (st := s_l_other_rule) l_l_other_rule cc_l_other_rule kk_l_other_rule
  have b_l_other_rule := F_l_other_rule.binds (ps := ["rule", "k", "state"]) fun _ _ _ _ _ _ us hl => match us, hl with | [_, _, _], _ => rfl
  have F_l_rules := fun_mk (st := s_l_rules) l_l_rules cc_l_rules kk_l_rules
  have b_l_rules := F_l_rules.binds (ps := ["rule", "state"]) fun _ _ _ _ _ _ us hl => match us, hl with | [_, _], _ => rfl
  have F_l_near := fun_mk (st := s_l_near) l_l_near cc_l_near kk_l_near
  have b_l_near := F_l_near.binds (ps := ["state", "value"]) fun _ _ _ _ _ _ us hl => match us, hl with | [_, _], _ => rfl
  have F_l_considers := fun_mk (st := s_l_considers) l_l_considers cc_l_considers kk_l_considers
  have b_l_considers := F_l_considers.binds (ps := ["rule", "state"]) fun _ _ _ _ _ _ us hl => match us, hl with | [_, _], _ => rfl
  have F_law := fun_mk (st := s_law) l_law cc_law kk_law
  have b_law := F_law.binds (ps := ["script"]) fun _ _ _ _ _ _ us hl => match us, hl with | [_], _ => rfl
  let T : Txt K mg := { C_Rule := C_Rule, C_Packet := C_Packet, C_Flight := C_Flight, C_Record := C_Record, f_Rule_init__ := f_Rule_init__, d_Rule_init__ := _, f_Rule_considers := f_Rule_considers, d_Rule_considers := _, f_Rule_eq__ := f_Rule_eq__, d_Rule_eq__ := _, f_Rule_fields := f_Rule_fields, d_Rule_fields := _, f_Packet_init__ := f_Packet_init__, d_Packet_init__ := _, f_Packet_fork := f_Packet_fork, d_Packet_fork := _, f_Packet_eq__ := f_Packet_eq__, d_Packet_eq__ := _, f_Packet_fields := f_Packet_fields, d_Packet_fields := _, f_Flight_init__ := f_Flight_init__, d_Flight_init__ := _, f_Flight_eq__ := f_Flight_eq__, d_Flight_eq__ := _, f_Record_init__ := f_Record_init__, d_Record_init__ := _, f_Record_eq__ := f_Record_eq__, d_Record_eq__ := _, f_l_cell := f_l_cell, d_l_cell := _, f_l_start := f_l_start, d_l_start := _, f_l_digit := f_l_digit, d_l_digit := _, f_l_packet := f_l_packet, d_l_packet := _, f_l_made := f_l_made, d_l_made := _, f_l_others := f_l_others, d_l_others := _, f_l_packets := f_l_packets, d_l_packets := _, f_l_records := f_l_records, d_l_records := _, f_l_rule := f_l_rule, d_l_rule := _, f_l_rule_of := f_l_rule_of, d_l_rule_of := _, f_l_other_rule := f_l_other_rule, d_l_other_rule := _, f_l_rules := f_l_rules, d_l_rules := _, f_l_near := f_l_near, d_l_near := _, f_l_considers := f_l_considers, d_l_considers := _, f_law := f_law, d_law := _, c_Rule := PySem.W.mg_of X G c_Rule, k_Rule := ⟨pg_Rule, hd_Rule, po_Rule, sa_Rule⟩, i_Rule := fun e => .ins e ⟨pg_Rule, hd_Rule, po_Rule, sa_Rule⟩ ha_Rule hn_all ht_all hm_Rule, q_Rule := q_Rule, ki_Rule := kit_own ic_Rule tc_Rule q_Rule, n_Rule_fault := n_Rule_fault, n_Rule_amount := n_Rule_amount, n_Rule_until := n_Rule_until, n_Rule_sender := n_Rule_sender, n_Rule_target := n_Rule_target, n_Rule_ticks := n_Rule_ticks, n_Rule_nth := n_Rule_nth, n_Rule_chance := n_Rule_chance, c_Packet := PySem.W.mg_of X G c_Packet, k_Packet := ⟨pg_Packet, hd_Packet, po_Packet, sa_Packet⟩, i_Packet := fun e => .ins e ⟨pg_Packet, hd_Packet, po_Packet, sa_Packet⟩ ha_Packet hn_all ht_all hm_Packet, q_Packet := q_Packet, ki_Packet := kit_own ic_Packet tc_Packet q_Packet, n_Packet_sender := n_Packet_sender, n_Packet_target := n_Packet_target, n_Packet_octets := n_Packet_octets, n_Packet_marked := n_Packet_marked, c_Flight := PySem.W.mg_of X G c_Flight, k_Flight := ⟨pg_Flight, hd_Flight, po_Flight, sa_Flight⟩, i_Flight := fun e => .ins e ⟨pg_Flight, hd_Flight, po_Flight, sa_Flight⟩ ha_Flight hn_all ht_all hm_Flight, q_Flight := q_Flight, ki_Flight := kit_own ic_Flight tc_Flight q_Flight, n_Flight_number := n_Flight_number, n_Flight_birth := n_Flight_birth, n_Flight_packet := n_Flight_packet, c_Record := PySem.W.mg_of X G c_Record, k_Record := ⟨pg_Record, hd_Record, po_Record, sa_Record⟩, i_Record := fun e => .ins e ⟨pg_Record, hd_Record, po_Record, sa_Record⟩ ha_Record hn_all ht_all hm_Record, q_Record := q_Record, ki_Record := kit_own ic_Record tc_Record q_Record, n_Record_tick := n_Record_tick, n_Record_number := n_Record_number, n_Record_word := n_Record_word, n_Record_packet := n_Record_packet, F_Rule_init__ := F_Rule_init__, mk_Rule := ⟨mk0_Rule, a_Rule_init__, i_Rule_init__, kc_Rule⟩, F_Rule_considers := F_Rule_considers, b_Rule_considers := b_Rule_considers, a_Rule_considers := ⟨a_Rule_considers, i_Rule_considers, kk_Rule_considers⟩, F_Rule_eq__ := F_Rule_eq__, b_Rule_eq__ := b_Rule_eq__, a_Rule_eq__ := ⟨a_Rule_eq__, i_Rule_eq__, kk_Rule_eq__⟩, F_Rule_fields := F_Rule_fields, b_Rule_fields := b_Rule_fields, a_Rule_fields := ⟨a_Rule_fields, i_Rule_fields, kk_Rule_fields⟩, F_Packet_init__ := F_Packet_init__, mk_Packet := ⟨mk0_Packet, a_Packet_init__, i_Packet_init__, kc_Packet⟩, F_Packet_fork := F_Packet_fork, b_Packet_fork := b_Packet_fork, a_Packet_fork := ⟨a_Packet_fork, i_Packet_fork, kk_Packet_fork⟩, F_Packet_eq__ := F_Packet_eq__, b_Packet_eq__ := b_Packet_eq__, a_Packet_eq__ := ⟨a_Packet_eq__, i_Packet_eq__, kk_Packet_eq__⟩, F_Packet_fields := F_Packet_fields, b_Packet_fields := b_Packet_fields, a_Packet_fields := ⟨a_Packet_fields, i_Packet_fields, kk_Packet_fields⟩, F_Flight_init__ := F_Flight_init__, b_Flight_init__ := b_Flight_init__, mk_Flight := ⟨mk0_Flight, a_Flight_init__, i_Flight_init__, kc_Flight⟩, F_Flight_eq__ := F_Flight_eq__, b_Flight_eq__ := b_Flight_eq__, a_Flight_eq__ := ⟨a_Flight_eq__, i_Flight_eq__, kk_Flight_eq__⟩, F_Record_init__ := F_Record_init__, b_Record_init__ := b_Record_init__, mk_Record := ⟨mk0_Record, a_Record_init__, i_Record_init__, kc_Record⟩, F_Record_eq__ := F_Record_eq__, b_Record_eq__ := b_Record_eq__, a_Record_eq__ := ⟨a_Record_eq__, i_Record_eq__, kk_Record_eq__⟩, F_l_cell := F_l_cell, b_l_cell := b_l_cell, m_l_cell := PySem.W.mg_of X G a_l_cell, F_l_start := F_l_start, b_l_start := b_l_start, m_l_start := PySem.W.mg_of X G a_l_start, F_l_digit := F_l_digit, b_l_digit := b_l_digit, m_l_digit := PySem.W.mg_of X G a_l_digit, F_l_packet := F_l_packet, b_l_packet := b_l_packet, m_l_packet := PySem.W.mg_of X G a_l_packet, F_l_made := F_l_made, b_l_made := b_l_made, m_l_made := PySem.W.mg_of X G a_l_made, F_l_others := F_l_others, b_l_others := b_l_others, m_l_others := PySem.W.mg_of X G a_l_others, F_l_packets := F_l_packets, b_l_packets := b_l_packets, m_l_packets := PySem.W.mg_of X G a_l_packets, F_l_records := F_l_records, b_l_records := b_l_records, m_l_records := PySem.W.mg_of X G a_l_records, F_l_rule := F_l_rule, b_l_rule := b_l_rule, m_l_rule := PySem.W.mg_of X G a_l_rule, F_l_rule_of := F_l_rule_of, b_l_rule_of := b_l_rule_of, m_l_rule_of := PySem.W.mg_of X G a_l_rule_of, F_l_other_rule := F_l_other_rule, b_l_other_rule := b_l_other_rule, m_l_other_rule := PySem.W.mg_of X G a_l_other_rule, F_l_rules := F_l_rules, b_l_rules := b_l_rules, m_l_rules := PySem.W.mg_of X G a_l_rules, F_l_near := F_l_near, b_l_near := b_l_near, m_l_near := PySem.W.mg_of X G a_l_near, F_l_considers := F_l_considers, b_l_considers := b_l_considers, m_l_considers := PySem.W.mg_of X G a_l_considers, F_law := F_law, b_law := b_law, m_law := PySem.W.mg_of X G a_law, n_bool := PySem.W.mg_none_of X G z_bool, n_int := PySem.W.mg_none_of X G z_int, n_isinstance := PySem.W.mg_none_of X G z_isinstance, n_len := PySem.W.mg_none_of X G z_len, n_list := PySem.W.mg_none_of X G z_list, n_max := PySem.W.mg_none_of X G z_max, n_min := PySem.W.mg_none_of X G z_min, n_range := PySem.W.mg_none_of X G z_range }
  exact ⟨PySem.W.fnOf "law" "law" (defArgs s_law) (defBody s_law) (defScope s_law) .none kV_law dc_law pm_law an_law cd_law ct_law, fun s v => .of_eq rfl, fun base _ _ => ok_law T⟩
theorem walk {l : PySem.W.OpenLaw} {q : Program} {loose : List Str} {XP : (Str → Option Value) → Heap → Prop} {YP : World → Heap → Prop} {d : DefRec} {K : Params → PySem.W.Frag} (hn : l.most = some 63) (hdf : d.params.defaults = [])
    (hY : ∀ (w : World) (h : Heap), YP w h → (K w.params).In h)
    (F : ∀ (w : World) (mg : Str → Option Value) (fa : Addr) (h : Heap), (K w.params).In h → h.Ns mainGlobals mg → mg d.name = some (.ref fa) →
      ∃ fd : FuncData, (∀ (s : Shared) (u : Value), BindsTo s fd ⟨[u], []⟩ [("script", u)]) ∧ ∀ base : Heap, (K w.params).In base → base.Ns mainGlobals mg → FnOk l.prog w (K w.params) mg base CX0 7 fa fd ["script"] (sp_law (K w.params))) :
    PySem.W.WalkO q loose XP YP l.row.toRowW d [] (fun f vs => PySem.call f vs) :=
  L2.walk_of (n := 63) (k := 7) (x := "script") (CX := fun _ => CX0) (sp := fun w => sp_law (K w.params)) hn (by decide) hdf ⟨rfl, by decide, by decide⟩ hY F (fun _ _ a ns hl _ hS => ⟨a, ns, rfl, hS, hl, fun _ => rfl⟩) fun _ _ _ _ _ z => z
end My
open PySem PySem.W PyProof.Rows
set_option maxRecDepth 100000 in
set_option maxHeartbeats 0 in
theorem PySem.Challenge.cw_throughline_k37_things_are_equal_by_all_holds : PySem.Challenge.rw_throughline_k37_things_are_equal_by_all.Holds := by
  w_on; o_law; k_head; (case hw => w_witness2)
  k_fill
  refine My.walk (l := PySem.Challenge.rw_throughline_k37_things_are_equal_by_all) rfl rfl (fun w h Y => PySem.W.kIn_of Y) ?F
  case F =>
    intro w mg fa h KX G hmg
    refine' My.all_mk KX G hmg ?c_Rule ?pg_Rule ?hd_Rule ?po_Rule ?sa_Rule ?mk0_Rule ?kc_Rule ?ha_Rule ?hm_Rule ?hn_all ?ht_all ?q_Rule ?ic_Rule ?tc_Rule ?n_Rule_fault ?n_Rule_amount ?n_Rule_until ?n_Rule_sender ?n_Rule_target ?n_Rule_ticks ?n_Rule_nth ?n_Rule_chance ?c_Packet ?pg_Packet ?hd_Packet ?po_Packet ?sa_Packet ?mk0_Packet ?kc_Packet ?ha_Packet ?hm_Packet ?q_Packet ?ic_Packet ?tc_Packet ?n_Packet_sender ?n_Packet_target ?n_Packet_octets ?n_Packet_marked ?c_Flight ?pg_Flight ?hd_Flight ?po_Flight ?sa_Flight ?mk0_Flight ?kc_Flight ?ha_Flight ?hm_Flight ?q_Flight ?ic_Flight ?tc_Flight ?n_Flight_number ?n_Flight_birth ?n_Flight_packet ?c_Record ?pg_Record ?hd_Record ?po_Record ?sa_Record ?mk0_Record ?kc_Record ?ha_Record ?hm_Record ?q_Record ?ic_Record ?tc_Record ?n_Record_tick ?n_Record_number ?n_Record_word ?n_Record_packet ?a_Rule_init__ ?i_Rule_init__ ?l_Rule_init__ ?kw_Rule_init___amount ?kw_Rule_init___until ?kw_Rule_init___sender ?kw_Rule_init___target ?kw_Rule_init___ticks ?kw_Rule_init___nth ?kw_Rule_init___chance ?cc_Rule_init__ ?kk_Rule_init__ ?a_Rule_considers ?i_Rule_considers ?l_Rule_considers ?cc_Rule_considers ?kk_Rule_considers ?a_Rule_eq__ ?i_Rule_eq__ ?l_Rule_eq__ ?cc_Rule_eq__ ?kk_Rule_eq__ ?a_Rule_fields ?i_Rule_fields ?l_Rule_fields ?cc_Rule_fields ?kk_Rule_fields ?a_Packet_init__ ?i_Packet_init__ ?l_Packet_init__ ?kw_Packet_init___marked ?cc_Packet_init__ ?kk_Packet_init__ ?a_Packet_fork ?i_Packet_fork ?l_Packet_fork ?cc_Packet_fork ?kk_Packet_fork ?a_Packet_eq__ ?i_Packet_eq__ ?l_Packet_eq__ ?cc_Packet_eq__ ?kk_Packet_eq__ ?a_Packet_fields ?i_Packet_fields ?l_Packet_fields ?cc_Packet_fields ?kk_Packet_fields ?a_Flight_init__ ?i_Flight_init__ ?l_Flight_init__ ?cc_Flight_init__ ?kk_Flight_init__ ?a_Flight_eq__ ?i_Flight_eq__ ?l_Flight_eq__ ?cc_Flight_eq__ ?kk_Flight_eq__ ?a_Record_init__ ?i_Record_init__ ?l_Record_init__ ?cc_Record_init__ ?kk_Record_init__ ?a_Record_eq__ ?i_Record_eq__ ?l_Record_eq__ ?cc_Record_eq__ ?kk_Record_eq__ ?a_l_cell ?l_l_cell ?cc_l_cell ?kk_l_cell ?a_l_start ?l_l_start ?cc_l_start ?kk_l_start ?a_l_digit ?l_l_digit ?cc_l_digit ?kk_l_digit ?a_l_packet ?l_l_packet ?cc_l_packet ?kk_l_packet ?a_l_made ?l_l_made ?cc_l_made ?kk_l_made ?a_l_others ?l_l_others ?cc_l_others ?kk_l_others ?a_l_packets ?l_l_packets ?cc_l_packets ?kk_l_packets ?a_l_records ?l_l_records ?cc_l_records ?kk_l_records ?a_l_rule ?l_l_rule ?cc_l_rule ?kk_l_rule ?a_l_rule_of ?l_l_rule_of ?cc_l_rule_of ?kk_l_rule_of ?a_l_other_rule ?l_l_other_rule ?cc_l_other_rule ?kk_l_other_rule ?a_l_rules ?l_l_rules ?cc_l_rules ?kk_l_rules ?a_l_near ?l_l_near ?cc_l_near ?kk_l_near ?a_l_considers ?l_l_considers ?cc_l_considers ?kk_l_considers ?a_law ?l_law ?cc_law ?kk_law ?z_bool ?z_int ?z_isinstance ?z_len ?z_list ?z_max ?z_min ?z_range
    (case c_Rule => k_is)
    (case pg_Rule => k_is)
    (case hd_Rule => k_is)
    (case po_Rule => k_is)
    (case sa_Rule => k_is)
    (case mk0_Rule => k_is)
    (case kc_Rule => k_is)
    (case ha_Rule => k_is)
    (case hm_Rule => k_is)
    (case hn_all => k_is)
    (case ht_all => k_is)
    (case q_Rule => k_is)
    (case ic_Rule => k_is)
    (case tc_Rule => k_is)
    (case n_Rule_fault => k_is)
    (case n_Rule_amount => k_is)
    (case n_Rule_until => k_is)
    (case n_Rule_sender => k_is)
    (case n_Rule_target => k_is)
    (case n_Rule_ticks => k_is)
    (case n_Rule_nth => k_is)
    (case n_Rule_chance => k_is)
    (case c_Packet => k_is)
    (case pg_Packet => k_is)
    (case hd_Packet => k_is)
    (case po_Packet => k_is)
    (case sa_Packet => k_is)
    (case mk0_Packet => k_is)
    (case kc_Packet => k_is)
    (case ha_Packet => k_is)
    (case hm_Packet => k_is)
    (case q_Packet => k_is)
    (case ic_Packet => k_is)
    (case tc_Packet => k_is)
    (case n_Packet_sender => k_is)
    (case n_Packet_target => k_is)
    (case n_Packet_octets => k_is)
    (case n_Packet_marked => k_is)
    (case c_Flight => k_is)
    (case pg_Flight => k_is)
    (case hd_Flight => k_is)
    (case po_Flight => k_is)
    (case sa_Flight => k_is)
    (case mk0_Flight => k_is)
    (case kc_Flight => k_is)
    (case ha_Flight => k_is)
    (case hm_Flight => k_is)
    (case q_Flight => k_is)
    (case ic_Flight => k_is)
    (case tc_Flight => k_is)
    (case n_Flight_number => k_is)
    (case n_Flight_birth => k_is)
    (case n_Flight_packet => k_is)
    (case c_Record => k_is)
    (case pg_Record => k_is)
    (case hd_Record => k_is)
    (case po_Record => k_is)
    (case sa_Record => k_is)
    (case mk0_Record => k_is)
    (case kc_Record => k_is)
    (case ha_Record => k_is)
    (case hm_Record => k_is)
    (case q_Record => k_is)
    (case ic_Record => k_is)
    (case tc_Record => k_is)
    (case n_Record_tick => k_is)
    (case n_Record_number => k_is)
    (case n_Record_word => k_is)
    (case n_Record_packet => k_is)
    (case a_Rule_init__ => k_is)
    (case i_Rule_init__ => k_is)
    (case l_Rule_init__ => k_is)
    (case kw_Rule_init___amount => k_is)
    (case kw_Rule_init___until => k_is)
    (case kw_Rule_init___sender => k_is)
    (case kw_Rule_init___target => k_is)
    (case kw_Rule_init___ticks => k_is)
    (case kw_Rule_init___nth => k_is)
    (case kw_Rule_init___chance => k_is)
    (case cc_Rule_init__ => k_is)
    (case kk_Rule_init__ => k_is)
    (case a_Rule_considers => k_is)
    (case i_Rule_considers => k_is)
    (case l_Rule_considers => k_is)
    (case cc_Rule_considers => k_is)
    (case kk_Rule_considers => k_is)
    (case a_Rule_eq__ => k_is)
    (case i_Rule_eq__ => k_is)
    (case l_Rule_eq__ => k_is)
    (case cc_Rule_eq__ => k_is)
    (case kk_Rule_eq__ => k_is)
    (case a_Rule_fields => k_is)
    (case i_Rule_fields => k_is)
    (case l_Rule_fields => k_is)
    (case cc_Rule_fields => k_is)
    (case kk_Rule_fields => k_is)
    (case a_Packet_init__ => k_is)
    (case i_Packet_init__ => k_is)
    (case l_Packet_init__ => k_is)
    (case kw_Packet_init___marked => k_is)
    (case cc_Packet_init__ => k_is)
    (case kk_Packet_init__ => k_is)
    (case a_Packet_fork => k_is)
    (case i_Packet_fork => k_is)
    (case l_Packet_fork => k_is)
    (case cc_Packet_fork => k_is)
    (case kk_Packet_fork => k_is)
    (case a_Packet_eq__ => k_is)
    (case i_Packet_eq__ => k_is)
    (case l_Packet_eq__ => k_is)
    (case cc_Packet_eq__ => k_is)
    (case kk_Packet_eq__ => k_is)
    (case a_Packet_fields => k_is)
    (case i_Packet_fields => k_is)
    (case l_Packet_fields => k_is)
    (case cc_Packet_fields => k_is)
    (case kk_Packet_fields => k_is)
    (case a_Flight_init__ => k_is)
    (case i_Flight_init__ => k_is)
    (case l_Flight_init__ => k_is)
    (case cc_Flight_init__ => k_is)
    (case kk_Flight_init__ => k_is)
    (case a_Flight_eq__ => k_is)
    (case i_Flight_eq__ => k_is)
    (case l_Flight_eq__ => k_is)
    (case cc_Flight_eq__ => k_is)
    (case kk_Flight_eq__ => k_is)
    (case a_Record_init__ => k_is)
    (case i_Record_init__ => k_is)
    (case l_Record_init__ => k_is)
    (case cc_Record_init__ => k_is)
    (case kk_Record_init__ => k_is)
    (case a_Record_eq__ => k_is)
    (case i_Record_eq__ => k_is)
    (case l_Record_eq__ => k_is)
    (case cc_Record_eq__ => k_is)
    (case kk_Record_eq__ => k_is)
    (case a_l_cell => k_is)
    (case l_l_cell => k_is)
    (case cc_l_cell => k_is)
    (case kk_l_cell => k_is)
    (case a_l_start => k_is)
    (case l_l_start => k_is)
    (case cc_l_start => k_is)
    (case kk_l_start => k_is)
    (case a_l_digit => k_is)
    (case l_l_digit => k_is)
    (case cc_l_digit => k_is)
    (case kk_l_digit => k_is)
    (case a_l_packet => k_is)
    (case l_l_packet => k_is)
    (case cc_l_packet => k_is)
    (case kk_l_packet => k_is)
    (case a_l_made => k_is)
    (case l_l_made => k_is)
    (case cc_l_made => k_is)
    (case kk_l_made => k_is)
    (case a_l_others => k_is)
    (case l_l_others => k_is)
    (case cc_l_others => k_is)
    (case kk_l_others => k_is)
    (case a_l_packets => k_is)
    (case l_l_packets => k_is)
    (case cc_l_packets => k_is)
    (case kk_l_packets => k_is)
    (case a_l_records => k_is)
    (case l_l_records => k_is)
    (case cc_l_records => k_is)
    (case kk_l_records => k_is)
    (case a_l_rule => k_is)
    (case l_l_rule => k_is)
    (case cc_l_rule => k_is)
    (case kk_l_rule => k_is)
    (case a_l_rule_of => k_is)
    (case l_l_rule_of => k_is)
    (case cc_l_rule_of => k_is)
    (case kk_l_rule_of => k_is)
    (case a_l_other_rule => k_is)
    (case l_l_other_rule => k_is)
    (case cc_l_other_rule => k_is)
    (case kk_l_other_rule => k_is)
    (case a_l_rules => k_is)
    (case l_l_rules => k_is)
    (case cc_l_rules => k_is)
    (case kk_l_rules => k_is)
    (case a_l_near => k_is)
    (case l_l_near => k_is)
    (case cc_l_near => k_is)
    (case kk_l_near => k_is)
    (case a_l_considers => k_is)
    (case l_l_considers => k_is)
    (case cc_l_considers => k_is)
    (case kk_l_considers => k_is)
    (case a_law => k_is)
    (case l_law => k_is)
    (case cc_law => k_is)
    (case kk_law => k_is)
    (case z_bool => k_is)
    (case z_int => k_is)
    (case z_isinstance => k_is)
    (case z_len => k_is)
    (case z_list => k_is)
    (case z_max => k_is)
    (case z_min => k_is)
    (case z_range => k_is)
#print axioms PySem.Challenge.cw_throughline_k37_things_are_equal_by_all_holds

