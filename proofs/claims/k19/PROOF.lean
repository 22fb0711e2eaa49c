import PyProof.Rows.All
import Wide.All
import OpenK.AllK
import Wide.FinOn
import HandS.ForMost
import HandS.IsInst
import HandS.Wide
import HandS.Style
import HandS.Conv
import HandS.RevRange
import HandS.Walk
import HandS.Property
import HandS.Star
import HandS.Codes
import HandS.TupAny
import HandS.WideBits
import HandS.MakeKwOnly
import HandS.Defaults
import KE.KSuper
import KE.RegKSuper
import HandS.Nested
import HandS.ClsMeth
import HandS.Flow
import PySem.Challenge.RW_throughline_k19_reno_and_cubic
set_option Elab.async false
set_option linter.all false
set_option maxRecDepth 100000
set_option maxHeartbeats 4000000
namespace My
open PySem PySem.Spec L2
/-! ### readings, one rule a construct -/
section
variable {K : PySem.W.Frag} {σ : St} {H : Hp} {Q : VK} {v x y z : V} {ta tb te tc : TE} {tt tu : TT} {r : R2} {D : Ends} {ts us : TS} {P : Bool → Hp → Prop} {i j : Int}
theorem g_var {i : Nat} (h : σ[i]? = some (some v)) (q : Q v H) : tVar i σ H Q := ⟨v, h, q⟩
theorem g_c (q : Q v H) : tC v σ H Q := q
theorem g_op (h : ta σ H fun x H1 => tb σ H1 fun y H2 => r x y H2 Q) : tOp r ta tb σ H Q := h
theorem g_un {r : V → Hp → VK → Prop} (h : ta σ H fun x H1 => r x H1 Q) : tUn r ta σ H Q := h
theorem g_rI0 {g : Int → Int → V} (q : Q (g i j) H) : rI0 g (.int i) (.int j) H Q := ⟨i, j, rfl, rfl, q⟩
theorem g_rI {C : Int → Int → Prop} {g : Int → Int → V} (c : C i j) (q : Q (g i j) H) : rI C g (.int i) (.int j) H Q := ⟨i, j, rfl, rfl, c, q⟩
theorem g_rU {g : Int → V} (q : Q (g i) H) : rU g (.int i) H Q := ⟨i, rfl, q⟩
theorem g_rEqI (q : Q (.bl (decide (i = j))) H) : rEq (.int i) (.int j) H Q := ⟨rfl, by rw [dec_int]; exact q⟩
theorem g_rNeI (q : Q (.bl (!decide (i = j))) H) : rNe (.int i) (.int j) H Q := ⟨rfl, by rw [dec_int]; exact q⟩
theorem g_rEq (s : scal x y = true) (q : Q (.bl (decide (x = y))) H) : rEq x y H Q := ⟨s, q⟩
theorem g_rNe (s : scal x y = true) (q : Q (.bl (!decide (x = y))) H) : rNe x y H Q := ⟨s, q⟩
theorem g_isN {A : Prop} (q : A) : V.non = V.non ∧ A := ⟨rfl, q⟩
theorem g_rIsB {a b : Bool} (q : Q (.bl (decide (a = b))) H) : rIsB (.bl a) (.bl b) H Q := ⟨a, b, rfl, rfl, q⟩
theorem g_rNotB {a b : Bool} (q : Q (.bl (!decide (a = b))) H) : rNotB (.bl a) (.bl b) H Q := ⟨a, b, rfl, rfl, q⟩
theorem g_test {t : TE} (h : t σ H fun x H' => ∃ k, x = .bl k ∧ P k H') : tTest t σ H P := h
theorem g_B {t : TE} (h : t σ H fun x H' => ∃ k, x = .bl k ∧ P k H') : tB t σ H P := h
theorem g_bl {b : Bool} {A : Bool → Prop} (q : A b) : ∃ k, V.bl b = .bl k ∧ A k := ⟨b, rfl, q⟩
theorem g_and (h : tt σ H fun c H1 => if c = true then tu σ H1 P else P false H1) : tAnd tt tu σ H P := h
theorem g_or (h : tt σ H fun c H1 => if c = true then P true H1 else tu σ H1 P) : tOr tt tu σ H P := h
theorem g_not (h : tt σ H fun c H1 => P (!c) H1) : tNot tt σ H P := h
theorem g_andV (h : ta σ H fun x H1 => ∃ c, x = .bl c ∧ if c = true then tb σ H1 Q else Q (.bl false) H1) : tAndV ta tb σ H Q := h
theorem g_orV (h : ta σ H fun x H1 => ∃ c, x = .bl c ∧ if c = true then Q (.bl true) H1 else tb σ H1 Q) : tOrV ta tb σ H Q := h
theorem g_notV (h : ta σ H fun x H1 => ∃ c, x = .bl c ∧ Q (.bl (!c)) H1) : tNotV ta σ H Q := h
theorem g_if (h : tt σ H fun c H1 => if c = true then ta σ H1 Q else tb σ H1 Q) : tIf tt ta tb σ H Q := h
theorem g_chain {r' : R2} (h : ta σ H fun x H1 => tb σ H1 fun y H2 => r x y H2 fun z H3 => ∃ k, z = .bl k ∧ (if k = true then tc σ H3 fun w' H4 => r' y w' H4 Q else Q (.bl false) H3)) : tChain r r' ta tb tc σ H Q := h
theorem g_nil {A : List V → Hp → Prop} (q : A [] H) : tNil σ H A := q
theorem g_cons {tr : TA} {A : List V → Hp → Prop} (h : ta σ H fun x H1 => tr σ H1 fun xs H2 => A (x :: xs) H2) : tCons ta tr σ H A := h
theorem g_tup {t : TA} (h : t σ H fun xs H1 => xs.length ≤ sizeLine ∧ ∀ p, H1 p = none → Q (.ref p) (upd H1 p (.tup xs))) : tTup t σ H Q := h
theorem g_lst {t : TA} (h : t σ H fun xs H1 => xs.length ≤ sizeLine ∧ ∀ p, H1 p = none → Q (.ref p) (upd H1 p (.lst xs))) : tLst t σ H Q := h
theorem g_call {sp : Sp} {dvs : List V} {E : XK} {t : TA} (h : t σ H fun vs H1 => sp (vs ++ dvs) H1 Q E) : tCall sp dvs E t σ H Q := h
theorem g_CB {r : List V → Hp → VK → Prop} {t : TA} (h : t σ H fun vs H1 => r vs H1 Q) : tCB r t σ H Q := h
theorem g_sl {r : V → Option Int → Option Int → Hp → VK → Prop} {tl th : TO} (h : te σ H fun x H1 => tl σ H1 fun l H2 => th σ H2 fun u H3 => r x l u H3 Q) : tSl r te tl th σ H Q := h
theorem g_noPart {A : Option Int → Hp → Prop} (q : A none H) : tNoPart σ H A := q
theorem g_part {A : Option Int → Hp → Prop} (h : te σ H fun x H1 => ∃ i, x = .int i ∧ A (some i) H1) : tPart te σ H A := h
theorem g_intE {A : Int → Prop} (q : A i) : ∃ k, V.int i = .int k ∧ A k := ⟨i, rfl, q⟩
theorem g_seq (h : ts { D with nx := us D } σ H) : tSeq ts us D σ H := h
theorem g_next (q : D.nx σ H) : tNext D σ H := q
theorem g_brk (q : D.bk σ H) : tBreak D σ H := q
theorem g_ct (q : D.ct σ H) : tCont D σ H := q
theorem g_asg {g : TG} (h : te σ H fun x H1 => g x σ H1 D.nx) : tAsg te g D σ H := h
theorem g_name {i : Nat} {A : St → Hp → Prop} (q : A (σ.set i (some v)) H) : gName i v σ H A := q
theorem g_aug {i : Nat} {ti : TIp} (h : σ[i]? = some (some x)) (q : te σ H fun y H1 => ti x y H1 fun z H2 => D.nx (σ.set i (some z)) H2) : tAug i te ti D σ H := ⟨x, h, q⟩
theorem g_ipI {f : Int → Int → Int} (q : Q (.int (f i j)) H) : ipI f (.int i) (.int j) H Q := ⟨i, j, rfl, rfl, q⟩
theorem g_drop (h : te σ H fun _ H1 => D.nx σ H1) : tDrop te D σ H := h
theorem g_ret (h : te σ H D.rt) : tRet te D σ H := h
theorem g_retN (q : D.rt .non H) : tRetN D σ H := q
theorem g_ifS (h : tt σ H fun b H1 => if b = true then ts D σ H1 else us D σ H1) : tIfS tt ts us D σ H := h
theorem g_for {wi : TI} {g : TG} {tb : TS} (h : wi σ H fun J H1 => ∃ W : Nat → Nat → St → Hp → Prop, (∃ m, W 0 m σ H1) ∧ ∀ i m σ H, W i m σ H →
    (J.stop i H ∧ D.nx σ H) ∨ (J.go i H ∧ ∃ N : St → Hp → Prop, (∀ σ' H', N σ' H' → ∃ m', m' < m ∧ W (i + 1) m' σ' H') ∧ ∀ x H', J.yld i H x H' → g x σ H' fun σ2 H2 => tb { D with nx := N, ct := N, bk := D.nx } σ2 H2)) : tFor wi g tb D σ H := h
theorem g_iT {c : Bool} {A B : Prop} (e : c = true) (h : A) : if c = true then A else B := by rw [if_pos e]; exact h
theorem g_iF {c : Bool} {A B : Prop} (e : c = false) (h : B) : if c = true then A else B := by rw [e]; exact iteF h
theorem g_ite {p A B : Prop} [Decidable p] (h1 : p → A) (h2 : ¬ p → B) : if decide p = true then A else B := by
  by_cases h : p
  · rw [decide_eq_true h]; exact iteT (h1 h)
  · rw [decide_eq_false h]; exact iteF (h2 h)
theorem g_iteN {p A B : Prop} [Decidable p] (h1 : ¬ p → A) (h2 : p → B) : if (!decide p) = true then A else B := by
  by_cases h : p
  · rw [decide_eq_true h]; exact iteF (h2 h)
  · rw [decide_eq_false h]; exact iteT (h1 h)
theorem g_iteB {b : Bool} {A B : Prop} (h1 : b = true → A) (h2 : b = false → B) : if b = true then A else B := by
  cases b with
  | true => exact iteT (h1 rfl)
  | false => exact iteF (h2 rfl)
theorem g_iteNB {b : Bool} {A B : Prop} (h1 : b = false → A) (h2 : b = true → B) : if (!b) = true then A else B := by
  cases b with
  | true => exact iteF (h2 rfl)
  | false => exact iteT (h1 rfl)
/-! calls of built-ins, by values -/
theorem g_int1 {A : Int → Prop} {B : Bool → Prop} (q : A i) : (∃ i', [V.int i] = [V.int i'] ∧ A i') ∨ ∃ k, [V.int i] = [V.bl k] ∧ B k := .inl ⟨i, rfl, q⟩
theorem g_int1B {b : Bool} {A : Int → Prop} {B : Bool → Prop} (q : B b) : (∃ i', [V.bl b] = [V.int i'] ∧ A i') ∨ ∃ k, [V.bl b] = [V.bl k] ∧ B k := .inr ⟨b, rfl, q⟩
theorem g_one {A : Int → Prop} (q : A i) : ∃ i', [V.int i] = [V.int i'] ∧ A i' := ⟨i, rfl, q⟩
theorem g_two {A : Int → Int → Prop} (q : A i j) : ∃ i' j', [V.int i, V.int j] = [V.int i', V.int j'] ∧ A i' j' := ⟨i, j, rfl, q⟩
theorem g_isi {c : V} {t u : Value} {b : Bool} (hc : ClsV c u) (ht : TyX K H x t) (e : PySem.W.kitOne K t u = some b) (q : Q (.bl b) H) : rIsi K [x, c] H Q := ⟨x, c, t, u, b, rfl, hc, ht, e, q⟩
theorem g_isiI (q : Q (.bl true) H) : rIsi K [.int i, .ty "int"] H Q := g_isi (.ty _) (.base (.int _)) (kit_ty (by decide +kernel)) q
theorem g_isiB {b : Bool} (q : Q (.bl true) H) : rIsi K [.bl b, .ty "bool"] H Q := g_isi (.ty _) (.base (.bl _)) (kit_ty (by decide +kernel)) q
theorem g_isiIB (q : Q (.bl false) H) : rIsi K [.int i, .ty "bool"] H Q := g_isi (.ty _) (.base (.int _)) (kit_ty (by decide +kernel)) q
theorem g_isiL {p : Addr} {xs : List V} (h : H p = some (.lst xs)) (q : Q (.bl true) H) : rIsi K [.ref p, .ty "list"] H Q := g_isi (.ty _) (.base (.lst h)) (kit_ty (by decide +kernel)) q
theorem g_isiU {p : Addr} {xs : List V} (h : H p = some (.tup xs)) (q : Q (.bl true) H) : rIsi K [.ref p, .ty "tuple"] H Q := g_isi (.ty _) (.base (.tup h)) (kit_ty (by decide +kernel)) q
theorem g_ixL {p : Addr} {xs : List V} (h : SqL K H p xs) (e : atI xs i = some v) (q : Q v H) : rIxL K (.ref p) (.int i) H Q := ⟨p, xs, i, v, rfl, rfl, h, e, q⟩
theorem g_ixT {p : Addr} {xs : List V} (h : SqT K H p xs) (e : atI xs i = some v) (q : Q v H) : rIxT K (.ref p) (.int i) H Q := ⟨p, xs, i, v, rfl, rfl, h, e, q⟩
theorem g_append {p : Addr} {xs : List V} (h : H p = some (.lst xs)) (l : xs.length < sizeLine) (q : Q .non (upd H p (.lst (xs ++ [y])))) : rAppend (.ref p) [y] H Q := ⟨p, xs, y, rfl, rfl, h, l, q⟩
theorem g_BM {T : String} {r : V → List V → Hp → VK → Prop} {t : TA} (h : te σ H fun x H1 => tyV K T x H1 ∧ t σ H1 fun xs H2 => r x xs H2 Q) : tBM K T r te t σ H Q := h
theorem g_BM0 {T : String} {r : V → List V → Hp → VK → Prop} (h : te σ H fun x H1 => tyV K T x H1 ∧ r x [] H1 Q) : tBM0 K T r te σ H Q := h
theorem ty_l {p : Addr} {xs : List V} (h : H p = some (.lst xs)) : tyV K "list" (.ref p) H := Or.inl ⟨rfl, _, Or.inl (Or.inl h)⟩
theorem g_setL {p : Addr} {xs : List V} {k : Int} {j : Nat} {A : Hp → Prop} (h : H p = some (.lst xs)) (e : ixN xs.length k = some j) (q : A (upd H p (.lst (xs.set j v)))) : rSetL (.ref p) (.int k) v H A := ⟨p, xs, k, j, rfl, rfl, h, e, q⟩
theorem g_sub {to ti : TE} {t : TSet} {A : St → Hp → Prop} (h : to σ H fun o H1 => ti σ H1 fun i H2 => t o i v H2 fun H3 => A σ H3) : gSub to ti t v σ H A := h
theorem g_len {p : Addr} {xs : List V} {A : Addr → List V → Prop} (h : SqL K H p xs ∨ SqT K H p xs) (q : A p xs) : ∃ p' ys, [V.ref p] = [V.ref p'] ∧ (SqL K H p' ys ∨ SqT K H p' ys) ∧ A p' ys := ⟨p, xs, rfl, h, q⟩
theorem g_slL {p : Addr} {xs : List V} {lo hi : Option Int} (h : SqL K H p xs) (q : ∀ l, H l = none → Q (.ref l) (upd H l (.lst (cutV xs lo hi)))) : rSlL K (.ref p) lo hi H Q := ⟨p, xs, rfl, h, q⟩
theorem g_cat {p q : Addr} {xs ys : List V} (h : H p = some (.lst xs)) (h2 : H q = some (.lst ys)) (l : xs.length + ys.length ≤ sizeLine) (k : ∀ l, H l = none → Q (.ref l) (upd H l (.lst (xs ++ ys)))) : rCat (.ref p) (.ref q) H Q := ⟨p, q, xs, ys, rfl, rfl, h, h2, l, k⟩
end
/-! ### heaps -/
theorem same_upd {H : Hp} {p : Addr} {o : HO} (h : H p = none) : Same H (upd H p o) := fun b x e => by
  rw [upd_ne (ne_of_none e h)]
  exact e
theorem sm {H H' : Hp} {p : Addr} {o : HO} (s : Same H H') (h : H p = some o) : H' p = some o := s p o h
theorem sq_upd {K : PySem.W.Frag} {H : Hp} {p a : Addr} {o : HO} {xs : List V} (n : H p = none) (h : SqL K H a xs) : SqL K (upd H p o) a xs := (same_upd n).seq h
theorem sl {K : PySem.W.Frag} {H : Hp} {a : Addr} {xs : List V} (h : H a = some (.lst xs)) : SqL K H a xs := Or.inl (Or.inl h)
theorem st {K : PySem.W.Frag} {H : Hp} {a : Addr} {xs : List V} (h : H a = some (.tup xs)) : SqT K H a xs := Or.inl (Or.inl h)
theorem Same.sqt {K : PySem.W.Frag} {H H' : Hp} {a : Addr} {xs : List V} (e : Same H H') (h : SqT K H a xs) : SqT K H' a xs := by
  rcases h with (h | ⟨o, h⟩) | h
  · exact .inl (.inl (e _ _ h))
  · exact .inl (.inr ⟨o, e _ _ h⟩)
  · exact .inr h
theorem upd_keep {H : Hp} {p b : Addr} {o o' : HO} (n : H p = none) (h : H b = some o') : upd H p o b = some o' := (same_upd n) b o' h
theorem ne_new {H : Hp} {p b : Addr} {o : HO} (h : H b = some o) (n : H p = none) : b ≠ p := ne_of_none h n
/-- H' is H but at p -/
def But (p : Addr) (H H' : Hp) : Prop := ∀ b o, b ≠ p → H b = some o → H' b = some o
theorem But.refl {p : Addr} {H : Hp} : But p H H := fun _ _ _ h => h
theorem But.of {p : Addr} {H H' : Hp} (s : Same H H') : But p H H' := fun b o _ h => s b o h
theorem But.trans {p : Addr} {H H1 H2 : Hp} (a : But p H H1) (b : But p H1 H2) : But p H H2 := fun c o n h => b c o n (a c o n h)
theorem But.upd {p : Addr} {H H' : Hp} {o : HO} (a : But p H H') : But p H (upd H' p o) := fun b o n h => by rw [upd_ne n]; exact a b o n h
theorem But.same {p : Addr} {H H' : Hp} (a : But p H H') (n : H p = none) : Same H H' := fun b o h => a b o (ne_of_none h n) h
theorem But.tr2 {p : Addr} {H H1 H2 : Hp} (s : Same H H1) (n : H p = none) (a : But p H1 H2) : Same H H2 := fun b o h => a b o (ne_of_none h n) (s b o h)
/-! ### numbers -/
theorem cdivW {a b : Int} (h : 0 < b) (h2 : b < 2 ^ 8000) : CDivW a b := by
  refine ⟨h, ?_⟩
  have e : b.natAbs < 2 ^ 8000 := by
    have : ((b.natAbs : Nat) : Int) < ((2 ^ 8000 : Nat) : Int) := by
      rw [Int.natAbs_of_nonneg (Int.le_of_lt h)]
      exact_mod_cast h2
    exact_mod_cast this
  by_cases z : b.natAbs = 0
  · rw [z]; decide
  · exact Nat.lt_of_lt_of_le (Nat.log2_lt z |>.mpr e) (by decide)
theorem sz {n : Nat} (h : n ≤ 100000) : n ≤ sizeLine := Nat.le_trans h (by decide)
theorem szl {n : Nat} (h : n < 100000) : n < sizeLine := Nat.lt_of_lt_of_le h (by decide)
/-! ### loops -/
theorem for_l {K : PySem.W.Frag} {tl : TE} {g : TG} {tb : TS} {D : Ends} {σ : St} {H : Hp} {a : Addr} {xs : List V} (Pv : Nat → St → Hp → Prop) (hs : SqL K H a xs) (h0 : Pv 0 σ H) (hl : ∀ i σ H, i ≤ xs.length → Pv i σ H → SqL K H a xs)
    (turn : ∀ i x σ H, xs[i]? = some x → Pv i σ H → g x σ H fun σ2 H2 => tb { D with nx := Pv (i + 1), ct := Pv (i + 1), bk := D.nx } σ2 H2) (hd : ∀ σ H, Pv xs.length σ H → D.nx σ H) (e : ∀ R : V → Hp → Prop, R (.ref a) H → tl σ H R) : tFor (iList K tl) g tb D σ H := by
  refine g_for ?_
  refine e _ ⟨a, rfl, ⟨_, hs⟩, ?_⟩
  exact for_list (xs := xs) Pv h0 hl turn hd
theorem for_r {ta : TA} {g : TG} {tb : TS} {D : Ends} {σ : St} {H : Hp} {n : Int} (N : Nat) (en : n.toNat = N) (b1 : -(2 ^ 62) ≤ n) (b2 : n < 2 ^ 62) (Pv : Nat → St → Hp → Prop) (h0 : Pv 0 σ H)
    (turn : ∀ (i : Nat) σ H, i < N → Pv i σ H → g (.int (i : Int)) σ H fun σ2 H2 => tb { D with nx := Pv (i + 1), ct := Pv (i + 1), bk := D.nx } σ2 H2) (hd : ∀ σ H, Pv N σ H → D.nx σ H) (e : ∀ R : List V → Hp → Prop, R [.int n] H → ta σ H R) : tFor (iRng1 ta) g tb D σ H := by
  subst en
  refine g_for ?_
  refine e _ ⟨n, rfl, b1, b2, ?_⟩
  refine for_range (lo := 0) Pv h0 (fun i σ H hi p => ?_) hd
  have z := turn i σ H hi p
  rw [Int.zero_add]
  exact z
theorem g_nx {nx : St → Hp → Prop} {rt : VK} {bk ct : St → Hp → Prop} {σ : St} {H : Hp} (q : nx σ H) : (Ends.mk nx rt bk ct).nx σ H := q
theorem g_bkE {nx : St → Hp → Prop} {rt : VK} {bk ct : St → Hp → Prop} {σ : St} {H : Hp} (q : bk σ H) : (Ends.mk nx rt bk ct).bk σ H := q
theorem g_ctE {nx : St → Hp → Prop} {rt : VK} {bk ct : St → Hp → Prop} {σ : St} {H : Hp} (q : ct σ H) : (Ends.mk nx rt bk ct).ct σ H := q
theorem g_rt {nx : St → Hp → Prop} {rt : VK} {bk ct : St → Hp → Prop} {v : V} {H : Hp} (q : rt v H) : (Ends.mk nx rt bk ct).rt v H := q
/-- a cell of the script -/
def cell (ns : List Int) (k : Int) : Int := ns.getD k.toNat 0
theorem atI_map {ns : List Int} {k : Int} (h0 : 0 ≤ k) (h : k < (ns.length : Int)) : atI (ns.map V.int) k = some (.int (cell ns k)) := by
  have e : k = ((k.toNat : Nat) : Int) := by omega
  have hl : k.toNat < ns.length := by omega
  have e2 : cell ns k = ns[k.toNat] := by
    unfold cell
    rw [List.getD_eq_getElem?_getD, List.getElem?_eq_getElem hl]; rfl
  rw [e2]
  refine at_of e ?_
  rw [List.getElem?_map, List.getElem?_eq_getElem hl]; rfl
theorem cell_out {ns : List Int} {k : Int} (h : ¬ k < (ns.length : Int)) : cell ns k = 0 := by
  unfold cell
  rw [List.getD_eq_getElem?_getD, List.getElem?_eq_none (by omega)]; rfl
theorem atI_some {xs : List V} {i : Int} (h0 : 0 ≤ i) (h : i < (xs.length : Int)) : ∃ v, xs[i.toNat]? = some v ∧ atI xs i = some v := by
  have hl : i.toNat < xs.length := by omega
  exact ⟨xs[i.toNat], List.getElem?_eq_getElem hl, at_of (by omega) (List.getElem?_eq_getElem hl)⟩
theorem atI_ints {xs : List Int} {i : Int} (h0 : 0 ≤ i) (h : i < (xs.length : Int)) : ∃ n, atI (xs.map V.int) i = some (.int n) ∧ xs[i.toNat]? = some n := by
  have hl : i.toNat < xs.length := by omega
  refine ⟨xs[i.toNat], at_of (j := i.toNat) (by omega) ?_, List.getElem?_eq_getElem hl⟩
  rw [List.getElem?_map, List.getElem?_eq_getElem hl]; rfl
theorem g_dT {p A B : Prop} [Decidable p] (h : p) (q : A) : if decide p = true then A else B := by rw [decide_eq_true h]; exact iteT q
theorem g_dF {p A B : Prop} [Decidable p] (h : ¬ p) (q : B) : if decide p = true then A else B := by rw [decide_eq_false h]; exact iteF q
theorem g_nT {p A B : Prop} [Decidable p] (h : ¬ p) (q : A) : if (!decide p) = true then A else B := by rw [decide_eq_false h]; exact iteT q
theorem g_nF {p A B : Prop} [Decidable p] (h : p) (q : B) : if (!decide p) = true then A else B := by rw [decide_eq_true h]; exact iteF q
/-! ### comprehensions: the list ys, value by value -/
theorem g_yes {σ : St} {H : Hp} {P : Bool → Hp → Prop} (q : P true H) : tYes σ H P := q
theorem g_lc {wi : TI} {g : TG} {tt : TT} {te : TE} {vs : List Nat} {σ : St} {H : Hp} {Q : VK} (h : wi σ H fun J H1 => ∀ D, H1 D = none → ∃ W : Nat → Nat → Hp → Prop, (∃ m, W 0 m (upd H1 D (.lst []))) ∧ ∀ i m H, W i m H →
  (J.stop i H ∧ Q (.ref D) H) ∨ (J.go i H ∧ ∃ Nx : Hp → Prop, (∀ H', Nx H' → ∃ m', m' < m ∧ W (i + 1) m' H') ∧ ∀ x H', J.yld i H x H' → g x (wipe σ vs) H' fun σ2 H2 => wipe σ2 vs = wipe σ vs ∧ tt σ2 H2 fun b H3 =>
    if b = true then te σ2 H3 fun y H4 => ∃ acc, H4 D = some (.lst acc) ∧ acc.length < sizeLine ∧ Nx (upd H4 D (.lst (acc ++ [y]))) else Nx H3)) : tLc wi g tt te vs σ H Q := h
theorem g_revR {ta : TE} {σ : St} {H : Hp} {R : It → Hp → Prop} (h : ta σ H fun x H1 => ∃ n : Int, x = .int n ∧ -(2 ^ 62) ≤ (0 : Int) ∧ (0 : Int) < 2 ^ 62 ∧ -(2 ^ 62) ≤ n ∧ n < 2 ^ 62 ∧ R (Itc (0 + (((n - 0).toNat : Nat) : Int) - 1) (-1) (n - 0).toNat) H1) : iRevR (tRg1 ta) σ H R := h
theorem g_rng1 {ta : TA} {σ : St} {H : Hp} {R : It → Hp → Prop} (h : ta σ H fun vs H1 => ∃ j : Int, vs = [.int j] ∧ -(2 ^ 62) ≤ j ∧ j < 2 ^ 62 ∧ R (Itr 0 j.toNat) H1) : iRng1 ta σ H R := h
theorem g_iList {K : PySem.W.Frag} {tl : TE} {σ : St} {H : Hp} {R : It → Hp → Prop} (h : tl σ H fun x H1 => ∃ a, x = .ref a ∧ (∃ xs, SqL K H1 a xs) ∧ R (Itl K a) H1) : iList K tl σ H R := h
def LcP (H1 : Hp) (D : Addr) (ys : List V) (i : Nat) (H : Hp) : Prop := Same H1 H ∧ H D = some (.lst (ys.take i))
theorem lc_vals {J : It} {n : Nat} {G : Hp → Prop} {Y : Nat → Hp → V → Hp → Prop} (w : Walk J n G Y) (ys : List V) {g : TG} {tt : TT} {te : TE} {vs : List Nat} {σ : St} {H1 : Hp} {D : Addr} {Qd : Hp → Prop} (hD : H1 D = none) (hlen : ys.length = n) (hG : ∀ H, Same H1 H → G H)
    (hs : ∀ i x H H', i < n → LcP H1 D ys i H → Y i H x H' → g x (wipe σ vs) H' fun σ2 H2 => wipe σ2 vs = wipe σ vs ∧ tt σ2 H2 fun b H3 =>
      if b = true then te σ2 H3 fun y H4 => ∃ acc, H4 D = some (.lst acc) ∧ acc.length < sizeLine ∧ LcP H1 D ys (i + 1) (upd H4 D (.lst (acc ++ [y]))) else LcP H1 D ys (i + 1) H3)
    (hd : ∀ H, Same H1 H → H D = some (.lst ys) → Qd H) :
    ∃ W : Nat → Nat → Hp → Prop, (∃ m, W 0 m (upd H1 D (.lst []))) ∧ ∀ i m H, W i m H →
      (J.stop i H ∧ Qd H) ∨ (J.go i H ∧ ∃ Nx : Hp → Prop, (∀ H', Nx H' → ∃ m', m' < m ∧ W (i + 1) m' H') ∧ ∀ x H', J.yld i H x H' → g x (wipe σ vs) H' fun σ2 H2 => wipe σ2 vs = wipe σ vs ∧ tt σ2 H2 fun b H3 =>
        if b = true then te σ2 H3 fun y H4 => ∃ acc, H4 D = some (.lst acc) ∧ acc.length < sizeLine ∧ Nx (upd H4 D (.lst (acc ++ [y]))) else Nx H3) := by
  refine lc_it w (LcP H1 D ys) ⟨same_upd hD, by rw [upd_same]; rfl⟩ (fun i H _ p => hG H p.1) hs (fun H p => hd H p.1 ?_)
  have e := p.2
  rw [← hlen, List.take_length] at e
  exact e
theorem lc_next {H1 H4 : Hp} {D : Addr} {ys : List V} {i : Nat} {y : V} (hD : H1 D = none) (p : LcP H1 D ys i H4) (hz : ys.length ≤ 100000) (hy : ys[i]? = some y) :
    ∃ acc, H4 D = some (.lst acc) ∧ acc.length < sizeLine ∧ LcP H1 D ys (i + 1) (upd H4 D (.lst (acc ++ [y]))) := by
  refine ⟨_, p.2, ?_, ?_, ?_⟩
  · rw [List.length_take]
    obtain ⟨h, _⟩ := List.getElem?_eq_some_iff.mp hy
    exact szl (by omega)
  · exact (But.of p.1).upd.same hD
  · rw [upd_same, List.take_add_one, hy]
    rfl
theorem LcP.same {H1 H4 H5 : Hp} {D : Addr} {ys : List V} {i : Nat} (p : LcP H1 D ys i H4) (s : Same H4 H5) : LcP H1 D ys i H5 := ⟨p.1.trans s, s _ _ p.2⟩
theorem map_get {α : Type} {f : α → V} {xs : List α} {i : Nat} {y : V} (h : (xs.map f)[i]? = some y) : ∃ z, xs[i]? = some z ∧ y = f z := by
  rw [List.getElem?_map] at h
  cases e : xs[i]? with
  | none => rw [e] at h; cases h
  | some z => rw [e] at h; exact ⟨z, rfl, (Option.some.inj h).symm⟩
/-! ### == of lists of ints -/
section
variable {K : PySem.W.Frag} {H : Hp} {Q : VK}
theorem dpAll_ints : ∀ {ns : List Int}, DpAll K H (ns.map V.int) (ns.map PyData.int)
  | [] => .nil
  | n :: _ => .cons (.int n) dpAll_ints
theorem lay_ints : ∀ {ns : List Int}, PyData.canLayAll0 (ns.map PyData.int) = true
  | [] => rfl
  | _ :: ns => by
    show (true && PyData.canLayAll0 (ns.map PyData.int)) = true
    rw [lay_ints]; rfl
theorem depth_ints : ∀ {ns : List Int}, PyData.depthAll (ns.map PyData.int) = 0
  | [] => rfl
  | _ :: ns => by
    show max 0 (PyData.depthAll (ns.map PyData.int)) = 0
    rw [depth_ints]; rfl
theorem shaped_ints {ns : List Int} : SeqAt.shaped (.list (ns.map PyData.int)) = true := by
  show (PyData.canLayAll0 (ns.map PyData.int) && decide (PyData.depthAll (ns.map PyData.int) + 1 ≤ 64)) = true
  rw [lay_ints, depth_ints]; rfl
theorem eqvAll_ints : ∀ {ns ms : List Int}, PyData.eqvAll (ns.map PyData.int) (ms.map PyData.int) = decide (ns = ms)
  | [], [] => rfl
  | [], _ :: _ => rfl
  | _ :: _, [] => rfl
  | n :: ns, m :: ms => by
    show ((n == m) && PyData.eqvAll (ns.map PyData.int) (ms.map PyData.int)) = decide (n :: ns = m :: ms)
    rw [eqvAll_ints, Bool.eq_iff_iff]
    simp
theorem dp_ints {a : Addr} {ns : List Int} (h : SqL K H a (ns.map V.int)) : Dp K H (.ref a) (.list (ns.map PyData.int)) := .lst h dpAll_ints
theorem g_eqL {a b : Addr} {ns ms : List Int} (h1 : SqL K H a (ns.map V.int)) (h2 : SqL K H b (ms.map V.int)) (q : Q (.bl (decide (ns = ms))) H) : rEqD K (.ref a) (.ref b) H Q :=
  ⟨_, _, dp_ints h1, dp_ints h2, shaped_ints, shaped_ints, by rw [show PyData.eqv (.list (ns.map PyData.int)) (.list (ms.map PyData.int)) = decide (ns = ms) from eqvAll_ints]; exact q⟩
theorem g_neL {a b : Addr} {ns ms : List Int} (h1 : SqL K H a (ns.map V.int)) (h2 : SqL K H b (ms.map V.int)) (q : Q (.bl (!decide (ns = ms))) H) : rNeD K (.ref a) (.ref b) H Q :=
  ⟨_, _, dp_ints h1, dp_ints h2, shaped_ints, shaped_ints, by rw [show PyData.eqv (.list (ns.map PyData.int)) (.list (ms.map PyData.int)) = decide (ns = ms) from eqvAll_ints]; exact q⟩
theorem g_sum {a : Addr} {ns : List Int} (h : SqL K H a (ns.map V.int)) (q : Q (.int ns.sum) H) : rSum K [.ref a] H Q := ⟨a, ns, rfl, h, q⟩
end
theorem ixN_nat {n : Nat} {k : Int} (h0 : 0 ≤ k) (h : k < (n : Int)) : ixN n k = some k.toNat := by
  unfold ixN
  rw [if_pos h0, if_pos h]
theorem g_ref {a : Addr} {A : Addr → Prop} (q : A a) : ∃ b, V.ref a = .ref b ∧ A b := ⟨a, rfl, q⟩
/-! ### objects: the attributes by their places -/
def obj : List Str → List V → List (Str × V)
  | k :: ks, v :: vs => (k, v) :: obj ks vs
  | _, _ => []
theorem obj_len : ∀ (ks : List Str) (vs : List V), (obj ks vs).length ≤ ks.length
  | [], _ => Nat.zero_le _
  | _ :: _, [] => Nat.zero_le _
  | _ :: ks, _ :: vs => Nat.succ_le_succ (obj_len ks vs)
theorem obj_get : ∀ {ks : List Str} {vs : List V} {i : Nat} {k : Str}, ks.Nodup → ks[i]? = some k → (obj ks vs).lookup k = vs[i]?
  | [], _, _, _, _, h => by cases h
  | k0 :: ks, [], i, k, _, _ => by simp [obj]
  | k0 :: ks, v :: vs, 0, k, _, h => by
    have e : k0 = k := Option.some.inj h
    subst e
    simp [obj]
  | k0 :: ks, v :: vs, i + 1, k, nd, h => by
    have nd' := List.nodup_cons.mp nd
    have hk : k ∈ ks := List.mem_of_getElem? h
    have ne : (k == k0) = false := by
      rw [beq_eq_false_iff_ne]
      intro e
      subst e
      exact nd'.1 hk
    show List.lookup k ((k0, v) :: obj ks vs) = vs[i]?
    rw [List.lookup_cons, ne]
    exact obj_get nd'.2 h
theorem obj_none : ∀ {ks : List Str} {vs : List V} {k : Str}, k ∉ ks → (obj ks vs).lookup k = none
  | [], _, _, _ => rfl
  | _ :: _, [], _, _ => rfl
  | k0 :: ks, v :: vs, k, h => by
    have ne : (k == k0) = false := by
      rw [beq_eq_false_iff_ne]
      intro e
      subst e
      exact h (List.mem_cons_self ..)
    show List.lookup k ((k0, v) :: obj ks vs) = none
    rw [List.lookup_cons, ne]
    exact obj_none fun z => h (List.mem_cons_of_mem _ z)
theorem obj_put : ∀ {ks : List Str} {vs : List V} {i : Nat} {k : Str} {y : V}, ks.Nodup → ks[i]? = some k → i < vs.length → putF k y (obj ks vs) = obj ks (vs.set i y)
  | [], _, _, _, _, _, h, _ => by cases h
  | _ :: _, [], _, _, _, _, _, h => by simp at h
  | k0 :: ks, v :: vs, 0, k, y, _, h, _ => by
    have e : k0 = k := Option.some.inj h
    subst e
    show (if k0 = k0 then _ else _) = _
    rw [if_pos rfl]
    rfl
  | k0 :: ks, v :: vs, i + 1, k, y, nd, h, hl => by
    have nd' := List.nodup_cons.mp nd
    have hk : k ∈ ks := List.mem_of_getElem? h
    have ne : ¬ k0 = k := by
      intro e
      subst e
      exact nd'.1 hk
    show (if k0 = k then _ else (k0, v) :: putF k y (obj ks vs)) = (k0, v) :: obj ks (vs.set i y)
    rw [if_neg ne, obj_put nd'.2 h (by simpa using hl)]
theorem obj_new : ∀ {ks : List Str} {vs : List V} {k : Str} {y : V}, ks.Nodup → ks[vs.length]? = some k → putF k y (obj ks vs) = obj ks (vs ++ [y])
  | [], _, _, _, _, h => by simp at h
  | k0 :: ks, [], k, y, _, h => by
    have e : k0 = k := Option.some.inj h
    subst e
    show [(k0, y)] = obj (k0 :: ks) [y]
    cases ks <;> rfl
  | k0 :: ks, v :: vs, k, y, nd, h => by
    have nd' := List.nodup_cons.mp nd
    have h' : ks[vs.length]? = some k := h
    have hk : k ∈ ks := List.mem_of_getElem? h'
    have ne : ¬ k0 = k := by
      intro e
      subst e
      exact nd'.1 hk
    show (if k0 = k then _ else (k0, v) :: putF k y (obj ks vs)) = (k0, v) :: obj ks (vs ++ [y])
    rw [if_neg ne, obj_new nd'.2 h']
section
variable {K : PySem.W.Frag} {σ : St} {H : Hp} {Q : VK} {v y : V} {ta tv : TE} {D : Ends} {f m : Str} {a C dx : Addr} {ks : List Str} {vs : List V} {i : Nat}
theorem g_fld (h : ta σ H fun x H1 => ∃ a C dx fs v, x = .ref a ∧ H1 a = some (.ins C dx fs) ∧ Cls K C ∧ NoAttr K C f ∧ fs.lookup f = some v ∧ Q v H1) : tFld K ta f σ H Q := h
theorem g_fldE {A : V → Prop} (ho : H a = some (.ins C dx (obj ks vs))) (c : Cls K C) (n : NoAttr K C f) (nd : ks.Nodup) (hk : ks[i]? = some f) (hv : vs[i]? = some v) (q : A v) :
    ∃ a' C' dx' fs v', V.ref a = .ref a' ∧ H a' = some (.ins C' dx' fs) ∧ Cls K C' ∧ NoAttr K C' f ∧ fs.lookup f = some v' ∧ A v' := ⟨a, C, dx, _, v, rfl, ho, c, n, (obj_get nd hk).trans hv, q⟩
theorem g_sfld (h : tv σ H fun y H1 => ta σ H1 fun x H2 => ∃ a C dx fs, x = .ref a ∧ H2 a = some (.ins C dx fs) ∧ Cls K C ∧ NoAttr K C f ∧ fs.length < 1000 ∧ D.nx σ (upd H2 a (.ins C dx (putF f y fs)))) : sFld K ta tv f D σ H := h
theorem g_putE {A : Hp → Prop} (ho : H a = some (.ins C dx (obj ks vs))) (c : Cls K C) (n : NoAttr K C f) (nd : ks.Nodup) (h1 : ks.length < 1000) (hk : ks[i]? = some f) (hv : i < vs.length) (q : A (upd H a (.ins C dx (obj ks (vs.set i y))))) :
    ∃ a' C' dx' fs, V.ref a = .ref a' ∧ H a' = some (.ins C' dx' fs) ∧ Cls K C' ∧ NoAttr K C' f ∧ fs.length < 1000 ∧ A (upd H a' (.ins C' dx' (putF f y fs))) :=
  ⟨a, C, dx, _, rfl, ho, c, n, Nat.lt_of_le_of_lt (obj_len ks vs) h1, by rw [obj_put nd hk hv]; exact q⟩
theorem g_newE {A : Hp → Prop} (ho : H a = some (.ins C dx (obj ks vs))) (c : Cls K C) (n : NoAttr K C f) (nd : ks.Nodup) (h1 : ks.length < 1000) (hk : ks[vs.length]? = some f) (q : A (upd H a (.ins C dx (obj ks (vs ++ [y]))))) :
    ∃ a' C' dx' fs, V.ref a = .ref a' ∧ H a' = some (.ins C' dx' fs) ∧ Cls K C' ∧ NoAttr K C' f ∧ fs.length < 1000 ∧ A (upd H a' (.ins C' dx' (putF f y fs))) :=
  ⟨a, C, dx, _, rfl, ho, c, n, Nat.lt_of_le_of_lt (obj_len ks vs) h1, by rw [obj_new nd hk]; exact q⟩
theorem g_meth {sp : Sp} {dvs : List V} {E : XK} {t : TA} (h : ta σ H fun x H1 => ∃ a dx fs, x = .ref a ∧ H1 a = some (.ins C dx fs) ∧ fs.lookup m = none ∧ t σ H1 fun vs H2 => sp (x :: (vs ++ dvs)) H2 Q E) : tMeth C m sp dvs E ta t σ H Q := h
theorem g_methE {A : Prop} (ho : H a = some (.ins C dx (obj ks vs))) (no : m ∉ ks) (q : A) : ∃ a' dx' fs, V.ref a = .ref a' ∧ H a' = some (.ins C dx' fs) ∧ fs.lookup m = none ∧ A := ⟨a, dx, _, rfl, ho, obj_none no, q⟩
theorem g_make {sp : Sp} {dvs : List V} {E : XK} {t : TA} (h : t σ H fun vs H1 => ∀ x dx, H1 x = none → H1 dx = none → dx ≠ x → sp (.ref x :: (vs ++ dvs)) (upd (upd H1 dx (.own x)) x (.ins C dx [])) (fun v H2 => v = .non ∧ Q (.ref x) H2) E) : tMake C sp dvs E t σ H Q := h
theorem g_prop {sp : Sp} {dvs : List V} {E : XK} (h : ta σ H fun x H1 => ∃ a dx fs, x = .ref a ∧ H1 a = some (.ins C dx fs) ∧ sp (.ref a :: dvs) H1 Q E) : tProp C sp dvs E ta σ H Q := h
theorem g_propE {A : Addr → Prop} (ho : H a = some (.ins C dx (obj ks vs))) (q : A a) : ∃ a' dx' fs, V.ref a = .ref a' ∧ H a' = some (.ins C dx' fs) ∧ A a' := ⟨a, dx, _, rfl, ho, q⟩
theorem g_absE {A : Int → Prop} {n : Int} (q : A n) : ∃ i, [V.int n] = [V.int i] ∧ A i := ⟨n, rfl, q⟩
end
/-- a slice of ints -/
theorem cut_ints (ns : List Int) (lo hi : Option Int) : ∃ ms : List Int, cutV (ns.map V.int) lo hi = ms.map V.int ∧ ms.length ≤ ns.length := by
  unfold cutV
  refine ⟨(ns.drop (HT.sIx (ns.map V.int).length 0 lo)).take (HT.sIx (ns.map V.int).length (ns.map V.int).length hi - HT.sIx (ns.map V.int).length 0 lo), ?_, ?_⟩
  · rw [List.map_take, List.map_drop]
  · rw [List.length_take, List.length_drop]
    omega
theorem g_nameE {i : Nat} {v : V} {σ σ' : St} {H : Hp} {A : St → Hp → Prop} (e : σ.set i (some v) = σ') (q : A σ' H) : gName i v σ H A := by
  subst e
  exact q
theorem but_sq {K : PySem.W.Frag} {p : Addr} {H H' : Hp} {a : Addr} {xs : List V} (e : But p H H') (n : a ≠ p) (h : SqL K H a xs) : SqL K H' a xs := by
  rcases h with (h | ⟨o, h⟩) | h
  · exact .inl (.inl (e _ _ n h))
  · exact .inl (.inr ⟨o, e _ _ n h⟩)
  · exact .inr h
theorem g_star {K : PySem.W.Frag} {te : TE} {t : TA} {σ : St} {H : Hp} {Q : List V → Hp → Prop} (h : te σ H fun x H1 => ∃ p xs, x = V.ref p ∧ (SqT K H1 p xs ∨ SqL K H1 p xs) ∧ t σ H1 fun ys H2 => Q (xs ++ ys) H2) : StX.tStar K te t σ H Q := h
theorem g_while {c : TT} {tb : TS} {D : Ends} {σ : St} {H : Hp} (W : Nat → St → Hp → Prop) (h0 : ∃ m, W m σ H) (h : ∀ m σ H, W m σ H → c σ H fun b H1 => if b = true then ∃ N : St → Hp → Prop, (∀ σ' H', N σ' H' → ∃ m', m' < m ∧ W m' σ' H') ∧ tb { D with nx := N, ct := N, bk := D.nx } σ H1 else D.nx σ H1) : tWhile c tb D σ H := ⟨W, h0, h⟩
theorem g_cut {t u : TS} {D : Ends} {σ : St} {H : Hp} (Mid : St → Hp → Prop) (h1 : t { D with nx := Mid } σ H) (h2 : ∀ σ' H', Mid σ' H' → u D σ' H') : C8.tCut t u D σ H := ⟨Mid, h1, h2⟩
theorem g_min {K : PySem.W.Frag} {a : Addr} {ns : List Int} {H : Hp} {Q : VK} (h : SqL K H a (ns.map V.int)) (h0 : 0 < ns.length) (q : ∀ m, m ∈ ns → (∀ y, y ∈ ns → m ≤ y) → Q (.int m) H) : rMin K [.ref a] H Q := ⟨a, ns, rfl, h, h0, q⟩
theorem g_max {K : PySem.W.Frag} {a : Addr} {ns : List Int} {H : Hp} {Q : VK} (h : SqL K H a (ns.map V.int)) (h0 : 0 < ns.length) (q : ∀ m, m ∈ ns → (∀ y, y ∈ ns → y ≤ m) → Q (.int m) H) : rMax K [.ref a] H Q := ⟨a, ns, rfl, h, h0, q⟩
theorem atI_nat' {xs : List V} {i : Int} {j : Nat} {v : V} (e : i = (j : Int)) (h : xs[j]? = some v) : atI xs i = some v := at_of e h
theorem ixN_last {n : Nat} (h : 0 < n) : ixN n (-1) = some (n - 1) := by
  unfold ixN
  rw [if_neg (by decide), if_pos (by omega)]
  congr 1
  omega
theorem atI_neg1 {xs : List V} {v : V} (h : xs[xs.length - 1]? = some v) : atI xs (-1) = some v := by
  obtain ⟨hl, _⟩ := List.getElem?_eq_some_iff.mp h
  unfold atI
  rw [ixN_last (by omega)]
  exact h
theorem snoc_of {α : Type} {xs : List α} (h : 0 < xs.length) : ∃ a x, xs = a ++ [x] :=
  ⟨xs.dropLast, xs.getLast (List.ne_nil_of_length_pos h), (List.dropLast_concat_getLast _).symm⟩
theorem set_last {α : Type} {a : List α} {x y : α} : (a ++ [x]).set a.length y = a ++ [y] := by
  rw [List.set_append_right _ _ (Nat.le_refl _), Nat.sub_self]
  rfl
end My
namespace My
open PySem PySem.Spec L2
local macro_rules | `(tactic| walk_at "side") => `(tactic| first | assumption | decide | omega | exact ⟨by decide, by decide⟩ | exact ⟨by decide, by decide, by decide⟩ | decide +kernel | exact cdivW (by decide +kernel) (by decide +kernel) | exact Or.inl ⟨by omega, by omega⟩ | exact Or.inr ⟨by omega, by omega⟩ | (simp only [List.length_map, List.length_cons, List.length_nil, List.length_append]; omega))
local macro_rules | `(tactic| walk_at "fact") => `(tactic| first | assumption | omega | with_reducible rfl)
local macro_rules | `(tactic| walk_at "use") => `(tactic| fail "use")
local macro_rules | `(tactic| walk_at "go1") => `(tactic| with_reducible first | refine g_seq ?_ | refine g_asg ?_ | refine g_ret ?_ | refine g_ifS ?_ | refine g_drop ?_ | refine g_star ?_ | refine g_nx ?_ | refine g_rt ?_ | refine g_bkE ?_ | refine g_ctE ?_ | refine g_next ?_ | refine g_retN ?_ | refine g_brk ?_ | refine g_ct ?_ | refine g_c ?_ | refine g_op ?_ | refine g_un ?_ | refine g_rI0 ?_ | refine g_rU ?_ | refine g_rEqI ?_ | refine g_rNeI ?_ | refine g_isN ?_ | refine g_rIsB ?_ | refine g_rNotB ?_ | refine g_test ?_ | refine g_B ?_ | refine g_bl ?_ | refine g_and ?_ | refine g_or ?_ | refine g_not ?_ | refine g_andV ?_ | refine g_orV ?_ | refine g_notV ?_ | refine g_if ?_ | refine g_chain ?_ | refine g_yes ?_ | refine g_lc ?_ | refine g_revR ?_ | refine g_rng1 ?_ | refine g_iList ?_ | refine g_nil ?_ | refine g_cons ?_ | refine g_tup ?_ | refine g_lst ?_ | refine g_call ?_ | refine g_CB ?_ | refine g_sl ?_ | refine g_noPart ?_ | refine g_part ?_ | refine g_intE ?_ | refine g_ref ?_ | refine g_fld ?_ | refine g_sfld ?_ | refine g_meth ?_ | refine g_make ?_ | refine g_prop ?_  | refine g_ipI ?_ | refine g_int1 ?_ | refine g_int1B ?_ | refine g_one ?_ | refine g_two ?_ | refine g_isiI ?_ | refine g_isiIB ?_ | refine g_isiB ?_ | refine g_BM ?_ | refine g_BM0 ?_ | refine g_sub ?_)
local macro_rules | `(tactic| walk_at "go") => `(tactic| repeat (first | walk_at "go1" | ((with_reducible refine' g_nameE ?sd_ ?_); case sd_ => dsimp only [List.set_cons_succ, List.set_cons_zero]) | ((with_reducible refine' g_var ?sd_ ?_); case sd_ => exact rfl) | ((with_reducible refine' g_aug ?sd_ ?_); case sd_ => exact rfl) | ((with_reducible refine' g_rI ?sd_ ?_); case sd_ => walk_at "side") | ((with_reducible refine' g_dT ?sd_ ?_); case sd_ => walk_at "fact") | ((with_reducible refine' g_dF ?sd_ ?_); case sd_ => walk_at "fact") | ((with_reducible refine' g_nT ?sd_ ?_); case sd_ => walk_at "fact") | ((with_reducible refine' g_nF ?sd_ ?_); case sd_ => walk_at "fact") | (with_reducible refine g_iT rfl ?_) | (with_reducible refine g_iF rfl ?_) | walk_at "use"))
local macro_rules | `(tactic| walk_at "nw") => `(tactic| (generalize zq : upd _ _ _ = Hq; have sq : Same _ Hq := (by rw [← zq]; exact same_upd (by assumption)); have kq := (congrFun zq _).symm.trans upd_same; clear zq))
local macro_rules | `(tactic| walk_at "bt") => `(tactic| (generalize zq : upd _ _ _ = Hq; have bq : But _ _ Hq := (by rw [← zq]; exact But.refl.upd); have kq := (congrFun zq _).symm.trans upd_same; clear zq))
/-! ### a method whose first statement is super().__init__(e, ..) of a plain class -/
structure PSsS (X : Cx) (body : List Stmt) (t : TS) : Prop where
  run : ∀ (b0 : List Stmt) (pins : List (Addr × Obj)) (s : Shared) (σ : L2.St) (H : Hp) (D : Ends), Inv X pins σ H s → t D σ H → PySem.wpAt (model X.prog X.w) X.A (.func b0 X.env) (execs body X.env) (SP X pins D) X.xe s
/-- what of the text such a method must have: f of the class at C, over a base whose __init__ is f2 -/
structure SupK (K : PySem.W.Frag) (P : Program) (f f2 C cda cc : Addr) (fd : FuncData) : Prop where
  fo : ∃ oc od sl, K.lookup f = some ⟨oc, od, .func fd, sl⟩
  code : ∃ ccl cdd ccs vs file tf, K.lookup cda = some ⟨ccl, cdd, .fields vs, ccs⟩ ∧ vs[2]? = some (.str file tf) ∧ ((P.main.file : Str) == file) = true
  cell : ∃ cl cld csl, K.lookup cc = some ⟨cl, cld, .cell (some (.ref C)), csl⟩
  cls : ∃ cd, PySem.W.clsIn K C = some cd
  sub : PySem.W.mroIn K C (.ref C) = some true
  top : (P.main.scope.names.lookup ("super" : Str)).isSome = false
  up : PySem.W.ks_superIn K C C "__init__" = some (some (.ref f2))
  ty : PySem.W.typeIn K (.ref f2) = some (.type "function")
  fn : PySem.W.fnIn K f2 = true
  op : PySem.W.nsIn K cStatics "thirdparty.any" = some none
def tSup (C : Addr) (sp : Sp) (ta : TA) (t : TS) : TS := fun D σ H => ∃ x dx fs, σ[0]? = some (some (.ref x)) ∧ H x = some (.ins C dx fs) ∧ ta σ H fun us H1 => sp (.ref x :: us) H1 (fun _ H2 => t D σ H2) E0
theorem pss_super {X : Cx} {f f2 C cda cc : Addr} {fd fd2 : FuncData} {k : Nat} {ps2 : List Str} {sp2 : Sp} {ta : TA} {t : TS} {pl : Sem Bool} {p0 p1 p2 p3 p4 : Pos} {e : Expr} {es : List Expr} {rest : List Stmt} {ar : Arg} {prm : Arguments}
    (F : SupK X.K X.prog f f2 C cda cc fd) (hfu : X.env.func = some f) (hco : X.env.code = .ref cda) (hcl : X.env.cells.lookup ("__class__" : Str) = some cc) (hmg : X.mg "super" = none) (hks : X.env.kindOf "super" = some .globalImplicit) (hkc : X.env.kindOf "__class__" = some .free)
    (hpar : fd.params = prm) (hp : (prm.posonlyargs ++ prm.args).head? = some ar) (h0 : X.N[0]? = some ar.arg) (hka : X.env.kindOf ar.arg = some .local)
    (F2 : FnOk X.prog X.w X.K X.mg X.base CX0 k f2 fd2 ps2 sp2) (b2 : Binds X.K fd2 ps2 []) (hr : Room k X.A) (ha : PA X (e :: es) ta) (hs : PSs X rest t)
    (hi : interactive X.env = false := by rfl) (hsw : swapsWith (.Call (.Attribute (.Call (.Name "super" p0) [] [] p1) "__init__" p2) (e :: es) [] p3) none p4.line X.env = pure false := by rfl)
    (hst : starEach (e :: es) X.env = (false, eval e X.env) :: starEach es X.env := by rfl) (hpl : (backTo p3 (starEach es X.env)).any (·.1) = false := by rfl)
    (ht : eval (.Call (.Attribute (.Call (.Name "super" p0) [] [] p1) "__init__" p2) (e :: es) [] p3) X.env = (do
      let ov ← attributeBase (.Call (.Name "super" p0) [] [] p1) "__init__" X.env (eval (.Call (.Name "super" p0) [] [] p1) X.env)
      standAt p2.atName
      let (f, first) ← holding [ov] (getMethod ov "__init__" pl)
      callWith p3 f first (backTo p3 (starEach (e :: es) X.env)) []) := by rfl) :
    PSsS X (.Expr (.Call (.Attribute (.Call (.Name "super" p0) [] [] p1) "__init__" p2) (e :: es) [] p3) p4 :: rest) (tSup C sp2 ta t) := by
  refine ⟨fun b0 pins s σ H D I hq => ?_⟩
  obtain ⟨x, dx, fs, hx0, hx, hq⟩ := hq
  obtain ⟨oc, od, sl, hfo⟩ := F.fo
  obtain ⟨ccl, cdd, ccs, cvs, file, tf, hcode, hvs, hfile⟩ := F.code
  obtain ⟨cl, cld, csl, hcell⟩ := F.cell
  obtain ⟨cd, hcd⟩ := F.cls
  have KX : X.K.In s.heap := I.kIn
  obtain ⟨oD, hD1, hD2⟩ : ∃ oD, s.heap.get? C = some oD ∧ oD.data = .cls cd := by
    unfold PySem.W.clsIn at hcd
    split at hcd
    · rename_i c d cd' sl' ho
      cases hcd
      exact ⟨_, KX _ _ ho, rfl⟩
    · cases hcd
  obtain ⟨mA, J0, _⟩ := ins_get I.hok hx
  obtain ⟨odx, J, _⟩ := J0.look
  obtain ⟨m, hns, hvals⟩ := I.loc
  have hself : m ar.arg = some (.ref x) := by
    obtain ⟨u, ru, lk⟩ := hvals 0 ar.arg (.ref x) h0 hx0 (.inl hka)
    cases ru
    rcases lk with ⟨_, z⟩ | ⟨z, _⟩
    · exact z
    · rw [hka] at z
      rcases z with z | z <;> cases z
  refine ks_wpAt_execs_cons (ks_wpAt_Expr_any (ks_wpAt_MethodCall (pl := pl) ?_ ht) hi hsw)
  refine ks_wpAt_super_base hks hkc (by decide) hfu (KX _ _ hfo) rfl (by rw [hpar]; exact hp) hco (KX _ _ hcode) rfl hvs hfile F.top ?_
  obtain ⟨mb, hb1, hb2⟩ := I.mod.blt
  refine PySem.W.ks_loadName_global I.ok.kind hks (Calls.loadGlobal_builtin (by rw [I.ok.glob]; exact I.mod.glob.keeps I.bk) hmg (by rw [I.ok.blt]; exact hb1.keeps I.bk) ((hb2 "super" (by decide)).trans (show bootBuiltins "super" = some (.type "super") by first | boot_by_name | rfl | kernel_rfl)) ⟨rfl, ?_⟩)
  refine wpAny_loadName_free I.ok.kind hkc hcl ⟨_, KX _ _ hcell, rfl⟩ ?_
  refine wpAny_loadName_local I.ok.kind hka hns hself ?_
  refine ks_wpAny_isType_cls hD1 hD2 ⟨rfl, ?_⟩
  refine ks_wpAny_call_super hD1 hD2 J.at_ J.cls (fun c e => ?_) (PySem.W.looks_mroIn KX F.sub) (fun h' eso ks => ?_)
  · have := J.no
    unfold PySem.W.notCls at this
    rw [e] at this
    exact Bool.noConfusion this
  have I1 : Inv X pins σ H { s with heap := h' } := I.kept ks
  obtain ⟨mA', J0', _⟩ := ins_get I1.hok hx
  obtain ⟨odx', J1, _⟩ := J0'.look
  have hxC : x ≠ C := PySem.W.ks_ne I1.kIn J1 hcd
  obtain ⟨of, hof, hofc⟩ : ∃ of, h'.get? f2 = some of ∧ of.cls = .type "function" := by
    have ht' : (X.K.lookup f2).map (·.cls) = some (.type "function") := F.ty
    cases z : X.K.lookup f2 with
    | none => rw [z] at ht'; cases ht'
    | some of => rw [z] at ht'; exact ⟨of, I1.kIn _ _ z, Option.some.inj ht'⟩
  have hm := F.up
  unfold PySem.W.ks_superIn at hm
  rw [hcd] at hm
  refine ks_wpAny_getMethod_super eso (PySem.W.looks_opaque I1.kIn F.op) (l₀ := cd.mro) ?_ rfl I1.kIn hm hof hofc hxC (by decide) ?_
  · exact fun A Q E s k q => wpAny_bind ((PySem.W.looks_clsIn I1.kIn hcd) A _ E s k (wpAny_pure q))
  have hb : (h'.push (PySem.W.methodObj (.ref f2) (.ref x))).get? h'.objs.size = some (PySem.W.methodObj (.ref f2) (.ref x)) := Heap.get?_push_at rfl rfl
  have I2 : Inv X pins σ H { s with heap := h'.push (PySem.W.methodObj (.ref f2) (.ref x)), toks := s.toks + 1 } := I1.kept (t' := s.toks + 1) fun b ob z => Heap.get?_push_of_some _ z
  have I3 : Inv X ((h'.objs.size, PySem.W.methodObj (.ref f2) (.ref x)) :: pins) σ H { s with heap := h'.push (PySem.W.methodObj (.ref f2) (.ref x)), toks := s.toks + 1 } := I2.pins_of fun q hq => by
    rcases List.mem_cons.mp hq with e | e
    · subst e
      exact ⟨hb, I1.hok.fresh (Nat.le_refl _), Nat.ne_of_gt I1.lt, I1.nofs (Nat.le_refl _), fun v z => nomatch z⟩
    · exact I2.pin q (List.mem_append_right _ e)
  rw [hst]
  refine PySem.W.callWith_of (P := PySem.W.MethP X.K h'.objs.size f2 (.ref x)) (by show ((false || (backTo p3 (starEach es X.env)).any (·.1)) || false) = false; rw [hpl]; rfl) (PySem.W.keeps_M F.fn) (Calls.evalArgs_plain ?_)
  have har := ha.run p3 _ _ σ H _ I3 hq
  rw [hst] at har
  refine thn har fun us s3 ⟨vs, H1, I4, rv, q⟩ => ?_
  have hp4 := (I4.pin (h'.objs.size, PySem.W.methodObj (.ref f2) (.ref x)) (List.mem_append_right _ List.mem_cons_self)).1
  have I5 : Inv X pins σ H1 s3 := I4.pins_of fun q hq => I4.pin q (List.mem_append_right _ (List.mem_cons_of_mem _ hq))
  refine ⟨⟨hp4, I4.kIn⟩, ?_⟩
  have r2 : Vals (V.ref x :: vs) (Value.ref x :: us) := .cons rfl rv
  have hl := F2.len _ _ _ _ q
  refine wpAny_call (ks_codeAny_call_bound hp4 (codeAny_mono (F2.run X.A X.stack s3 H1 ⟨Value.ref x :: us, []⟩ (Value.ref x :: us) (V.ref x :: vs) _ E0 hr I5.env0 (by
    have := b2 s3 (Value.ref x :: us) I5.kIn (by rw [List.append_nil, ← r2.length]; exact hl)
    simpa using this) r2 q) fun r s' hq => ?_))
  cases r with
  | error e => exact hq.elim
  | ok fl =>
    cases fl with
    | ret w =>
      obtain ⟨z, H', I', rz, q⟩ := I5.after hq
      exact wpAt_of_wpAny (hs.run pins s' σ H' D I' q)
    | next => exact False.elim hq
    | brk => exact False.elim hq
    | cont => exact False.elim hq
/-- THE RULE: such a method by its body -/
theorem fn_ofS {CX : CXT} {P : Program} {w : World} {K : PySem.W.Frag} {mg : Str → Option Value} {base : Heap} {k : Nat} {f f2 C cda cc : Addr} {name qual : Str} {params : Arguments} {body : List Stmt} {scope : Scope} {dV kV doc pm ct : Value} {an : Option Addr}
    {N ps : List Str} {sp : Sp} (F : SupK K P f f2 C cda cc (PySem.W.fnX name qual params body scope [("__class__", cc)] dV kV doc pm an (.ref cda) ct)) (hcd : PySem.W.codeIn K (.ref cda) qual = true) (S : NdefX.NScope N ps ["__class__"] scope)
    (len : ∀ vs H Q E, sp vs H Q E → vs.length = ps.length)
    (hbody : ∀ (A : Around) (outer : List Env) (s : Shared) (H : Hp) (vs : List V) (Q : VK) (E : XK), Room k (A.deeper (NdefX.envF ⟨name, qual, params, body, scope, [("__class__", cc)], cda⟩ f s.heap.objs.size)) → sp vs H Q E →
      ∃ t, PSsS (NdefX.ncx CX P w K mg base N ⟨name, qual, params, body, scope, [("__class__", cc)], cda⟩ f A outer s H E) body t ∧ t { nx := fun _ H' => Q .non H', rt := Q } (NdefX.startF N vs [none]) H) :
    FnOk P w K mg base CX (k + 1) f (PySem.W.fnX name qual params body scope [("__class__", cc)] dV kV doc pm an (.ref cda) ct) ps sp := by
  refine ⟨len, fun A outer s H args us vs Q E hr e0 hb r hsp => ?_⟩
  have hl := len _ _ _ _ hsp
  obtain ⟨oc, od, sl, lk⟩ := F.fo
  obtain ⟨cl, cld, csl, hcell⟩ := F.cell
  have KX : K.In s.heap := e0.mod.kin.keeps fun b o e => (e0.bs b o e).1
  have lim : s.heap.NoLimit := e0.mod.nolimit.keeps fun b o e => (e0.bs b o e).1
  have look1 : ∀ (y : Str) (c : Addr), List.lookup y [(("__class__" : Str), cc)] = some c → c = cc ∧ y = "__class__" := fun y c e => by
    rw [List.lookup_cons] at e
    split at e
    · rename_i z
      cases e
      exact ⟨rfl, beq_iff_eq.mp z⟩
    · cases e
  have CA : NdefX.CellsAt [("__class__", cc)] ["__class__"] [none] s.heap H := by
    refine ⟨rfl, fun y c e => ?_, fun x y c e1 e2 => ?_, fun i y e => ?_⟩
    · obtain ⟨rfl, _⟩ := look1 y c e
      exact ⟨(e0.bs _ _ (e0.mod.kin _ _ hcell)).2, _, _, KX _ _ hcell, rfl⟩
    · rw [(look1 x c e1).2, (look1 y c e2).2]
    · cases i with
      | zero =>
        cases e
        refine ⟨cc, by rw [List.lookup_cons, beq_self_eq_true], fun v z => ?_⟩
        cases z
      | succ j => simp at e
  refine ks_codeAny_call_defAt hr.depth (KX _ _ lk) rfl lim (PySem.W.codeRec_of KX hcd) rfl hb S.nocell (fun ⟨n, _⟩ hy => S.par n (List.of_mem_zip hy).1) (fun h₁ hns kp => ?_) S.co S.gen S.kind
  obtain ⟨t, ht, hq⟩ := hbody A outer s H vs Q E (hr.deeper _) hsp
  have I : Inv (NdefX.ncx CX P w K mg base N ⟨name, qual, params, body, scope, [("__class__", cc)], cda⟩ f A outer s H E) [] (NdefX.startF N vs [none]) H { s with heap := h₁, toks := s.toks + (ps.zip us).length } := NdefX.inv_startN S hr.hd e0 hl r CA hns kp
  refine ks_wpAt_mono (ht.run body [] _ (NdefX.startF N vs [none]) H _ I hq) (fun fl s' hs => ?_) fun e s' hs => hs
  have fin : ∀ {σ' : L2.St} {H' : Hp} {v : V} {u : Value}, Inv (NdefX.ncx CX P w K mg base N ⟨name, qual, params, body, scope, [("__class__", cc)], cda⟩ f A outer s H E) [] σ' H' s' → L2.RelV v u → Q v H' → CE outer P w H s Q u s' :=
    fun {σ' H' v u} J rv q => ⟨v, H', J.os, J.bare, J.base, J.hok, rv, q⟩
  cases fl with
  | ret u =>
    obtain ⟨v, σ', H', J, rv, q⟩ := hs
    exact fin J rv q
  | next =>
    obtain ⟨σ', H', J, q⟩ := hs
    exact fin (v := V.non) (u := Value.none) J rfl q
  | brk =>
    obtain ⟨_, _, _, q⟩ := hs
    exact False.elim q
  | cont =>
    obtain ⟨_, _, _, q⟩ := hs
    exact False.elim q
/-- such a method of the text as it stands behind the top -/
structure FunS (K : PySem.W.Frag) (P : Program) (x qual : Str) (st : Stmt) (f f2 C cda cc : Addr) (fd : FuncData) : Prop where
  ex : ∃ (kV doc pm ct : Value) (an : Option Addr), fd = PySem.W.fnX x qual (defArgs st) (defBody st) (defScope st) [("__class__", cc)] .none kV doc pm an (.ref cda) ct
  sup : SupK K P f f2 C cda cc fd
  code : PySem.W.codeIn K (.ref cda) qual = true
  kp : PySem.W.keepIn K (.ref f) = true
theorem FunS.params {P : Program} {K : PySem.W.Frag} {f f2 C cda cc : Addr} {x qual : Str} {st : Stmt} {fd : FuncData} (F : FunS K P x qual st f f2 C cda cc fd) : fd.params = defArgs st := by
  obtain ⟨kV, doc, pm, ct, an, rfl⟩ := F.ex
  rfl
theorem FunS.ok {P : Program} {w : World} {K : PySem.W.Frag} {mg : Str → Option Value} {base : Heap} {k : Nat} {f f2 C cda cc : Addr} {x qual : Str} {st : Stmt} {fd : FuncData} {N ps : List Str} {sp : Sp} (F : FunS K P x qual st f f2 C cda cc fd) (S : NdefX.NScope N ps ["__class__"] (defScope st))
    (len : ∀ vs H Q E, sp vs H Q E → vs.length = ps.length)
    (hbody : ∀ (A : Around) (outer : List Env) (s : Shared) (H : Hp) (vs : List V) (Q : VK) (E : XK), Room k (A.deeper (NdefX.envF ⟨x, qual, defArgs st, defBody st, defScope st, [("__class__", cc)], cda⟩ f s.heap.objs.size)) → sp vs H Q E →
      ∃ t, PSsS (NdefX.ncx CX0 P w K mg base N ⟨x, qual, defArgs st, defBody st, defScope st, [("__class__", cc)], cda⟩ f A outer s H E) (defBody st) t ∧ t { nx := fun _ H' => Q .non H', rt := Q } (NdefX.startF N vs [none]) H) :
    FnOk P w K mg base CX0 (k + 1) f fd ps sp := by
  obtain ⟨kV, doc, pm, ct, an, rfl⟩ := F.ex
  exact fn_ofS F.sup F.code S len hbody
theorem FunS.binds {P : Program} {K : PySem.W.Frag} {f f2 C cda cc : Addr} {x qual : Str} {st : Stmt} {fd : FuncData} {ps : List Str} (F : FunS K P x qual st f f2 C cda cc fd)
    (h : ∀ (kV doc pm : Value) (an : Option Addr) (cdv ct : Value) (us : List Value), us.length = ps.length → bindArgs (PySem.W.fnX x qual (defArgs st) (defBody st) (defScope st) [("__class__", cc)] .none kV doc pm an cdv ct) ⟨us, []⟩ = pure (ps.zip us)) : Binds K fd ps [] := by
  obtain ⟨kV, doc, pm, ct, an, rfl⟩ := F.ex
  exact .all (h kV doc pm an (.ref cda) ct)
/-- C.f is a constant of the class -/
def CValE (K : PySem.W.Frag) (C : Addr) (mc : Value) (f : Str) (v : V) : Prop := ∃ u, ClX.CVal K C mc f v u
theorem g_cval {K : PySem.W.Frag} {ta : TE} {f : Str} {σ : L2.St} {H : Hp} {Q : VK} (h : ta σ H fun x H1 => ∃ C mc v u, x = .ref C ∧ ClX.CRead K C mc ∧ ClX.CVal K C mc f v u ∧ Q v H1) : ClX.tCVal K ta f σ H Q := h

theorem kit_subT {K : PySem.W.Frag} {t : Value} {C : Addr} (a : PySem.W.isClsIn K C = true) (b : PySem.W.typeIn K (.ref C) = some (.type "type")) (c : PySem.W.subIn K t (.ref C) = some true) : PySem.W.kitOne K t (.ref C) = some true := by
  unfold PySem.W.isClsIn at a
  unfold PySem.W.kitOne
  by_cases z : (t == Value.ref C) = true
  · rw [if_pos z]
  · rw [if_neg z]
    show (if ((PySem.W.clsIn K C).isSome && PySem.W.typeIn K (.ref C) == some (.type "type")) = true then PySem.W.subIn K t (.ref C) else none) = some true
    rw [a, b, if_pos (by rw [Bool.true_and]; exact beq_self_eq_true _)]
    exact c

def topS (i : Nat) : Stmt := PySem.Challenge.pw_throughline_k19_reno_and_cubic.main.body.getD i (.Pass ⟨0, 0, 0, 0⟩)
abbrev s_cube_root : Stmt := topS 3
abbrev s_curve : Stmt := topS 6
abbrev s_turning_time : Stmt := topS 7
abbrev s_rise : Stmt := topS 8
abbrev s_Cubic_init__ : Stmt := inClass (topS 9) 0
abbrev s_Cubic_fork : Stmt := inClass (topS 9) 1
abbrev s_Cubic_avoid : Stmt := inClass (topS 9) 2
abbrev s_Cubic_new_period : Stmt := inClass (topS 9) 3
abbrev s_Cubic_share : Stmt := inClass (topS 9) 4
abbrev s_Cubic_begin_anew : Stmt := inClass (topS 9) 5
abbrev s_Cubic_upper__init__ : Stmt := inClass (topS 1) 1
abbrev s_Cubic_acknowledge : Stmt := inClass (topS 1) 2
abbrev s_Cubic_lose : Stmt := inClass (topS 1) 3
abbrev s_Cubic_time_out : Stmt := inClass (topS 1) 4
abbrev s_Cubic_mark : Stmt := inClass (topS 1) 5
abbrev s_Cubic_bounded : Stmt := inClass (topS 1) 6
abbrev s_Cubic_give_to : Stmt := inClass (topS 1) 7
abbrev s_Reno_init__ : Stmt := inClass (topS 11) 0
abbrev s_Reno_fork : Stmt := inClass (topS 11) 1
abbrev s_Reno_avoid : Stmt := inClass (topS 11) 2
abbrev s_Reno_share : Stmt := inClass (topS 11) 3
abbrev s_Reno_begin_anew : Stmt := inClass (topS 11) 4
abbrev s_Reno_upper__init__ : Stmt := inClass (topS 1) 1
abbrev s_Reno_acknowledge : Stmt := inClass (topS 1) 2
abbrev s_Reno_lose : Stmt := inClass (topS 1) 3
abbrev s_Reno_time_out : Stmt := inClass (topS 1) 4
abbrev s_Reno_mark : Stmt := inClass (topS 1) 5
abbrev s_Reno_bounded : Stmt := inClass (topS 1) 6
abbrev s_Reno_give_to : Stmt := inClass (topS 1) 7
abbrev s_l_is_integer : Stmt := topS 13
abbrev s_l_cell : Stmt := topS 14
abbrev s_l_number : Stmt := topS 15
abbrev s_l_root : Stmt := topS 16
abbrev s_l_curve : Stmt := topS 17
abbrev s_l_lose : Stmt := topS 18
abbrev s_l_avoid : Stmt := topS 19
abbrev s_l_acknowledge : Stmt := topS 20
abbrev s_l_right : Stmt := topS 21
abbrev s_l_event : Stmt := topS 22
abbrev s_l_start : Stmt := topS 23
abbrev s_law : Stmt := topS 24
theorem sc_cube_root : FnScope ["number", "low", "high", "middle"] ["number"] (defScope s_cube_root) := ⟨rfl, rfl, rfl, by decide +kernel, rfl, by decide +kernel, by decide +kernel⟩
theorem sc_curve : FnScope ["mss", "origin", "turning", "at"] ["mss", "origin", "turning", "at"] (defScope s_curve) := ⟨rfl, rfl, rfl, by decide +kernel, rfl, by decide +kernel, by decide +kernel⟩
theorem sc_turning_time : FnScope ["mss", "depth"] ["mss", "depth"] (defScope s_turning_time) := ⟨rfl, rfl, rfl, by decide +kernel, rfl, by decide +kernel, by decide +kernel⟩
theorem sc_rise : FnScope ["mss", "distance"] ["mss", "distance"] (defScope s_rise) := ⟨rfl, rfl, rfl, by decide +kernel, rfl, by decide +kernel, by decide +kernel⟩
theorem sc_Cubic_init__ : NdefX.NScope ["self", "mss", "__class__"] ["self", "mss"] ["__class__"] (defScope s_Cubic_init__) := NdefX.nscope_by (by decide +kernel)
theorem sc_Cubic_fork : FnScope ["self", "other"] ["self"] (defScope s_Cubic_fork) := ⟨rfl, rfl, rfl, by decide +kernel, rfl, by decide +kernel, by decide +kernel⟩
theorem sc_Cubic_avoid : FnScope ["self", "mss", "now", "octets", "start", "origin", "turning", "friendly", "credit", "wish", "target", "gain"] ["self", "mss", "now", "octets"] (defScope s_Cubic_avoid) := ⟨rfl, rfl, rfl, by decide +kernel, rfl, by decide +kernel, by decide +kernel⟩
theorem sc_Cubic_new_period : FnScope ["self", "mss", "now"] ["self", "mss", "now"] (defScope s_Cubic_new_period) := ⟨rfl, rfl, rfl, by decide +kernel, rfl, by decide +kernel, by decide +kernel⟩
theorem sc_Cubic_share : FnScope ["self", "base"] ["self", "base"] (defScope s_Cubic_share) := ⟨rfl, rfl, rfl, by decide +kernel, rfl, by decide +kernel, by decide +kernel⟩
theorem sc_Cubic_begin_anew : FnScope ["self"] ["self"] (defScope s_Cubic_begin_anew) := ⟨rfl, rfl, rfl, by decide +kernel, rfl, by decide +kernel, by decide +kernel⟩
theorem sc_Cubic_upper__init__ : FnScope ["self", "mss"] ["self", "mss"] (defScope s_Cubic_upper__init__) := ⟨rfl, rfl, rfl, by decide +kernel, rfl, by decide +kernel, by decide +kernel⟩
theorem sc_Cubic_acknowledge : FnScope ["self", "mss", "now", "octets", "flight", "recovering"] ["self", "mss", "now", "octets", "flight", "recovering"] (defScope s_Cubic_acknowledge) := ⟨rfl, rfl, rfl, by decide +kernel, rfl, by decide +kernel, by decide +kernel⟩
theorem sc_Cubic_lose : FnScope ["self", "mss", "flight", "share"] ["self", "mss", "flight"] (defScope s_Cubic_lose) := ⟨rfl, rfl, rfl, by decide +kernel, rfl, by decide +kernel, by decide +kernel⟩
theorem sc_Cubic_time_out : FnScope ["self", "mss", "flight"] ["self", "mss", "flight"] (defScope s_Cubic_time_out) := ⟨rfl, rfl, rfl, by decide +kernel, rfl, by decide +kernel, by decide +kernel⟩
theorem sc_Cubic_mark : FnScope ["self", "mss", "now", "flight", "length"] ["self", "mss", "now", "flight", "length"] (defScope s_Cubic_mark) := ⟨rfl, rfl, rfl, by decide +kernel, rfl, by decide +kernel, by decide +kernel⟩
theorem sc_Cubic_bounded : FnScope ["self", "octets"] ["self", "octets"] (defScope s_Cubic_bounded) := ⟨rfl, rfl, rfl, by decide +kernel, rfl, by decide +kernel, by decide +kernel⟩
theorem sc_Cubic_give_to : FnScope ["self", "other"] ["self", "other"] (defScope s_Cubic_give_to) := ⟨rfl, rfl, rfl, by decide +kernel, rfl, by decide +kernel, by decide +kernel⟩
theorem sc_Reno_init__ : NdefX.NScope ["self", "mss", "__class__"] ["self", "mss"] ["__class__"] (defScope s_Reno_init__) := NdefX.nscope_by (by decide +kernel)
theorem sc_Reno_fork : FnScope ["self", "other"] ["self"] (defScope s_Reno_fork) := ⟨rfl, rfl, rfl, by decide +kernel, rfl, by decide +kernel, by decide +kernel⟩
theorem sc_Reno_avoid : FnScope ["self", "mss", "now", "octets"] ["self", "mss", "now", "octets"] (defScope s_Reno_avoid) := ⟨rfl, rfl, rfl, by decide +kernel, rfl, by decide +kernel, by decide +kernel⟩
theorem sc_Reno_share : FnScope ["self", "base"] ["self", "base"] (defScope s_Reno_share) := ⟨rfl, rfl, rfl, by decide +kernel, rfl, by decide +kernel, by decide +kernel⟩
theorem sc_Reno_begin_anew : FnScope ["self"] ["self"] (defScope s_Reno_begin_anew) := ⟨rfl, rfl, rfl, by decide +kernel, rfl, by decide +kernel, by decide +kernel⟩
theorem sc_Reno_upper__init__ : FnScope ["self", "mss"] ["self", "mss"] (defScope s_Reno_upper__init__) := ⟨rfl, rfl, rfl, by decide +kernel, rfl, by decide +kernel, by decide +kernel⟩
theorem sc_Reno_acknowledge : FnScope ["self", "mss", "now", "octets", "flight", "recovering"] ["self", "mss", "now", "octets", "flight", "recovering"] (defScope s_Reno_acknowledge) := ⟨rfl, rfl, rfl, by decide +kernel, rfl, by decide +kernel, by decide +kernel⟩
theorem sc_Reno_lose : FnScope ["self", "mss", "flight", "share"] ["self", "mss", "flight"] (defScope s_Reno_lose) := ⟨rfl, rfl, rfl, by decide +kernel, rfl, by decide +kernel, by decide +kernel⟩
theorem sc_Reno_time_out : FnScope ["self", "mss", "flight"] ["self", "mss", "flight"] (defScope s_Reno_time_out) := ⟨rfl, rfl, rfl, by decide +kernel, rfl, by decide +kernel, by decide +kernel⟩
theorem sc_Reno_mark : FnScope ["self", "mss", "now", "flight", "length"] ["self", "mss", "now", "flight", "length"] (defScope s_Reno_mark) := ⟨rfl, rfl, rfl, by decide +kernel, rfl, by decide +kernel, by decide +kernel⟩
theorem sc_Reno_bounded : FnScope ["self", "octets"] ["self", "octets"] (defScope s_Reno_bounded) := ⟨rfl, rfl, rfl, by decide +kernel, rfl, by decide +kernel, by decide +kernel⟩
theorem sc_Reno_give_to : FnScope ["self", "other"] ["self", "other"] (defScope s_Reno_give_to) := ⟨rfl, rfl, rfl, by decide +kernel, rfl, by decide +kernel, by decide +kernel⟩
theorem sc_l_is_integer : FnScope ["actual"] ["actual"] (defScope s_l_is_integer) := ⟨rfl, rfl, rfl, by decide +kernel, rfl, by decide +kernel, by decide +kernel⟩
theorem sc_l_cell : FnScope ["script", "k"] ["script", "k"] (defScope s_l_cell) := ⟨rfl, rfl, rfl, by decide +kernel, rfl, by decide +kernel, by decide +kernel⟩
theorem sc_l_number : FnScope ["actual", "expected"] ["actual", "expected"] (defScope s_l_number) := ⟨rfl, rfl, rfl, by decide +kernel, rfl, by decide +kernel, by decide +kernel⟩
theorem sc_l_root : FnScope ["number", "root", "step", "k"] ["number"] (defScope s_l_root) := ⟨rfl, rfl, rfl, by decide +kernel, rfl, by decide +kernel, by decide +kernel⟩
theorem sc_l_curve : FnScope ["size", "origin", "turning", "at", "away", "rise"] ["size", "origin", "turning", "at"] (defScope s_l_curve) := ⟨rfl, rfl, rfl, by decide +kernel, rfl, by decide +kernel, by decide +kernel⟩
theorem sc_l_lose : FnScope ["state", "size", "flying", "window", "base", "share"] ["state", "size", "flying"] (defScope s_l_lose) := ⟨rfl, rfl, rfl, by decide +kernel, rfl, by decide +kernel, by decide +kernel⟩
theorem sc_l_avoid : FnScope ["state", "size", "now", "octets", "window", "turning", "start", "origin", "friendly", "credit", "goal"] ["state", "size", "now", "octets"] (defScope s_l_avoid) := ⟨rfl, rfl, rfl, by decide +kernel, rfl, by decide +kernel, by decide +kernel⟩
theorem sc_l_acknowledge : FnScope ["state", "size", "now", "octets", "flying", "resting"] ["state", "size", "now", "octets", "flying", "resting"] (defScope s_l_acknowledge) := ⟨rfl, rfl, rfl, by decide +kernel, rfl, by decide +kernel, by decide +kernel⟩
theorem sc_l_right : FnScope ["control", "state", "k"] ["control", "state"] (defScope s_l_right) := ⟨rfl, rfl, rfl, by decide +kernel, rfl, by decide +kernel, by decide +kernel⟩
theorem sc_l_event : FnScope ["control", "state", "size", "now", "cell", "choice", "flying", "octets", "resting", "counted"] ["control", "state", "size", "now", "cell"] (defScope s_l_event) := ⟨rfl, rfl, rfl, by decide +kernel, rfl, by decide +kernel, by decide +kernel⟩
theorem sc_l_start : FnScope ["reno", "size", "state"] ["reno", "size"] (defScope s_l_start) := ⟨rfl, rfl, rfl, by decide +kernel, rfl, by decide +kernel, by decide +kernel⟩
theorem sc_law : FnScope ["script", "size", "reno", "state", "control", "split", "kept", "first", "now", "cells", "k", "name"] ["script"] (defScope s_law) := ⟨rfl, rfl, rfl, by decide +kernel, rfl, by decide +kernel, by decide +kernel⟩
structure Txt (P : Program) (K : PySem.W.Frag) (mg : Str → Option Value) where
  t_SLOWNESS : Tok
  C_Control : Addr
  C_Cubic : Addr
  C_Reno : Addr
  f_cube_root : Addr
  d_cube_root : FuncData
  f_curve : Addr
  d_curve : FuncData
  f_turning_time : Addr
  d_turning_time : FuncData
  f_rise : Addr
  d_rise : FuncData
  f_Cubic_init__ : Addr
  d_Cubic_init__ : FuncData
  cda_Cubic_init__ : Addr
  cc_Cubic_init__ : Addr
  f_Cubic_fork : Addr
  d_Cubic_fork : FuncData
  f_Cubic_avoid : Addr
  d_Cubic_avoid : FuncData
  f_Cubic_new_period : Addr
  d_Cubic_new_period : FuncData
  f_Cubic_share : Addr
  d_Cubic_share : FuncData
  f_Cubic_begin_anew : Addr
  d_Cubic_begin_anew : FuncData
  f_Cubic_upper__init__ : Addr
  d_Cubic_upper__init__ : FuncData
  f_Cubic_acknowledge : Addr
  d_Cubic_acknowledge : FuncData
  f_Cubic_lose : Addr
  d_Cubic_lose : FuncData
  f_Cubic_time_out : Addr
  d_Cubic_time_out : FuncData
  f_Cubic_mark : Addr
  d_Cubic_mark : FuncData
  f_Cubic_bounded : Addr
  d_Cubic_bounded : FuncData
  f_Cubic_give_to : Addr
  d_Cubic_give_to : FuncData
  f_Reno_init__ : Addr
  d_Reno_init__ : FuncData
  cda_Reno_init__ : Addr
  cc_Reno_init__ : Addr
  f_Reno_fork : Addr
  d_Reno_fork : FuncData
  f_Reno_avoid : Addr
  d_Reno_avoid : FuncData
  f_Reno_share : Addr
  d_Reno_share : FuncData
  f_Reno_begin_anew : Addr
  d_Reno_begin_anew : FuncData
  f_Reno_upper__init__ : Addr
  d_Reno_upper__init__ : FuncData
  f_Reno_acknowledge : Addr
  d_Reno_acknowledge : FuncData
  f_Reno_lose : Addr
  d_Reno_lose : FuncData
  f_Reno_time_out : Addr
  d_Reno_time_out : FuncData
  f_Reno_mark : Addr
  d_Reno_mark : FuncData
  f_Reno_bounded : Addr
  d_Reno_bounded : FuncData
  f_Reno_give_to : Addr
  d_Reno_give_to : FuncData
  f_l_is_integer : Addr
  d_l_is_integer : FuncData
  f_l_cell : Addr
  d_l_cell : FuncData
  f_l_number : Addr
  d_l_number : FuncData
  f_l_root : Addr
  d_l_root : FuncData
  f_l_curve : Addr
  d_l_curve : FuncData
  f_l_lose : Addr
  d_l_lose : FuncData
  f_l_avoid : Addr
  d_l_avoid : FuncData
  f_l_acknowledge : Addr
  d_l_acknowledge : FuncData
  f_l_right : Addr
  d_l_right : FuncData
  f_l_event : Addr
  d_l_event : FuncData
  f_l_start : Addr
  d_l_start : FuncData
  f_law : Addr
  d_law : FuncData
  v_SLOWNESS : mg "SLOWNESS" = some (.int 2500000000 t_SLOWNESS)
  c_Control : mg "Control" = some (.ref C_Control)
  k_Control : Cls K C_Control
  i_Control : ∀ {H : Hp} {a dx : Addr} {fs : List (Str × V)}, H a = some (.ins C_Control dx fs) → TyOf K H (.ref a) (.ref C_Control)
  c_Cubic : mg "Cubic" = some (.ref C_Cubic)
  k_Cubic : Cls K C_Cubic
  i_Cubic : ∀ {H : Hp} {a dx : Addr} {fs : List (Str × V)}, H a = some (.ins C_Cubic dx fs) → TyOf K H (.ref a) (.ref C_Cubic)
  ks_Cubic_Control : PySem.W.kitOne K (.ref C_Cubic) (.ref C_Control) = some true
  n_Cubic_cwnd : NoAttr K C_Cubic "cwnd"
  n_Cubic_thresh : NoAttr K C_Cubic "thresh"
  n_Cubic_peak : NoAttr K C_Cubic "peak"
  n_Cubic_prior : NoAttr K C_Cubic "prior"
  n_Cubic_calm : NoAttr K C_Cubic "calm"
  n_Cubic_period : NoAttr K C_Cubic "period"
  c_Reno : mg "Reno" = some (.ref C_Reno)
  k_Reno : Cls K C_Reno
  i_Reno : ∀ {H : Hp} {a dx : Addr} {fs : List (Str × V)}, H a = some (.ins C_Reno dx fs) → TyOf K H (.ref a) (.ref C_Reno)
  ks_Reno_Control : PySem.W.kitOne K (.ref C_Reno) (.ref C_Control) = some true
  n_Reno_cwnd : NoAttr K C_Reno "cwnd"
  n_Reno_thresh : NoAttr K C_Reno "thresh"
  n_Reno_peak : NoAttr K C_Reno "peak"
  n_Reno_prior : NoAttr K C_Reno "prior"
  n_Reno_calm : NoAttr K C_Reno "calm"
  n_Reno_credit : NoAttr K C_Reno "credit"
  F_cube_root : Fun K "cube_root" "cube_root" s_cube_root f_cube_root d_cube_root
  b_cube_root : Binds K d_cube_root ["number"] []
  m_cube_root : mg "cube_root" = some (.ref f_cube_root)
  F_curve : Fun K "curve" "curve" s_curve f_curve d_curve
  b_curve : Binds K d_curve ["mss", "origin", "turning", "at"] []
  m_curve : mg "curve" = some (.ref f_curve)
  F_turning_time : Fun K "turning_time" "turning_time" s_turning_time f_turning_time d_turning_time
  b_turning_time : Binds K d_turning_time ["mss", "depth"] []
  m_turning_time : mg "turning_time" = some (.ref f_turning_time)
  F_rise : Fun K "_rise" "_rise" s_rise f_rise d_rise
  b_rise : Binds K d_rise ["mss", "distance"] []
  m_rise : mg "_rise" = some (.ref f_rise)
  F_Cubic_init__ : FunS K P "__init__" "Cubic.__init__" s_Cubic_init__ f_Cubic_init__ f_Cubic_upper__init__ C_Cubic cda_Cubic_init__ cc_Cubic_init__ d_Cubic_init__
  b_Cubic_init__ : Binds K d_Cubic_init__ ["self", "mss"] []
  mk_Cubic : Mk K C_Cubic f_Cubic_init__
  F_Cubic_fork : Fun K "fork" "Cubic.fork" s_Cubic_fork f_Cubic_fork d_Cubic_fork
  b_Cubic_fork : Binds K d_Cubic_fork ["self"] []
  a_Cubic_fork : Meth K C_Cubic "fork" f_Cubic_fork
  F_Cubic_avoid : Fun K "_avoid" "Cubic._avoid" s_Cubic_avoid f_Cubic_avoid d_Cubic_avoid
  b_Cubic_avoid : Binds K d_Cubic_avoid ["self", "mss", "now", "octets"] []
  a_Cubic_avoid : Meth K C_Cubic "_avoid" f_Cubic_avoid
  F_Cubic_new_period : Fun K "_new_period" "Cubic._new_period" s_Cubic_new_period f_Cubic_new_period d_Cubic_new_period
  b_Cubic_new_period : Binds K d_Cubic_new_period ["self", "mss", "now"] []
  a_Cubic_new_period : Meth K C_Cubic "_new_period" f_Cubic_new_period
  F_Cubic_share : Fun K "_share" "Cubic._share" s_Cubic_share f_Cubic_share d_Cubic_share
  b_Cubic_share : Binds K d_Cubic_share ["self", "base"] []
  a_Cubic_share : Meth K C_Cubic "_share" f_Cubic_share
  F_Cubic_begin_anew : Fun K "_begin_anew" "Cubic._begin_anew" s_Cubic_begin_anew f_Cubic_begin_anew d_Cubic_begin_anew
  b_Cubic_begin_anew : Binds K d_Cubic_begin_anew ["self"] []
  a_Cubic_begin_anew : Meth K C_Cubic "_begin_anew" f_Cubic_begin_anew
  F_Cubic_upper__init__ : Fun K "__init__" "Control.__init__" s_Cubic_upper__init__ f_Cubic_upper__init__ d_Cubic_upper__init__
  b_Cubic_upper__init__ : Binds K d_Cubic_upper__init__ ["self", "mss"] []
  F_Cubic_acknowledge : FunD K "acknowledge" "Control.acknowledge" (defArgs s_Cubic_acknowledge) (defBody s_Cubic_acknowledge) (defScope s_Cubic_acknowledge) [] [] f_Cubic_acknowledge d_Cubic_acknowledge
  a_Cubic_acknowledge : Meth K C_Cubic "acknowledge" f_Cubic_acknowledge
  F_Cubic_lose : FunD K "lose" "Control.lose" (defArgs s_Cubic_lose) (defBody s_Cubic_lose) (defScope s_Cubic_lose) [] [] f_Cubic_lose d_Cubic_lose
  a_Cubic_lose : Meth K C_Cubic "lose" f_Cubic_lose
  F_Cubic_time_out : FunD K "time_out" "Control.time_out" (defArgs s_Cubic_time_out) (defBody s_Cubic_time_out) (defScope s_Cubic_time_out) [] [] f_Cubic_time_out d_Cubic_time_out
  a_Cubic_time_out : Meth K C_Cubic "time_out" f_Cubic_time_out
  F_Cubic_mark : FunD K "mark" "Control.mark" (defArgs s_Cubic_mark) (defBody s_Cubic_mark) (defScope s_Cubic_mark) [] [] f_Cubic_mark d_Cubic_mark
  a_Cubic_mark : Meth K C_Cubic "mark" f_Cubic_mark
  F_Cubic_bounded : Fun K "_bounded" "Control._bounded" s_Cubic_bounded f_Cubic_bounded d_Cubic_bounded
  b_Cubic_bounded : Binds K d_Cubic_bounded ["self", "octets"] []
  a_Cubic_bounded : Meth K C_Cubic "_bounded" f_Cubic_bounded
  F_Cubic_give_to : Fun K "_give_to" "Control._give_to" s_Cubic_give_to f_Cubic_give_to d_Cubic_give_to
  b_Cubic_give_to : Binds K d_Cubic_give_to ["self", "other"] []
  a_Cubic_give_to : Meth K C_Cubic "_give_to" f_Cubic_give_to
  F_Reno_init__ : FunS K P "__init__" "Reno.__init__" s_Reno_init__ f_Reno_init__ f_Reno_upper__init__ C_Reno cda_Reno_init__ cc_Reno_init__ d_Reno_init__
  b_Reno_init__ : Binds K d_Reno_init__ ["self", "mss"] []
  mk_Reno : Mk K C_Reno f_Reno_init__
  F_Reno_fork : Fun K "fork" "Reno.fork" s_Reno_fork f_Reno_fork d_Reno_fork
  b_Reno_fork : Binds K d_Reno_fork ["self"] []
  a_Reno_fork : Meth K C_Reno "fork" f_Reno_fork
  F_Reno_avoid : Fun K "_avoid" "Reno._avoid" s_Reno_avoid f_Reno_avoid d_Reno_avoid
  b_Reno_avoid : Binds K d_Reno_avoid ["self", "mss", "now", "octets"] []
  a_Reno_avoid : Meth K C_Reno "_avoid" f_Reno_avoid
  F_Reno_share : Fun K "_share" "Reno._share" s_Reno_share f_Reno_share d_Reno_share
  b_Reno_share : Binds K d_Reno_share ["self", "base"] []
  a_Reno_share : Meth K C_Reno "_share" f_Reno_share
  F_Reno_begin_anew : Fun K "_begin_anew" "Reno._begin_anew" s_Reno_begin_anew f_Reno_begin_anew d_Reno_begin_anew
  b_Reno_begin_anew : Binds K d_Reno_begin_anew ["self"] []
  a_Reno_begin_anew : Meth K C_Reno "_begin_anew" f_Reno_begin_anew
  F_Reno_upper__init__ : Fun K "__init__" "Control.__init__" s_Reno_upper__init__ f_Reno_upper__init__ d_Reno_upper__init__
  b_Reno_upper__init__ : Binds K d_Reno_upper__init__ ["self", "mss"] []
  F_Reno_acknowledge : FunD K "acknowledge" "Control.acknowledge" (defArgs s_Reno_acknowledge) (defBody s_Reno_acknowledge) (defScope s_Reno_acknowledge) [] [] f_Reno_acknowledge d_Reno_acknowledge
  a_Reno_acknowledge : Meth K C_Reno "acknowledge" f_Reno_acknowledge
  F_Reno_lose : FunD K "lose" "Control.lose" (defArgs s_Reno_lose) (defBody s_Reno_lose) (defScope s_Reno_lose) [] [] f_Reno_lose d_Reno_lose
  a_Reno_lose : Meth K C_Reno "lose" f_Reno_lose
  F_Reno_time_out : FunD K "time_out" "Control.time_out" (defArgs s_Reno_time_out) (defBody s_Reno_time_out) (defScope s_Reno_time_out) [] [] f_Reno_time_out d_Reno_time_out
  a_Reno_time_out : Meth K C_Reno "time_out" f_Reno_time_out
  F_Reno_mark : FunD K "mark" "Control.mark" (defArgs s_Reno_mark) (defBody s_Reno_mark) (defScope s_Reno_mark) [] [] f_Reno_mark d_Reno_mark
  a_Reno_mark : Meth K C_Reno "mark" f_Reno_mark
  F_Reno_bounded : Fun K "_bounded" "Control._bounded" s_Reno_bounded f_Reno_bounded d_Reno_bounded
  b_Reno_bounded : Binds K d_Reno_bounded ["self", "octets"] []
  a_Reno_bounded : Meth K C_Reno "_bounded" f_Reno_bounded
  F_Reno_give_to : Fun K "_give_to" "Control._give_to" s_Reno_give_to f_Reno_give_to d_Reno_give_to
  b_Reno_give_to : Binds K d_Reno_give_to ["self", "other"] []
  a_Reno_give_to : Meth K C_Reno "_give_to" f_Reno_give_to
  F_l_is_integer : Fun K "_law_is_integer" "_law_is_integer" s_l_is_integer f_l_is_integer d_l_is_integer
  b_l_is_integer : Binds K d_l_is_integer ["actual"] []
  m_l_is_integer : mg "_law_is_integer" = some (.ref f_l_is_integer)
  F_l_cell : Fun K "_law_cell" "_law_cell" s_l_cell f_l_cell d_l_cell
  b_l_cell : Binds K d_l_cell ["script", "k"] []
  m_l_cell : mg "_law_cell" = some (.ref f_l_cell)
  F_l_number : Fun K "_law_number" "_law_number" s_l_number f_l_number d_l_number
  b_l_number : Binds K d_l_number ["actual", "expected"] []
  m_l_number : mg "_law_number" = some (.ref f_l_number)
  F_l_root : Fun K "_law_root" "_law_root" s_l_root f_l_root d_l_root
  b_l_root : Binds K d_l_root ["number"] []
  m_l_root : mg "_law_root" = some (.ref f_l_root)
  F_l_curve : Fun K "_law_curve" "_law_curve" s_l_curve f_l_curve d_l_curve
  b_l_curve : Binds K d_l_curve ["size", "origin", "turning", "at"] []
  m_l_curve : mg "_law_curve" = some (.ref f_l_curve)
  F_l_lose : Fun K "_law_lose" "_law_lose" s_l_lose f_l_lose d_l_lose
  b_l_lose : Binds K d_l_lose ["state", "size", "flying"] []
  m_l_lose : mg "_law_lose" = some (.ref f_l_lose)
  F_l_avoid : Fun K "_law_avoid" "_law_avoid" s_l_avoid f_l_avoid d_l_avoid
  b_l_avoid : Binds K d_l_avoid ["state", "size", "now", "octets"] []
  m_l_avoid : mg "_law_avoid" = some (.ref f_l_avoid)
  F_l_acknowledge : Fun K "_law_acknowledge" "_law_acknowledge" s_l_acknowledge f_l_acknowledge d_l_acknowledge
  b_l_acknowledge : Binds K d_l_acknowledge ["state", "size", "now", "octets", "flying", "resting"] []
  m_l_acknowledge : mg "_law_acknowledge" = some (.ref f_l_acknowledge)
  F_l_right : Fun K "_law_right" "_law_right" s_l_right f_l_right d_l_right
  b_l_right : Binds K d_l_right ["control", "state"] []
  m_l_right : mg "_law_right" = some (.ref f_l_right)
  F_l_event : Fun K "_law_event" "_law_event" s_l_event f_l_event d_l_event
  b_l_event : Binds K d_l_event ["control", "state", "size", "now", "cell"] []
  m_l_event : mg "_law_event" = some (.ref f_l_event)
  F_l_start : Fun K "_law_start" "_law_start" s_l_start f_l_start d_l_start
  b_l_start : Binds K d_l_start ["reno", "size"] []
  m_l_start : mg "_law_start" = some (.ref f_l_start)
  F_law : Fun K "law" "law" s_law f_law d_law
  b_law : Binds K d_law ["script"] []
  m_law : mg "law" = some (.ref f_law)
  cr_Control : ClX.CRead K C_Control (.type "type")
  cv_Control_GREATEST : CValE K C_Control (.type "type") "GREATEST" (.int 1073741824)
  n_abs : mg "abs" = none
  n_bool : mg "bool" = none
  n_int : mg "int" = none
  n_isinstance : mg "isinstance" = none
  n_len : mg "len" = none
  n_max : mg "max" = none
  n_min : mg "min" = none
  n_range : mg "range" = none
  n_super : mg "super" = none
  n_tuple : mg "tuple" = none
theorem cvq_Control_GREATEST {K : PySem.W.Frag} {mg : Str → Option Value} {T : Txt P K mg} {A : V → Prop} (q : A (.int 1073741824)) : ∃ C mc v u, V.ref T.C_Control = .ref C ∧ ClX.CRead K C mc ∧ ClX.CVal K C mc "GREATEST" v u ∧ A v := let ⟨u, h⟩ := T.cv_Control_GREATEST
  ⟨_, _, _, u, rfl, T.cr_Control, h, q⟩
def ky_Cubic : List Str := ["cwnd", "thresh", "peak", "prior", "calm", "period"]
theorem nd_Cubic : ky_Cubic.Nodup := by decide +kernel
section
variable {P : Program} {K : PySem.W.Frag} {mg : Str → Option Value} {T : Txt P K mg} {H : Hp} {a dx : Addr} {vs : List V} {v y : V}
theorem fd_Cubic_cwnd {A : V → Prop} (ho : H a = some (.ins T.C_Cubic dx (obj ky_Cubic vs))) (hv : vs[0]? = some v) (q : A v) : ∃ a' C' dx' fs v', V.ref a = .ref a' ∧ H a' = some (.ins C' dx' fs) ∧ Cls K C' ∧ NoAttr K C' "cwnd" ∧ fs.lookup ("cwnd" : Str) = some v' ∧ A v' := g_fldE ho T.k_Cubic T.n_Cubic_cwnd nd_Cubic rfl hv q
theorem st_Cubic_cwnd {A : Hp → Prop} (ho : H a = some (.ins T.C_Cubic dx (obj ky_Cubic vs))) (hv : 0 < vs.length) (q : A (upd H a (.ins T.C_Cubic dx (obj ky_Cubic (vs.set 0 y))))) : ∃ a' C' dx' fs, V.ref a = .ref a' ∧ H a' = some (.ins C' dx' fs) ∧ Cls K C' ∧ NoAttr K C' "cwnd" ∧ fs.length < 1000 ∧ A (upd H a' (.ins C' dx' (putF "cwnd" y fs))) := g_putE ho T.k_Cubic T.n_Cubic_cwnd nd_Cubic (by decide) rfl hv q
theorem nw_Cubic_cwnd {A : Hp → Prop} (ho : H a = some (.ins T.C_Cubic dx (obj ky_Cubic vs))) (hv : vs.length = 0) (q : A (upd H a (.ins T.C_Cubic dx (obj ky_Cubic (vs ++ [y]))))) : ∃ a' C' dx' fs, V.ref a = .ref a' ∧ H a' = some (.ins C' dx' fs) ∧ Cls K C' ∧ NoAttr K C' "cwnd" ∧ fs.length < 1000 ∧ A (upd H a' (.ins C' dx' (putF "cwnd" y fs))) := g_newE ho T.k_Cubic T.n_Cubic_cwnd nd_Cubic (by decide) (by rw [hv]; rfl) q
theorem fd_Cubic_thresh {A : V → Prop} (ho : H a = some (.ins T.C_Cubic dx (obj ky_Cubic vs))) (hv : vs[1]? = some v) (q : A v) : ∃ a' C' dx' fs v', V.ref a = .ref a' ∧ H a' = some (.ins C' dx' fs) ∧ Cls K C' ∧ NoAttr K C' "thresh" ∧ fs.lookup ("thresh" : Str) = some v' ∧ A v' := g_fldE ho T.k_Cubic T.n_Cubic_thresh nd_Cubic rfl hv q
theorem st_Cubic_thresh {A : Hp → Prop} (ho : H a = some (.ins T.C_Cubic dx (obj ky_Cubic vs))) (hv : 1 < vs.length) (q : A (upd H a (.ins T.C_Cubic dx (obj ky_Cubic (vs.set 1 y))))) : ∃ a' C' dx' fs, V.ref a = .ref a' ∧ H a' = some (.ins C' dx' fs) ∧ Cls K C' ∧ NoAttr K C' "thresh" ∧ fs.length < 1000 ∧ A (upd H a' (.ins C' dx' (putF "thresh" y fs))) := g_putE ho T.k_Cubic T.n_Cubic_thresh nd_Cubic (by decide) rfl hv q
theorem nw_Cubic_thresh {A : Hp → Prop} (ho : H a = some (.ins T.C_Cubic dx (obj ky_Cubic vs))) (hv : vs.length = 1) (q : A (upd H a (.ins T.C_Cubic dx (obj ky_Cubic (vs ++ [y]))))) : ∃ a' C' dx' fs, V.ref a = .ref a' ∧ H a' = some (.ins C' dx' fs) ∧ Cls K C' ∧ NoAttr K C' "thresh" ∧ fs.length < 1000 ∧ A (upd H a' (.ins C' dx' (putF "thresh" y fs))) := g_newE ho T.k_Cubic T.n_Cubic_thresh nd_Cubic (by decide) (by rw [hv]; rfl) q
theorem fd_Cubic_peak {A : V → Prop} (ho : H a = some (.ins T.C_Cubic dx (obj ky_Cubic vs))) (hv : vs[2]? = some v) (q : A v) : ∃ a' C' dx' fs v', V.ref a = .ref a' ∧ H a' = some (.ins C' dx' fs) ∧ Cls K C' ∧ NoAttr K C' "peak" ∧ fs.lookup ("peak" : Str) = some v' ∧ A v' := g_fldE ho T.k_Cubic T.n_Cubic_peak nd_Cubic rfl hv q
theorem st_Cubic_peak {A : Hp → Prop} (ho : H a = some (.ins T.C_Cubic dx (obj ky_Cubic vs))) (hv : 2 < vs.length) (q : A (upd H a (.ins T.C_Cubic dx (obj ky_Cubic (vs.set 2 y))))) : ∃ a' C' dx' fs, V.ref a = .ref a' ∧ H a' = some (.ins C' dx' fs) ∧ Cls K C' ∧ NoAttr K C' "peak" ∧ fs.length < 1000 ∧ A (upd H a' (.ins C' dx' (putF "peak" y fs))) := g_putE ho T.k_Cubic T.n_Cubic_peak nd_Cubic (by decide) rfl hv q
theorem nw_Cubic_peak {A : Hp → Prop} (ho : H a = some (.ins T.C_Cubic dx (obj ky_Cubic vs))) (hv : vs.length = 2) (q : A (upd H a (.ins T.C_Cubic dx (obj ky_Cubic (vs ++ [y]))))) : ∃ a' C' dx' fs, V.ref a = .ref a' ∧ H a' = some (.ins C' dx' fs) ∧ Cls K C' ∧ NoAttr K C' "peak" ∧ fs.length < 1000 ∧ A (upd H a' (.ins C' dx' (putF "peak" y fs))) := g_newE ho T.k_Cubic T.n_Cubic_peak nd_Cubic (by decide) (by rw [hv]; rfl) q
theorem fd_Cubic_prior {A : V → Prop} (ho : H a = some (.ins T.C_Cubic dx (obj ky_Cubic vs))) (hv : vs[3]? = some v) (q : A v) : ∃ a' C' dx' fs v', V.ref a = .ref a' ∧ H a' = some (.ins C' dx' fs) ∧ Cls K C' ∧ NoAttr K C' "prior" ∧ fs.lookup ("prior" : Str) = some v' ∧ A v' := g_fldE ho T.k_Cubic T.n_Cubic_prior nd_Cubic rfl hv q
theorem st_Cubic_prior {A : Hp → Prop} (ho : H a = some (.ins T.C_Cubic dx (obj ky_Cubic vs))) (hv : 3 < vs.length) (q : A (upd H a (.ins T.C_Cubic dx (obj ky_Cubic (vs.set 3 y))))) : ∃ a' C' dx' fs, V.ref a = .ref a' ∧ H a' = some (.ins C' dx' fs) ∧ Cls K C' ∧ NoAttr K C' "prior" ∧ fs.length < 1000 ∧ A (upd H a' (.ins C' dx' (putF "prior" y fs))) := g_putE ho T.k_Cubic T.n_Cubic_prior nd_Cubic (by decide) rfl hv q
theorem nw_Cubic_prior {A : Hp → Prop} (ho : H a = some (.ins T.C_Cubic dx (obj ky_Cubic vs))) (hv : vs.length = 3) (q : A (upd H a (.ins T.C_Cubic dx (obj ky_Cubic (vs ++ [y]))))) : ∃ a' C' dx' fs, V.ref a = .ref a' ∧ H a' = some (.ins C' dx' fs) ∧ Cls K C' ∧ NoAttr K C' "prior" ∧ fs.length < 1000 ∧ A (upd H a' (.ins C' dx' (putF "prior" y fs))) := g_newE ho T.k_Cubic T.n_Cubic_prior nd_Cubic (by decide) (by rw [hv]; rfl) q
theorem fd_Cubic_calm {A : V → Prop} (ho : H a = some (.ins T.C_Cubic dx (obj ky_Cubic vs))) (hv : vs[4]? = some v) (q : A v) : ∃ a' C' dx' fs v', V.ref a = .ref a' ∧ H a' = some (.ins C' dx' fs) ∧ Cls K C' ∧ NoAttr K C' "calm" ∧ fs.lookup ("calm" : Str) = some v' ∧ A v' := g_fldE ho T.k_Cubic T.n_Cubic_calm nd_Cubic rfl hv q
theorem st_Cubic_calm {A : Hp → Prop} (ho : H a = some (.ins T.C_Cubic dx (obj ky_Cubic vs))) (hv : 4 < vs.length) (q : A (upd H a (.ins T.C_Cubic dx (obj ky_Cubic (vs.set 4 y))))) : ∃ a' C' dx' fs, V.ref a = .ref a' ∧ H a' = some (.ins C' dx' fs) ∧ Cls K C' ∧ NoAttr K C' "calm" ∧ fs.length < 1000 ∧ A (upd H a' (.ins C' dx' (putF "calm" y fs))) := g_putE ho T.k_Cubic T.n_Cubic_calm nd_Cubic (by decide) rfl hv q
theorem nw_Cubic_calm {A : Hp → Prop} (ho : H a = some (.ins T.C_Cubic dx (obj ky_Cubic vs))) (hv : vs.length = 4) (q : A (upd H a (.ins T.C_Cubic dx (obj ky_Cubic (vs ++ [y]))))) : ∃ a' C' dx' fs, V.ref a = .ref a' ∧ H a' = some (.ins C' dx' fs) ∧ Cls K C' ∧ NoAttr K C' "calm" ∧ fs.length < 1000 ∧ A (upd H a' (.ins C' dx' (putF "calm" y fs))) := g_newE ho T.k_Cubic T.n_Cubic_calm nd_Cubic (by decide) (by rw [hv]; rfl) q
theorem fd_Cubic_period {A : V → Prop} (ho : H a = some (.ins T.C_Cubic dx (obj ky_Cubic vs))) (hv : vs[5]? = some v) (q : A v) : ∃ a' C' dx' fs v', V.ref a = .ref a' ∧ H a' = some (.ins C' dx' fs) ∧ Cls K C' ∧ NoAttr K C' "period" ∧ fs.lookup ("period" : Str) = some v' ∧ A v' := g_fldE ho T.k_Cubic T.n_Cubic_period nd_Cubic rfl hv q
theorem st_Cubic_period {A : Hp → Prop} (ho : H a = some (.ins T.C_Cubic dx (obj ky_Cubic vs))) (hv : 5 < vs.length) (q : A (upd H a (.ins T.C_Cubic dx (obj ky_Cubic (vs.set 5 y))))) : ∃ a' C' dx' fs, V.ref a = .ref a' ∧ H a' = some (.ins C' dx' fs) ∧ Cls K C' ∧ NoAttr K C' "period" ∧ fs.length < 1000 ∧ A (upd H a' (.ins C' dx' (putF "period" y fs))) := g_putE ho T.k_Cubic T.n_Cubic_period nd_Cubic (by decide) rfl hv q
theorem nw_Cubic_period {A : Hp → Prop} (ho : H a = some (.ins T.C_Cubic dx (obj ky_Cubic vs))) (hv : vs.length = 5) (q : A (upd H a (.ins T.C_Cubic dx (obj ky_Cubic (vs ++ [y]))))) : ∃ a' C' dx' fs, V.ref a = .ref a' ∧ H a' = some (.ins C' dx' fs) ∧ Cls K C' ∧ NoAttr K C' "period" ∧ fs.length < 1000 ∧ A (upd H a' (.ins C' dx' (putF "period" y fs))) := g_newE ho T.k_Cubic T.n_Cubic_period nd_Cubic (by decide) (by rw [hv]; rfl) q
theorem me_Cubic_fork {A : Prop} (ho : H a = some (.ins T.C_Cubic dx (obj ky_Cubic vs))) (q : A) : ∃ a' dx' fs, V.ref a = .ref a' ∧ H a' = some (.ins T.C_Cubic dx' fs) ∧ fs.lookup ("fork" : Str) = none ∧ A := g_methE ho (by decide +kernel) q
theorem me_Cubic_avoid {A : Prop} (ho : H a = some (.ins T.C_Cubic dx (obj ky_Cubic vs))) (q : A) : ∃ a' dx' fs, V.ref a = .ref a' ∧ H a' = some (.ins T.C_Cubic dx' fs) ∧ fs.lookup ("_avoid" : Str) = none ∧ A := g_methE ho (by decide +kernel) q
theorem me_Cubic_new_period {A : Prop} (ho : H a = some (.ins T.C_Cubic dx (obj ky_Cubic vs))) (q : A) : ∃ a' dx' fs, V.ref a = .ref a' ∧ H a' = some (.ins T.C_Cubic dx' fs) ∧ fs.lookup ("_new_period" : Str) = none ∧ A := g_methE ho (by decide +kernel) q
theorem me_Cubic_share {A : Prop} (ho : H a = some (.ins T.C_Cubic dx (obj ky_Cubic vs))) (q : A) : ∃ a' dx' fs, V.ref a = .ref a' ∧ H a' = some (.ins T.C_Cubic dx' fs) ∧ fs.lookup ("_share" : Str) = none ∧ A := g_methE ho (by decide +kernel) q
theorem me_Cubic_begin_anew {A : Prop} (ho : H a = some (.ins T.C_Cubic dx (obj ky_Cubic vs))) (q : A) : ∃ a' dx' fs, V.ref a = .ref a' ∧ H a' = some (.ins T.C_Cubic dx' fs) ∧ fs.lookup ("_begin_anew" : Str) = none ∧ A := g_methE ho (by decide +kernel) q
theorem me_Cubic_acknowledge {A : Prop} (ho : H a = some (.ins T.C_Cubic dx (obj ky_Cubic vs))) (q : A) : ∃ a' dx' fs, V.ref a = .ref a' ∧ H a' = some (.ins T.C_Cubic dx' fs) ∧ fs.lookup ("acknowledge" : Str) = none ∧ A := g_methE ho (by decide +kernel) q
theorem me_Cubic_lose {A : Prop} (ho : H a = some (.ins T.C_Cubic dx (obj ky_Cubic vs))) (q : A) : ∃ a' dx' fs, V.ref a = .ref a' ∧ H a' = some (.ins T.C_Cubic dx' fs) ∧ fs.lookup ("lose" : Str) = none ∧ A := g_methE ho (by decide +kernel) q
theorem me_Cubic_time_out {A : Prop} (ho : H a = some (.ins T.C_Cubic dx (obj ky_Cubic vs))) (q : A) : ∃ a' dx' fs, V.ref a = .ref a' ∧ H a' = some (.ins T.C_Cubic dx' fs) ∧ fs.lookup ("time_out" : Str) = none ∧ A := g_methE ho (by decide +kernel) q
theorem me_Cubic_mark {A : Prop} (ho : H a = some (.ins T.C_Cubic dx (obj ky_Cubic vs))) (q : A) : ∃ a' dx' fs, V.ref a = .ref a' ∧ H a' = some (.ins T.C_Cubic dx' fs) ∧ fs.lookup ("mark" : Str) = none ∧ A := g_methE ho (by decide +kernel) q
theorem me_Cubic_bounded {A : Prop} (ho : H a = some (.ins T.C_Cubic dx (obj ky_Cubic vs))) (q : A) : ∃ a' dx' fs, V.ref a = .ref a' ∧ H a' = some (.ins T.C_Cubic dx' fs) ∧ fs.lookup ("_bounded" : Str) = none ∧ A := g_methE ho (by decide +kernel) q
theorem me_Cubic_give_to {A : Prop} (ho : H a = some (.ins T.C_Cubic dx (obj ky_Cubic vs))) (q : A) : ∃ a' dx' fs, V.ref a = .ref a' ∧ H a' = some (.ins T.C_Cubic dx' fs) ∧ fs.lookup ("_give_to" : Str) = none ∧ A := g_methE ho (by decide +kernel) q
end
def ky_Reno : List Str := ["cwnd", "thresh", "peak", "prior", "calm", "credit"]
theorem nd_Reno : ky_Reno.Nodup := by decide +kernel
section
variable {P : Program} {K : PySem.W.Frag} {mg : Str → Option Value} {T : Txt P K mg} {H : Hp} {a dx : Addr} {vs : List V} {v y : V}
theorem fd_Reno_cwnd {A : V → Prop} (ho : H a = some (.ins T.C_Reno dx (obj ky_Reno vs))) (hv : vs[0]? = some v) (q : A v) : ∃ a' C' dx' fs v', V.ref a = .ref a' ∧ H a' = some (.ins C' dx' fs) ∧ Cls K C' ∧ NoAttr K C' "cwnd" ∧ fs.lookup ("cwnd" : Str) = some v' ∧ A v' := g_fldE ho T.k_Reno T.n_Reno_cwnd nd_Reno rfl hv q
theorem st_Reno_cwnd {A : Hp → Prop} (ho : H a = some (.ins T.C_Reno dx (obj ky_Reno vs))) (hv : 0 < vs.length) (q : A (upd H a (.ins T.C_Reno dx (obj ky_Reno (vs.set 0 y))))) : ∃ a' C' dx' fs, V.ref a = .ref a' ∧ H a' = some (.ins C' dx' fs) ∧ Cls K C' ∧ NoAttr K C' "cwnd" ∧ fs.length < 1000 ∧ A (upd H a' (.ins C' dx' (putF "cwnd" y fs))) := g_putE ho T.k_Reno T.n_Reno_cwnd nd_Reno (by decide) rfl hv q
theorem nw_Reno_cwnd {A : Hp → Prop} (ho : H a = some (.ins T.C_Reno dx (obj ky_Reno vs))) (hv : vs.length = 0) (q : A (upd H a (.ins T.C_Reno dx (obj ky_Reno (vs ++ [y]))))) : ∃ a' C' dx' fs, V.ref a = .ref a' ∧ H a' = some (.ins C' dx' fs) ∧ Cls K C' ∧ NoAttr K C' "cwnd" ∧ fs.length < 1000 ∧ A (upd H a' (.ins C' dx' (putF "cwnd" y fs))) := g_newE ho T.k_Reno T.n_Reno_cwnd nd_Reno (by decide) (by rw [hv]; rfl) q
theorem fd_Reno_thresh {A : V → Prop} (ho : H a = some (.ins T.C_Reno dx (obj ky_Reno vs))) (hv : vs[1]? = some v) (q : A v) : ∃ a' C' dx' fs v', V.ref a = .ref a' ∧ H a' = some (.ins C' dx' fs) ∧ Cls K C' ∧ NoAttr K C' "thresh" ∧ fs.lookup ("thresh" : Str) = some v' ∧ A v' := g_fldE ho T.k_Reno T.n_Reno_thresh nd_Reno rfl hv q
theorem st_Reno_thresh {A : Hp → Prop} (ho : H a = some (.ins T.C_Reno dx (obj ky_Reno vs))) (hv : 1 < vs.length) (q : A (upd H a (.ins T.C_Reno dx (obj ky_Reno (vs.set 1 y))))) : ∃ a' C' dx' fs, V.ref a = .ref a' ∧ H a' = some (.ins C' dx' fs) ∧ Cls K C' ∧ NoAttr K C' "thresh" ∧ fs.length < 1000 ∧ A (upd H a' (.ins C' dx' (putF "thresh" y fs))) := g_putE ho T.k_Reno T.n_Reno_thresh nd_Reno (by decide) rfl hv q
theorem nw_Reno_thresh {A : Hp → Prop} (ho : H a = some (.ins T.C_Reno dx (obj ky_Reno vs))) (hv : vs.length = 1) (q : A (upd H a (.ins T.C_Reno dx (obj ky_Reno (vs ++ [y]))))) : ∃ a' C' dx' fs, V.ref a = .ref a' ∧ H a' = some (.ins C' dx' fs) ∧ Cls K C' ∧ NoAttr K C' "thresh" ∧ fs.length < 1000 ∧ A (upd H a' (.ins C' dx' (putF "thresh" y fs))) := g_newE ho T.k_Reno T.n_Reno_thresh nd_Reno (by decide) (by rw [hv]; rfl) q
theorem fd_Reno_peak {A : V → Prop} (ho : H a = some (.ins T.C_Reno dx (obj ky_Reno vs))) (hv : vs[2]? = some v) (q : A v) : ∃ a' C' dx' fs v', V.ref a = .ref a' ∧ H a' = some (.ins C' dx' fs) ∧ Cls K C' ∧ NoAttr K C' "peak" ∧ fs.lookup ("peak" : Str) = some v' ∧ A v' := g_fldE ho T.k_Reno T.n_Reno_peak nd_Reno rfl hv q
theorem st_Reno_peak {A : Hp → Prop} (ho : H a = some (.ins T.C_Reno dx (obj ky_Reno vs))) (hv : 2 < vs.length) (q : A (upd H a (.ins T.C_Reno dx (obj ky_Reno (vs.set 2 y))))) : ∃ a' C' dx' fs, V.ref a = .ref a' ∧ H a' = some (.ins C' dx' fs) ∧ Cls K C' ∧ NoAttr K C' "peak" ∧ fs.length < 1000 ∧ A (upd H a' (.ins C' dx' (putF "peak" y fs))) := g_putE ho T.k_Reno T.n_Reno_peak nd_Reno (by decide) rfl hv q
theorem nw_Reno_peak {A : Hp → Prop} (ho : H a = some (.ins T.C_Reno dx (obj ky_Reno vs))) (hv : vs.length = 2) (q : A (upd H a (.ins T.C_Reno dx (obj ky_Reno (vs ++ [y]))))) : ∃ a' C' dx' fs, V.ref a = .ref a' ∧ H a' = some (.ins C' dx' fs) ∧ Cls K C' ∧ NoAttr K C' "peak" ∧ fs.length < 1000 ∧ A (upd H a' (.ins C' dx' (putF "peak" y fs))) := g_newE ho T.k_Reno T.n_Reno_peak nd_Reno (by decide) (by rw [hv]; rfl) q
theorem fd_Reno_prior {A : V → Prop} (ho : H a = some (.ins T.C_Reno dx (obj ky_Reno vs))) (hv : vs[3]? = some v) (q : A v) : ∃ a' C' dx' fs v', V.ref a = .ref a' ∧ H a' = some (.ins C' dx' fs) ∧ Cls K C' ∧ NoAttr K C' "prior" ∧ fs.lookup ("prior" : Str) = some v' ∧ A v' := g_fldE ho T.k_Reno T.n_Reno_prior nd_Reno rfl hv q
theorem st_Reno_prior {A : Hp → Prop} (ho : H a = some (.ins T.C_Reno dx (obj ky_Reno vs))) (hv : 3 < vs.length) (q : A (upd H a (.ins T.C_Reno dx (obj ky_Reno (vs.set 3 y))))) : ∃ a' C' dx' fs, V.ref a = .ref a' ∧ H a' = some (.ins C' dx' fs) ∧ Cls K C' ∧ NoAttr K C' "prior" ∧ fs.length < 1000 ∧ A (upd H a' (.ins C' dx' (putF "prior" y fs))) := g_putE ho T.k_Reno T.n_Reno_prior nd_Reno (by decide) rfl hv q
theorem nw_Reno_prior {A : Hp → Prop} (ho : H a = some (.ins T.C_Reno dx (obj ky_Reno vs))) (hv : vs.length = 3) (q : A (upd H a (.ins T.C_Reno dx (obj ky_Reno (vs ++ [y]))))) : ∃ a' C' dx' fs, V.ref a = .ref a' ∧ H a' = some (.ins C' dx' fs) ∧ Cls K C' ∧ NoAttr K C' "prior" ∧ fs.length < 1000 ∧ A (upd H a' (.ins C' dx' (putF "prior" y fs))) := g_newE ho T.k_Reno T.n_Reno_prior nd_Reno (by decide) (by rw [hv]; rfl) q
theorem fd_Reno_calm {A : V → Prop} (ho : H a = some (.ins T.C_Reno dx (obj ky_Reno vs))) (hv : vs[4]? = some v) (q : A v) : ∃ a' C' dx' fs v', V.ref a = .ref a' ∧ H a' = some (.ins C' dx' fs) ∧ Cls K C' ∧ NoAttr K C' "calm" ∧ fs.lookup ("calm" : Str) = some v' ∧ A v' := g_fldE ho T.k_Reno T.n_Reno_calm nd_Reno rfl hv q
theorem st_Reno_calm {A : Hp → Prop} (ho : H a = some (.ins T.C_Reno dx (obj ky_Reno vs))) (hv : 4 < vs.length) (q : A (upd H a (.ins T.C_Reno dx (obj ky_Reno (vs.set 4 y))))) : ∃ a' C' dx' fs, V.ref a = .ref a' ∧ H a' = some (.ins C' dx' fs) ∧ Cls K C' ∧ NoAttr K C' "calm" ∧ fs.length < 1000 ∧ A (upd H a' (.ins C' dx' (putF "calm" y fs))) := g_putE ho T.k_Reno T.n_Reno_calm nd_Reno (by decide) rfl hv q
theorem nw_Reno_calm {A : Hp → Prop} (ho : H a = some (.ins T.C_Reno dx (obj ky_Reno vs))) (hv : vs.length = 4) (q : A (upd H a (.ins T.C_Reno dx (obj ky_Reno (vs ++ [y]))))) : ∃ a' C' dx' fs, V.ref a = .ref a' ∧ H a' = some (.ins C' dx' fs) ∧ Cls K C' ∧ NoAttr K C' "calm" ∧ fs.length < 1000 ∧ A (upd H a' (.ins C' dx' (putF "calm" y fs))) := g_newE ho T.k_Reno T.n_Reno_calm nd_Reno (by decide) (by rw [hv]; rfl) q
theorem fd_Reno_credit {A : V → Prop} (ho : H a = some (.ins T.C_Reno dx (obj ky_Reno vs))) (hv : vs[5]? = some v) (q : A v) : ∃ a' C' dx' fs v', V.ref a = .ref a' ∧ H a' = some (.ins C' dx' fs) ∧ Cls K C' ∧ NoAttr K C' "credit" ∧ fs.lookup ("credit" : Str) = some v' ∧ A v' := g_fldE ho T.k_Reno T.n_Reno_credit nd_Reno rfl hv q
theorem st_Reno_credit {A : Hp → Prop} (ho : H a = some (.ins T.C_Reno dx (obj ky_Reno vs))) (hv : 5 < vs.length) (q : A (upd H a (.ins T.C_Reno dx (obj ky_Reno (vs.set 5 y))))) : ∃ a' C' dx' fs, V.ref a = .ref a' ∧ H a' = some (.ins C' dx' fs) ∧ Cls K C' ∧ NoAttr K C' "credit" ∧ fs.length < 1000 ∧ A (upd H a' (.ins C' dx' (putF "credit" y fs))) := g_putE ho T.k_Reno T.n_Reno_credit nd_Reno (by decide) rfl hv q
theorem nw_Reno_credit {A : Hp → Prop} (ho : H a = some (.ins T.C_Reno dx (obj ky_Reno vs))) (hv : vs.length = 5) (q : A (upd H a (.ins T.C_Reno dx (obj ky_Reno (vs ++ [y]))))) : ∃ a' C' dx' fs, V.ref a = .ref a' ∧ H a' = some (.ins C' dx' fs) ∧ Cls K C' ∧ NoAttr K C' "credit" ∧ fs.length < 1000 ∧ A (upd H a' (.ins C' dx' (putF "credit" y fs))) := g_newE ho T.k_Reno T.n_Reno_credit nd_Reno (by decide) (by rw [hv]; rfl) q
theorem me_Reno_fork {A : Prop} (ho : H a = some (.ins T.C_Reno dx (obj ky_Reno vs))) (q : A) : ∃ a' dx' fs, V.ref a = .ref a' ∧ H a' = some (.ins T.C_Reno dx' fs) ∧ fs.lookup ("fork" : Str) = none ∧ A := g_methE ho (by decide +kernel) q
theorem me_Reno_avoid {A : Prop} (ho : H a = some (.ins T.C_Reno dx (obj ky_Reno vs))) (q : A) : ∃ a' dx' fs, V.ref a = .ref a' ∧ H a' = some (.ins T.C_Reno dx' fs) ∧ fs.lookup ("_avoid" : Str) = none ∧ A := g_methE ho (by decide +kernel) q
theorem me_Reno_share {A : Prop} (ho : H a = some (.ins T.C_Reno dx (obj ky_Reno vs))) (q : A) : ∃ a' dx' fs, V.ref a = .ref a' ∧ H a' = some (.ins T.C_Reno dx' fs) ∧ fs.lookup ("_share" : Str) = none ∧ A := g_methE ho (by decide +kernel) q
theorem me_Reno_begin_anew {A : Prop} (ho : H a = some (.ins T.C_Reno dx (obj ky_Reno vs))) (q : A) : ∃ a' dx' fs, V.ref a = .ref a' ∧ H a' = some (.ins T.C_Reno dx' fs) ∧ fs.lookup ("_begin_anew" : Str) = none ∧ A := g_methE ho (by decide +kernel) q
theorem me_Reno_acknowledge {A : Prop} (ho : H a = some (.ins T.C_Reno dx (obj ky_Reno vs))) (q : A) : ∃ a' dx' fs, V.ref a = .ref a' ∧ H a' = some (.ins T.C_Reno dx' fs) ∧ fs.lookup ("acknowledge" : Str) = none ∧ A := g_methE ho (by decide +kernel) q
theorem me_Reno_lose {A : Prop} (ho : H a = some (.ins T.C_Reno dx (obj ky_Reno vs))) (q : A) : ∃ a' dx' fs, V.ref a = .ref a' ∧ H a' = some (.ins T.C_Reno dx' fs) ∧ fs.lookup ("lose" : Str) = none ∧ A := g_methE ho (by decide +kernel) q
theorem me_Reno_time_out {A : Prop} (ho : H a = some (.ins T.C_Reno dx (obj ky_Reno vs))) (q : A) : ∃ a' dx' fs, V.ref a = .ref a' ∧ H a' = some (.ins T.C_Reno dx' fs) ∧ fs.lookup ("time_out" : Str) = none ∧ A := g_methE ho (by decide +kernel) q
theorem me_Reno_mark {A : Prop} (ho : H a = some (.ins T.C_Reno dx (obj ky_Reno vs))) (q : A) : ∃ a' dx' fs, V.ref a = .ref a' ∧ H a' = some (.ins T.C_Reno dx' fs) ∧ fs.lookup ("mark" : Str) = none ∧ A := g_methE ho (by decide +kernel) q
theorem me_Reno_bounded {A : Prop} (ho : H a = some (.ins T.C_Reno dx (obj ky_Reno vs))) (q : A) : ∃ a' dx' fs, V.ref a = .ref a' ∧ H a' = some (.ins T.C_Reno dx' fs) ∧ fs.lookup ("_bounded" : Str) = none ∧ A := g_methE ho (by decide +kernel) q
theorem me_Reno_give_to {A : Prop} (ho : H a = some (.ins T.C_Reno dx (obj ky_Reno vs))) (q : A) : ∃ a' dx' fs, V.ref a = .ref a' ∧ H a' = some (.ins T.C_Reno dx' fs) ∧ fs.lookup ("_give_to" : Str) = none ∧ A := g_methE ho (by decide +kernel) q
end
local macro_rules | `(tactic| walk_at "use") => `(tactic| first | ((with_reducible refine' fd_Cubic_cwnd ?ho_ ?hv_ ?_); (case ho_ => first | assumption | exact upd_same); (case hv_ => exact rfl)) | ((with_reducible refine' fd_Cubic_thresh ?ho_ ?hv_ ?_); (case ho_ => first | assumption | exact upd_same); (case hv_ => exact rfl)) | ((with_reducible refine' fd_Cubic_peak ?ho_ ?hv_ ?_); (case ho_ => first | assumption | exact upd_same); (case hv_ => exact rfl)) | ((with_reducible refine' fd_Cubic_prior ?ho_ ?hv_ ?_); (case ho_ => first | assumption | exact upd_same); (case hv_ => exact rfl)) | ((with_reducible refine' fd_Cubic_calm ?ho_ ?hv_ ?_); (case ho_ => first | assumption | exact upd_same); (case hv_ => exact rfl)) | ((with_reducible refine' fd_Cubic_period ?ho_ ?hv_ ?_); (case ho_ => first | assumption | exact upd_same); (case hv_ => exact rfl)) | ((with_reducible refine' nw_Cubic_cwnd ?ho_ ?hv_ ?_); (case ho_ => first | assumption | exact upd_same); (case hv_ => exact rfl)) | ((with_reducible refine' nw_Cubic_thresh ?ho_ ?hv_ ?_); (case ho_ => first | assumption | exact upd_same); (case hv_ => exact rfl)) | ((with_reducible refine' nw_Cubic_peak ?ho_ ?hv_ ?_); (case ho_ => first | assumption | exact upd_same); (case hv_ => exact rfl)) | ((with_reducible refine' nw_Cubic_prior ?ho_ ?hv_ ?_); (case ho_ => first | assumption | exact upd_same); (case hv_ => exact rfl)) | ((with_reducible refine' nw_Cubic_calm ?ho_ ?hv_ ?_); (case ho_ => first | assumption | exact upd_same); (case hv_ => exact rfl)) | ((with_reducible refine' nw_Cubic_period ?ho_ ?hv_ ?_); (case ho_ => first | assumption | exact upd_same); (case hv_ => exact rfl)) | ((with_reducible refine' st_Cubic_cwnd ?ho_ ?hv_ ?_); (case ho_ => first | assumption | exact upd_same); (case hv_ => exact Nat.le_of_ble_eq_true rfl)) | ((with_reducible refine' st_Cubic_thresh ?ho_ ?hv_ ?_); (case ho_ => first | assumption | exact upd_same); (case hv_ => exact Nat.le_of_ble_eq_true rfl)) | ((with_reducible refine' st_Cubic_peak ?ho_ ?hv_ ?_); (case ho_ => first | assumption | exact upd_same); (case hv_ => exact Nat.le_of_ble_eq_true rfl)) | ((with_reducible refine' st_Cubic_prior ?ho_ ?hv_ ?_); (case ho_ => first | assumption | exact upd_same); (case hv_ => exact Nat.le_of_ble_eq_true rfl)) | ((with_reducible refine' st_Cubic_calm ?ho_ ?hv_ ?_); (case ho_ => first | assumption | exact upd_same); (case hv_ => exact Nat.le_of_ble_eq_true rfl)) | ((with_reducible refine' st_Cubic_period ?ho_ ?hv_ ?_); (case ho_ => first | assumption | exact upd_same); (case hv_ => exact Nat.le_of_ble_eq_true rfl)) | ((with_reducible refine' me_Cubic_fork ?ho_ ?_); (case ho_ => first | assumption | exact upd_same)) | ((with_reducible refine' me_Cubic_avoid ?ho_ ?_); (case ho_ => first | assumption | exact upd_same)) | ((with_reducible refine' me_Cubic_new_period ?ho_ ?_); (case ho_ => first | assumption | exact upd_same)) | ((with_reducible refine' me_Cubic_share ?ho_ ?_); (case ho_ => first | assumption | exact upd_same)) | ((with_reducible refine' me_Cubic_begin_anew ?ho_ ?_); (case ho_ => first | assumption | exact upd_same)) | ((with_reducible refine' me_Cubic_acknowledge ?ho_ ?_); (case ho_ => first | assumption | exact upd_same)) | ((with_reducible refine' me_Cubic_lose ?ho_ ?_); (case ho_ => first | assumption | exact upd_same)) | ((with_reducible refine' me_Cubic_time_out ?ho_ ?_); (case ho_ => first | assumption | exact upd_same)) | ((with_reducible refine' me_Cubic_mark ?ho_ ?_); (case ho_ => first | assumption | exact upd_same)) | ((with_reducible refine' me_Cubic_bounded ?ho_ ?_); (case ho_ => first | assumption | exact upd_same)) | ((with_reducible refine' me_Cubic_give_to ?ho_ ?_); (case ho_ => first | assumption | exact upd_same)))
local macro_rules | `(tactic| walk_at "use") => `(tactic| first | ((with_reducible refine' fd_Reno_cwnd ?ho_ ?hv_ ?_); (case ho_ => first | assumption | exact upd_same); (case hv_ => exact rfl)) | ((with_reducible refine' fd_Reno_thresh ?ho_ ?hv_ ?_); (case ho_ => first | assumption | exact upd_same); (case hv_ => exact rfl)) | ((with_reducible refine' fd_Reno_peak ?ho_ ?hv_ ?_); (case ho_ => first | assumption | exact upd_same); (case hv_ => exact rfl)) | ((with_reducible refine' fd_Reno_prior ?ho_ ?hv_ ?_); (case ho_ => first | assumption | exact upd_same); (case hv_ => exact rfl)) | ((with_reducible refine' fd_Reno_calm ?ho_ ?hv_ ?_); (case ho_ => first | assumption | exact upd_same); (case hv_ => exact rfl)) | ((with_reducible refine' fd_Reno_credit ?ho_ ?hv_ ?_); (case ho_ => first | assumption | exact upd_same); (case hv_ => exact rfl)) | ((with_reducible refine' nw_Reno_cwnd ?ho_ ?hv_ ?_); (case ho_ => first | assumption | exact upd_same); (case hv_ => exact rfl)) | ((with_reducible refine' nw_Reno_thresh ?ho_ ?hv_ ?_); (case ho_ => first | assumption | exact upd_same); (case hv_ => exact rfl)) | ((with_reducible refine' nw_Reno_peak ?ho_ ?hv_ ?_); (case ho_ => first | assumption | exact upd_same); (case hv_ => exact rfl)) | ((with_reducible refine' nw_Reno_prior ?ho_ ?hv_ ?_); (case ho_ => first | assumption | exact upd_same); (case hv_ => exact rfl)) | ((with_reducible refine' nw_Reno_calm ?ho_ ?hv_ ?_); (case ho_ => first | assumption | exact upd_same); (case hv_ => exact rfl)) | ((with_reducible refine' nw_Reno_credit ?ho_ ?hv_ ?_); (case ho_ => first | assumption | exact upd_same); (case hv_ => exact rfl)) | ((with_reducible refine' st_Reno_cwnd ?ho_ ?hv_ ?_); (case ho_ => first | assumption | exact upd_same); (case hv_ => exact Nat.le_of_ble_eq_true rfl)) | ((with_reducible refine' st_Reno_thresh ?ho_ ?hv_ ?_); (case ho_ => first | assumption | exact upd_same); (case hv_ => exact Nat.le_of_ble_eq_true rfl)) | ((with_reducible refine' st_Reno_peak ?ho_ ?hv_ ?_); (case ho_ => first | assumption | exact upd_same); (case hv_ => exact Nat.le_of_ble_eq_true rfl)) | ((with_reducible refine' st_Reno_prior ?ho_ ?hv_ ?_); (case ho_ => first | assumption | exact upd_same); (case hv_ => exact Nat.le_of_ble_eq_true rfl)) | ((with_reducible refine' st_Reno_calm ?ho_ ?hv_ ?_); (case ho_ => first | assumption | exact upd_same); (case hv_ => exact Nat.le_of_ble_eq_true rfl)) | ((with_reducible refine' st_Reno_credit ?ho_ ?hv_ ?_); (case ho_ => first | assumption | exact upd_same); (case hv_ => exact Nat.le_of_ble_eq_true rfl)) | ((with_reducible refine' me_Reno_fork ?ho_ ?_); (case ho_ => first | assumption | exact upd_same)) | ((with_reducible refine' me_Reno_avoid ?ho_ ?_); (case ho_ => first | assumption | exact upd_same)) | ((with_reducible refine' me_Reno_share ?ho_ ?_); (case ho_ => first | assumption | exact upd_same)) | ((with_reducible refine' me_Reno_begin_anew ?ho_ ?_); (case ho_ => first | assumption | exact upd_same)) | ((with_reducible refine' me_Reno_acknowledge ?ho_ ?_); (case ho_ => first | assumption | exact upd_same)) | ((with_reducible refine' me_Reno_lose ?ho_ ?_); (case ho_ => first | assumption | exact upd_same)) | ((with_reducible refine' me_Reno_time_out ?ho_ ?_); (case ho_ => first | assumption | exact upd_same)) | ((with_reducible refine' me_Reno_mark ?ho_ ?_); (case ho_ => first | assumption | exact upd_same)) | ((with_reducible refine' me_Reno_bounded ?ho_ ?_); (case ho_ => first | assumption | exact upd_same)) | ((with_reducible refine' me_Reno_give_to ?ho_ ?_); (case ho_ => first | assumption | exact upd_same)))
/-! ### dicts with written texts as keys, by place -/
def dk (ks : List Str) (vs : List V) : List (Key × V) := (obj ks vs).map fun p => (Sum.inr p.1, p.2)
theorem val_map : ∀ {l : List (Str × V)} {k : Str}, valV (l.map fun p => ((Sum.inr p.1 : Key), p.2)) (.inr k) = l.lookup k
  | [], _ => rfl
  | p :: r, k => by
    by_cases e : k = p.1
    · subst e
      rw [List.map_cons, valV_pos (p := ((Sum.inr p.1 : Key), p.2)) rfl, List.lookup_cons_self]
    · rw [List.map_cons, valV_neg (p := ((Sum.inr p.1 : Key), p.2)) (fun z => e (Sum.inr.inj z).symm), List.lookup_cons, beq_eq_false_iff_ne.mpr e]
      exact val_map
theorem g_dgetT {td ty : TE} {σ : St} {H : Hp} {Q : VK} (h : td σ H fun x H1 => ty σ H1 fun y H2 => ∃ a v, x = .ref a ∧ DGet H2 a y (some v) ∧ Q v H2) : tDGet td ty σ H Q := h
theorem g_dputT {td ty tv : TE} {D : Ends} {σ : St} {H : Hp} (h : tv σ H fun v H1 => td σ H1 fun x H2 => ty σ H2 fun y H3 => ∃ a H4, x = .ref a ∧ DPut H3 a y v H4 ∧ D.nx σ H4) : sDPut td ty tv D σ H := h
theorem g_dget {H : Hp} {a : Addr} {ks : List Str} {vs : List V} {i : Nat} {k : Str} {v : V} {A : V → Prop} (ho : H a = some (.dK (dk ks vs))) (nd : ks.Nodup) (hk : ks[i]? = some k) (hv : vs[i]? = some v) (q : A v) : ∃ a' v', V.ref a = .ref a' ∧ DGet H a' (.str k) (some v') ∧ A v' := by
  refine ⟨a, v, rfl, ?_, q⟩
  have z := DGet.k (k := .inr k) ho
  rw [show valV (dk ks vs) (.inr k) = some v by unfold dk; rw [val_map, obj_get nd hk, hv]] at z
  exact z
theorem map_any {l : List (Str × V)} {k : Str} : ((l.map fun p => ((Sum.inr p.1 : Key), p.2)).any fun kv => decide (kv.1 = .inr k)) = (l.lookup k).isSome := by
  rw [valV_any, val_map]
theorem dk_put {ks : List Str} {vs : List V} {i : Nat} {k : Str} {y : V} (nd : ks.Nodup) (hk : ks[i]? = some k) (hv : i < vs.length) : putK (dk ks vs) (.inr k) y = dk ks (vs.set i y) := by
  have e1 : ((dk ks vs).any fun kv => decide (kv.1 = .inr k)) = true := by
    unfold dk
    rw [map_any, obj_get nd hk, List.getElem?_eq_getElem hv]
    rfl
  have e2 : dk ks (vs.set i y) = (putF k y (obj ks vs)).map fun p => ((Sum.inr p.1 : Key), p.2) := by rw [obj_put nd hk hv]; rfl
  rw [e2]
  unfold putK
  rw [if_pos e1]
  clear e1 e2
  unfold dk
  have nk : ((obj ks vs).map (·.1)).Nodup := by
    clear hv hk
    induction ks generalizing vs with
    | nil => exact List.nodup_nil
    | cons k0 ks ih =>
      cases vs with
      | nil => exact List.nodup_nil
      | cons v vs =>
        have nd' := List.nodup_cons.mp nd
        refine List.nodup_cons.mpr ⟨fun z => nd'.1 ?_, ih nd'.2⟩
        clear ih nd nd'
        induction ks generalizing vs with
        | nil => simp [obj] at z
        | cons k1 ks ih2 =>
          cases vs with
          | nil => simp [obj] at z
          | cons v1 vs =>
            rcases List.mem_cons.mp z with e | z
            · rw [show k0 = k1 from e]; exact List.mem_cons_self ..
            · exact List.mem_cons_of_mem _ (ih2 (vs := vs) z)
  have hm : k ∈ (obj ks vs).map (·.1) := by
    have : ((obj ks vs).lookup k).isSome = true := by rw [obj_get nd hk, List.getElem?_eq_getElem hv]; rfl
    clear nk hv hk nd
    generalize obj ks vs = l at this ⊢
    induction l with
    | nil => cases this
    | cons p r ih =>
      by_cases e : k = p.1
      · rw [e]; exact List.mem_cons_self ..
      · rw [List.lookup_cons, beq_eq_false_iff_ne.mpr e] at this
        exact List.mem_cons_of_mem _ (ih this)
  generalize obj ks vs = l at nk hm ⊢
  clear nd hk hv
  induction l with
  | nil => cases hm
  | cons p r ih =>
    obtain ⟨n1, n2⟩ := List.nodup_cons.mp nk
    show _ = (if p.1 = k then (p.1, y) :: r else p :: putF k y r).map _
    by_cases e : p.1 = k
    · rw [if_pos e, List.map_cons, List.map_cons, List.map_cons]
      subst e
      rw [if_pos rfl]
      congr 1
      rw [List.map_map]
      refine List.map_congr_left fun q hq => ?_
      show (if (Sum.inr q.1 : Key) = Sum.inr p.1 then ((Sum.inr q.1 : Key), y) else (Sum.inr q.1, q.2)) = (Sum.inr q.1, q.2)
      rw [if_neg]
      intro z
      have w : p.1 ∈ r.map (·.1) := by
        rw [← Sum.inr.inj z]
        exact List.mem_map_of_mem (f := (·.1)) hq
      exact n1 w
    · rw [if_neg e, List.map_cons, List.map_cons, List.map_cons, if_neg (fun z => e (Sum.inr.inj z))]
      congr 1
      refine ih n2 ?_
      rcases List.mem_cons.mp hm with z | z
      · exact absurd z.symm e
      · exact z
theorem dk_new {ks : List Str} {vs : List V} {k : Str} {y : V} (nd : ks.Nodup) (hk : ks[vs.length]? = some k) : putK (dk ks vs) (.inr k) y = dk ks (vs ++ [y]) := by
  have e0 : (obj ks vs).lookup k = none := by rw [obj_get nd hk, List.getElem?_eq_none (Nat.le_refl _)]
  have e1 : ((dk ks vs).any fun kv => decide (kv.1 = .inr k)) = false := by
    unfold dk
    rw [map_any, e0]
    rfl
  unfold putK
  rw [e1, if_neg (by decide)]
  unfold dk
  have : obj ks (vs ++ [y]) = obj ks vs ++ [(k, y)] := by
    clear e0 e1 nd
    induction ks generalizing vs with
    | nil => cases hk
    | cons k0 ks ih =>
      cases vs with
      | nil =>
        have e : k0 = k := Option.some.inj hk
        subst e
        cases ks <;> rfl
      | cons v vs =>
        show (k0, v) :: obj ks (vs ++ [y]) = (k0, v) :: (obj ks vs ++ [(k, y)])
        rw [ih hk]
  rw [this, List.map_append]
  rfl
theorem dk_len {ks : List Str} {vs : List V} : (dk ks vs).length ≤ ks.length := by
  unfold dk
  rw [List.length_map]
  exact obj_len ks vs
theorem g_dput {H : Hp} {a : Addr} {ks : List Str} {vs : List V} {i : Nat} {k : Str} {v : V} {A : Hp → Prop} (ho : H a = some (.dK (dk ks vs))) (nd : ks.Nodup) (hl : ks.length < 100000) (hk : ks[i]? = some k) (hv : i < vs.length) (q : A (upd H a (.dK (dk ks (vs.set i v))))) : ∃ a' H', V.ref a = .ref a' ∧ DPut H a' (.str k) v H' ∧ A H' := by
  refine ⟨a, _, rfl, DPut.k (k := .inr k) ho (szl (Nat.lt_of_le_of_lt dk_len hl)), ?_⟩
  rw [dk_put nd hk hv]
  exact q
theorem g_dnew {H : Hp} {a : Addr} {ks : List Str} {vs : List V} {k : Str} {v : V} {A : Hp → Prop} (ho : H a = some (.dK (dk ks vs))) (nd : ks.Nodup) (hl : ks.length < 100000) (hk : ks[vs.length]? = some k) (q : A (upd H a (.dK (dk ks (vs ++ [v]))))) : ∃ a' H', V.ref a = .ref a' ∧ DPut H a' (.str k) v H' ∧ A H' := by
  refine ⟨a, _, rfl, DPut.k (k := .inr k) ho (szl (Nat.lt_of_le_of_lt dk_len hl)), ?_⟩
  rw [dk_new nd hk]
  exact q
local macro_rules | `(tactic| walk_at "use") => `(tactic| with_reducible first | refine g_dgetT ?_ | refine g_dputT ?_)

def kd_S : List Str := ["reno", "cwnd", "thresh", "peak", "prior", "calm", "credit", "period"]
theorem ndd_S : kd_S.Nodup := by decide +kernel
section
variable {H : Hp} {a : Addr} {vs : List V} {v y : V}
theorem dg_S_reno {A : V → Prop} (ho : H a = some (.dK (dk kd_S vs))) (hv : vs[0]? = some v) (q : A v) : ∃ a' v', V.ref a = .ref a' ∧ DGet H a' (.str "reno") (some v') ∧ A v' := g_dget ho ndd_S rfl hv q
theorem dp_S_reno {A : Hp → Prop} (ho : H a = some (.dK (dk kd_S vs))) (hv : 0 < vs.length) (q : A (upd H a (.dK (dk kd_S (vs.set 0 y))))) : ∃ a' H', V.ref a = .ref a' ∧ DPut H a' (.str "reno") y H' ∧ A H' := g_dput ho ndd_S (by decide) rfl hv q
theorem dn_S_reno {A : Hp → Prop} (ho : H a = some (.dK (dk kd_S vs))) (hv : vs.length = 0) (q : A (upd H a (.dK (dk kd_S (vs ++ [y]))))) : ∃ a' H', V.ref a = .ref a' ∧ DPut H a' (.str "reno") y H' ∧ A H' := g_dnew ho ndd_S (by decide) (by rw [hv]; rfl) q
theorem dg_S_cwnd {A : V → Prop} (ho : H a = some (.dK (dk kd_S vs))) (hv : vs[1]? = some v) (q : A v) : ∃ a' v', V.ref a = .ref a' ∧ DGet H a' (.str "cwnd") (some v') ∧ A v' := g_dget ho ndd_S rfl hv q
theorem dp_S_cwnd {A : Hp → Prop} (ho : H a = some (.dK (dk kd_S vs))) (hv : 1 < vs.length) (q : A (upd H a (.dK (dk kd_S (vs.set 1 y))))) : ∃ a' H', V.ref a = .ref a' ∧ DPut H a' (.str "cwnd") y H' ∧ A H' := g_dput ho ndd_S (by decide) rfl hv q
theorem dn_S_cwnd {A : Hp → Prop} (ho : H a = some (.dK (dk kd_S vs))) (hv : vs.length = 1) (q : A (upd H a (.dK (dk kd_S (vs ++ [y]))))) : ∃ a' H', V.ref a = .ref a' ∧ DPut H a' (.str "cwnd") y H' ∧ A H' := g_dnew ho ndd_S (by decide) (by rw [hv]; rfl) q
theorem dg_S_thresh {A : V → Prop} (ho : H a = some (.dK (dk kd_S vs))) (hv : vs[2]? = some v) (q : A v) : ∃ a' v', V.ref a = .ref a' ∧ DGet H a' (.str "thresh") (some v') ∧ A v' := g_dget ho ndd_S rfl hv q
theorem dp_S_thresh {A : Hp → Prop} (ho : H a = some (.dK (dk kd_S vs))) (hv : 2 < vs.length) (q : A (upd H a (.dK (dk kd_S (vs.set 2 y))))) : ∃ a' H', V.ref a = .ref a' ∧ DPut H a' (.str "thresh") y H' ∧ A H' := g_dput ho ndd_S (by decide) rfl hv q
theorem dn_S_thresh {A : Hp → Prop} (ho : H a = some (.dK (dk kd_S vs))) (hv : vs.length = 2) (q : A (upd H a (.dK (dk kd_S (vs ++ [y]))))) : ∃ a' H', V.ref a = .ref a' ∧ DPut H a' (.str "thresh") y H' ∧ A H' := g_dnew ho ndd_S (by decide) (by rw [hv]; rfl) q
theorem dg_S_peak {A : V → Prop} (ho : H a = some (.dK (dk kd_S vs))) (hv : vs[3]? = some v) (q : A v) : ∃ a' v', V.ref a = .ref a' ∧ DGet H a' (.str "peak") (some v') ∧ A v' := g_dget ho ndd_S rfl hv q
theorem dp_S_peak {A : Hp → Prop} (ho : H a = some (.dK (dk kd_S vs))) (hv : 3 < vs.length) (q : A (upd H a (.dK (dk kd_S (vs.set 3 y))))) : ∃ a' H', V.ref a = .ref a' ∧ DPut H a' (.str "peak") y H' ∧ A H' := g_dput ho ndd_S (by decide) rfl hv q
theorem dn_S_peak {A : Hp → Prop} (ho : H a = some (.dK (dk kd_S vs))) (hv : vs.length = 3) (q : A (upd H a (.dK (dk kd_S (vs ++ [y]))))) : ∃ a' H', V.ref a = .ref a' ∧ DPut H a' (.str "peak") y H' ∧ A H' := g_dnew ho ndd_S (by decide) (by rw [hv]; rfl) q
theorem dg_S_prior {A : V → Prop} (ho : H a = some (.dK (dk kd_S vs))) (hv : vs[4]? = some v) (q : A v) : ∃ a' v', V.ref a = .ref a' ∧ DGet H a' (.str "prior") (some v') ∧ A v' := g_dget ho ndd_S rfl hv q
theorem dp_S_prior {A : Hp → Prop} (ho : H a = some (.dK (dk kd_S vs))) (hv : 4 < vs.length) (q : A (upd H a (.dK (dk kd_S (vs.set 4 y))))) : ∃ a' H', V.ref a = .ref a' ∧ DPut H a' (.str "prior") y H' ∧ A H' := g_dput ho ndd_S (by decide) rfl hv q
theorem dn_S_prior {A : Hp → Prop} (ho : H a = some (.dK (dk kd_S vs))) (hv : vs.length = 4) (q : A (upd H a (.dK (dk kd_S (vs ++ [y]))))) : ∃ a' H', V.ref a = .ref a' ∧ DPut H a' (.str "prior") y H' ∧ A H' := g_dnew ho ndd_S (by decide) (by rw [hv]; rfl) q
theorem dg_S_calm {A : V → Prop} (ho : H a = some (.dK (dk kd_S vs))) (hv : vs[5]? = some v) (q : A v) : ∃ a' v', V.ref a = .ref a' ∧ DGet H a' (.str "calm") (some v') ∧ A v' := g_dget ho ndd_S rfl hv q
theorem dp_S_calm {A : Hp → Prop} (ho : H a = some (.dK (dk kd_S vs))) (hv : 5 < vs.length) (q : A (upd H a (.dK (dk kd_S (vs.set 5 y))))) : ∃ a' H', V.ref a = .ref a' ∧ DPut H a' (.str "calm") y H' ∧ A H' := g_dput ho ndd_S (by decide) rfl hv q
theorem dn_S_calm {A : Hp → Prop} (ho : H a = some (.dK (dk kd_S vs))) (hv : vs.length = 5) (q : A (upd H a (.dK (dk kd_S (vs ++ [y]))))) : ∃ a' H', V.ref a = .ref a' ∧ DPut H a' (.str "calm") y H' ∧ A H' := g_dnew ho ndd_S (by decide) (by rw [hv]; rfl) q
theorem dg_S_credit {A : V → Prop} (ho : H a = some (.dK (dk kd_S vs))) (hv : vs[6]? = some v) (q : A v) : ∃ a' v', V.ref a = .ref a' ∧ DGet H a' (.str "credit") (some v') ∧ A v' := g_dget ho ndd_S rfl hv q
theorem dp_S_credit {A : Hp → Prop} (ho : H a = some (.dK (dk kd_S vs))) (hv : 6 < vs.length) (q : A (upd H a (.dK (dk kd_S (vs.set 6 y))))) : ∃ a' H', V.ref a = .ref a' ∧ DPut H a' (.str "credit") y H' ∧ A H' := g_dput ho ndd_S (by decide) rfl hv q
theorem dn_S_credit {A : Hp → Prop} (ho : H a = some (.dK (dk kd_S vs))) (hv : vs.length = 6) (q : A (upd H a (.dK (dk kd_S (vs ++ [y]))))) : ∃ a' H', V.ref a = .ref a' ∧ DPut H a' (.str "credit") y H' ∧ A H' := g_dnew ho ndd_S (by decide) (by rw [hv]; rfl) q
theorem dg_S_period {A : V → Prop} (ho : H a = some (.dK (dk kd_S vs))) (hv : vs[7]? = some v) (q : A v) : ∃ a' v', V.ref a = .ref a' ∧ DGet H a' (.str "period") (some v') ∧ A v' := g_dget ho ndd_S rfl hv q
theorem dp_S_period {A : Hp → Prop} (ho : H a = some (.dK (dk kd_S vs))) (hv : 7 < vs.length) (q : A (upd H a (.dK (dk kd_S (vs.set 7 y))))) : ∃ a' H', V.ref a = .ref a' ∧ DPut H a' (.str "period") y H' ∧ A H' := g_dput ho ndd_S (by decide) rfl hv q
theorem dn_S_period {A : Hp → Prop} (ho : H a = some (.dK (dk kd_S vs))) (hv : vs.length = 7) (q : A (upd H a (.dK (dk kd_S (vs ++ [y]))))) : ∃ a' H', V.ref a = .ref a' ∧ DPut H a' (.str "period") y H' ∧ A H' := g_dnew ho ndd_S (by decide) (by rw [hv]; rfl) q
end
local macro_rules | `(tactic| walk_at "use") => `(tactic| first | ((with_reducible refine' dg_S_reno ?ho_ ?hv_ ?_); (case ho_ => first | assumption | exact upd_same); (case hv_ => exact rfl)) | ((with_reducible refine' dg_S_cwnd ?ho_ ?hv_ ?_); (case ho_ => first | assumption | exact upd_same); (case hv_ => exact rfl)) | ((with_reducible refine' dg_S_thresh ?ho_ ?hv_ ?_); (case ho_ => first | assumption | exact upd_same); (case hv_ => exact rfl)) | ((with_reducible refine' dg_S_peak ?ho_ ?hv_ ?_); (case ho_ => first | assumption | exact upd_same); (case hv_ => exact rfl)) | ((with_reducible refine' dg_S_prior ?ho_ ?hv_ ?_); (case ho_ => first | assumption | exact upd_same); (case hv_ => exact rfl)) | ((with_reducible refine' dg_S_calm ?ho_ ?hv_ ?_); (case ho_ => first | assumption | exact upd_same); (case hv_ => exact rfl)) | ((with_reducible refine' dg_S_credit ?ho_ ?hv_ ?_); (case ho_ => first | assumption | exact upd_same); (case hv_ => exact rfl)) | ((with_reducible refine' dg_S_period ?ho_ ?hv_ ?_); (case ho_ => first | assumption | exact upd_same); (case hv_ => exact rfl)) | ((with_reducible refine' dn_S_reno ?ho_ ?hv_ ?_); (case ho_ => first | assumption | exact upd_same); (case hv_ => exact rfl)) | ((with_reducible refine' dn_S_cwnd ?ho_ ?hv_ ?_); (case ho_ => first | assumption | exact upd_same); (case hv_ => exact rfl)) | ((with_reducible refine' dn_S_thresh ?ho_ ?hv_ ?_); (case ho_ => first | assumption | exact upd_same); (case hv_ => exact rfl)) | ((with_reducible refine' dn_S_peak ?ho_ ?hv_ ?_); (case ho_ => first | assumption | exact upd_same); (case hv_ => exact rfl)) | ((with_reducible refine' dn_S_prior ?ho_ ?hv_ ?_); (case ho_ => first | assumption | exact upd_same); (case hv_ => exact rfl)) | ((with_reducible refine' dn_S_calm ?ho_ ?hv_ ?_); (case ho_ => first | assumption | exact upd_same); (case hv_ => exact rfl)) | ((with_reducible refine' dn_S_credit ?ho_ ?hv_ ?_); (case ho_ => first | assumption | exact upd_same); (case hv_ => exact rfl)) | ((with_reducible refine' dn_S_period ?ho_ ?hv_ ?_); (case ho_ => first | assumption | exact upd_same); (case hv_ => exact rfl)) | ((with_reducible refine' dp_S_reno ?ho_ ?hv_ ?_); (case ho_ => first | assumption | exact upd_same); (case hv_ => exact Nat.le_of_ble_eq_true rfl)) | ((with_reducible refine' dp_S_cwnd ?ho_ ?hv_ ?_); (case ho_ => first | assumption | exact upd_same); (case hv_ => exact Nat.le_of_ble_eq_true rfl)) | ((with_reducible refine' dp_S_thresh ?ho_ ?hv_ ?_); (case ho_ => first | assumption | exact upd_same); (case hv_ => exact Nat.le_of_ble_eq_true rfl)) | ((with_reducible refine' dp_S_peak ?ho_ ?hv_ ?_); (case ho_ => first | assumption | exact upd_same); (case hv_ => exact Nat.le_of_ble_eq_true rfl)) | ((with_reducible refine' dp_S_prior ?ho_ ?hv_ ?_); (case ho_ => first | assumption | exact upd_same); (case hv_ => exact Nat.le_of_ble_eq_true rfl)) | ((with_reducible refine' dp_S_calm ?ho_ ?hv_ ?_); (case ho_ => first | assumption | exact upd_same); (case hv_ => exact Nat.le_of_ble_eq_true rfl)) | ((with_reducible refine' dp_S_credit ?ho_ ?hv_ ?_); (case ho_ => first | assumption | exact upd_same); (case hv_ => exact Nat.le_of_ble_eq_true rfl)) | ((with_reducible refine' dp_S_period ?ho_ ?hv_ ?_); (case ho_ => first | assumption | exact upd_same); (case hv_ => exact Nat.le_of_ble_eq_true rfl)))
local macro_rules | `(tactic| walk_at "use") => `(tactic| with_reducible first | refine g_dgetT ?_ | refine g_dputT ?_)
end My
namespace My
open PySem PySem.Spec L2
local macro_rules | `(tactic| walk_at "side") => `(tactic| first | assumption | decide | omega | exact ⟨by decide, by decide⟩ | exact ⟨by decide, by decide, by decide⟩ | decide +kernel | exact cdivW (by decide +kernel) (by decide +kernel) | exact Or.inl ⟨by omega, by omega⟩ | exact Or.inr ⟨by omega, by omega⟩ | (simp only [List.length_map, List.length_cons, List.length_nil, List.length_append]; omega))
local macro_rules | `(tactic| walk_at "fact") => `(tactic| first | assumption | omega | with_reducible rfl)
local macro_rules | `(tactic| walk_at "use") => `(tactic| fail "use")
local macro_rules | `(tactic| walk_at "go1") => `(tactic| with_reducible first | refine g_seq ?_ | refine g_asg ?_ | refine g_ret ?_ | refine g_ifS ?_ | refine g_drop ?_ | refine g_star ?_ | refine g_nx ?_ | refine g_rt ?_ | refine g_bkE ?_ | refine g_ctE ?_ | refine g_next ?_ | refine g_retN ?_ | refine g_brk ?_ | refine g_ct ?_ | refine g_c ?_ | refine g_op ?_ | refine g_un ?_ | refine g_rI0 ?_ | refine g_rU ?_ | refine g_rEqI ?_ | refine g_rNeI ?_ | refine g_isN ?_ | refine g_rIsB ?_ | refine g_rNotB ?_ | refine g_test ?_ | refine g_B ?_ | refine g_bl ?_ | refine g_and ?_ | refine g_or ?_ | refine g_not ?_ | refine g_andV ?_ | refine g_orV ?_ | refine g_notV ?_ | refine g_if ?_ | refine g_chain ?_ | refine g_yes ?_ | refine g_lc ?_ | refine g_revR ?_ | refine g_rng1 ?_ | refine g_iList ?_ | refine g_nil ?_ | refine g_cons ?_ | refine g_tup ?_ | refine g_lst ?_ | refine g_call ?_ | refine g_CB ?_ | refine g_sl ?_ | refine g_noPart ?_ | refine g_part ?_ | refine g_intE ?_ | refine g_ref ?_ | refine g_fld ?_ | refine g_sfld ?_ | refine g_meth ?_ | refine g_make ?_ | refine g_prop ?_  | refine g_ipI ?_ | refine g_int1 ?_ | refine g_int1B ?_ | refine g_one ?_ | refine g_two ?_ | refine g_isiI ?_ | refine g_isiIB ?_ | refine g_isiB ?_ | refine g_BM ?_ | refine g_BM0 ?_ | refine g_sub ?_)
local macro_rules | `(tactic| walk_at "go") => `(tactic| repeat (first | walk_at "go1" | ((with_reducible refine' g_nameE ?sd_ ?_); case sd_ => dsimp only [List.set_cons_succ, List.set_cons_zero]) | ((with_reducible refine' g_var ?sd_ ?_); case sd_ => exact rfl) | ((with_reducible refine' g_aug ?sd_ ?_); case sd_ => exact rfl) | ((with_reducible refine' g_rI ?sd_ ?_); case sd_ => walk_at "side") | ((with_reducible refine' g_dT ?sd_ ?_); case sd_ => walk_at "fact") | ((with_reducible refine' g_dF ?sd_ ?_); case sd_ => walk_at "fact") | ((with_reducible refine' g_nT ?sd_ ?_); case sd_ => walk_at "fact") | ((with_reducible refine' g_nF ?sd_ ?_); case sd_ => walk_at "fact") | (with_reducible refine g_iT rfl ?_) | (with_reducible refine g_iF rfl ?_) | walk_at "use"))
local macro_rules | `(tactic| walk_at "nw") => `(tactic| (generalize zq : upd _ _ _ = Hq; have sq : Same _ Hq := (by rw [← zq]; exact same_upd (by assumption)); have kq := (congrFun zq _).symm.trans upd_same; clear zq))
local macro_rules | `(tactic| walk_at "bt") => `(tactic| (generalize zq : upd _ _ _ = Hq; have bq : But _ _ Hq := (by rw [← zq]; exact But.refl.upd); have kq := (congrFun zq _).symm.trans upd_same; clear zq))
local macro_rules | `(tactic| walk_at "use") => `(tactic| first | ((with_reducible refine' fd_Cubic_cwnd ?ho_ ?hv_ ?_); (case ho_ => first | assumption | exact upd_same); (case hv_ => exact rfl)) | ((with_reducible refine' fd_Cubic_thresh ?ho_ ?hv_ ?_); (case ho_ => first | assumption | exact upd_same); (case hv_ => exact rfl)) | ((with_reducible refine' fd_Cubic_peak ?ho_ ?hv_ ?_); (case ho_ => first | assumption | exact upd_same); (case hv_ => exact rfl)) | ((with_reducible refine' fd_Cubic_prior ?ho_ ?hv_ ?_); (case ho_ => first | assumption | exact upd_same); (case hv_ => exact rfl)) | ((with_reducible refine' fd_Cubic_calm ?ho_ ?hv_ ?_); (case ho_ => first | assumption | exact upd_same); (case hv_ => exact rfl)) | ((with_reducible refine' fd_Cubic_period ?ho_ ?hv_ ?_); (case ho_ => first | assumption | exact upd_same); (case hv_ => exact rfl)) | ((with_reducible refine' nw_Cubic_cwnd ?ho_ ?hv_ ?_); (case ho_ => first | assumption | exact upd_same); (case hv_ => exact rfl)) | ((with_reducible refine' nw_Cubic_thresh ?ho_ ?hv_ ?_); (case ho_ => first | assumption | exact upd_same); (case hv_ => exact rfl)) | ((with_reducible refine' nw_Cubic_peak ?ho_ ?hv_ ?_); (case ho_ => first | assumption | exact upd_same); (case hv_ => exact rfl)) | ((with_reducible refine' nw_Cubic_prior ?ho_ ?hv_ ?_); (case ho_ => first | assumption | exact upd_same); (case hv_ => exact rfl)) | ((with_reducible refine' nw_Cubic_calm ?ho_ ?hv_ ?_); (case ho_ => first | assumption | exact upd_same); (case hv_ => exact rfl)) | ((with_reducible refine' nw_Cubic_period ?ho_ ?hv_ ?_); (case ho_ => first | assumption | exact upd_same); (case hv_ => exact rfl)) | ((with_reducible refine' st_Cubic_cwnd ?ho_ ?hv_ ?_); (case ho_ => first | assumption | exact upd_same); (case hv_ => exact Nat.le_of_ble_eq_true rfl)) | ((with_reducible refine' st_Cubic_thresh ?ho_ ?hv_ ?_); (case ho_ => first | assumption | exact upd_same); (case hv_ => exact Nat.le_of_ble_eq_true rfl)) | ((with_reducible refine' st_Cubic_peak ?ho_ ?hv_ ?_); (case ho_ => first | assumption | exact upd_same); (case hv_ => exact Nat.le_of_ble_eq_true rfl)) | ((with_reducible refine' st_Cubic_prior ?ho_ ?hv_ ?_); (case ho_ => first | assumption | exact upd_same); (case hv_ => exact Nat.le_of_ble_eq_true rfl)) | ((with_reducible refine' st_Cubic_calm ?ho_ ?hv_ ?_); (case ho_ => first | assumption | exact upd_same); (case hv_ => exact Nat.le_of_ble_eq_true rfl)) | ((with_reducible refine' st_Cubic_period ?ho_ ?hv_ ?_); (case ho_ => first | assumption | exact upd_same); (case hv_ => exact Nat.le_of_ble_eq_true rfl)) | ((with_reducible refine' me_Cubic_fork ?ho_ ?_); (case ho_ => first | assumption | exact upd_same)) | ((with_reducible refine' me_Cubic_avoid ?ho_ ?_); (case ho_ => first | assumption | exact upd_same)) | ((with_reducible refine' me_Cubic_new_period ?ho_ ?_); (case ho_ => first | assumption | exact upd_same)) | ((with_reducible refine' me_Cubic_share ?ho_ ?_); (case ho_ => first | assumption | exact upd_same)) | ((with_reducible refine' me_Cubic_begin_anew ?ho_ ?_); (case ho_ => first | assumption | exact upd_same)) | ((with_reducible refine' me_Cubic_acknowledge ?ho_ ?_); (case ho_ => first | assumption | exact upd_same)) | ((with_reducible refine' me_Cubic_lose ?ho_ ?_); (case ho_ => first | assumption | exact upd_same)) | ((with_reducible refine' me_Cubic_time_out ?ho_ ?_); (case ho_ => first | assumption | exact upd_same)) | ((with_reducible refine' me_Cubic_mark ?ho_ ?_); (case ho_ => first | assumption | exact upd_same)) | ((with_reducible refine' me_Cubic_bounded ?ho_ ?_); (case ho_ => first | assumption | exact upd_same)) | ((with_reducible refine' me_Cubic_give_to ?ho_ ?_); (case ho_ => first | assumption | exact upd_same)))
local macro_rules | `(tactic| walk_at "use") => `(tactic| first | ((with_reducible refine' fd_Reno_cwnd ?ho_ ?hv_ ?_); (case ho_ => first | assumption | exact upd_same); (case hv_ => exact rfl)) | ((with_reducible refine' fd_Reno_thresh ?ho_ ?hv_ ?_); (case ho_ => first | assumption | exact upd_same); (case hv_ => exact rfl)) | ((with_reducible refine' fd_Reno_peak ?ho_ ?hv_ ?_); (case ho_ => first | assumption | exact upd_same); (case hv_ => exact rfl)) | ((with_reducible refine' fd_Reno_prior ?ho_ ?hv_ ?_); (case ho_ => first | assumption | exact upd_same); (case hv_ => exact rfl)) | ((with_reducible refine' fd_Reno_calm ?ho_ ?hv_ ?_); (case ho_ => first | assumption | exact upd_same); (case hv_ => exact rfl)) | ((with_reducible refine' fd_Reno_credit ?ho_ ?hv_ ?_); (case ho_ => first | assumption | exact upd_same); (case hv_ => exact rfl)) | ((with_reducible refine' nw_Reno_cwnd ?ho_ ?hv_ ?_); (case ho_ => first | assumption | exact upd_same); (case hv_ => exact rfl)) | ((with_reducible refine' nw_Reno_thresh ?ho_ ?hv_ ?_); (case ho_ => first | assumption | exact upd_same); (case hv_ => exact rfl)) | ((with_reducible refine' nw_Reno_peak ?ho_ ?hv_ ?_); (case ho_ => first | assumption | exact upd_same); (case hv_ => exact rfl)) | ((with_reducible refine' nw_Reno_prior ?ho_ ?hv_ ?_); (case ho_ => first | assumption | exact upd_same); (case hv_ => exact rfl)) | ((with_reducible refine' nw_Reno_calm ?ho_ ?hv_ ?_); (case ho_ => first | assumption | exact upd_same); (case hv_ => exact rfl)) | ((with_reducible refine' nw_Reno_credit ?ho_ ?hv_ ?_); (case ho_ => first | assumption | exact upd_same); (case hv_ => exact rfl)) | ((with_reducible refine' st_Reno_cwnd ?ho_ ?hv_ ?_); (case ho_ => first | assumption | exact upd_same); (case hv_ => exact Nat.le_of_ble_eq_true rfl)) | ((with_reducible refine' st_Reno_thresh ?ho_ ?hv_ ?_); (case ho_ => first | assumption | exact upd_same); (case hv_ => exact Nat.le_of_ble_eq_true rfl)) | ((with_reducible refine' st_Reno_peak ?ho_ ?hv_ ?_); (case ho_ => first | assumption | exact upd_same); (case hv_ => exact Nat.le_of_ble_eq_true rfl)) | ((with_reducible refine' st_Reno_prior ?ho_ ?hv_ ?_); (case ho_ => first | assumption | exact upd_same); (case hv_ => exact Nat.le_of_ble_eq_true rfl)) | ((with_reducible refine' st_Reno_calm ?ho_ ?hv_ ?_); (case ho_ => first | assumption | exact upd_same); (case hv_ => exact Nat.le_of_ble_eq_true rfl)) | ((with_reducible refine' st_Reno_credit ?ho_ ?hv_ ?_); (case ho_ => first | assumption | exact upd_same); (case hv_ => exact Nat.le_of_ble_eq_true rfl)) | ((with_reducible refine' me_Reno_fork ?ho_ ?_); (case ho_ => first | assumption | exact upd_same)) | ((with_reducible refine' me_Reno_avoid ?ho_ ?_); (case ho_ => first | assumption | exact upd_same)) | ((with_reducible refine' me_Reno_share ?ho_ ?_); (case ho_ => first | assumption | exact upd_same)) | ((with_reducible refine' me_Reno_begin_anew ?ho_ ?_); (case ho_ => first | assumption | exact upd_same)) | ((with_reducible refine' me_Reno_acknowledge ?ho_ ?_); (case ho_ => first | assumption | exact upd_same)) | ((with_reducible refine' me_Reno_lose ?ho_ ?_); (case ho_ => first | assumption | exact upd_same)) | ((with_reducible refine' me_Reno_time_out ?ho_ ?_); (case ho_ => first | assumption | exact upd_same)) | ((with_reducible refine' me_Reno_mark ?ho_ ?_); (case ho_ => first | assumption | exact upd_same)) | ((with_reducible refine' me_Reno_bounded ?ho_ ?_); (case ho_ => first | assumption | exact upd_same)) | ((with_reducible refine' me_Reno_give_to ?ho_ ?_); (case ho_ => first | assumption | exact upd_same)))
section
variable {P : Program} {w : World} {K : PySem.W.Frag} {mg : Str → Option Value} {base : Heap}
theorem cube_eq (d : Int) : d ^ 3 = d * d * d := by
  rw [Int.pow_succ, Int.pow_succ, Int.pow_succ, Int.pow_zero, Int.one_mul]
theorem cube_le {a b : Int} (h0 : 0 ≤ a) (h : a ≤ b) : a * a * a ≤ b * b * b :=
  Int.mul_le_mul (Int.mul_le_mul h h h0 (Int.le_trans h0 h)) h h0 (Int.mul_nonneg (Int.le_trans h0 h) (Int.le_trans h0 h))
def rise (m d : Int) : Int := m * (d * d * d) / 2500000000
theorem rise_nn {m d : Int} (hm : 0 ≤ m) (hd : 0 ≤ d) : 0 ≤ rise m d :=
  Int.ediv_nonneg (Int.mul_nonneg hm (Int.mul_nonneg (Int.mul_nonneg hd hd) hd)) (by decide)
theorem rise_le {m d e : Int} (hm : 0 ≤ m) (hd : 0 ≤ d) (h : d ≤ e) : rise m d ≤ rise m e :=
  Int.ediv_le_ediv (by decide) (Int.mul_le_mul_of_nonneg_left (cube_le hd h) hm)
def crv (m o t a : Int) : Int := if a ≤ t then (if o - rise m (t - a) > 0 then o - rise m (t - a) else 0) else o + rise m (a - t)
theorem crv_mono {m o t a b : Int} (hm : 0 ≤ m) (ho : 0 ≤ o) (h : a ≤ b) : crv m o t a ≤ crv m o t b := by
  unfold crv
  by_cases h1 : b ≤ t
  · have e := rise_le (m := m) hm (d := t - b) (e := t - a) (by omega) (by omega)
    rw [if_pos h1, if_pos (by omega)]
    split <;> split <;> omega
  · by_cases h2 : a ≤ t
    · have e := rise_nn (m := m) hm (d := t - a) (by omega)
      have e2 := rise_nn (m := m) hm (d := b - t) (by omega)
      rw [if_neg h1, if_pos h2]
      split <;> omega
    · have e := rise_le (m := m) hm (d := a - t) (e := b - t) (by omega) (by omega)
      rw [if_neg h1, if_neg h2]
      omega
theorem crv_top {m o t : Int} (ho : 0 ≤ o) : crv m o t t = o := by
  unfold crv
  rw [if_pos (Int.le_refl _), show t - t = 0 by omega]
  have : rise m 0 = 0 := by unfold rise; simp
  rw [this]
  split <;> omega
theorem crv_back {m o d r : Int} (hm : 0 < m) (hr : 0 ≤ r) (h : r * r * r ≤ d * 2500000000 / m) : (if o - d > 0 then o - d else 0) ≤ crv m o r 0 := by
  unfold crv
  rw [if_pos hr, show r - 0 = r by omega]
  have h1 : m * (r * r * r) ≤ d * 2500000000 := by
    have := Int.mul_le_mul_of_nonneg_left h (Int.le_of_lt hm)
    exact Int.le_trans this (Int.mul_ediv_self_le (by omega))
  have : rise m r ≤ d := by
    unfold rise
    omega
  split <;> split <;> omega
theorem lcrv {m a t : Int} : m * (if a - t < 0 then -(a - t) else a - t) * (if a - t < 0 then -(a - t) else a - t) * (if a - t < 0 then -(a - t) else a - t) / 2500000000 = if a ≤ t then rise m (t - a) else rise m (a - t) := by
  unfold rise
  by_cases h : a ≤ t
  · rw [if_pos h]
    have e : (if a - t < 0 then -(a - t) else a - t) = t - a := by split <;> omega
    rw [e]
    congr 1
    rw [Int.mul_assoc, Int.mul_assoc, Int.mul_assoc]
  · rw [if_neg h]
    have e : (if a - t < 0 then -(a - t) else a - t) = a - t := by split <;> omega
    rw [e]
    congr 1
    rw [Int.mul_assoc, Int.mul_assoc, Int.mul_assoc]
theorem pow_cube (b : Nat) : ((2 : Int) ^ b) * 2 ^ b * 2 ^ b = 2 ^ (3 * b) := by
  rw [← Int.pow_add, ← Int.pow_add]; congr 1; omega

theorem g_gtup {K : PySem.W.Frag} {n : Nat} {t : List V → St → Hp → (St → Hp → Prop) → Prop} {a : Addr} {xs : List V} {σ : St} {H : Hp} {Q : St → Hp → Prop} (h : SqT K H a xs) (l : xs.length = n) (q : t xs σ H Q) : gTup K n t (.ref a) σ H Q := ⟨a, xs, rfl, h, l, q⟩
theorem g_gcons {t : TG} {u : List V → St → Hp → (St → Hp → Prop) → Prop} {v : V} {r : List V} {σ : St} {H : Hp} {Q : St → Hp → Prop} (h : t v σ H fun σ' H' => u r σ' H' Q) : gCons t u (v :: r) σ H Q := ⟨v, r, rfl, h⟩
theorem g_gnil {σ : St} {H : Hp} {Q : St → Hp → Prop} (q : Q σ H) : gNil [] σ H Q := ⟨rfl, q⟩

theorem kb_pure {K : PySem.W.Frag} {x qual : Str} {params : Arguments} {body : List Stmt} {scope : Scope} {kws : List (Str × V)} {f : Addr} {fd : FuncData} {ps : List Str} (F : FunD K x qual params body scope [] kws f fd) (n : Nat) (ks : List Str) (g : {α : Type} → List α → List α → List α)
    (hrel : ∀ {vs zs : List V} {us ws : List Value}, Vals vs us → Vals zs ws → Vals (g vs zs) (g us ws))
    (h : ∀ (kV doc pm : Value) (an : Option Addr) (cdv ct : Value) (us ws : List Value), us.length = n → ws.length = ks.length → bindArgs (PySem.W.fnOf x qual params body scope .none kV doc pm an cdv ct) ⟨us, ks.zip ws⟩ = pure (ps.zip (g us ws))) :
    KBn K fd ps n ks (fun us ws => g us ws) (fun vs zs => g vs zs) := by
  obtain ⟨oc, od, dV, kV, doc, pm, an, cdv, ct, osl, rfl, lk, hcd, hD, hK⟩ := F.ex
  rcases hD with ⟨_, rfl⟩ | ⟨e, _⟩
  · exact ⟨fun s us ws X l1 l2 => .of_eq (h kV doc pm an cdv ct us ws l1 l2), fun r1 r2 => hrel r1 r2⟩
  · exact absurd rfl e
theorem pe_callN0 {X : Cx} {CX : CXT} {k : Nat} {f : Addr} {fd : FuncData} {ps ks : List Str} {sp : Sp} {E : XK} {x : Str} {p pos : Pos} {kws : List Keyword} {tk : TA} {g : List Value → List Value → List Value} {gV : List V → List V → List V} (F : FnOk X.prog X.w X.K X.mg X.base CX k f fd ps sp) (hr : Room k X.A) (hg : Gl X x) (hm : X.mg x = some (.ref f)) (hk : PySem.W.keepIn X.K (.ref f) = true) (hb : KBn X.K fd ps 0 ks g gV) (hx : Passes CX X E)
    (hkw : PK X kws tk) (hall : (backToKw pos (keywordEach kws X.env)).all (·.1.isSome) = true := by rfl) (hks : (backToKw pos (keywordEach kws X.env)).filterMap (·.1) = ks := by rfl)
    (hdb : (x == ("__debug__" : Str)) = false := by decide)
    (hpl : ((backTo pos (starEach [] X.env)).any (·.1) || (backToKw pos (keywordEach kws X.env)).any (·.1.isNone)) = false := by rfl) :
    PE X (.Call (.Name x p) [] kws pos) (tCallN 0 ks.length sp gV E tNil tk) := by
  refine ⟨fun pins s σ H Q I h => ?_⟩
  refine wpAny_Call_Name_kw (ld_glob I hg hm ?_ hdb)
  refine PySem.W.callWith_KW0 (h₀ := X.base) I.ok.mod.kin hk hall ?_ hpl
  refine thn (hkw.run pos pins s σ H _ I h) fun ws s2 ⟨zs, H2, I2, rz, l1, l2, q2⟩ => ⟨I2.kIn, ?_⟩
  rw [hks]
  exact run_fnN (us := []) (vs := []) F hr hb hx I2 .nil rz rfl l2 q2
theorem g_callN {n m : Nat} {sp : Sp} {gV : List V → List V → List V} {E : XK} {t tk : TA} {σ : St} {H : Hp} {Q : VK} (h : t σ H fun vs H1 => tk σ H1 fun zs H2 => vs.length = n ∧ zs.length = m ∧ sp (gV vs zs) H2 Q E) : tCallN n m sp gV E t tk σ H Q := h
local macro_rules | `(tactic| walk_at "use") => `(tactic| with_reducible refine g_callN ?_)

/-! ### a call that leaves keyword-only parameters out: the loop over their names, step by step -/
inductive KwSteps (D : Addr) {β : Type} (f : Str → β → Sem (ForInStep β)) : List Str → β → List (Str × Value) → β → Prop
  | nil {b : β} : KwSteps D f [] b [] b
  | skip {a : Str} {L : List Str} {b b1 b' : β} {l : List (Str × Value)} : f a b = pure (.yield b1) → KwSteps D f L b1 l b' → KwSteps D f (a :: L) b l b'
  | look {a : Str} {L : List Str} {b b1 b' : β} {v : Value} {l : List (Str × Value)} (k : Option Value → Sem (ForInStep β)) : f a b = (nsGet D a >>= k) → k (some v) = pure (.yield b1) → KwSteps D f L b1 l b' → KwSteps D f (a :: L) b ((a, v) :: l) b'
theorem KwSteps.chain {D : Addr} {α β : Type} {f : Str → β → Sem (ForInStep β)} {L : List Str} {b b' : β} {l : List (Str × Value)} (h : KwSteps D f L b l b') : ∀ {rest : β → Sem α} {r : α}, rest b' = pure r → KwChain D l (forIn L b f >>= rest) r := by
  induction h with
  | nil =>
    intro rest r e
    show forIn [] _ f >>= rest = pure r
    rw [List.forIn_nil, pure_bind]
    exact e
  | skip e _ ih =>
    intro rest r e2
    have z := ih e2
    rw [List.forIn_cons, e, pure_bind]
    exact z
  | look k e e1 _ ih =>
    intro rest r e2
    have z := ih e2
    rename_i a L b b1 b' v l hs
    refine ⟨_, _, k, fun y => (match y with | .done b => pure b | .yield b => forIn L b f), rest, .yield b1, ?_, e1, z⟩
    rw [List.forIn_cons, e]
    rfl
theorem KwChain.of_steps {D : Addr} {α β : Type} {t : Sem α} {f : Str → β → Sem (ForInStep β)} {L : List Str} {b b' : β} {l : List (Str × Value)} {rest : β → Sem α} {r : α} (e : t = (forIn L b f >>= rest)) (h : KwSteps D f L b l b') (e2 : rest b' = pure r) : KwChain D l t r := e ▸ h.chain e2
theorem KwSteps.skipIf {D : Addr} {β : Type} {f : Str → β → Sem (ForInStep β)} {a : Str} {L : List Str} {b b1 b' : β} {l : List (Str × Value)} {c : Bool} {X : Sem (ForInStep β)} (e : f a b = if c = true then X else pure (.yield b1)) (hc : c = false) (h : KwSteps D f L b1 l b') : KwSteps D f (a :: L) b l b' := .skip (by rw [e, hc]; rfl) h
theorem KwSteps.lookIf {D : Addr} {β : Type} {f : Str → β → Sem (ForInStep β)} {a : Str} {L : List Str} {b b1 b' : β} {v : Value} {l : List (Str × Value)} {c : Bool} {k : Option Value → Sem (ForInStep β)} {Y : Sem (ForInStep β)} (e : f a b = if c = true then (nsGet D a >>= k) else Y) (hc : c = true) (e1 : k (some v) = pure (.yield b1)) (h : KwSteps D f L b1 l b') : KwSteps D f (a :: L) b ((a, v) :: l) b' := .look k (by rw [e, hc]; rfl) e1 h

/-! ### o.m(e, .., k = v, ..) -/
def tMethN (C : Addr) (m : Str) (n k : Nat) (sp : Sp) (gV : List V → List V → List V) (E : XK) (ta : TE) (t tk : TA) : TE := fun σ H Q => ta σ H fun x H1 => ∃ a dx fs, x = .ref a ∧ H1 a = some (.ins C dx fs) ∧ fs.lookup m = none ∧ t σ H1 fun vs H2 => tk σ H2 fun zs H3 => vs.length = n ∧ zs.length = k ∧ sp (gV (x :: vs) zs) H3 Q E
section
variable {X : Cx} {CX : CXT} {k n : Nat} {f C : Addr} {fd : FuncData} {ps ks : List Str} {sp : Sp} {E : XK} {m : Str} {apos pos : Pos} {o e : Expr} {es : List Expr} {kws : List Keyword} {ta : TE} {t tk : TA} {g : List Value → List Value → List Value} {gV : List V → List V → List V} {pl : Sem Bool}
theorem pe_methN (he : PE X o ta) (c : Cls X.K C) (hm : Meth X.K C m f) (F : FnOk X.prog X.w X.K X.mg X.base CX k f fd ps sp) (hr : Room k X.A) (hb : KBn X.K fd ps (n + 1) ks g gV) (hx : Passes CX X E) (ha : PA X (e :: es) t) (hkw : PK X kws tk)
    (hall : (backToKw pos (keywordEach kws X.env)).all (·.1.isSome) = true := by rfl) (hks : (backToKw pos (keywordEach kws X.env)).filterMap (·.1) = ks := by rfl)
    (hst : starEach (e :: es) X.env = (false, eval e X.env) :: starEach es X.env := by rfl)
    (hpl : ((backTo pos (starEach (e :: es) X.env)).any (·.1) || (backToKw pos (keywordEach kws X.env)).any (·.1.isNone)) = false := by rfl)
    (ht : eval (.Call (.Attribute o m apos) (e :: es) kws pos) X.env = (do
      let ov ← eval o X.env
      standAt apos.atName
      let (f, first) ← holding [ov] (getMethod ov m pl)
      callWith pos f first (backTo pos (starEach (e :: es) X.env)) (backToKw pos (keywordEach kws X.env))) := by rfl) :
    PE X (.Call (.Attribute o m apos) (e :: es) kws pos) (tMethN C m n ks.length sp gV E ta t tk) := by
  refine ⟨fun pins s σ H Q I h => ?_⟩
  refine PySem.W.methodCall_KW (pl := pl) (thn (he.run pins s σ H _ I h) fun u s1 ⟨x, H1, I1, rx, a, dx, fs, ex, ea, l, q⟩ => ?_) ht
  subst ex
  obtain rfl : u = Value.ref a := rx
  refine getmeth_ok I1 ea c hm l ?_
  refine PySem.W.callWith_KW (first := [.ref a]) (h₀ := X.base) I.ok.mod.kin hm.kp hall (thn (ha.run pos pins s1 σ H1 _ I1 q) fun us s2 ⟨vs, H2, I2, r, q2⟩ => ?_) hpl hst
  refine thn (hkw.run pos pins s2 σ H2 _ I2 q2) fun ws s3 ⟨zs, H3, I3, rz, l1, l2, q3⟩ => ⟨I3.kIn, ?_⟩
  rw [hks]
  exact run_fnN (us := .ref a :: us) (vs := .ref a :: vs) F hr hb hx I3 (.cons rfl r) rz (by rw [List.length_cons, l1]) l2 q3
theorem pe_methN0 (he : PE X o ta) (c : Cls X.K C) (hm : Meth X.K C m f) (F : FnOk X.prog X.w X.K X.mg X.base CX k f fd ps sp) (hr : Room k X.A) (hb : KBn X.K fd ps (0 + 1) ks g gV) (hx : Passes CX X E) (hkw : PK X kws tk)
    (hall : (backToKw pos (keywordEach kws X.env)).all (·.1.isSome) = true := by rfl) (hks : (backToKw pos (keywordEach kws X.env)).filterMap (·.1) = ks := by rfl)
    (hpl : ((backTo pos (starEach [] X.env)).any (·.1) || (backToKw pos (keywordEach kws X.env)).any (·.1.isNone)) = false := by rfl)
    (ht : eval (.Call (.Attribute o m apos) [] kws pos) X.env = (do
      let ov ← eval o X.env
      standAt apos.atName
      let (f, first) ← holding [ov] (getMethod ov m pl)
      callWith pos f first (backTo pos (starEach [] X.env)) (backToKw pos (keywordEach kws X.env))) := by rfl) :
    PE X (.Call (.Attribute o m apos) [] kws pos) (tMethN C m 0 ks.length sp gV E ta tNil tk) := by
  refine ⟨fun pins s σ H Q I h => ?_⟩
  refine PySem.W.methodCall_KW (pl := pl) (thn (he.run pins s σ H _ I h) fun u s1 ⟨x, H1, I1, rx, a, dx, fs, ex, ea, l, q⟩ => ?_) ht
  subst ex
  obtain rfl : u = Value.ref a := rx
  refine getmeth_ok I1 ea c hm l ?_
  refine PySem.W.callWith_KW0 (first := [.ref a]) (h₀ := X.base) I.ok.mod.kin hm.kp hall ?_ hpl
  refine thn (hkw.run pos pins s1 σ H1 _ I1 q) fun ws s2 ⟨zs, H2, I2, rz, l1, l2, q2⟩ => ⟨I2.kIn, ?_⟩
  rw [hks]
  exact run_fnN (us := [.ref a]) (vs := [.ref a]) F hr hb hx I2 (.cons rfl .nil) rz rfl l2 q2
end
theorem g_methN {C : Addr} {m : Str} {n k : Nat} {sp : Sp} {gV : List V → List V → List V} {E : XK} {ta : TE} {t tk : TA} {σ : St} {H : Hp} {Q : VK} (h : ta σ H fun x H1 => ∃ a dx fs, x = .ref a ∧ H1 a = some (.ins C dx fs) ∧ fs.lookup m = none ∧ t σ H1 fun vs H2 => tk σ H2 fun zs H3 => vs.length = n ∧ zs.length = k ∧ sp (gV (x :: vs) zs) H3 Q E) : tMethN C m n k sp gV E ta t tk σ H Q := h
local macro_rules | `(tactic| walk_at "use") => `(tactic| with_reducible refine g_methN ?_)

theorem g_makeK {C : Addr} {n m : Nat} {sp : Sp} {gV : List V → List V → List V} {E : XK} {t tk : TA} {σ : St} {H : Hp} {Q : VK} (h : t σ H fun vs H1 => tk σ H1 fun zs H2 => vs.length = n ∧ zs.length = m ∧
  ∀ x dx, H2 x = none → H2 dx = none → dx ≠ x → sp (gV (.ref x :: vs) zs) (upd (upd H2 dx (.own x)) x (.ins C dx [])) (fun v H3 => v = .non ∧ Q (.ref x) H3) E) : tMakeK C n m sp gV E t tk σ H Q := h
local macro_rules | `(tactic| walk_at "use") => `(tactic| with_reducible refine g_makeK ?_)

/-! ### an expression that changes nothing, by its value: the ways of a chain are joined -/
def tCutV (t : TE) : TE := fun σ H Q => ∃ v, t σ H (fun v' H' => v' = v ∧ H' = H) ∧ Q v H
theorem pe_cutV {X : Cx} {e : Expr} {t : TE} (h : PE X e t) : PE X e (tCutV t) := by
  refine ⟨fun pins s σ H Q I hq => ?_⟩
  obtain ⟨v, hv, q⟩ := hq
  refine thn (h.run pins s σ H _ I hv) fun u s1 ⟨x, H1, I1, rx, e1, e2⟩ => ?_
  subst e1
  subst e2
  exact ⟨_, _, I1, rx, q⟩
theorem g_cutV {t : TE} {σ : St} {H : Hp} {Q : VK} (v : V) (h : t σ H fun v' H' => v' = v ∧ H' = H) (q : Q v H) : tCutV t σ H Q := ⟨v, h, q⟩
local macro_rules | `(tactic| walk_at "vb") => `(tactic| first | exact ⟨congrArg V.bl (decide_eq_decide.mpr (by omega)), rfl⟩ | exact ⟨congrArg V.bl (decide_eq_false (by omega)).symm, rfl⟩ | exact ⟨congrArg V.bl (decide_eq_true (by omega)).symm, rfl⟩)
/-! the same of a test -/
def tCutT (t : TT) : TT := fun σ H P => ∃ b, t σ H (fun b' H' => b' = b ∧ H' = H) ∧ P b H
theorem pt_cutT {X : Cx} {e : Expr} {t : TT} (h : PT X e t) : PT X e (tCutT t) := by
  refine ⟨fun pins s σ H P I hq => ?_⟩
  obtain ⟨b, hb, p⟩ := hq
  refine thn (h.run pins s σ H _ I hb) fun b' s1 ⟨H1, I1, e1, e2⟩ => ?_
  subst e1
  subst e2
  exact ⟨_, I1, p⟩
theorem g_cutT {t : TT} {σ : St} {H : Hp} {P : Bool → Hp → Prop} (b : Bool) (h : t σ H fun b' H' => b' = b ∧ H' = H) (p : P b H) : tCutT t σ H P := ⟨b, h, p⟩

/-! an attribute among the targets of a tuple -/
section
variable {X : Cx} {K : PySem.W.Frag} {o : Expr} {ta : TE} {f : Str} {pos : Pos}
def gFld (K : PySem.W.Frag) (ta : TE) (f : Str) : TG := fun v σ H Q => ta σ H fun x H2 => ∃ a C dx fs, x = .ref a ∧ H2 a = some (.ins C dx fs) ∧ Cls K C ∧ NoAttr K C f ∧ fs.length < 1000 ∧ Q σ (upd H2 a (.ins C dx (putF f v fs)))
theorem pg_fld (ho : PE X o ta) : PG X (.Attribute o f pos) (gFld X.K ta f) := by
  refine ⟨fun pins s σ H v u Q I r h => ?_⟩
  rw [assign_Attribute]
  refine wpAny_bind (wpAny_holding (thn (ho.run pins s σ H _ I h) fun ov s1 ⟨x, H1, I1, r1, q1⟩ => ?_))
  obtain ⟨a, C, dx, fs, ex, ea, c, n, l, q⟩ := q1
  subst ex
  obtain rfl : ov = Value.ref a := r1
  refine wpAny_bind (wpAny_standAt (wpAny_bind (wpAny_holding (setattr_ok I1 ea c n l r fun s3 I3 => ?_))))
  exact wpAny_release ⟨σ, _, I3, q⟩
theorem g_gfld {σ : St} {H : Hp} {v : V} {Q : St → Hp → Prop} (h : ta σ H fun x H2 => ∃ a C dx fs, x = .ref a ∧ H2 a = some (.ins C dx fs) ∧ Cls K C ∧ NoAttr K C f ∧ fs.length < 1000 ∧ Q σ (upd H2 a (.ins C dx (putF f v fs)))) : gFld K ta f v σ H Q := h
theorem g_gfldV {σ : St} {H : Hp} {v : V} {Q : St → Hp → Prop} {i j : Nat} {a C dx : Addr} {ks : List Str} {vs : List V} (hσ : σ[i]? = some (some (.ref a))) (ho : H a = some (.ins C dx (obj ks vs))) (c : Cls K C) (n : NoAttr K C f) (nd : ks.Nodup) (h1 : ks.length < 1000) (hk : ks[j]? = some f) (hv : j < vs.length)
    (q : Q σ (upd H a (.ins C dx (obj ks (vs.set j v))))) : gFld K (tVar i) f v σ H Q :=
  ⟨_, hσ, a, C, dx, _, rfl, ho, c, n, Nat.lt_of_le_of_lt (obj_len ks vs) h1, by rw [obj_put nd hk hv]; exact q⟩
end
/-! `xs[i] += n` -/
section
variable {X : Cx}
theorem get_list : PGet X (rIxL X.K) := by
  intro pins s σ H o i ov iv Q I ro ri h
  obtain ⟨p, xs, k, z, rfl, rfl, hq, he, q⟩ := h
  cases ro
  obtain ⟨t, rfl⟩ := ri
  obtain ⟨its, r, pl, hz⟩ := I.list hq
  obtain ⟨j, h1, h2, h3, h4, h5⟩ := atI_get he
  obtain ⟨w, ew, rw'⟩ := r.get h2
  have hl := r.length
  have hn := line63
  have fin : EP X pins σ Q w s := ⟨z, H, I, rw', q⟩
  by_cases h0 : 0 ≤ k
  · have hj : k.toNat = j := by
      rw [seqIndex_of h0 h5] at h1
      exact Option.some.inj h1
    exact wpAny_getItem_list pl.isList h0 (by omega) (by rw [hj]; simpa using ew) fin
  · have hj : (k + (its.toArray.size : Int)).toNat = j := by
      rw [seqIndex_neg (by omega) h4] at h1
      rw [List.size_toArray, ← hl]
      exact Option.some.inj h1
    exact wpAny_getItem_list_neg pl.isList (by omega) (by rw [List.size_toArray] <;> omega) (by omega) (by rw [hj]; simpa using ew) fin
theorem g_augS {to ti te : TE} {tget : V → V → Hp → VK → Prop} {tip : TIp} {tset : TSet} {D : Ends} {σ : St} {H : Hp} (h : to σ H fun o H1 => ti σ H1 fun i H2 => tget o i H2 fun x H3 => te σ H3 fun y H4 => tip x y H4 fun z H5 => tset o i z H5 fun H6 => D.nx σ H6) : tAugS to ti te tget tip tset D σ H := h
end
local macro_rules | `(tactic| walk_at "use") => `(tactic| with_reducible first | refine g_augS ?_)
/-! `o.f += n` -/
section
variable {K : PySem.W.Frag} {f : Str}
theorem g_fldaug {tv : TE} {rd : V → V → Hp → VK → Prop} {D : Ends} {σ : St} {H : Hp} {i j : Nat} {a C dx : Addr} {ks : List Str} {vs : List V} {v : V} (hσ : σ[i]? = some (some (.ref a))) (ho : H a = some (.ins C dx (obj ks vs))) (c : Cls K C) (n : NoAttr K C f) (nd : ks.Nodup) (hk : ks[j]? = some f) (hv : vs[j]? = some v)
    (h : tv σ H fun y H2 => rd v y H2 fun z H3 => ∃ dx' fs', H3 a = some (.ins C dx' fs') ∧ fs'.length < 1000 ∧ D.nx σ (upd H3 a (.ins C dx' (putF f z fs')))) : sFldAug K (tVar i) tv rd f D σ H :=
  ⟨_, hσ, a, C, dx, _, v, rfl, ho, c, n, (obj_get nd hk).trans hv, h⟩
theorem g_fldaugE {H : Hp} {j : Nat} {a C dx : Addr} {ks : List Str} {vs : List V} {z : V} {A : Hp → Prop} (ho : H a = some (.ins C dx (obj ks vs))) (nd : ks.Nodup) (h1 : ks.length < 1000) (hk : ks[j]? = some f) (hv : j < vs.length) (q : A (upd H a (.ins C dx (obj ks (vs.set j z))))) :
    ∃ dx' fs', H a = some (.ins C dx' fs') ∧ fs'.length < 1000 ∧ A (upd H a (.ins C dx' (putF f z fs'))) := ⟨dx, _, ho, Nat.lt_of_le_of_lt (obj_len ks vs) h1, by rw [obj_put nd hk hv]; exact q⟩
end

/-! ### one of two readings (an object of one of two classes) -/
def tOr2 (t1 t2 : TE) : TE := fun σ H Q => t1 σ H Q ∨ t2 σ H Q
theorem pe_or2 {X : Cx} {e : Expr} {t1 t2 : TE} (h1 : PE X e t1) (h2 : PE X e t2) : PE X e (tOr2 t1 t2) := ⟨fun pins s σ H Q I h => h.elim (h1.run pins s σ H Q I) (h2.run pins s σ H Q I)⟩
theorem g_or2l {t1 t2 : TE} {σ : St} {H : Hp} {Q : VK} (h : t1 σ H Q) : tOr2 t1 t2 σ H Q := .inl h
theorem g_or2r {t1 t2 : TE} {σ : St} {H : Hp} {Q : VK} (h : t2 σ H Q) : tOr2 t1 t2 σ H Q := .inr h

def CPowW (i j : Int) : Prop := 0 ≤ j ∧ (Builtin.Int.intBits i : Int) * j ≤ 2 ^ 27
theorem op_powW {X : Cx} : OpR X (binaryOp .Pow) (rI CPowW fun i j => .int (i ^ j.toNat)) := opI fun _ _ _ _ _ _ _ hc q => PyProof.Rows.pow_int hc.1 hc.2 q
theorem b80 {r : Int} (h0 : 0 ≤ r) (h : r < 2 ^ 80) : r.natAbs < 2 ^ 80 := by omega
theorem bits_lt {n : Int} (h0 : 0 ≤ n) : n < 2 ^ (Builtin.Int.intBits n) := by
  unfold Builtin.Int.intBits
  by_cases h : n = 0
  · subst h; decide
  · have e : (n == 0) = false := beq_eq_false_iff_ne.mpr h
    rw [e]
    have := @Nat.lt_log2_self n.natAbs
    show n < 2 ^ (n.natAbs.log2 + 1)
    have e2 : (n.natAbs : Int) < ((2 ^ (n.natAbs.log2 + 1) : Nat) : Int) := by exact_mod_cast this
    rw [Int.natAbs_of_nonneg h0] at e2
    push_cast at e2
    exact e2
def sp_cube_root (K : PySem.W.Frag) : Sp := fun vs H Q _ => ∃ n : Int, vs = [.int n] ∧ 0 ≤ n ∧ n < 2 ^ 220 ∧ ∀ r : Int, 0 ≤ r → r < 2 ^ 80 → r * r * r ≤ n → n < (r + 1) * (r + 1) * (r + 1) → Q (.int r) H
theorem u_root {n : Int} {H Q E} (h0 : 0 ≤ n) (h1 : n < 2 ^ 220) (q : ∀ r : Int, 0 ≤ r → r < 2 ^ 80 → r * r * r ≤ n → n < (r + 1) * (r + 1) * (r + 1) → Q (.int r) H) : sp_cube_root K ([.int n] ++ []) H Q E := ⟨n, rfl, h0, h1, q⟩
theorem g_bits {to : TE} {σ : St} {H : Hp} {Q : VK} (h : to σ H fun x H1 => ∃ i, x = .int i ∧ Q (.int (Builtin.Int.intBits i : Nat)) H1) : tBits to σ H Q := h
local macro_rules | `(tactic| walk_at "use") => `(tactic| with_reducible refine g_bits ?_)
theorem ok_cube_root (T : Txt P K mg) : FnOk P w K mg base CX0 1 T.f_cube_root T.d_cube_root ["number"] (sp_cube_root K) := by
  refine T.F_cube_root.ok sc_cube_root (fun vs H Q E h => ?_) (fun cdv A outer s H vs Q E hr h => ?_)
  · obtain ⟨n, rfl, h0, h1, q⟩ := h
    rfl
  · obtain ⟨n, rfl, h0, h1, q⟩ := h
    have hu := hu_of hr
    refine ⟨_, (pss_cons (ps_set (i := 1) sc_cube_root.nd rfl (Or.inl rfl) pe_int)
        (pss_cons (ps_set (i := 2) sc_cube_root.nd rfl (Or.inl rfl) (pe_op op_shlW pe_int (pe_op op_add (pe_op op_fdiv (pe_bits (pv 0)) pe_int) pe_int)))
        (pss_cons (ps_while PassesOwn.never (pt_cmpR op_gt (pe_op op_sub (pv 2) (pv 1)) pe_int (nomark _)) (pss_cons (ps_set (i := 3) sc_cube_root.nd rfl (Or.inl rfl) (pe_op op_fdiv (pe_op op_add (pv 1) (pv 2)) pe_int))
        (pss_one (ps_if (pt_cmpR op_le (pe_op op_powW (pv 3) pe_int) (pv 0) (nomark _)) (pss_one (ps_set (i := 1) sc_cube_root.nd rfl (Or.inl rfl) (pv 3))) (pss_one (ps_set (i := 2) sc_cube_root.nd rfl (Or.inl rfl) (pv 3)))))))
        (pss_one (ps_ret (pv 1)))))), ?_⟩
    dsimp only [cxOf, Cx.nox, Cx.wish, L2.start, List.map, List.cons_append, List.nil_append, List.length_cons, List.length_nil, Nat.reduceAdd, Nat.reduceSub, Nat.zero_add, List.replicate_succ, List.replicate_zero]
    have hb : Builtin.Int.intBits n ≤ 220 := PyProof.Rows.intBits_le (by omega)
    have hl := bits_lt h0
    walk_at "go"
    generalize Builtin.Int.intBits n = b at hb hl ⊢
    refine g_rI (C := CShl) ⟨by omega, by show ((1 : Nat) : Int) + _ ≤ _; omega⟩ ?_
    obtain ⟨c, hc, hc1, hc2⟩ : ∃ c : Nat, ((b : Int) / 3 + 1).toNat = c ∧ b ≤ 3 * c ∧ c ≤ 74 := ⟨b / 3 + 1, by omega, by omega, by omega⟩
    rw [hc, Int.one_mul]
    have hp : n < (2 : Int) ^ c * 2 ^ c * 2 ^ c := by
      rw [pow_cube]
      exact Int.lt_of_lt_of_le hl (by exact_mod_cast Nat.pow_le_pow_right (by decide) hc1)
    have hq : (2 : Int) ^ c < 2 ^ 80 := by exact_mod_cast Nat.pow_lt_pow_right (by decide) (by omega : c < 80)
    have hq0 : (0 : Int) < 2 ^ c := by exact_mod_cast Nat.two_pow_pos c
    generalize (2 : Int) ^ c = g at hp hq hq0 ⊢
    walk_at "go"
    refine g_while (fun m σ H' => H' = H ∧ ∃ (lo hi : Int) (v : Option V), σ = [some (.int n), some (.int lo), some (.int hi), v] ∧ m = (hi - lo).toNat ∧ 0 ≤ lo ∧ lo < hi ∧ hi < 2 ^ 80 ∧ lo * lo * lo ≤ n ∧ n < hi * hi * hi)
      ⟨_, rfl, 0, g, none, rfl, rfl, by omega, hq0, hq, h0, hp⟩ ?_
    rintro m σ H' ⟨rfl, lo, hi, v, rfl, rfl, k0, k1, k2, k3, k4⟩
    walk_at "go"
    refine g_ite (fun c => ?_) (fun c => ?_)
    · refine ⟨_, fun _ _ z => z, ?_⟩
      walk_at "go"
      obtain ⟨mi, emi, m1, m2⟩ : ∃ mi : Int, (lo + hi) / 2 = mi ∧ lo < mi ∧ mi < hi := ⟨_, rfl, by omega, by omega⟩
      rw [emi]
      have hm : mi.natAbs < 2 ^ 80 := by omega
      refine g_rI (C := CPowW) ⟨by decide, by have := PyProof.Rows.intBits_le hm; show (_ : Int) * 3 ≤ _; omega⟩ ?_
      rw [show mi ^ (3 : Int).toNat = mi * mi * mi from cube_eq mi]
      walk_at "go"
      refine g_ite (fun c2 => ?_) (fun c2 => ?_)
      · walk_at "go"
        exact ⟨_, by omega, rfl, mi, hi, _, rfl, rfl, by omega, m2, k2, c2, k4⟩
      · walk_at "go"
        exact ⟨_, by omega, rfl, lo, mi, _, rfl, rfl, k0, m1, by omega, k3, by omega⟩
    · walk_at "go"
      have e : hi = lo + 1 := by omega
      subst e
      exact q lo k0 (by omega) k3 k4
def sp_rise (K : PySem.W.Frag) : Sp := fun vs H Q _ => ∃ m d : Int, vs = [.int m, .int d] ∧ 0 ≤ m ∧ m ≤ 1460 ∧ 0 ≤ d ∧ d < 2 ^ 60 ∧ Q (.int (rise m d)) H
theorem u_rise {m d : Int} {H Q E} (h0 : 0 ≤ m) (h1 : m ≤ 1460) (h2 : 0 ≤ d) (h3 : d < 2 ^ 60) (q : Q (.int (rise m d)) H) : sp_rise K ([.int m, .int d] ++ []) H Q E := ⟨m, d, rfl, h0, h1, h2, h3, q⟩
theorem ok_rise (T : Txt P K mg) : FnOk P w K mg base CX0 1 T.f_rise T.d_rise ["mss", "distance"] (sp_rise K) := by
  refine T.F_rise.ok sc_rise (fun vs H Q E h => ?_) (fun cdv A outer s H vs Q E hr h => ?_)
  · obtain ⟨m, d, rfl, h0, h1, h2, h3, q⟩ := h
    rfl
  · obtain ⟨m, d, rfl, h0, h1, h2, h3, q⟩ := h
    have hu := hu_of hr
    refine ⟨_, (pss_one (ps_ret (pe_op op_fdivW (pe_op op_mul (pv 0) (pe_op op_pow (pv 1) pe_int)) (pe_glob (v := .int 2500000000) (by rfl) T.v_SLOWNESS ⟨_, rfl⟩)))), ?_⟩
    dsimp only [cxOf, Cx.nox, Cx.wish, L2.start, List.map, List.cons_append, List.nil_append, List.length_cons, List.length_nil, Nat.reduceAdd, Nat.reduceSub, Nat.zero_add, List.replicate_succ, List.replicate_zero]
    walk_at "go"
    refine g_rI (C := CPow) ⟨by decide, by decide, by omega⟩ ?_
    rw [show d ^ (3 : Int).toNat = d * d * d from cube_eq d]
    walk_at "go"
    exact q
local macro_rules | `(tactic| walk_at "use") => `(tactic| with_reducible refine u_rise (by omega) (by omega) (by omega) (by omega) ?_)
def sp_curve (K : PySem.W.Frag) : Sp := fun vs H Q _ => ∃ m o t a : Int, vs = [.int m, .int o, .int t, .int a] ∧ (0 ≤ m ∧ m ≤ 1460 ∧ 0 ≤ t ∧ t < 2 ^ 50 ∧ 0 ≤ a ∧ a < 2 ^ 50) ∧ Q (.int (crv m o t a)) H
theorem u_curve {m o t a : Int} {H Q E} (h : 0 ≤ m ∧ m ≤ 1460 ∧ 0 ≤ t ∧ t < 2 ^ 50 ∧ 0 ≤ a ∧ a < 2 ^ 50) (q : Q (.int (crv m o t a)) H) : sp_curve K ([.int m, .int o, .int t, .int a] ++ []) H Q E := ⟨m, o, t, a, rfl, h, q⟩
theorem ok_curve (T : Txt P K mg) : FnOk P w K mg base CX0 2 T.f_curve T.d_curve ["mss", "origin", "turning", "at"] (sp_curve K) := by
  refine T.F_curve.ok sc_curve (fun vs H Q E h => ?_) (fun cdv A outer s H vs Q E hr h => ?_)
  · obtain ⟨m, o, t, a, rfl, h, q⟩ := h
    rfl
  · obtain ⟨m, o, t, a, rfl, h, q⟩ := h
    have hu := hu_of hr
    refine ⟨_, (pss_cons (ps_if (pt_cmpR op_le (pv 3) (pv 2) (nomark _)) (pss_one (ps_ret (pe_callB (call_max2 rfl) (by rfl) T.n_max (by decide +kernel) (pa_cons pe_int (pa_cons (pe_op op_sub (pv 1) (pe_call (ok_rise T) (hr.mono (by decide)) rfl T.m_rise T.F_rise.kp T.b_rise .nil pass0 (pa_cons (pv 0) (pa_cons (pe_op op_sub (pv 2) (pv 3)) pa_nil)))) pa_nil))))) pss_nil)
        (pss_one (ps_ret (pe_op op_add (pv 1) (pe_call (ok_rise T) (hr.mono (by decide)) rfl T.m_rise T.F_rise.kp T.b_rise .nil pass0 (pa_cons (pv 0) (pa_cons (pe_op op_sub (pv 3) (pv 2)) pa_nil))))))), ?_⟩
    dsimp only [cxOf, Cx.nox, Cx.wish, L2.start, List.map, List.cons_append, List.nil_append, List.length_cons, List.length_nil, Nat.reduceAdd, Nat.reduceSub, Nat.zero_add, List.replicate_succ, List.replicate_zero]
    obtain ⟨h0, h1, h2, h3, h4, h5⟩ := h
    unfold crv at q
    walk_at "go"
    refine g_ite (fun c => ?_) (fun c => ?_)
    · rw [if_pos c] at q
      walk_at "go"
      exact q
    · rw [if_neg c] at q
      walk_at "go"
      exact q
def sp_turning_time (K : PySem.W.Frag) : Sp := fun vs H Q _ => ∃ m d : Int, vs = [.int m, .int d] ∧ 1 ≤ m ∧ m ≤ 1460 ∧ 0 ≤ d ∧ d ≤ 1073741824 ∧ ∀ r : Int, 0 ≤ r → r < 2 ^ 80 → r * r * r ≤ d * 2500000000 / m → d * 2500000000 / m < (r + 1) * (r + 1) * (r + 1) → Q (.int r) H
theorem u_tt {m d : Int} {H Q E} (h0 : 1 ≤ m) (h1 : m ≤ 1460) (h2 : 0 ≤ d) (h3 : d ≤ 1073741824) (q : ∀ r : Int, 0 ≤ r → r < 2 ^ 80 → r * r * r ≤ d * 2500000000 / m → d * 2500000000 / m < (r + 1) * (r + 1) * (r + 1) → Q (.int r) H) : sp_turning_time K ([.int m, .int d] ++ []) H Q E := ⟨m, d, rfl, h0, h1, h2, h3, q⟩
theorem dq {m d : Int} (h0 : 1 ≤ m) (h2 : 0 ≤ d) : 0 ≤ d * 2500000000 / m ∧ d * 2500000000 / m ≤ d * 2500000000 := by
  constructor
  · exact Int.ediv_nonneg (by omega) (by omega)
  · exact Int.ediv_le_self _ (by omega)
theorem ok_turning_time (T : Txt P K mg) : FnOk P w K mg base CX0 2 T.f_turning_time T.d_turning_time ["mss", "depth"] (sp_turning_time K) := by
  refine T.F_turning_time.ok sc_turning_time (fun vs H Q E h => ?_) (fun cdv A outer s H vs Q E hr h => ?_)
  · obtain ⟨m, d, rfl, h0, h1, h2, h3, q⟩ := h
    rfl
  · obtain ⟨m, d, rfl, h0, h1, h2, h3, q⟩ := h
    have hu := hu_of hr
    refine ⟨_, (pss_one (ps_ret (pe_call (ok_cube_root T) (hr.mono (by decide)) rfl T.m_cube_root T.F_cube_root.kp T.b_cube_root .nil pass0 (pa_cons (pe_op op_fdivW (pe_op op_mul (pv 1) (pe_glob (v := .int 2500000000) (by rfl) T.v_SLOWNESS ⟨_, rfl⟩)) (pv 0)) pa_nil)))), ?_⟩
    dsimp only [cxOf, Cx.nox, Cx.wish, L2.start, List.map, List.cons_append, List.nil_append, List.length_cons, List.length_nil, Nat.reduceAdd, Nat.reduceSub, Nat.zero_add, List.replicate_succ, List.replicate_zero]
    walk_at "go"
    refine g_rI (C := CDivW) (cdivW (by omega) (Int.lt_of_le_of_lt h1 (by decide +kernel))) ?_
    have := dq h0 h2
    walk_at "go"
    exact u_root (by omega) (by omega) q

/-! ### what a control is -/
abbrev GG : Int := 1073741824
abbrev Per := Int × Int × Int × Int × Int
structure Ct where
  cwnd : Int
  thresh : Int
  peak : Int
  prior : Int
  calm : Int
  cr : Int
  per : Option Per
theorem root_unique {n r s : Int} (h0 : 0 ≤ r) (h1 : 0 ≤ s) (hr : r * r * r ≤ n) (hr2 : n < (r + 1) * (r + 1) * (r + 1)) (hs : s * s * s ≤ n) (hs2 : n < (s + 1) * (s + 1) * (s + 1)) : r = s := by
  rcases Int.lt_trichotomy r s with z | z | z
  · have := cube_le (a := r + 1) (b := s) (by omega) (by omega)
    omega
  · exact z
  · have := cube_le (a := s + 1) (b := r) (by omega) (by omega)
    omega
noncomputable def cbrt (n : Int) : Int := open Classical in if h : ∃ r : Int, 0 ≤ r ∧ r * r * r ≤ n ∧ n < (r + 1) * (r + 1) * (r + 1) then h.choose else 0
theorem cbrt_eq {n r : Int} (h0 : 0 ≤ r) (hr : r * r * r ≤ n) (hr2 : n < (r + 1) * (r + 1) * (r + 1)) : r = cbrt n := by
  unfold cbrt
  have e : ∃ r : Int, 0 ≤ r ∧ r * r * r ≤ n ∧ n < (r + 1) * (r + 1) * (r + 1) := ⟨r, h0, hr, hr2⟩
  rw [dif_pos e]
  exact root_unique h0 e.choose_spec.1 hr hr2 e.choose_spec.2.1 e.choose_spec.2.2
noncomputable def newPer (g : Ct) (m now : Int) : Per := if g.cwnd < g.peak then (now, g.peak, cbrt ((g.peak - g.cwnd) * 2500000000 / m), g.cwnd, 0) else (now, g.cwnd, 0, g.cwnd, 0)
def Ct.share (r : Bool) (b : Int) : Int := match r with | true => b / 2 | false => 7 * b / 10
def Ct.lthr (r : Bool) (g : Ct) (m fl : Int) : Int := min (max (Ct.share r (min fl g.cwnd)) (2 * m)) GG
def Ct.lose (r : Bool) (g : Ct) (m fl : Int) : Ct := ⟨g.lthr r m fl, g.lthr r m fl, if g.cwnd < g.peak then 17 * g.cwnd / 20 else g.cwnd, g.cwnd, g.calm, 0, none⟩
def Ct.tout (r : Bool) (g : Ct) (m fl : Int) : Ct := { g.lose r m fl with cwnd := min m GG }
def Ct.markd (r : Bool) (g : Ct) (m now fl len : Int) : Ct := { g.lose r m fl with calm := now + len }
/-- the period behind an acknowledgement -/
def Ct.per1 (g : Ct) (p : Per) (m o : Int) : Per := match p with | (a, b, c, d, e) => if 17 * g.cwnd ≤ e + (if d < g.prior then 9 else 17) * o then (a, b, c, d + m, e + (if d < g.prior then 9 else 17) * o - 17 * g.cwnd) else (a, b, c, d, e + (if d < g.prior then 9 else 17) * o)
def Ct.grow (g : Ct) (p : Per) (m now o : Int) : Int := min (max p.2.2.2.1 (g.cwnd + (min (max (crv m p.2.1 p.2.2.1 (max 0 (now - p.1))) g.cwnd) (g.cwnd + g.cwnd / 2) - g.cwnd) * o / g.cwnd)) GG
noncomputable def Ct.thePer (g : Ct) (m now : Int) : Per := match g.per with | some p => p | none => newPer g m now
noncomputable def Ct.avoid (r : Bool) (g : Ct) (m now o : Int) : Ct := match r with
  | true => if g.cwnd ≤ g.cr + o then { g with cr := g.cr + o - g.cwnd, cwnd := min (g.cwnd + m) GG } else { g with cr := g.cr + o }
  | false => { g with per := some (g.per1 (g.thePer m now) m o), cwnd := g.grow (g.per1 (g.thePer m now) m o) m now o }
noncomputable def Ct.ack (r : Bool) (g : Ct) (m now o fl : Int) (rec : Bool) : Ct :=
  if rec = true ∨ o = 0 ∨ fl + o + m ≤ g.cwnd then g else if g.cwnd < g.thresh then { g with cwnd := min (g.cwnd + min o m) GG } else g.avoid r m now o
def perV (H : Hp) (e : V) : Option Per → Prop
  | none => e = .non
  | some (a, b, c, d, f) => ∃ t, e = .ref t ∧ H t = some (.tup [.int a, .int b, .int c, .int d, .int f])
def exV (r : Bool) (H : Hp) (e : V) (g : Ct) : Prop := match r with | true => e = .int g.cr | false => perV H e g.per
def kyC (r : Bool) : List Str := match r with | true => ky_Reno | false => ky_Cubic
def CtO (r : Bool) (C : Addr) (H : Hp) (p : Addr) (g : Ct) : Prop := ∃ dx e, H p = some (.ins C dx (obj (kyC r) [.int g.cwnd, .int g.thresh, .int g.peak, .int g.prior, .int g.calm, e])) ∧ exV r H e g
theorem perV.but {H H' : Hp} {p C dx : Addr} {fs : List (Str × V)} {e : V} (b : But p H H') (hp : H p = some (.ins C dx fs)) : ∀ {o : Option Per}, perV H e o → perV H' e o
  | none, h => h
  | some (_, _, _, _, _), ⟨t, h1, h2⟩ => ⟨t, h1, b _ _ (fun z => by rw [z, hp] at h2; cases h2) h2⟩
theorem perV.same {H H' : Hp} {e : V} (s : Same H H') : ∀ {o : Option Per}, perV H e o → perV H' e o
  | none, h => h
  | some (_, _, _, _, _), ⟨t, h1, h2⟩ => ⟨t, h1, s _ _ h2⟩
theorem CtO.same {r : Bool} {C p : Addr} {H H' : Hp} {g : Ct} (h : CtO r C H p g) (s : Same H H') : CtO r C H' p g := by
  obtain ⟨dx, e, h1, h2⟩ := h
  refine ⟨dx, e, s _ _ h1, ?_⟩
  cases r with
  | true => exact h2
  | false => exact perV.same s h2
theorem CtO.reno {C p : Addr} {H : Hp} {g : Ct} (h : CtO true C H p g) : ∃ dx, H p = some (.ins C dx (obj ky_Reno [.int g.cwnd, .int g.thresh, .int g.peak, .int g.prior, .int g.calm, .int g.cr])) := by
  obtain ⟨dx, e, h1, h2⟩ := h
  have h2 : e = .int g.cr := h2
  subst h2
  exact ⟨dx, h1⟩
theorem CtO.cubic {C p : Addr} {H : Hp} {g : Ct} (h : CtO false C H p g) : ∃ dx e, H p = some (.ins C dx (obj ky_Cubic [.int g.cwnd, .int g.thresh, .int g.peak, .int g.prior, .int g.calm, e])) ∧ perV H e g.per := h
theorem CtO.reno_mk {C p dx : Addr} {H : Hp} {g : Ct} (h : H p = some (.ins C dx (obj ky_Reno [.int g.cwnd, .int g.thresh, .int g.peak, .int g.prior, .int g.calm, .int g.cr]))) : CtO true C H p g := ⟨dx, _, h, rfl⟩
theorem CtO.cubic_mk {C p dx : Addr} {e : V} {H : Hp} {g : Ct} (h : H p = some (.ins C dx (obj ky_Cubic [.int g.cwnd, .int g.thresh, .int g.peak, .int g.prior, .int g.calm, e]))) (h2 : perV H e g.per) : CtO false C H p g := ⟨dx, e, h, h2⟩
/-- what its numbers keep to -/
structure CtB (g : Ct) (now : Int) : Prop where
  c0 : 1 ≤ g.cwnd
  c1 : g.cwnd ≤ GG
  p0 : 0 ≤ g.peak
  p1 : g.peak ≤ GG
  per : ∀ a b c d e, g.per = some (a, b, c, d, e) → 0 ≤ c ∧ c < 2 ^ 50 ∧ now - a < 2 ^ 50
def sp_cinit (ky : List Str) (C : Addr) : Sp := fun vs H Q _ => ∃ (p dx : Addr) (m : Int), vs = [.ref p, .int m] ∧ H p = some (.ins C dx (obj ky [])) ∧ ∀ H', But p H H' → H' p = some (.ins C dx (obj ky [.int (min (10 * m) GG), .int GG, .int 0, .int 0, .int 0])) → Q .non H'
def sp_kinit (r : Bool) (C : Addr) : Sp := fun vs H Q _ => ∃ (p dx : Addr) (m : Int), vs = [.ref p, .int m] ∧ H p = some (.ins C dx (obj (kyC r) [])) ∧ ∀ H', But p H H' → CtO r C H' p ⟨min (10 * m) GG, GG, 0, 0, 0, 0, none⟩ → Q .non H'
def sp_bounded : Sp := fun vs H Q _ => ∃ (x : V) (o : Int), vs = [x, .int o] ∧ Q (.int (min o GG)) H
def sp_share (r : Bool) : Sp := fun vs H Q _ => ∃ (x : V) (o : Int), vs = [x, .int o] ∧ Q (.int (Ct.share r o)) H
def sp_begin (r : Bool) (ky : List Str) (C : Addr) : Sp := fun vs H Q _ => ∃ (p dx : Addr) (a b c d e f : V), vs = [.ref p] ∧ H p = some (.ins C dx (obj ky [a, b, c, d, e, f])) ∧ Q .non (upd H p (.ins C dx (obj ky [a, b, c, d, e, match r with | true => .int 0 | false => .non])))
def sp_lose (r : Bool) (C : Addr) : Sp := fun vs H Q _ => ∃ (p : Addr) (g : Ct) (m fl : Int), vs = [.ref p, .int m, .int fl] ∧ CtO r C H p g ∧ ∀ H', But p H H' → CtO r C H' p (g.lose r m fl) → Q .non H'
def sp_tout (r : Bool) (C : Addr) : Sp := fun vs H Q _ => ∃ (p : Addr) (g : Ct) (m fl : Int), vs = [.ref p, .int m, .int fl] ∧ CtO r C H p g ∧ ∀ H', But p H H' → CtO r C H' p (g.tout r m fl) → Q .non H'
def sp_mark (r : Bool) (C : Addr) : Sp := fun vs H Q _ => ∃ (p : Addr) (g : Ct) (m now fl len : Int), vs = [.ref p, .int m, .int now, .int fl, .int len] ∧ CtO r C H p g ∧ (now < g.calm → Q (.bl false) H) ∧ (g.calm ≤ now → ∀ H', But p H H' → CtO r C H' p (g.markd r m now fl len) → Q (.bl true) H')
def sp_avoid (r : Bool) (C : Addr) : Sp := fun vs H Q _ => ∃ (p : Addr) (g : Ct) (m now o : Int), vs = [.ref p, .int m, .int now, .int o] ∧ CtO r C H p g ∧ 1 ≤ m ∧ m ≤ 1460 ∧ 0 ≤ o ∧ o < 2 ^ 60 ∧ CtB g now ∧ ∀ H', But p H H' → CtO r C H' p (g.avoid r m now o) → Q .non H'
def sp_ack (r : Bool) (C : Addr) : Sp := fun vs H Q _ => ∃ (p : Addr) (g : Ct) (m now o fl : Int) (rec : Bool), vs = [.ref p, .int m, .int now, .int o, .int fl, .bl rec] ∧ CtO r C H p g ∧ 1 ≤ m ∧ m ≤ 1460 ∧ 0 ≤ o ∧ o < 2 ^ 60 ∧ CtB g now ∧ ∀ H', But p H H' → CtO r C H' p (g.ack r m now o fl rec) → Q .non H'

end
end My
namespace My
open PySem PySem.Spec L2
local macro_rules | `(tactic| walk_at "side") => `(tactic| first | assumption | decide | omega | exact ⟨by decide, by decide⟩ | exact ⟨by decide, by decide, by decide⟩ | decide +kernel | exact cdivW (by decide +kernel) (by decide +kernel) | exact Or.inl ⟨by omega, by omega⟩ | exact Or.inr ⟨by omega, by omega⟩ | (simp only [List.length_map, List.length_cons, List.length_nil, List.length_append]; omega))
local macro_rules | `(tactic| walk_at "fact") => `(tactic| first | assumption | omega | with_reducible rfl)
local macro_rules | `(tactic| walk_at "use") => `(tactic| fail "use")
local macro_rules | `(tactic| walk_at "go1") => `(tactic| with_reducible first | refine g_seq ?_ | refine g_asg ?_ | refine g_ret ?_ | refine g_ifS ?_ | refine g_drop ?_ | refine g_star ?_ | refine g_nx ?_ | refine g_rt ?_ | refine g_bkE ?_ | refine g_ctE ?_ | refine g_next ?_ | refine g_retN ?_ | refine g_brk ?_ | refine g_ct ?_ | refine g_c ?_ | refine g_op ?_ | refine g_un ?_ | refine g_rI0 ?_ | refine g_rU ?_ | refine g_rEqI ?_ | refine g_rNeI ?_ | refine g_isN ?_ | refine g_rIsB ?_ | refine g_rNotB ?_ | refine g_test ?_ | refine g_B ?_ | refine g_bl ?_ | refine g_and ?_ | refine g_or ?_ | refine g_not ?_ | refine g_andV ?_ | refine g_orV ?_ | refine g_notV ?_ | refine g_if ?_ | refine g_chain ?_ | refine g_yes ?_ | refine g_lc ?_ | refine g_revR ?_ | refine g_rng1 ?_ | refine g_iList ?_ | refine g_nil ?_ | refine g_cons ?_ | refine g_tup ?_ | refine g_lst ?_ | refine g_call ?_ | refine g_CB ?_ | refine g_sl ?_ | refine g_noPart ?_ | refine g_part ?_ | refine g_intE ?_ | refine g_ref ?_ | refine g_fld ?_ | refine g_sfld ?_ | refine g_meth ?_ | refine g_make ?_ | refine g_prop ?_  | refine g_ipI ?_ | refine g_int1 ?_ | refine g_int1B ?_ | refine g_one ?_ | refine g_two ?_ | refine g_isiI ?_ | refine g_isiIB ?_ | refine g_isiB ?_ | refine g_BM ?_ | refine g_BM0 ?_ | refine g_sub ?_)
local macro_rules | `(tactic| walk_at "go") => `(tactic| repeat (first | walk_at "go1" | ((with_reducible refine' g_nameE ?sd_ ?_); case sd_ => dsimp only [List.set_cons_succ, List.set_cons_zero]) | ((with_reducible refine' g_var ?sd_ ?_); case sd_ => exact rfl) | ((with_reducible refine' g_aug ?sd_ ?_); case sd_ => exact rfl) | ((with_reducible refine' g_rI ?sd_ ?_); case sd_ => walk_at "side") | ((with_reducible refine' g_dT ?sd_ ?_); case sd_ => walk_at "fact") | ((with_reducible refine' g_dF ?sd_ ?_); case sd_ => walk_at "fact") | ((with_reducible refine' g_nT ?sd_ ?_); case sd_ => walk_at "fact") | ((with_reducible refine' g_nF ?sd_ ?_); case sd_ => walk_at "fact") | (with_reducible refine g_iT rfl ?_) | (with_reducible refine g_iF rfl ?_) | walk_at "use"))
local macro_rules | `(tactic| walk_at "nw") => `(tactic| (generalize zq : upd _ _ _ = Hq; have sq : Same _ Hq := (by rw [← zq]; exact same_upd (by assumption)); have kq := (congrFun zq _).symm.trans upd_same; clear zq))
local macro_rules | `(tactic| walk_at "bt") => `(tactic| (generalize zq : upd _ _ _ = Hq; have bq : But _ _ Hq := (by rw [← zq]; exact But.refl.upd); have kq := (congrFun zq _).symm.trans upd_same; clear zq))
local macro_rules | `(tactic| walk_at "use") => `(tactic| first | ((with_reducible refine' fd_Cubic_cwnd ?ho_ ?hv_ ?_); (case ho_ => first | assumption | exact upd_same); (case hv_ => exact rfl)) | ((with_reducible refine' fd_Cubic_thresh ?ho_ ?hv_ ?_); (case ho_ => first | assumption | exact upd_same); (case hv_ => exact rfl)) | ((with_reducible refine' fd_Cubic_peak ?ho_ ?hv_ ?_); (case ho_ => first | assumption | exact upd_same); (case hv_ => exact rfl)) | ((with_reducible refine' fd_Cubic_prior ?ho_ ?hv_ ?_); (case ho_ => first | assumption | exact upd_same); (case hv_ => exact rfl)) | ((with_reducible refine' fd_Cubic_calm ?ho_ ?hv_ ?_); (case ho_ => first | assumption | exact upd_same); (case hv_ => exact rfl)) | ((with_reducible refine' fd_Cubic_period ?ho_ ?hv_ ?_); (case ho_ => first | assumption | exact upd_same); (case hv_ => exact rfl)) | ((with_reducible refine' nw_Cubic_cwnd ?ho_ ?hv_ ?_); (case ho_ => first | assumption | exact upd_same); (case hv_ => exact rfl)) | ((with_reducible refine' nw_Cubic_thresh ?ho_ ?hv_ ?_); (case ho_ => first | assumption | exact upd_same); (case hv_ => exact rfl)) | ((with_reducible refine' nw_Cubic_peak ?ho_ ?hv_ ?_); (case ho_ => first | assumption | exact upd_same); (case hv_ => exact rfl)) | ((with_reducible refine' nw_Cubic_prior ?ho_ ?hv_ ?_); (case ho_ => first | assumption | exact upd_same); (case hv_ => exact rfl)) | ((with_reducible refine' nw_Cubic_calm ?ho_ ?hv_ ?_); (case ho_ => first | assumption | exact upd_same); (case hv_ => exact rfl)) | ((with_reducible refine' nw_Cubic_period ?ho_ ?hv_ ?_); (case ho_ => first | assumption | exact upd_same); (case hv_ => exact rfl)) | ((with_reducible refine' st_Cubic_cwnd ?ho_ ?hv_ ?_); (case ho_ => first | assumption | exact upd_same); (case hv_ => exact Nat.le_of_ble_eq_true rfl)) | ((with_reducible refine' st_Cubic_thresh ?ho_ ?hv_ ?_); (case ho_ => first | assumption | exact upd_same); (case hv_ => exact Nat.le_of_ble_eq_true rfl)) | ((with_reducible refine' st_Cubic_peak ?ho_ ?hv_ ?_); (case ho_ => first | assumption | exact upd_same); (case hv_ => exact Nat.le_of_ble_eq_true rfl)) | ((with_reducible refine' st_Cubic_prior ?ho_ ?hv_ ?_); (case ho_ => first | assumption | exact upd_same); (case hv_ => exact Nat.le_of_ble_eq_true rfl)) | ((with_reducible refine' st_Cubic_calm ?ho_ ?hv_ ?_); (case ho_ => first | assumption | exact upd_same); (case hv_ => exact Nat.le_of_ble_eq_true rfl)) | ((with_reducible refine' st_Cubic_period ?ho_ ?hv_ ?_); (case ho_ => first | assumption | exact upd_same); (case hv_ => exact Nat.le_of_ble_eq_true rfl)) | ((with_reducible refine' me_Cubic_fork ?ho_ ?_); (case ho_ => first | assumption | exact upd_same)) | ((with_reducible refine' me_Cubic_avoid ?ho_ ?_); (case ho_ => first | assumption | exact upd_same)) | ((with_reducible refine' me_Cubic_new_period ?ho_ ?_); (case ho_ => first | assumption | exact upd_same)) | ((with_reducible refine' me_Cubic_share ?ho_ ?_); (case ho_ => first | assumption | exact upd_same)) | ((with_reducible refine' me_Cubic_begin_anew ?ho_ ?_); (case ho_ => first | assumption | exact upd_same)) | ((with_reducible refine' me_Cubic_acknowledge ?ho_ ?_); (case ho_ => first | assumption | exact upd_same)) | ((with_reducible refine' me_Cubic_lose ?ho_ ?_); (case ho_ => first | assumption | exact upd_same)) | ((with_reducible refine' me_Cubic_time_out ?ho_ ?_); (case ho_ => first | assumption | exact upd_same)) | ((with_reducible refine' me_Cubic_mark ?ho_ ?_); (case ho_ => first | assumption | exact upd_same)) | ((with_reducible refine' me_Cubic_bounded ?ho_ ?_); (case ho_ => first | assumption | exact upd_same)) | ((with_reducible refine' me_Cubic_give_to ?ho_ ?_); (case ho_ => first | assumption | exact upd_same)))
local macro_rules | `(tactic| walk_at "use") => `(tactic| first | ((with_reducible refine' fd_Reno_cwnd ?ho_ ?hv_ ?_); (case ho_ => first | assumption | exact upd_same); (case hv_ => exact rfl)) | ((with_reducible refine' fd_Reno_thresh ?ho_ ?hv_ ?_); (case ho_ => first | assumption | exact upd_same); (case hv_ => exact rfl)) | ((with_reducible refine' fd_Reno_peak ?ho_ ?hv_ ?_); (case ho_ => first | assumption | exact upd_same); (case hv_ => exact rfl)) | ((with_reducible refine' fd_Reno_prior ?ho_ ?hv_ ?_); (case ho_ => first | assumption | exact upd_same); (case hv_ => exact rfl)) | ((with_reducible refine' fd_Reno_calm ?ho_ ?hv_ ?_); (case ho_ => first | assumption | exact upd_same); (case hv_ => exact rfl)) | ((with_reducible refine' fd_Reno_credit ?ho_ ?hv_ ?_); (case ho_ => first | assumption | exact upd_same); (case hv_ => exact rfl)) | ((with_reducible refine' nw_Reno_cwnd ?ho_ ?hv_ ?_); (case ho_ => first | assumption | exact upd_same); (case hv_ => exact rfl)) | ((with_reducible refine' nw_Reno_thresh ?ho_ ?hv_ ?_); (case ho_ => first | assumption | exact upd_same); (case hv_ => exact rfl)) | ((with_reducible refine' nw_Reno_peak ?ho_ ?hv_ ?_); (case ho_ => first | assumption | exact upd_same); (case hv_ => exact rfl)) | ((with_reducible refine' nw_Reno_prior ?ho_ ?hv_ ?_); (case ho_ => first | assumption | exact upd_same); (case hv_ => exact rfl)) | ((with_reducible refine' nw_Reno_calm ?ho_ ?hv_ ?_); (case ho_ => first | assumption | exact upd_same); (case hv_ => exact rfl)) | ((with_reducible refine' nw_Reno_credit ?ho_ ?hv_ ?_); (case ho_ => first | assumption | exact upd_same); (case hv_ => exact rfl)) | ((with_reducible refine' st_Reno_cwnd ?ho_ ?hv_ ?_); (case ho_ => first | assumption | exact upd_same); (case hv_ => exact Nat.le_of_ble_eq_true rfl)) | ((with_reducible refine' st_Reno_thresh ?ho_ ?hv_ ?_); (case ho_ => first | assumption | exact upd_same); (case hv_ => exact Nat.le_of_ble_eq_true rfl)) | ((with_reducible refine' st_Reno_peak ?ho_ ?hv_ ?_); (case ho_ => first | assumption | exact upd_same); (case hv_ => exact Nat.le_of_ble_eq_true rfl)) | ((with_reducible refine' st_Reno_prior ?ho_ ?hv_ ?_); (case ho_ => first | assumption | exact upd_same); (case hv_ => exact Nat.le_of_ble_eq_true rfl)) | ((with_reducible refine' st_Reno_calm ?ho_ ?hv_ ?_); (case ho_ => first | assumption | exact upd_same); (case hv_ => exact Nat.le_of_ble_eq_true rfl)) | ((with_reducible refine' st_Reno_credit ?ho_ ?hv_ ?_); (case ho_ => first | assumption | exact upd_same); (case hv_ => exact Nat.le_of_ble_eq_true rfl)) | ((with_reducible refine' me_Reno_fork ?ho_ ?_); (case ho_ => first | assumption | exact upd_same)) | ((with_reducible refine' me_Reno_avoid ?ho_ ?_); (case ho_ => first | assumption | exact upd_same)) | ((with_reducible refine' me_Reno_share ?ho_ ?_); (case ho_ => first | assumption | exact upd_same)) | ((with_reducible refine' me_Reno_begin_anew ?ho_ ?_); (case ho_ => first | assumption | exact upd_same)) | ((with_reducible refine' me_Reno_acknowledge ?ho_ ?_); (case ho_ => first | assumption | exact upd_same)) | ((with_reducible refine' me_Reno_lose ?ho_ ?_); (case ho_ => first | assumption | exact upd_same)) | ((with_reducible refine' me_Reno_time_out ?ho_ ?_); (case ho_ => first | assumption | exact upd_same)) | ((with_reducible refine' me_Reno_mark ?ho_ ?_); (case ho_ => first | assumption | exact upd_same)) | ((with_reducible refine' me_Reno_bounded ?ho_ ?_); (case ho_ => first | assumption | exact upd_same)) | ((with_reducible refine' me_Reno_give_to ?ho_ ?_); (case ho_ => first | assumption | exact upd_same)))
section
variable {P : Program} {w : World} {K : PySem.W.Frag} {mg : Str → Option Value} {base : Heap}
local macro_rules | `(tactic| walk_at "use") => `(tactic| with_reducible first | refine g_cval ?_ | refine cvq_Control_GREATEST ?_ | refine g_methN ?_)
theorem ok_Reno_bounded (T : Txt P K mg) : FnOk P w K mg base CX0 1 T.f_Reno_bounded T.d_Reno_bounded ["self", "octets"] (sp_bounded) := by
  refine T.F_Reno_bounded.ok sc_Reno_bounded (fun vs H Q E h => ?_) (fun cdv A outer s H vs Q E hr h => ?_)
  · obtain ⟨x, o, rfl, q⟩ := h
    rfl
  · obtain ⟨x, o, rfl, q⟩ := h
    have hu := hu_of hr
    refine ⟨_, (pss_one (ps_ret (pe_callB (call_min2 rfl) (by rfl) T.n_min (by decide +kernel) (pa_cons (pv 1) (pa_cons (ClX.pe_cval (pe_glob (v := .ref T.C_Control) (by rfl) T.c_Control rfl)) pa_nil))))), ?_⟩
    dsimp only [cxOf, Cx.nox, Cx.wish, L2.start, List.map, List.cons_append, List.nil_append, List.length_cons, List.length_nil, Nat.reduceAdd, Nat.reduceSub, Nat.zero_add, List.replicate_succ, List.replicate_zero]
    walk_at "go"
    rw [show (if 1073741824 < o then 1073741824 else o) = min o GG by show _ = min o 1073741824; split <;> omega]
    exact q
theorem ok_Reno_upper__init__ (T : Txt P K mg) : FnOk P w K mg base CX0 2 T.f_Reno_upper__init__ T.d_Reno_upper__init__ ["self", "mss"] (sp_cinit ky_Reno T.C_Reno) := by
  refine T.F_Reno_upper__init__.ok sc_Reno_upper__init__ (fun vs H Q E h => ?_) (fun cdv A outer s H vs Q E hr h => ?_)
  · obtain ⟨p, dx, m, rfl, ho, q⟩ := h
    rfl
  · obtain ⟨p, dx, m, rfl, ho, q⟩ := h
    have hu := hu_of hr
    refine ⟨_, (pss_cons (ps_fld (pv 0) (pe_meth (pv 0) T.k_Reno T.a_Reno_bounded (ok_Reno_bounded T) (hr.mono (by decide)) T.b_Reno_bounded .nil pass0 (pa_cons (pe_op op_mul pe_int (pv 1)) pa_nil)) rfl)
        (pss_cons (ps_fld (pv 0) (ClX.pe_cval (pe_glob (v := .ref T.C_Control) (by rfl) T.c_Control rfl)) rfl)
        (pss_cons (ps_fld (pv 0) pe_int rfl)
        (pss_cons (ps_fld (pv 0) pe_int rfl)
        (pss_one (ps_fld (pv 0) pe_int rfl)))))), ?_⟩
    dsimp only [cxOf, Cx.nox, Cx.wish, L2.start, List.map, List.cons_append, List.nil_append, List.length_cons, List.length_nil, Nat.reduceAdd, Nat.reduceSub, Nat.zero_add, List.replicate_succ, List.replicate_zero]
    walk_at "go"
    refine ⟨_, _, rfl, ?_⟩
    walk_at "go"
    simp only [upd_upd, List.nil_append, List.cons_append]
    exact q _ But.refl.upd upd_same
theorem ok_Reno_init__ (T : Txt P K mg) : FnOk P w K mg base CX0 4 T.f_Reno_init__ T.d_Reno_init__ ["self", "mss"] (sp_kinit true T.C_Reno) := by
  refine T.F_Reno_init__.ok sc_Reno_init__ (fun vs H Q E h => ?_) (fun A outer s H vs Q E hr h => ?_)
  · obtain ⟨p, dx, m, rfl, ho, q⟩ := h
    rfl
  · obtain ⟨p, dx, m, rfl, ho, q⟩ := h
    have hu := hu_of hr
    refine ⟨_, (pss_super T.F_Reno_init__.sup rfl rfl rfl T.n_super rfl rfl T.F_Reno_init__.params rfl rfl rfl (ok_Reno_upper__init__ T) T.b_Reno_upper__init__ (hr.mono (by decide)) (pa_cons (pv 1) pa_nil)
        (pss_one (ps_fld (pv 0) pe_int rfl))), ?_⟩
    dsimp only [NdefX.ncx, NdefX.startF, Cx.nox, Cx.wish, L2.start, List.map, List.cons_append, List.nil_append, List.length_cons, List.length_nil, Nat.reduceAdd, Nat.reduceSub, Nat.zero_add, List.replicate_succ, List.replicate_zero]
    refine ⟨p, dx, _, rfl, ho, ?_⟩
    walk_at "go"
    refine ⟨p, dx, m, rfl, ho, fun H1 b1 k1 => ?_⟩
    walk_at "go"
    simp only [List.nil_append, List.cons_append]
    exact q _ b1.upd (CtO.reno_mk upd_same)
theorem ok_Reno_share (T : Txt P K mg) : FnOk P w K mg base CX0 1 T.f_Reno_share T.d_Reno_share ["self", "base"] (sp_share true) := by
  refine T.F_Reno_share.ok sc_Reno_share (fun vs H Q E h => ?_) (fun cdv A outer s H vs Q E hr h => ?_)
  · obtain ⟨x, o, rfl, q⟩ := h
    rfl
  · obtain ⟨x, o, rfl, q⟩ := h
    have hu := hu_of hr
    refine ⟨_, (pss_one (ps_ret (pe_op op_fdiv (pv 1) pe_int))), ?_⟩
    dsimp only [cxOf, Cx.nox, Cx.wish, L2.start, List.map, List.cons_append, List.nil_append, List.length_cons, List.length_nil, Nat.reduceAdd, Nat.reduceSub, Nat.zero_add, List.replicate_succ, List.replicate_zero]
    walk_at "go"
    exact q
theorem ok_Reno_begin_anew (T : Txt P K mg) : FnOk P w K mg base CX0 1 T.f_Reno_begin_anew T.d_Reno_begin_anew ["self"] (sp_begin true ky_Reno T.C_Reno) := by
  refine T.F_Reno_begin_anew.ok sc_Reno_begin_anew (fun vs H Q E h => ?_) (fun cdv A outer s H vs Q E hr h => ?_)
  · obtain ⟨p, dx, a, b, c, d, e, f, rfl, ho, q⟩ := h
    rfl
  · obtain ⟨p, dx, a, b, c, d, e, f, rfl, ho, q⟩ := h
    have hu := hu_of hr
    refine ⟨_, (pss_one (ps_fld (pv 0) pe_int rfl)), ?_⟩
    dsimp only [cxOf, Cx.nox, Cx.wish, L2.start, List.map, List.cons_append, List.nil_append, List.length_cons, List.length_nil, Nat.reduceAdd, Nat.reduceSub, Nat.zero_add, List.replicate_succ, List.replicate_zero]
    walk_at "go"
    exact q
theorem ok_Reno_lose (T : Txt P K mg) : FnOk P w K mg base CX0 2 T.f_Reno_lose T.d_Reno_lose ["self", "mss", "flight"] (sp_lose true T.C_Reno) := by
  refine T.F_Reno_lose.ok sc_Reno_lose (fun vs H Q E h => ?_) (fun cdv A outer s H vs Q E hr h => ?_)
  · obtain ⟨p, g, m, fl, rfl, O, q⟩ := h
    rfl
  · obtain ⟨p, g, m, fl, rfl, O, q⟩ := h
    have hu := hu_of hr
    refine ⟨_, (pss_cons (ps_set (i := 3) sc_Reno_lose.nd rfl (Or.inl rfl) (pe_meth (pv 0) T.k_Reno T.a_Reno_share (ok_Reno_share T) (hr.mono (by decide)) T.b_Reno_share .nil pass0 (pa_cons (pe_callB (call_min2 rfl) (by rfl) T.n_min (by decide +kernel) (pa_cons (pv 2) (pa_cons (pe_fld (pv 0) rfl) pa_nil))) pa_nil)))
        (pss_cons (ps_fld (pv 0) (pe_meth (pv 0) T.k_Reno T.a_Reno_bounded (ok_Reno_bounded T) (hr.mono (by decide)) T.b_Reno_bounded .nil pass0 (pa_cons (pe_callB (call_max2 rfl) (by rfl) T.n_max (by decide +kernel) (pa_cons (pv 3) (pa_cons (pe_op op_mul pe_int (pv 1)) pa_nil))) pa_nil)) rfl)
        (pss_cons (ps_fld (pv 0) (pe_cutV (pe_ifExp (pt_cmpR op_lt (pe_fld (pv 0) rfl) (pe_fld (pv 0) rfl) (nomark _)) (pe_op op_fdiv (pe_op op_mul pe_int (pe_fld (pv 0) rfl)) pe_int) (pe_fld (pv 0) rfl))) rfl)
        (pss_cons (ps_fld (pv 0) (pe_fld (pv 0) rfl) rfl)
        (pss_cons (ps_fld (pv 0) (pe_fld (pv 0) rfl) rfl)
        (pss_one (ps_expr (pe_meth0 (pv 0) T.k_Reno T.a_Reno_begin_anew (ok_Reno_begin_anew T) (hr.mono (by decide)) T.b_Reno_begin_anew .nil pass0)))))))), ?_⟩
    dsimp only [cxOf, Cx.nox, Cx.wish, L2.start, List.map, List.cons_append, List.nil_append, List.length_cons, List.length_nil, Nat.reduceAdd, Nat.reduceSub, Nat.zero_add, List.replicate_succ, List.replicate_zero]
    obtain ⟨dx, ho⟩ := O.reno
    walk_at "go"
    refine ⟨_, _, rfl, ?_⟩
    walk_at "go"
    refine ⟨_, _, rfl, ?_⟩
    walk_at "go"
    have mn : (if g.cwnd < fl then g.cwnd else fl) = min fl g.cwnd := by split <;> omega
    have mx : (if 2 * m > Ct.share true (min fl g.cwnd) then 2 * m else Ct.share true (min fl g.cwnd)) = max (Ct.share true (min fl g.cwnd)) (2 * m) := by split <;> omega
    rw [mn, mx]
    refine g_cutV (.int (if g.cwnd < g.peak then 17 * g.cwnd / 20 else g.cwnd)) ?_ ?_
    · walk_at "go"
      refine g_ite (fun c => ?_) (fun c => ?_)
      · rw [if_pos c]
        walk_at "go"
        exact ⟨rfl, rfl⟩
      · rw [if_neg c]
        walk_at "go"
        exact ⟨rfl, rfl⟩
    walk_at "go"
    refine ⟨p, dx, _, _, _, _, _, _, rfl, upd_same, ?_⟩
    simp only [upd_upd]
    walk_at "go"
    exact q _ But.refl.upd (CtO.reno_mk upd_same)
theorem kbt_1 {P : Program} {K : PySem.W.Frag} {mg : Str → Option Value} (T : Txt P K mg) : ∃ g, KBn K T.d_Reno_lose ["self", "mss", "flight"] 2 ["flight"] g (fun vs zs => vs ++ ((zs.drop 0).take 1)) :=
  ⟨_, kb_pure (ps := ["self", "mss", "flight"]) T.F_Reno_lose 2 ["flight"] (fun vs zs => vs ++ ((zs.drop 0).take 1)) (fun r1 r2 => r1.append ((r2.drop 0).take 1)) (fun kV doc pm an cdv ct us ws l1 l2 => match us, l1, ws, l2 with | [_, _], _, [_], _ => rfl)⟩
theorem ok_Reno_time_out (T : Txt P K mg) : FnOk P w K mg base CX0 3 T.f_Reno_time_out T.d_Reno_time_out ["self", "mss", "flight"] (sp_tout true T.C_Reno) := by
  refine T.F_Reno_time_out.ok sc_Reno_time_out (fun vs H Q E h => ?_) (fun cdv A outer s H vs Q E hr h => ?_)
  · obtain ⟨p, g, m, fl, rfl, O, q⟩ := h
    rfl
  · obtain ⟨p, g, m, fl, rfl, O, q⟩ := h
    have hu := hu_of hr
    obtain ⟨gk_1, kb_1⟩ := kbt_1 T
    refine ⟨_, (pss_cons (ps_expr (pe_methN (pv 0) T.k_Reno T.a_Reno_lose (ok_Reno_lose T) (hr.mono (by decide)) kb_1 pass0 (pa_cons (pv 1) pa_nil) (pk_cons (pv 2) pk_nil)))
        (pss_one (ps_fld (pv 0) (pe_meth (pv 0) T.k_Reno T.a_Reno_bounded (ok_Reno_bounded T) (hr.mono (by decide)) T.b_Reno_bounded .nil pass0 (pa_cons (pv 1) pa_nil)) rfl))), ?_⟩
    dsimp only [cxOf, Cx.nox, Cx.wish, L2.start, List.map, List.cons_append, List.nil_append, List.length_cons, List.length_nil, Nat.reduceAdd, Nat.reduceSub, Nat.zero_add, List.replicate_succ, List.replicate_zero]
    obtain ⟨dx, ho⟩ := O.reno
    walk_at "go"
    refine ⟨rfl, rfl, p, g, m, fl, rfl, O, fun H1 b1 O1 => ?_⟩
    obtain ⟨dx1, ho1⟩ := O1.reno
    walk_at "go"
    refine ⟨_, _, rfl, ?_⟩
    walk_at "go"
    exact q _ b1.upd (CtO.reno_mk upd_same)
theorem ok_Reno_mark (T : Txt P K mg) : FnOk P w K mg base CX0 3 T.f_Reno_mark T.d_Reno_mark ["self", "mss", "now", "flight", "length"] (sp_mark true T.C_Reno) := by
  refine T.F_Reno_mark.ok sc_Reno_mark (fun vs H Q E h => ?_) (fun cdv A outer s H vs Q E hr h => ?_)
  · obtain ⟨p, g, m, now, fl, len, rfl, O, q1, q2⟩ := h
    rfl
  · obtain ⟨p, g, m, now, fl, len, rfl, O, q1, q2⟩ := h
    have hu := hu_of hr
    obtain ⟨gk_1, kb_1⟩ := kbt_1 T
    refine ⟨_, (pss_cons (ps_if (pt_cmpR op_lt (pv 2) (pe_fld (pv 0) rfl) (nomark _)) (pss_one (ps_ret pe_bl)) pss_nil)
        (pss_cons (ps_expr (pe_methN (pv 0) T.k_Reno T.a_Reno_lose (ok_Reno_lose T) (hr.mono (by decide)) kb_1 pass0 (pa_cons (pv 1) pa_nil) (pk_cons (pv 3) pk_nil)))
        (pss_cons (ps_fld (pv 0) (pe_op op_add (pv 2) (pv 4)) rfl)
        (pss_one (ps_ret pe_bl))))), ?_⟩
    dsimp only [cxOf, Cx.nox, Cx.wish, L2.start, List.map, List.cons_append, List.nil_append, List.length_cons, List.length_nil, Nat.reduceAdd, Nat.reduceSub, Nat.zero_add, List.replicate_succ, List.replicate_zero]
    obtain ⟨dx, ho⟩ := O.reno
    walk_at "go"
    refine g_ite (fun c => ?_) (fun c => ?_)
    · walk_at "go"
      exact q1 c
    have q2 := q2 (by omega)
    walk_at "go"
    refine ⟨rfl, rfl, p, g, m, fl, rfl, O, fun H1 b1 O1 => ?_⟩
    obtain ⟨dx1, ho1⟩ := O1.reno
    walk_at "go"
    exact q2 _ b1.upd (CtO.reno_mk upd_same)
theorem ok_Reno_avoid (T : Txt P K mg) : FnOk P w K mg base CX0 2 T.f_Reno_avoid T.d_Reno_avoid ["self", "mss", "now", "octets"] (sp_avoid true T.C_Reno) := by
  refine T.F_Reno_avoid.ok sc_Reno_avoid (fun vs H Q E h => ?_) (fun cdv A outer s H vs Q E hr h => ?_)
  · obtain ⟨p, g, m, now, o, rfl, O, m0, m1, o0, o1, B, q⟩ := h
    rfl
  · obtain ⟨p, g, m, now, o, rfl, O, m0, m1, o0, o1, B, q⟩ := h
    have hu := hu_of hr
    refine ⟨_, (pss_cons (ps_fldaug (pv 0) (pv 3) in_add)
        (pss_one (ps_if (pt_cmpR op_ge (pe_fld (pv 0) rfl) (pe_fld (pv 0) rfl) (nomark _)) (pss_cons (ps_fldaug (pv 0) (pe_fld (pv 0) rfl) in_sub)
        (pss_one (ps_fld (pv 0) (pe_meth (pv 0) T.k_Reno T.a_Reno_bounded (ok_Reno_bounded T) (hr.mono (by decide)) T.b_Reno_bounded .nil pass0 (pa_cons (pe_op op_add (pe_fld (pv 0) rfl) (pv 1)) pa_nil)) rfl))) pss_nil))), ?_⟩
    dsimp only [cxOf, Cx.nox, Cx.wish, L2.start, List.map, List.cons_append, List.nil_append, List.length_cons, List.length_nil, Nat.reduceAdd, Nat.reduceSub, Nat.zero_add, List.replicate_succ, List.replicate_zero]
    obtain ⟨dx, ho⟩ := O.reno
    unfold Ct.avoid at q
    dsimp only at q
    walk_at "go"
    refine g_fldaug (j := 5) rfl ho T.k_Reno T.n_Reno_credit nd_Reno rfl rfl ?_
    walk_at "go"
    refine ⟨g.cr, _, rfl, rfl, ?_⟩
    refine g_fldaugE (j := 5) ho nd_Reno (by show 6 < 1000; decide) rfl (by show 5 < 6; decide) ?_
    walk_at "bt"
    rename_i H1 b1 k1
    walk_at "go"
    refine g_ite (fun c => ?_) (fun c => ?_)
    · rw [if_pos c] at q
      walk_at "go"
      refine g_fldaug (j := 5) rfl k1 T.k_Reno T.n_Reno_credit nd_Reno rfl rfl ?_
      walk_at "go"
      refine ⟨g.cr + o, _, rfl, rfl, ?_⟩
      refine g_fldaugE (j := 5) k1 nd_Reno (by show 6 < 1000; decide) rfl (by show 5 < 6; decide) ?_
      walk_at "bt"
      rename_i H2 b2 k2
      walk_at "go"
      refine ⟨_, _, rfl, ?_⟩
      walk_at "go"
      exact q _ (b1.trans b2).upd (CtO.reno_mk upd_same)
    · rw [if_neg c] at q
      walk_at "go"
      exact q _ b1 (CtO.reno_mk k1)
theorem ok_Reno_acknowledge (T : Txt P K mg) : FnOk P w K mg base CX0 3 T.f_Reno_acknowledge T.d_Reno_acknowledge ["self", "mss", "now", "octets", "flight", "recovering"] (sp_ack true T.C_Reno) := by
  refine T.F_Reno_acknowledge.ok sc_Reno_acknowledge (fun vs H Q E h => ?_) (fun cdv A outer s H vs Q E hr h => ?_)
  · obtain ⟨p, g, m, now, o, fl, rec, rfl, O, m0, m1, o0, o1, B, q⟩ := h
    rfl
  · obtain ⟨p, g, m, now, o, fl, rec, rfl, O, m0, m1, o0, o1, B, q⟩ := h
    have hu := hu_of hr
    refine ⟨_, (pss_cons (ps_if (PW.pt (pw_or (pt_val (pv 5)) (pw_or (pt_cmpR op_eq (pv 3) pe_int (nomark _)) (pw_or1 (pt_cmpR op_le (pe_op op_add (pe_op op_add (pv 4) (pv 3)) (pv 1)) (pe_fld (pv 0) rfl) (nomark _)))))) (pss_one ps_retN) pss_nil)
        (pss_one (ps_if (pt_cmpR op_lt (pe_fld (pv 0) rfl) (pe_fld (pv 0) rfl) (nomark _)) (pss_one (ps_fld (pv 0) (pe_meth (pv 0) T.k_Reno T.a_Reno_bounded (ok_Reno_bounded T) (hr.mono (by decide)) T.b_Reno_bounded .nil pass0 (pa_cons (pe_op op_add (pe_fld (pv 0) rfl) (pe_callB (call_min2 rfl) (by rfl) T.n_min (by decide +kernel) (pa_cons (pv 3) (pa_cons (pv 1) pa_nil)))) pa_nil)) rfl)) (pss_one (ps_expr (pe_meth (pv 0) T.k_Reno T.a_Reno_avoid (ok_Reno_avoid T) (hr.mono (by decide)) T.b_Reno_avoid .nil pass0 (pa_cons (pv 1) (pa_cons (pv 2) (pa_cons (pv 3) pa_nil))))))))), ?_⟩
    dsimp only [cxOf, Cx.nox, Cx.wish, L2.start, List.map, List.cons_append, List.nil_append, List.length_cons, List.length_nil, Nat.reduceAdd, Nat.reduceSub, Nat.zero_add, List.replicate_succ, List.replicate_zero]
    obtain ⟨dx, ho⟩ := O.reno
    have yes : (rec = true ∨ o = 0 ∨ fl + o + m ≤ g.cwnd) → Q .non H := fun z => by
      have w := q H But.refl
      unfold Ct.ack at w
      rw [if_pos z] at w
      exact w O
    walk_at "go"
    cases hr2 : rec with
    | true =>
      subst hr2
      walk_at "go"
      exact yes (.inl rfl)
    | false =>
      subst hr2
      walk_at "go"
      by_cases c1 : o = 0
      · walk_at "go"
        exact yes (.inr (.inl c1))
      walk_at "go"
      by_cases c2 : fl + o + m ≤ g.cwnd
      · walk_at "go"
        exact yes (.inr (.inr c2))
      walk_at "go"
      unfold Ct.ack at q
      rw [if_neg (by rintro (z | z | z) <;> first | exact Bool.false_ne_true z | omega)] at q
      refine g_ite (fun c3 => ?_) (fun c3 => ?_)
      · rw [if_pos c3] at q
        walk_at "go"
        refine ⟨_, _, rfl, ?_⟩
        walk_at "go"
        rw [show (if m < o then m else o) = min o m by split <;> omega]
        exact q _ But.refl.upd (CtO.reno_mk upd_same)
      · rw [if_neg c3] at q
        walk_at "go"
        refine ⟨p, g, m, now, o, rfl, O, m0, m1, o0, o1, B, fun H1 b1 O1 => ?_⟩
        walk_at "go"
        exact q H1 b1 O1

end
end My
namespace My
open PySem PySem.Spec L2
local macro_rules | `(tactic| walk_at "side") => `(tactic| first | assumption | decide | omega | exact ⟨by decide, by decide⟩ | exact ⟨by decide, by decide, by decide⟩ | decide +kernel | exact cdivW (by decide +kernel) (by decide +kernel) | exact Or.inl ⟨by omega, by omega⟩ | exact Or.inr ⟨by omega, by omega⟩ | (simp only [List.length_map, List.length_cons, List.length_nil, List.length_append]; omega))
local macro_rules | `(tactic| walk_at "fact") => `(tactic| first | assumption | omega | with_reducible rfl)
local macro_rules | `(tactic| walk_at "use") => `(tactic| fail "use")
local macro_rules | `(tactic| walk_at "go1") => `(tactic| with_reducible first | refine g_seq ?_ | refine g_asg ?_ | refine g_ret ?_ | refine g_ifS ?_ | refine g_drop ?_ | refine g_star ?_ | refine g_nx ?_ | refine g_rt ?_ | refine g_bkE ?_ | refine g_ctE ?_ | refine g_next ?_ | refine g_retN ?_ | refine g_brk ?_ | refine g_ct ?_ | refine g_c ?_ | refine g_op ?_ | refine g_un ?_ | refine g_rI0 ?_ | refine g_rU ?_ | refine g_rEqI ?_ | refine g_rNeI ?_ | refine g_isN ?_ | refine g_rIsB ?_ | refine g_rNotB ?_ | refine g_test ?_ | refine g_B ?_ | refine g_bl ?_ | refine g_and ?_ | refine g_or ?_ | refine g_not ?_ | refine g_andV ?_ | refine g_orV ?_ | refine g_notV ?_ | refine g_if ?_ | refine g_chain ?_ | refine g_yes ?_ | refine g_lc ?_ | refine g_revR ?_ | refine g_rng1 ?_ | refine g_iList ?_ | refine g_nil ?_ | refine g_cons ?_ | refine g_tup ?_ | refine g_lst ?_ | refine g_call ?_ | refine g_CB ?_ | refine g_sl ?_ | refine g_noPart ?_ | refine g_part ?_ | refine g_intE ?_ | refine g_ref ?_ | refine g_fld ?_ | refine g_sfld ?_ | refine g_meth ?_ | refine g_make ?_ | refine g_prop ?_  | refine g_ipI ?_ | refine g_int1 ?_ | refine g_int1B ?_ | refine g_one ?_ | refine g_two ?_ | refine g_isiI ?_ | refine g_isiIB ?_ | refine g_isiB ?_ | refine g_BM ?_ | refine g_BM0 ?_ | refine g_sub ?_)
local macro_rules | `(tactic| walk_at "go") => `(tactic| repeat (first | walk_at "go1" | ((with_reducible refine' g_nameE ?sd_ ?_); case sd_ => dsimp only [List.set_cons_succ, List.set_cons_zero]) | ((with_reducible refine' g_var ?sd_ ?_); case sd_ => exact rfl) | ((with_reducible refine' g_aug ?sd_ ?_); case sd_ => exact rfl) | ((with_reducible refine' g_rI ?sd_ ?_); case sd_ => walk_at "side") | ((with_reducible refine' g_dT ?sd_ ?_); case sd_ => walk_at "fact") | ((with_reducible refine' g_dF ?sd_ ?_); case sd_ => walk_at "fact") | ((with_reducible refine' g_nT ?sd_ ?_); case sd_ => walk_at "fact") | ((with_reducible refine' g_nF ?sd_ ?_); case sd_ => walk_at "fact") | (with_reducible refine g_iT rfl ?_) | (with_reducible refine g_iF rfl ?_) | walk_at "use"))
local macro_rules | `(tactic| walk_at "nw") => `(tactic| (generalize zq : upd _ _ _ = Hq; have sq : Same _ Hq := (by rw [← zq]; exact same_upd (by assumption)); have kq := (congrFun zq _).symm.trans upd_same; clear zq))
local macro_rules | `(tactic| walk_at "bt") => `(tactic| (generalize zq : upd _ _ _ = Hq; have bq : But _ _ Hq := (by rw [← zq]; exact But.refl.upd); have kq := (congrFun zq _).symm.trans upd_same; clear zq))
local macro_rules | `(tactic| walk_at "use") => `(tactic| first | ((with_reducible refine' fd_Cubic_cwnd ?ho_ ?hv_ ?_); (case ho_ => first | assumption | exact upd_same); (case hv_ => exact rfl)) | ((with_reducible refine' fd_Cubic_thresh ?ho_ ?hv_ ?_); (case ho_ => first | assumption | exact upd_same); (case hv_ => exact rfl)) | ((with_reducible refine' fd_Cubic_peak ?ho_ ?hv_ ?_); (case ho_ => first | assumption | exact upd_same); (case hv_ => exact rfl)) | ((with_reducible refine' fd_Cubic_prior ?ho_ ?hv_ ?_); (case ho_ => first | assumption | exact upd_same); (case hv_ => exact rfl)) | ((with_reducible refine' fd_Cubic_calm ?ho_ ?hv_ ?_); (case ho_ => first | assumption | exact upd_same); (case hv_ => exact rfl)) | ((with_reducible refine' fd_Cubic_period ?ho_ ?hv_ ?_); (case ho_ => first | assumption | exact upd_same); (case hv_ => exact rfl)) | ((with_reducible refine' nw_Cubic_cwnd ?ho_ ?hv_ ?_); (case ho_ => first | assumption | exact upd_same); (case hv_ => exact rfl)) | ((with_reducible refine' nw_Cubic_thresh ?ho_ ?hv_ ?_); (case ho_ => first | assumption | exact upd_same); (case hv_ => exact rfl)) | ((with_reducible refine' nw_Cubic_peak ?ho_ ?hv_ ?_); (case ho_ => first | assumption | exact upd_same); (case hv_ => exact rfl)) | ((with_reducible refine' nw_Cubic_prior ?ho_ ?hv_ ?_); (case ho_ => first | assumption | exact upd_same); (case hv_ => exact rfl)) | ((with_reducible refine' nw_Cubic_calm ?ho_ ?hv_ ?_); (case ho_ => first | assumption | exact upd_same); (case hv_ => exact rfl)) | ((with_reducible refine' nw_Cubic_period ?ho_ ?hv_ ?_); (case ho_ => first | assumption | exact upd_same); (case hv_ => exact rfl)) | ((with_reducible refine' st_Cubic_cwnd ?ho_ ?hv_ ?_); (case ho_ => first | assumption | exact upd_same); (case hv_ => exact Nat.le_of_ble_eq_true rfl)) | ((with_reducible refine' st_Cubic_thresh ?ho_ ?hv_ ?_); (case ho_ => first | assumption | exact upd_same); (case hv_ => exact Nat.le_of_ble_eq_true rfl)) | ((with_reducible refine' st_Cubic_peak ?ho_ ?hv_ ?_); (case ho_ => first | assumption | exact upd_same); (case hv_ => exact Nat.le_of_ble_eq_true rfl)) | ((with_reducible refine' st_Cubic_prior ?ho_ ?hv_ ?_); (case ho_ => first | assumption | exact upd_same); (case hv_ => exact Nat.le_of_ble_eq_true rfl)) | ((with_reducible refine' st_Cubic_calm ?ho_ ?hv_ ?_); (case ho_ => first | assumption | exact upd_same); (case hv_ => exact Nat.le_of_ble_eq_true rfl)) | ((with_reducible refine' st_Cubic_period ?ho_ ?hv_ ?_); (case ho_ => first | assumption | exact upd_same); (case hv_ => exact Nat.le_of_ble_eq_true rfl)) | ((with_reducible refine' me_Cubic_fork ?ho_ ?_); (case ho_ => first | assumption | exact upd_same)) | ((with_reducible refine' me_Cubic_avoid ?ho_ ?_); (case ho_ => first | assumption | exact upd_same)) | ((with_reducible refine' me_Cubic_new_period ?ho_ ?_); (case ho_ => first | assumption | exact upd_same)) | ((with_reducible refine' me_Cubic_share ?ho_ ?_); (case ho_ => first | assumption | exact upd_same)) | ((with_reducible refine' me_Cubic_begin_anew ?ho_ ?_); (case ho_ => first | assumption | exact upd_same)) | ((with_reducible refine' me_Cubic_acknowledge ?ho_ ?_); (case ho_ => first | assumption | exact upd_same)) | ((with_reducible refine' me_Cubic_lose ?ho_ ?_); (case ho_ => first | assumption | exact upd_same)) | ((with_reducible refine' me_Cubic_time_out ?ho_ ?_); (case ho_ => first | assumption | exact upd_same)) | ((with_reducible refine' me_Cubic_mark ?ho_ ?_); (case ho_ => first | assumption | exact upd_same)) | ((with_reducible refine' me_Cubic_bounded ?ho_ ?_); (case ho_ => first | assumption | exact upd_same)) | ((with_reducible refine' me_Cubic_give_to ?ho_ ?_); (case ho_ => first | assumption | exact upd_same)))
local macro_rules | `(tactic| walk_at "use") => `(tactic| first | ((with_reducible refine' fd_Reno_cwnd ?ho_ ?hv_ ?_); (case ho_ => first | assumption | exact upd_same); (case hv_ => exact rfl)) | ((with_reducible refine' fd_Reno_thresh ?ho_ ?hv_ ?_); (case ho_ => first | assumption | exact upd_same); (case hv_ => exact rfl)) | ((with_reducible refine' fd_Reno_peak ?ho_ ?hv_ ?_); (case ho_ => first | assumption | exact upd_same); (case hv_ => exact rfl)) | ((with_reducible refine' fd_Reno_prior ?ho_ ?hv_ ?_); (case ho_ => first | assumption | exact upd_same); (case hv_ => exact rfl)) | ((with_reducible refine' fd_Reno_calm ?ho_ ?hv_ ?_); (case ho_ => first | assumption | exact upd_same); (case hv_ => exact rfl)) | ((with_reducible refine' fd_Reno_credit ?ho_ ?hv_ ?_); (case ho_ => first | assumption | exact upd_same); (case hv_ => exact rfl)) | ((with_reducible refine' nw_Reno_cwnd ?ho_ ?hv_ ?_); (case ho_ => first | assumption | exact upd_same); (case hv_ => exact rfl)) | ((with_reducible refine' nw_Reno_thresh ?ho_ ?hv_ ?_); (case ho_ => first | assumption | exact upd_same); (case hv_ => exact rfl)) | ((with_reducible refine' nw_Reno_peak ?ho_ ?hv_ ?_); (case ho_ => first | assumption | exact upd_same); (case hv_ => exact rfl)) | ((with_reducible refine' nw_Reno_prior ?ho_ ?hv_ ?_); (case ho_ => first | assumption | exact upd_same); (case hv_ => exact rfl)) | ((with_reducible refine' nw_Reno_calm ?ho_ ?hv_ ?_); (case ho_ => first | assumption | exact upd_same); (case hv_ => exact rfl)) | ((with_reducible refine' nw_Reno_credit ?ho_ ?hv_ ?_); (case ho_ => first | assumption | exact upd_same); (case hv_ => exact rfl)) | ((with_reducible refine' st_Reno_cwnd ?ho_ ?hv_ ?_); (case ho_ => first | assumption | exact upd_same); (case hv_ => exact Nat.le_of_ble_eq_true rfl)) | ((with_reducible refine' st_Reno_thresh ?ho_ ?hv_ ?_); (case ho_ => first | assumption | exact upd_same); (case hv_ => exact Nat.le_of_ble_eq_true rfl)) | ((with_reducible refine' st_Reno_peak ?ho_ ?hv_ ?_); (case ho_ => first | assumption | exact upd_same); (case hv_ => exact Nat.le_of_ble_eq_true rfl)) | ((with_reducible refine' st_Reno_prior ?ho_ ?hv_ ?_); (case ho_ => first | assumption | exact upd_same); (case hv_ => exact Nat.le_of_ble_eq_true rfl)) | ((with_reducible refine' st_Reno_calm ?ho_ ?hv_ ?_); (case ho_ => first | assumption | exact upd_same); (case hv_ => exact Nat.le_of_ble_eq_true rfl)) | ((with_reducible refine' st_Reno_credit ?ho_ ?hv_ ?_); (case ho_ => first | assumption | exact upd_same); (case hv_ => exact Nat.le_of_ble_eq_true rfl)) | ((with_reducible refine' me_Reno_fork ?ho_ ?_); (case ho_ => first | assumption | exact upd_same)) | ((with_reducible refine' me_Reno_avoid ?ho_ ?_); (case ho_ => first | assumption | exact upd_same)) | ((with_reducible refine' me_Reno_share ?ho_ ?_); (case ho_ => first | assumption | exact upd_same)) | ((with_reducible refine' me_Reno_begin_anew ?ho_ ?_); (case ho_ => first | assumption | exact upd_same)) | ((with_reducible refine' me_Reno_acknowledge ?ho_ ?_); (case ho_ => first | assumption | exact upd_same)) | ((with_reducible refine' me_Reno_lose ?ho_ ?_); (case ho_ => first | assumption | exact upd_same)) | ((with_reducible refine' me_Reno_time_out ?ho_ ?_); (case ho_ => first | assumption | exact upd_same)) | ((with_reducible refine' me_Reno_mark ?ho_ ?_); (case ho_ => first | assumption | exact upd_same)) | ((with_reducible refine' me_Reno_bounded ?ho_ ?_); (case ho_ => first | assumption | exact upd_same)) | ((with_reducible refine' me_Reno_give_to ?ho_ ?_); (case ho_ => first | assumption | exact upd_same)))
section
variable {P : Program} {w : World} {K : PySem.W.Frag} {mg : Str → Option Value} {base : Heap}
local macro_rules | `(tactic| walk_at "use") => `(tactic| with_reducible first | refine g_cval ?_ | refine cvq_Control_GREATEST ?_ | refine g_methN ?_ | refine u_curve ⟨by omega, by omega, by omega, by omega, by omega, by omega⟩ ?_ | refine g_gcons ?_ | refine g_gnil ?_)
theorem ok_Cubic_bounded (T : Txt P K mg) : FnOk P w K mg base CX0 1 T.f_Cubic_bounded T.d_Cubic_bounded ["self", "octets"] (sp_bounded) := by
  refine T.F_Cubic_bounded.ok sc_Cubic_bounded (fun vs H Q E h => ?_) (fun cdv A outer s H vs Q E hr h => ?_)
  · obtain ⟨x, o, rfl, q⟩ := h
    rfl
  · obtain ⟨x, o, rfl, q⟩ := h
    have hu := hu_of hr
    refine ⟨_, (pss_one (ps_ret (pe_callB (call_min2 rfl) (by rfl) T.n_min (by decide +kernel) (pa_cons (pv 1) (pa_cons (ClX.pe_cval (pe_glob (v := .ref T.C_Control) (by rfl) T.c_Control rfl)) pa_nil))))), ?_⟩
    dsimp only [cxOf, Cx.nox, Cx.wish, L2.start, List.map, List.cons_append, List.nil_append, List.length_cons, List.length_nil, Nat.reduceAdd, Nat.reduceSub, Nat.zero_add, List.replicate_succ, List.replicate_zero]
    walk_at "go"
    rw [show (if 1073741824 < o then 1073741824 else o) = min o GG by show _ = min o 1073741824; split <;> omega]
    exact q
theorem ok_Cubic_upper__init__ (T : Txt P K mg) : FnOk P w K mg base CX0 2 T.f_Cubic_upper__init__ T.d_Cubic_upper__init__ ["self", "mss"] (sp_cinit ky_Cubic T.C_Cubic) := by
  refine T.F_Cubic_upper__init__.ok sc_Cubic_upper__init__ (fun vs H Q E h => ?_) (fun cdv A outer s H vs Q E hr h => ?_)
  · obtain ⟨p, dx, m, rfl, ho, q⟩ := h
    rfl
  · obtain ⟨p, dx, m, rfl, ho, q⟩ := h
    have hu := hu_of hr
    refine ⟨_, (pss_cons (ps_fld (pv 0) (pe_meth (pv 0) T.k_Cubic T.a_Cubic_bounded (ok_Cubic_bounded T) (hr.mono (by decide)) T.b_Cubic_bounded .nil pass0 (pa_cons (pe_op op_mul pe_int (pv 1)) pa_nil)) rfl)
        (pss_cons (ps_fld (pv 0) (ClX.pe_cval (pe_glob (v := .ref T.C_Control) (by rfl) T.c_Control rfl)) rfl)
        (pss_cons (ps_fld (pv 0) pe_int rfl)
        (pss_cons (ps_fld (pv 0) pe_int rfl)
        (pss_one (ps_fld (pv 0) pe_int rfl)))))), ?_⟩
    dsimp only [cxOf, Cx.nox, Cx.wish, L2.start, List.map, List.cons_append, List.nil_append, List.length_cons, List.length_nil, Nat.reduceAdd, Nat.reduceSub, Nat.zero_add, List.replicate_succ, List.replicate_zero]
    walk_at "go"
    refine ⟨_, _, rfl, ?_⟩
    walk_at "go"
    simp only [upd_upd, List.nil_append, List.cons_append]
    exact q _ But.refl.upd upd_same
theorem ok_Cubic_init__ (T : Txt P K mg) : FnOk P w K mg base CX0 4 T.f_Cubic_init__ T.d_Cubic_init__ ["self", "mss"] (sp_kinit false T.C_Cubic) := by
  refine T.F_Cubic_init__.ok sc_Cubic_init__ (fun vs H Q E h => ?_) (fun A outer s H vs Q E hr h => ?_)
  · obtain ⟨p, dx, m, rfl, ho, q⟩ := h
    rfl
  · obtain ⟨p, dx, m, rfl, ho, q⟩ := h
    have hu := hu_of hr
    refine ⟨_, (pss_super T.F_Cubic_init__.sup rfl rfl rfl T.n_super rfl rfl T.F_Cubic_init__.params rfl rfl rfl (ok_Cubic_upper__init__ T) T.b_Cubic_upper__init__ (hr.mono (by decide)) (pa_cons (pv 1) pa_nil)
        (pss_one (ps_fld (pv 0) pe_non rfl))), ?_⟩
    dsimp only [NdefX.ncx, NdefX.startF, Cx.nox, Cx.wish, L2.start, List.map, List.cons_append, List.nil_append, List.length_cons, List.length_nil, Nat.reduceAdd, Nat.reduceSub, Nat.zero_add, List.replicate_succ, List.replicate_zero]
    refine ⟨p, dx, _, rfl, ho, ?_⟩
    walk_at "go"
    refine ⟨p, dx, m, rfl, ho, fun H1 b1 k1 => ?_⟩
    walk_at "go"
    simp only [List.nil_append, List.cons_append]
    exact q _ b1.upd (CtO.cubic_mk upd_same rfl)
theorem ok_Cubic_share (T : Txt P K mg) : FnOk P w K mg base CX0 1 T.f_Cubic_share T.d_Cubic_share ["self", "base"] (sp_share false) := by
  refine T.F_Cubic_share.ok sc_Cubic_share (fun vs H Q E h => ?_) (fun cdv A outer s H vs Q E hr h => ?_)
  · obtain ⟨x, o, rfl, q⟩ := h
    rfl
  · obtain ⟨x, o, rfl, q⟩ := h
    have hu := hu_of hr
    refine ⟨_, (pss_one (ps_ret (pe_op op_fdiv (pe_op op_mul pe_int (pv 1)) pe_int))), ?_⟩
    dsimp only [cxOf, Cx.nox, Cx.wish, L2.start, List.map, List.cons_append, List.nil_append, List.length_cons, List.length_nil, Nat.reduceAdd, Nat.reduceSub, Nat.zero_add, List.replicate_succ, List.replicate_zero]
    walk_at "go"
    exact q
theorem ok_Cubic_begin_anew (T : Txt P K mg) : FnOk P w K mg base CX0 1 T.f_Cubic_begin_anew T.d_Cubic_begin_anew ["self"] (sp_begin false ky_Cubic T.C_Cubic) := by
  refine T.F_Cubic_begin_anew.ok sc_Cubic_begin_anew (fun vs H Q E h => ?_) (fun cdv A outer s H vs Q E hr h => ?_)
  · obtain ⟨p, dx, a, b, c, d, e, f, rfl, ho, q⟩ := h
    rfl
  · obtain ⟨p, dx, a, b, c, d, e, f, rfl, ho, q⟩ := h
    have hu := hu_of hr
    refine ⟨_, (pss_one (ps_fld (pv 0) pe_non rfl)), ?_⟩
    dsimp only [cxOf, Cx.nox, Cx.wish, L2.start, List.map, List.cons_append, List.nil_append, List.length_cons, List.length_nil, Nat.reduceAdd, Nat.reduceSub, Nat.zero_add, List.replicate_succ, List.replicate_zero]
    walk_at "go"
    exact q
theorem ok_Cubic_lose (T : Txt P K mg) : FnOk P w K mg base CX0 2 T.f_Cubic_lose T.d_Cubic_lose ["self", "mss", "flight"] (sp_lose false T.C_Cubic) := by
  refine T.F_Cubic_lose.ok sc_Cubic_lose (fun vs H Q E h => ?_) (fun cdv A outer s H vs Q E hr h => ?_)
  · obtain ⟨p, g, m, fl, rfl, O, q⟩ := h
    rfl
  · obtain ⟨p, g, m, fl, rfl, O, q⟩ := h
    have hu := hu_of hr
    refine ⟨_, (pss_cons (ps_set (i := 3) sc_Cubic_lose.nd rfl (Or.inl rfl) (pe_meth (pv 0) T.k_Cubic T.a_Cubic_share (ok_Cubic_share T) (hr.mono (by decide)) T.b_Cubic_share .nil pass0 (pa_cons (pe_callB (call_min2 rfl) (by rfl) T.n_min (by decide +kernel) (pa_cons (pv 2) (pa_cons (pe_fld (pv 0) rfl) pa_nil))) pa_nil)))
        (pss_cons (ps_fld (pv 0) (pe_meth (pv 0) T.k_Cubic T.a_Cubic_bounded (ok_Cubic_bounded T) (hr.mono (by decide)) T.b_Cubic_bounded .nil pass0 (pa_cons (pe_callB (call_max2 rfl) (by rfl) T.n_max (by decide +kernel) (pa_cons (pv 3) (pa_cons (pe_op op_mul pe_int (pv 1)) pa_nil))) pa_nil)) rfl)
        (pss_cons (ps_fld (pv 0) (pe_cutV (pe_ifExp (pt_cmpR op_lt (pe_fld (pv 0) rfl) (pe_fld (pv 0) rfl) (nomark _)) (pe_op op_fdiv (pe_op op_mul pe_int (pe_fld (pv 0) rfl)) pe_int) (pe_fld (pv 0) rfl))) rfl)
        (pss_cons (ps_fld (pv 0) (pe_fld (pv 0) rfl) rfl)
        (pss_cons (ps_fld (pv 0) (pe_fld (pv 0) rfl) rfl)
        (pss_one (ps_expr (pe_meth0 (pv 0) T.k_Cubic T.a_Cubic_begin_anew (ok_Cubic_begin_anew T) (hr.mono (by decide)) T.b_Cubic_begin_anew .nil pass0)))))))), ?_⟩
    dsimp only [cxOf, Cx.nox, Cx.wish, L2.start, List.map, List.cons_append, List.nil_append, List.length_cons, List.length_nil, Nat.reduceAdd, Nat.reduceSub, Nat.zero_add, List.replicate_succ, List.replicate_zero]
    obtain ⟨dx, e, ho, hE⟩ := O.cubic
    walk_at "go"
    refine ⟨_, _, rfl, ?_⟩
    walk_at "go"
    refine ⟨_, _, rfl, ?_⟩
    walk_at "go"
    have mn : (if g.cwnd < fl then g.cwnd else fl) = min fl g.cwnd := by split <;> omega
    have mx : (if 2 * m > Ct.share false (min fl g.cwnd) then 2 * m else Ct.share false (min fl g.cwnd)) = max (Ct.share false (min fl g.cwnd)) (2 * m) := by split <;> omega
    rw [mn, mx]
    refine g_cutV (.int (if g.cwnd < g.peak then 17 * g.cwnd / 20 else g.cwnd)) ?_ ?_
    · walk_at "go"
      refine g_ite (fun c => ?_) (fun c => ?_)
      · rw [if_pos c]
        walk_at "go"
        exact ⟨rfl, rfl⟩
      · rw [if_neg c]
        walk_at "go"
        exact ⟨rfl, rfl⟩
    walk_at "go"
    refine ⟨p, dx, _, _, _, _, _, _, rfl, upd_same, ?_⟩
    simp only [upd_upd]
    walk_at "go"
    exact q _ But.refl.upd (CtO.cubic_mk upd_same rfl)
theorem kbt_0 {P : Program} {K : PySem.W.Frag} {mg : Str → Option Value} (T : Txt P K mg) : ∃ g, KBn K T.d_Cubic_lose ["self", "mss", "flight"] 2 ["flight"] g (fun vs zs => vs ++ ((zs.drop 0).take 1)) :=
  ⟨_, kb_pure (ps := ["self", "mss", "flight"]) T.F_Cubic_lose 2 ["flight"] (fun vs zs => vs ++ ((zs.drop 0).take 1)) (fun r1 r2 => r1.append ((r2.drop 0).take 1)) (fun kV doc pm an cdv ct us ws l1 l2 => match us, l1, ws, l2 with | [_, _], _, [_], _ => rfl)⟩
theorem ok_Cubic_time_out (T : Txt P K mg) : FnOk P w K mg base CX0 3 T.f_Cubic_time_out T.d_Cubic_time_out ["self", "mss", "flight"] (sp_tout false T.C_Cubic) := by
  refine T.F_Cubic_time_out.ok sc_Cubic_time_out (fun vs H Q E h => ?_) (fun cdv A outer s H vs Q E hr h => ?_)
  · obtain ⟨p, g, m, fl, rfl, O, q⟩ := h
    rfl
  · obtain ⟨p, g, m, fl, rfl, O, q⟩ := h
    have hu := hu_of hr
    obtain ⟨gk_0, kb_0⟩ := kbt_0 T
    refine ⟨_, (pss_cons (ps_expr (pe_methN (pv 0) T.k_Cubic T.a_Cubic_lose (ok_Cubic_lose T) (hr.mono (by decide)) kb_0 pass0 (pa_cons (pv 1) pa_nil) (pk_cons (pv 2) pk_nil)))
        (pss_one (ps_fld (pv 0) (pe_meth (pv 0) T.k_Cubic T.a_Cubic_bounded (ok_Cubic_bounded T) (hr.mono (by decide)) T.b_Cubic_bounded .nil pass0 (pa_cons (pv 1) pa_nil)) rfl))), ?_⟩
    dsimp only [cxOf, Cx.nox, Cx.wish, L2.start, List.map, List.cons_append, List.nil_append, List.length_cons, List.length_nil, Nat.reduceAdd, Nat.reduceSub, Nat.zero_add, List.replicate_succ, List.replicate_zero]
    obtain ⟨dx, e, ho, hE⟩ := O.cubic
    walk_at "go"
    refine ⟨rfl, rfl, p, g, m, fl, rfl, O, fun H1 b1 O1 => ?_⟩
    obtain ⟨dx1, e1, ho1, hE1⟩ := O1.cubic
    walk_at "go"
    refine ⟨_, _, rfl, ?_⟩
    walk_at "go"
    exact q _ b1.upd (CtO.cubic_mk upd_same (perV.but But.refl.upd ho1 hE1))
theorem ok_Cubic_mark (T : Txt P K mg) : FnOk P w K mg base CX0 3 T.f_Cubic_mark T.d_Cubic_mark ["self", "mss", "now", "flight", "length"] (sp_mark false T.C_Cubic) := by
  refine T.F_Cubic_mark.ok sc_Cubic_mark (fun vs H Q E h => ?_) (fun cdv A outer s H vs Q E hr h => ?_)
  · obtain ⟨p, g, m, now, fl, len, rfl, O, q1, q2⟩ := h
    rfl
  · obtain ⟨p, g, m, now, fl, len, rfl, O, q1, q2⟩ := h
    have hu := hu_of hr
    obtain ⟨gk_0, kb_0⟩ := kbt_0 T
    refine ⟨_, (pss_cons (ps_if (pt_cmpR op_lt (pv 2) (pe_fld (pv 0) rfl) (nomark _)) (pss_one (ps_ret pe_bl)) pss_nil)
        (pss_cons (ps_expr (pe_methN (pv 0) T.k_Cubic T.a_Cubic_lose (ok_Cubic_lose T) (hr.mono (by decide)) kb_0 pass0 (pa_cons (pv 1) pa_nil) (pk_cons (pv 3) pk_nil)))
        (pss_cons (ps_fld (pv 0) (pe_op op_add (pv 2) (pv 4)) rfl)
        (pss_one (ps_ret pe_bl))))), ?_⟩
    dsimp only [cxOf, Cx.nox, Cx.wish, L2.start, List.map, List.cons_append, List.nil_append, List.length_cons, List.length_nil, Nat.reduceAdd, Nat.reduceSub, Nat.zero_add, List.replicate_succ, List.replicate_zero]
    obtain ⟨dx, e, ho, hE⟩ := O.cubic
    walk_at "go"
    refine g_ite (fun c => ?_) (fun c => ?_)
    · walk_at "go"
      exact q1 c
    have q2 := q2 (by omega)
    walk_at "go"
    refine ⟨rfl, rfl, p, g, m, fl, rfl, O, fun H1 b1 O1 => ?_⟩
    obtain ⟨dx1, e1, ho1, hE1⟩ := O1.cubic
    walk_at "go"
    exact q2 _ b1.upd (CtO.cubic_mk upd_same (perV.but But.refl.upd ho1 hE1))
def sp_nper (C : Addr) : Sp := fun vs H Q _ => ∃ (p : Addr) (g : Ct) (m now : Int), vs = [.ref p, .int m, .int now] ∧ CtO false C H p g ∧ 1 ≤ m ∧ m ≤ 1460 ∧ CtB g now ∧ ∀ t, H t = none → Q (.ref t) (upd H t (.tup [.int (newPer g m now).1, .int (newPer g m now).2.1, .int (newPer g m now).2.2.1, .int (newPer g m now).2.2.2.1, .int (newPer g m now).2.2.2.2]))
theorem ok_Cubic_new_period (T : Txt P K mg) : FnOk P w K mg base CX0 3 T.f_Cubic_new_period T.d_Cubic_new_period ["self", "mss", "now"] (sp_nper T.C_Cubic) := by
  refine T.F_Cubic_new_period.ok sc_Cubic_new_period (fun vs H Q E h => ?_) (fun cdv A outer s H vs Q E hr h => ?_)
  · obtain ⟨p, g, m, now, rfl, O, m0, m1, B, q⟩ := h
    rfl
  · obtain ⟨p, g, m, now, rfl, O, m0, m1, B, q⟩ := h
    have hu := hu_of hr
    refine ⟨_, (pss_cons (ps_if (pt_cmpR op_lt (pe_fld (pv 0) rfl) (pe_fld (pv 0) rfl) (nomark _)) (pss_one (ps_ret (pe_tup (pa_cons (pv 2) (pa_cons (pe_fld (pv 0) rfl) (pa_cons (pe_call (ok_turning_time T) (hr.mono (by decide)) rfl T.m_turning_time T.F_turning_time.kp T.b_turning_time .nil pass0 (pa_cons (pv 1) (pa_cons (pe_op op_sub (pe_fld (pv 0) rfl) (pe_fld (pv 0) rfl)) pa_nil))) (pa_cons (pe_fld (pv 0) rfl) (pa_cons pe_int pa_nil)))))))) pss_nil)
        (pss_one (ps_ret (pe_tup (pa_cons (pv 2) (pa_cons (pe_fld (pv 0) rfl) (pa_cons pe_int (pa_cons (pe_fld (pv 0) rfl) (pa_cons pe_int pa_nil))))))))), ?_⟩
    dsimp only [cxOf, Cx.nox, Cx.wish, L2.start, List.map, List.cons_append, List.nil_append, List.length_cons, List.length_nil, Nat.reduceAdd, Nat.reduceSub, Nat.zero_add, List.replicate_succ, List.replicate_zero]
    obtain ⟨dx, e, ho, hE⟩ := O.cubic
    have c0 := B.c0
    have p1 := B.p1
    have gg : GG = 1073741824 := rfl
    unfold newPer at q
    walk_at "go"
    refine g_ite (fun c => ?_) (fun c => ?_)
    · rw [if_pos c] at q
      walk_at "go"
      refine u_tt m0 m1 (by omega) (by show _ ≤ 1073741824; omega) fun r r0 r1 r2 r3 => ?_
      rw [← cbrt_eq r0 r2 r3] at q
      walk_at "go"
      exact ⟨by show 5 ≤ sizeLine; decide, q⟩
    · rw [if_neg c] at q
      walk_at "go"
      exact ⟨by show 5 ≤ sizeLine; decide, q⟩
theorem newPer_ok {g : Ct} {m now : Int} (B : CtB g now) (m0 : 1 ≤ m) : 0 ≤ (newPer g m now).2.2.1 ∧ (newPer g m now).2.2.1 < 2 ^ 50 ∧ now - (newPer g m now).1 < 2 ^ 50 := by
  have c0 := B.c0
  have p1 := B.p1
  have gg : GG = 1073741824 := rfl
  unfold newPer
  by_cases c : g.cwnd < g.peak
  · rw [if_pos c]
    dsimp only
    have d := dq m0 (show 0 ≤ g.peak - g.cwnd by omega)
    generalize hn : (g.peak - g.cwnd) * 2500000000 / m = n at d
    have n1 : n < 2 ^ 62 := by omega
    unfold cbrt
    split
    · rename_i e
      have h1 := e.choose_spec
      generalize e.choose = r at h1
      refine ⟨h1.1, ?_, by omega⟩
      refine Decidable.byContradiction fun z => ?_
      have := cube_le (a := 2 ^ 50) (b := r) (by decide) (by omega)
      have e2 : (2 : Int) ^ 50 * 2 ^ 50 * 2 ^ 50 = 2 ^ 150 := by decide +kernel
      have e3 : (2 : Int) ^ 62 < 2 ^ 150 := by decide +kernel
      omega
    · omega
  · rw [if_neg c]
    dsimp only
    omega
theorem ok_Cubic_avoid (T : Txt P K mg) : FnOk P w K mg base CX0 4 T.f_Cubic_avoid T.d_Cubic_avoid ["self", "mss", "now", "octets"] (sp_avoid false T.C_Cubic) := by
  refine T.F_Cubic_avoid.ok sc_Cubic_avoid (fun vs H Q E h => ?_) (fun cdv A outer s H vs Q E hr h => ?_)
  · obtain ⟨p, g, m, now, o, rfl, O, m0, m1, o0, o1, B, q⟩ := h
    rfl
  · obtain ⟨p, g, m, now, o, rfl, O, m0, m1, o0, o1, B, q⟩ := h
    have hu := hu_of hr
    refine ⟨_, (C8.pss_cut (ps_if (pt_cmpR op_isN (pe_fld (pv 0) rfl) pe_non (nomark _)) (pss_one (ps_fld (pv 0) (pe_meth (pv 0) T.k_Cubic T.a_Cubic_new_period (ok_Cubic_new_period T) (hr.mono (by decide)) T.b_Cubic_new_period .nil pass0 (pa_cons (pv 1) (pa_cons (pv 2) pa_nil))) rfl)) pss_nil)
        (pss_cons (ps_asg (pe_fld (pv 0) rfl) (pg_tup rfl (pgs_cons (pg_name (i := 4) sc_Cubic_avoid.nd rfl (Or.inl rfl)) (pgs_cons (pg_name (i := 5) sc_Cubic_avoid.nd rfl (Or.inl rfl)) (pgs_cons (pg_name (i := 6) sc_Cubic_avoid.nd rfl (Or.inl rfl)) (pgs_cons (pg_name (i := 7) sc_Cubic_avoid.nd rfl (Or.inl rfl)) (pgs_cons (pg_name (i := 8) sc_Cubic_avoid.nd rfl (Or.inl rfl)) pgs_nil)))))))
        (pss_cons (ps_aug (i := 8) sc_Cubic_avoid.nd rfl (Or.inl rfl) (pe_op op_mul (pe_cutV (pe_ifExp (pt_cmpR op_lt (pv 7) (pe_fld (pv 0) rfl) (nomark _)) pe_int pe_int)) (pv 3)) ip_add)
        (C8.pss_cut (ps_if (pt_cmpR op_ge (pv 8) (pe_op op_mul pe_int (pe_fld (pv 0) rfl)) (nomark _)) (pss_cons (ps_aug (i := 8) sc_Cubic_avoid.nd rfl (Or.inl rfl) (pe_op op_mul pe_int (pe_fld (pv 0) rfl)) ip_sub)
        (pss_one (ps_aug (i := 7) sc_Cubic_avoid.nd rfl (Or.inl rfl) (pv 1) ip_add))) pss_nil)
        (pss_cons (ps_fld (pv 0) (pe_tup (pa_cons (pv 4) (pa_cons (pv 5) (pa_cons (pv 6) (pa_cons (pv 7) (pa_cons (pv 8) pa_nil)))))) rfl)
        (pss_cons (ps_set (i := 9) sc_Cubic_avoid.nd rfl (Or.inl rfl) (pe_call (ok_curve T) (hr.mono (by decide)) rfl T.m_curve T.F_curve.kp T.b_curve .nil pass0 (pa_cons (pv 1) (pa_cons (pv 5) (pa_cons (pv 6) (pa_cons (pe_callB (call_max2 rfl) (by rfl) T.n_max (by decide +kernel) (pa_cons pe_int (pa_cons (pe_op op_sub (pv 2) (pv 4)) pa_nil))) pa_nil))))))
        (pss_cons (ps_set (i := 10) sc_Cubic_avoid.nd rfl (Or.inl rfl) (pe_callB (call_min2 rfl) (by rfl) T.n_min (by decide +kernel) (pa_cons (pe_callB (call_max2 rfl) (by rfl) T.n_max (by decide +kernel) (pa_cons (pv 9) (pa_cons (pe_fld (pv 0) rfl) pa_nil))) (pa_cons (pe_op op_add (pe_fld (pv 0) rfl) (pe_op op_fdiv (pe_fld (pv 0) rfl) pe_int)) pa_nil))))
        (pss_cons (ps_set (i := 11) sc_Cubic_avoid.nd rfl (Or.inl rfl) (pe_op op_fdivW (pe_op op_mul (pe_op op_sub (pv 10) (pe_fld (pv 0) rfl)) (pv 3)) (pe_fld (pv 0) rfl)))
        (pss_one (ps_fld (pv 0) (pe_meth (pv 0) T.k_Cubic T.a_Cubic_bounded (ok_Cubic_bounded T) (hr.mono (by decide)) T.b_Cubic_bounded .nil pass0 (pa_cons (pe_callB (call_max2 rfl) (by rfl) T.n_max (by decide +kernel) (pa_cons (pv 7) (pa_cons (pe_op op_add (pe_fld (pv 0) rfl) (pv 11)) pa_nil))) pa_nil)) rfl)))))))))), ?_⟩
    dsimp only [cxOf, Cx.nox, Cx.wish, L2.start, List.map, List.cons_append, List.nil_append, List.length_cons, List.length_nil, Nat.reduceAdd, Nat.reduceSub, Nat.zero_add, List.replicate_succ, List.replicate_zero]
    obtain ⟨dx, e, ho, hE⟩ := id O.cubic
    have c0 := B.c0
    have c1 := B.c1
    have gg : GG = 1073741824 := rfl
    unfold Ct.avoid at q
    dsimp only at q
    walk_at "go"
    obtain ⟨pr, epr⟩ : ∃ pr, g.thePer m now = pr := ⟨_, rfl⟩
    rw [epr] at q
    have hpr : 0 ≤ pr.2.2.1 ∧ pr.2.2.1 < 2 ^ 50 ∧ now - pr.1 < 2 ^ 50 := by
      unfold Ct.thePer at epr
      cases hp : g.per with
      | none =>
        rw [hp] at epr
        rw [← epr]
        exact newPer_ok B m0
      | some z =>
        rw [hp] at epr
        subst epr
        obtain ⟨a, b, c, d, f⟩ := z
        exact B.per a b c d f hp
    obtain ⟨a, b, c, d, f⟩ := pr
    dsimp only at hpr
    refine g_cut (fun σ' H1 => σ' = [some (.ref p), some (.int m), some (.int now), some (.int o), none, none, none, none, none, none, none, none] ∧ But p H H1 ∧ ∃ t, H1 p = some (.ins T.C_Cubic dx (obj ky_Cubic [.int g.cwnd, .int g.thresh, .int g.peak, .int g.prior, .int g.calm, .ref t])) ∧ H1 t = some (.tup [.int a, .int b, .int c, .int d, .int f])) ?_ ?_
    · walk_at "go"
      cases hp : g.per with
      | none =>
        rw [hp] at hE
        have hE : e = .non := hE
        subst hE
        walk_at "go"
        refine ⟨p, g, m, now, rfl, O, m0, m1, B, fun t nt => ?_⟩
        have en : newPer g m now = (a, b, c, d, f) := by
          unfold Ct.thePer at epr
          rw [hp] at epr
          exact epr
        rw [en]
        walk_at "nw"
        rename_i H1 s1 k1
        have ho1 := s1 _ _ ho
        have ntp : t ≠ p := (ne_of_none ho nt).symm
        walk_at "go"
        exact ⟨rfl, (But.of s1).upd, t, upd_same, by rw [upd_ne ntp]; exact k1⟩
      | some z =>
        have ez : z = (a, b, c, d, f) := by
          unfold Ct.thePer at epr
          rw [hp] at epr
          exact epr
        subst ez
        rw [hp] at hE
        obtain ⟨t, et, ht⟩ := hE
        subst et
        walk_at "go"
        exact ⟨rfl, But.refl, t, ho, ht⟩
    clear hE ho O
    rintro σ' H1 ⟨rfl, b1, t, ho, ht⟩
    walk_at "go"
    refine g_gtup (xs := [V.int a, V.int b, V.int c, V.int d, V.int f]) (st ht) rfl ?_
    walk_at "go"
    refine g_cutV (.int (if d < g.prior then 9 else 17)) ?_ ?_
    · walk_at "go"
      refine g_ite (fun z => ?_) (fun z => ?_)
      · rw [if_pos z]
        exact ⟨rfl, rfl⟩
      · rw [if_neg z]
        exact ⟨rfl, rfl⟩
    have w0 : (if d < g.prior then (9 : Int) else 17) = 9 ∨ (if d < g.prior then (9 : Int) else 17) = 17 := by split <;> simp
    generalize ew : (if d < g.prior then (9 : Int) else 17) = wt at w0
    walk_at "go"
    obtain ⟨d2, f2, e2⟩ : ∃ d2 f2, g.per1 (a, b, c, d, f) m o = (a, b, c, d2, f2) := by
      unfold Ct.per1
      dsimp only
      rw [ew]
      split <;> exact ⟨_, _, rfl⟩
    rw [e2] at q
    refine g_cut (fun σ' H2 => H2 = H1 ∧ σ' = [some (.ref p), some (.int m), some (.int now), some (.int o), some (.int a), some (.int b), some (.int c), some (.int d2), some (.int f2), none, none, none]) ?_ ?_
    · unfold Ct.per1 at e2
      dsimp only at e2
      rw [ew] at e2
      walk_at "go"
      refine g_ite (fun z => ?_) (fun z => ?_)
      · rw [if_pos z] at e2
        cases e2
        walk_at "go"
        exact ⟨rfl, rfl⟩
      · rw [if_neg z] at e2
        cases e2
        walk_at "go"
        exact ⟨rfl, rfl⟩
    clear e2 ew w0
    rintro σ' H2 ⟨rfl, rfl⟩
    walk_at "go"
    refine ⟨by show 5 ≤ sizeLine; decide, fun t2 nt2 => ?_⟩
    walk_at "nw"
    rename_i H3 s3 k3
    have ho3 := s3 _ _ ho
    have ntp : t2 ≠ p := (ne_of_none ho nt2).symm
    walk_at "go"
    simp only [List.set_cons_succ, List.set_cons_zero]
    walk_at "bt"
    rename_i H4 b4 k4
    have k34 := b4 _ _ ntp k3
    have mx0 : (if now - a > 0 then now - a else 0) = max 0 (now - a) := by split <;> omega
    walk_at "go"
    rw [mx0]
    have hm0 : 0 ≤ max 0 (now - a) := by omega
    have hm1 : max 0 (now - a) < 2 ^ 50 := by omega
    have hgrow : g.grow (a, b, c, d2, f2) m now o = min (max d2 (g.cwnd + (min (max (crv m b c (max 0 (now - a))) g.cwnd) (g.cwnd + g.cwnd / 2) - g.cwnd) * o / g.cwnd)) GG := rfl
    generalize max 0 (now - a) = at0 at hm0 hm1 hgrow
    walk_at "go"
    generalize crv m b c at0 = wish at hgrow
    have tg : (if g.cwnd + g.cwnd / 2 < (if g.cwnd > wish then g.cwnd else wish) then g.cwnd + g.cwnd / 2 else if g.cwnd > wish then g.cwnd else wish) = min (max wish g.cwnd) (g.cwnd + g.cwnd / 2) := by
      split <;> split <;> omega
    rw [tg]
    have tb : g.cwnd ≤ min (max wish g.cwnd) (g.cwnd + g.cwnd / 2) ∧ min (max wish g.cwnd) (g.cwnd + g.cwnd / 2) ≤ g.cwnd + g.cwnd / 2 := by omega
    generalize min (max wish g.cwnd) (g.cwnd + g.cwnd / 2) = target at tb hgrow
    walk_at "go"
    refine g_rI (C := CDivW) (cdivW (by omega) (Int.lt_of_le_of_lt c1 (by decide +kernel))) ?_
    walk_at "go"
    refine ⟨_, _, rfl, ?_⟩
    walk_at "go"
    rw [show (if g.cwnd + (target - g.cwnd) * o / g.cwnd > d2 then g.cwnd + (target - g.cwnd) * o / g.cwnd else d2) = max d2 (g.cwnd + (target - g.cwnd) * o / g.cwnd) by split <;> omega]
    rw [← hgrow]
    refine q _ ((b1.trans (But.of s3)).trans b4).upd (CtO.cubic_mk upd_same ⟨t2, rfl, ?_⟩)
    rw [upd_ne ntp]
    exact k34
theorem ok_Cubic_acknowledge (T : Txt P K mg) : FnOk P w K mg base CX0 5 T.f_Cubic_acknowledge T.d_Cubic_acknowledge ["self", "mss", "now", "octets", "flight", "recovering"] (sp_ack false T.C_Cubic) := by
  refine T.F_Cubic_acknowledge.ok sc_Cubic_acknowledge (fun vs H Q E h => ?_) (fun cdv A outer s H vs Q E hr h => ?_)
  · obtain ⟨p, g, m, now, o, fl, rec, rfl, O, m0, m1, o0, o1, B, q⟩ := h
    rfl
  · obtain ⟨p, g, m, now, o, fl, rec, rfl, O, m0, m1, o0, o1, B, q⟩ := h
    have hu := hu_of hr
    refine ⟨_, (pss_cons (ps_if (PW.pt (pw_or (pt_val (pv 5)) (pw_or (pt_cmpR op_eq (pv 3) pe_int (nomark _)) (pw_or1 (pt_cmpR op_le (pe_op op_add (pe_op op_add (pv 4) (pv 3)) (pv 1)) (pe_fld (pv 0) rfl) (nomark _)))))) (pss_one ps_retN) pss_nil)
        (pss_one (ps_if (pt_cmpR op_lt (pe_fld (pv 0) rfl) (pe_fld (pv 0) rfl) (nomark _)) (pss_one (ps_fld (pv 0) (pe_meth (pv 0) T.k_Cubic T.a_Cubic_bounded (ok_Cubic_bounded T) (hr.mono (by decide)) T.b_Cubic_bounded .nil pass0 (pa_cons (pe_op op_add (pe_fld (pv 0) rfl) (pe_callB (call_min2 rfl) (by rfl) T.n_min (by decide +kernel) (pa_cons (pv 3) (pa_cons (pv 1) pa_nil)))) pa_nil)) rfl)) (pss_one (ps_expr (pe_meth (pv 0) T.k_Cubic T.a_Cubic_avoid (ok_Cubic_avoid T) (hr.mono (by decide)) T.b_Cubic_avoid .nil pass0 (pa_cons (pv 1) (pa_cons (pv 2) (pa_cons (pv 3) pa_nil))))))))), ?_⟩
    dsimp only [cxOf, Cx.nox, Cx.wish, L2.start, List.map, List.cons_append, List.nil_append, List.length_cons, List.length_nil, Nat.reduceAdd, Nat.reduceSub, Nat.zero_add, List.replicate_succ, List.replicate_zero]
    obtain ⟨dx, e, ho, hE⟩ := id O.cubic
    have yes : (rec = true ∨ o = 0 ∨ fl + o + m ≤ g.cwnd) → Q .non H := fun z => by
      have w := q H But.refl
      unfold Ct.ack at w
      rw [if_pos z] at w
      exact w O
    walk_at "go"
    cases hr2 : rec with
    | true =>
      subst hr2
      walk_at "go"
      exact yes (.inl rfl)
    | false =>
      subst hr2
      walk_at "go"
      by_cases c1 : o = 0
      · walk_at "go"
        exact yes (.inr (.inl c1))
      walk_at "go"
      by_cases c2 : fl + o + m ≤ g.cwnd
      · walk_at "go"
        exact yes (.inr (.inr c2))
      walk_at "go"
      unfold Ct.ack at q
      rw [if_neg (by rintro (z | z | z) <;> first | exact Bool.false_ne_true z | omega)] at q
      refine g_ite (fun c3 => ?_) (fun c3 => ?_)
      · rw [if_pos c3] at q
        walk_at "go"
        refine ⟨_, _, rfl, ?_⟩
        walk_at "go"
        rw [show (if m < o then m else o) = min o m by split <;> omega]
        exact q _ But.refl.upd (CtO.cubic_mk upd_same (perV.but But.refl.upd ho hE))
      · rw [if_neg c3] at q
        walk_at "go"
        refine ⟨p, g, m, now, o, rfl, O, m0, m1, o0, o1, B, fun H1 b1 O1 => ?_⟩
        walk_at "go"
        exact q H1 b1 O1

end
end My
namespace My
open PySem PySem.Spec L2
local macro_rules | `(tactic| walk_at "side") => `(tactic| first | assumption | decide | omega | exact ⟨by decide, by decide⟩ | exact ⟨by decide, by decide, by decide⟩ | decide +kernel | exact cdivW (by decide +kernel) (by decide +kernel) | exact Or.inl ⟨by omega, by omega⟩ | exact Or.inr ⟨by omega, by omega⟩ | (simp only [List.length_map, List.length_cons, List.length_nil, List.length_append]; omega))
local macro_rules | `(tactic| walk_at "fact") => `(tactic| first | assumption | omega | with_reducible rfl)
local macro_rules | `(tactic| walk_at "use") => `(tactic| fail "use")
local macro_rules | `(tactic| walk_at "go1") => `(tactic| with_reducible first | refine g_seq ?_ | refine g_asg ?_ | refine g_ret ?_ | refine g_ifS ?_ | refine g_drop ?_ | refine g_star ?_ | refine g_nx ?_ | refine g_rt ?_ | refine g_bkE ?_ | refine g_ctE ?_ | refine g_next ?_ | refine g_retN ?_ | refine g_brk ?_ | refine g_ct ?_ | refine g_c ?_ | refine g_op ?_ | refine g_un ?_ | refine g_rI0 ?_ | refine g_rU ?_ | refine g_rEqI ?_ | refine g_rNeI ?_ | refine g_isN ?_ | refine g_rIsB ?_ | refine g_rNotB ?_ | refine g_test ?_ | refine g_B ?_ | refine g_bl ?_ | refine g_and ?_ | refine g_or ?_ | refine g_not ?_ | refine g_andV ?_ | refine g_orV ?_ | refine g_notV ?_ | refine g_if ?_ | refine g_chain ?_ | refine g_yes ?_ | refine g_lc ?_ | refine g_revR ?_ | refine g_rng1 ?_ | refine g_iList ?_ | refine g_nil ?_ | refine g_cons ?_ | refine g_tup ?_ | refine g_lst ?_ | refine g_call ?_ | refine g_CB ?_ | refine g_sl ?_ | refine g_noPart ?_ | refine g_part ?_ | refine g_intE ?_ | refine g_ref ?_ | refine g_fld ?_ | refine g_sfld ?_ | refine g_meth ?_ | refine g_make ?_ | refine g_prop ?_  | refine g_ipI ?_ | refine g_int1 ?_ | refine g_int1B ?_ | refine g_one ?_ | refine g_two ?_ | refine g_isiI ?_ | refine g_isiIB ?_ | refine g_isiB ?_ | refine g_BM ?_ | refine g_BM0 ?_ | refine g_sub ?_)
local macro_rules | `(tactic| walk_at "go") => `(tactic| repeat (first | walk_at "go1" | ((with_reducible refine' g_nameE ?sd_ ?_); case sd_ => dsimp only [List.set_cons_succ, List.set_cons_zero]) | ((with_reducible refine' g_var ?sd_ ?_); case sd_ => exact rfl) | ((with_reducible refine' g_aug ?sd_ ?_); case sd_ => exact rfl) | ((with_reducible refine' g_rI ?sd_ ?_); case sd_ => walk_at "side") | ((with_reducible refine' g_dT ?sd_ ?_); case sd_ => walk_at "fact") | ((with_reducible refine' g_dF ?sd_ ?_); case sd_ => walk_at "fact") | ((with_reducible refine' g_nT ?sd_ ?_); case sd_ => walk_at "fact") | ((with_reducible refine' g_nF ?sd_ ?_); case sd_ => walk_at "fact") | (with_reducible refine g_iT rfl ?_) | (with_reducible refine g_iF rfl ?_) | walk_at "use"))
local macro_rules | `(tactic| walk_at "nw") => `(tactic| (generalize zq : upd _ _ _ = Hq; have sq : Same _ Hq := (by rw [← zq]; exact same_upd (by assumption)); have kq := (congrFun zq _).symm.trans upd_same; clear zq))
local macro_rules | `(tactic| walk_at "bt") => `(tactic| (generalize zq : upd _ _ _ = Hq; have bq : But _ _ Hq := (by rw [← zq]; exact But.refl.upd); have kq := (congrFun zq _).symm.trans upd_same; clear zq))
local macro_rules | `(tactic| walk_at "use") => `(tactic| first | ((with_reducible refine' fd_Cubic_cwnd ?ho_ ?hv_ ?_); (case ho_ => first | assumption | exact upd_same); (case hv_ => exact rfl)) | ((with_reducible refine' fd_Cubic_thresh ?ho_ ?hv_ ?_); (case ho_ => first | assumption | exact upd_same); (case hv_ => exact rfl)) | ((with_reducible refine' fd_Cubic_peak ?ho_ ?hv_ ?_); (case ho_ => first | assumption | exact upd_same); (case hv_ => exact rfl)) | ((with_reducible refine' fd_Cubic_prior ?ho_ ?hv_ ?_); (case ho_ => first | assumption | exact upd_same); (case hv_ => exact rfl)) | ((with_reducible refine' fd_Cubic_calm ?ho_ ?hv_ ?_); (case ho_ => first | assumption | exact upd_same); (case hv_ => exact rfl)) | ((with_reducible refine' fd_Cubic_period ?ho_ ?hv_ ?_); (case ho_ => first | assumption | exact upd_same); (case hv_ => exact rfl)) | ((with_reducible refine' nw_Cubic_cwnd ?ho_ ?hv_ ?_); (case ho_ => first | assumption | exact upd_same); (case hv_ => exact rfl)) | ((with_reducible refine' nw_Cubic_thresh ?ho_ ?hv_ ?_); (case ho_ => first | assumption | exact upd_same); (case hv_ => exact rfl)) | ((with_reducible refine' nw_Cubic_peak ?ho_ ?hv_ ?_); (case ho_ => first | assumption | exact upd_same); (case hv_ => exact rfl)) | ((with_reducible refine' nw_Cubic_prior ?ho_ ?hv_ ?_); (case ho_ => first | assumption | exact upd_same); (case hv_ => exact rfl)) | ((with_reducible refine' nw_Cubic_calm ?ho_ ?hv_ ?_); (case ho_ => first | assumption | exact upd_same); (case hv_ => exact rfl)) | ((with_reducible refine' nw_Cubic_period ?ho_ ?hv_ ?_); (case ho_ => first | assumption | exact upd_same); (case hv_ => exact rfl)) | ((with_reducible refine' st_Cubic_cwnd ?ho_ ?hv_ ?_); (case ho_ => first | assumption | exact upd_same); (case hv_ => exact Nat.le_of_ble_eq_true rfl)) | ((with_reducible refine' st_Cubic_thresh ?ho_ ?hv_ ?_); (case ho_ => first | assumption | exact upd_same); (case hv_ => exact Nat.le_of_ble_eq_true rfl)) | ((with_reducible refine' st_Cubic_peak ?ho_ ?hv_ ?_); (case ho_ => first | assumption | exact upd_same); (case hv_ => exact Nat.le_of_ble_eq_true rfl)) | ((with_reducible refine' st_Cubic_prior ?ho_ ?hv_ ?_); (case ho_ => first | assumption | exact upd_same); (case hv_ => exact Nat.le_of_ble_eq_true rfl)) | ((with_reducible refine' st_Cubic_calm ?ho_ ?hv_ ?_); (case ho_ => first | assumption | exact upd_same); (case hv_ => exact Nat.le_of_ble_eq_true rfl)) | ((with_reducible refine' st_Cubic_period ?ho_ ?hv_ ?_); (case ho_ => first | assumption | exact upd_same); (case hv_ => exact Nat.le_of_ble_eq_true rfl)) | ((with_reducible refine' me_Cubic_fork ?ho_ ?_); (case ho_ => first | assumption | exact upd_same)) | ((with_reducible refine' me_Cubic_avoid ?ho_ ?_); (case ho_ => first | assumption | exact upd_same)) | ((with_reducible refine' me_Cubic_new_period ?ho_ ?_); (case ho_ => first | assumption | exact upd_same)) | ((with_reducible refine' me_Cubic_share ?ho_ ?_); (case ho_ => first | assumption | exact upd_same)) | ((with_reducible refine' me_Cubic_begin_anew ?ho_ ?_); (case ho_ => first | assumption | exact upd_same)) | ((with_reducible refine' me_Cubic_acknowledge ?ho_ ?_); (case ho_ => first | assumption | exact upd_same)) | ((with_reducible refine' me_Cubic_lose ?ho_ ?_); (case ho_ => first | assumption | exact upd_same)) | ((with_reducible refine' me_Cubic_time_out ?ho_ ?_); (case ho_ => first | assumption | exact upd_same)) | ((with_reducible refine' me_Cubic_mark ?ho_ ?_); (case ho_ => first | assumption | exact upd_same)) | ((with_reducible refine' me_Cubic_bounded ?ho_ ?_); (case ho_ => first | assumption | exact upd_same)) | ((with_reducible refine' me_Cubic_give_to ?ho_ ?_); (case ho_ => first | assumption | exact upd_same)))
local macro_rules | `(tactic| walk_at "use") => `(tactic| first | ((with_reducible refine' fd_Reno_cwnd ?ho_ ?hv_ ?_); (case ho_ => first | assumption | exact upd_same); (case hv_ => exact rfl)) | ((with_reducible refine' fd_Reno_thresh ?ho_ ?hv_ ?_); (case ho_ => first | assumption | exact upd_same); (case hv_ => exact rfl)) | ((with_reducible refine' fd_Reno_peak ?ho_ ?hv_ ?_); (case ho_ => first | assumption | exact upd_same); (case hv_ => exact rfl)) | ((with_reducible refine' fd_Reno_prior ?ho_ ?hv_ ?_); (case ho_ => first | assumption | exact upd_same); (case hv_ => exact rfl)) | ((with_reducible refine' fd_Reno_calm ?ho_ ?hv_ ?_); (case ho_ => first | assumption | exact upd_same); (case hv_ => exact rfl)) | ((with_reducible refine' fd_Reno_credit ?ho_ ?hv_ ?_); (case ho_ => first | assumption | exact upd_same); (case hv_ => exact rfl)) | ((with_reducible refine' nw_Reno_cwnd ?ho_ ?hv_ ?_); (case ho_ => first | assumption | exact upd_same); (case hv_ => exact rfl)) | ((with_reducible refine' nw_Reno_thresh ?ho_ ?hv_ ?_); (case ho_ => first | assumption | exact upd_same); (case hv_ => exact rfl)) | ((with_reducible refine' nw_Reno_peak ?ho_ ?hv_ ?_); (case ho_ => first | assumption | exact upd_same); (case hv_ => exact rfl)) | ((with_reducible refine' nw_Reno_prior ?ho_ ?hv_ ?_); (case ho_ => first | assumption | exact upd_same); (case hv_ => exact rfl)) | ((with_reducible refine' nw_Reno_calm ?ho_ ?hv_ ?_); (case ho_ => first | assumption | exact upd_same); (case hv_ => exact rfl)) | ((with_reducible refine' nw_Reno_credit ?ho_ ?hv_ ?_); (case ho_ => first | assumption | exact upd_same); (case hv_ => exact rfl)) | ((with_reducible refine' st_Reno_cwnd ?ho_ ?hv_ ?_); (case ho_ => first | assumption | exact upd_same); (case hv_ => exact Nat.le_of_ble_eq_true rfl)) | ((with_reducible refine' st_Reno_thresh ?ho_ ?hv_ ?_); (case ho_ => first | assumption | exact upd_same); (case hv_ => exact Nat.le_of_ble_eq_true rfl)) | ((with_reducible refine' st_Reno_peak ?ho_ ?hv_ ?_); (case ho_ => first | assumption | exact upd_same); (case hv_ => exact Nat.le_of_ble_eq_true rfl)) | ((with_reducible refine' st_Reno_prior ?ho_ ?hv_ ?_); (case ho_ => first | assumption | exact upd_same); (case hv_ => exact Nat.le_of_ble_eq_true rfl)) | ((with_reducible refine' st_Reno_calm ?ho_ ?hv_ ?_); (case ho_ => first | assumption | exact upd_same); (case hv_ => exact Nat.le_of_ble_eq_true rfl)) | ((with_reducible refine' st_Reno_credit ?ho_ ?hv_ ?_); (case ho_ => first | assumption | exact upd_same); (case hv_ => exact Nat.le_of_ble_eq_true rfl)) | ((with_reducible refine' me_Reno_fork ?ho_ ?_); (case ho_ => first | assumption | exact upd_same)) | ((with_reducible refine' me_Reno_avoid ?ho_ ?_); (case ho_ => first | assumption | exact upd_same)) | ((with_reducible refine' me_Reno_share ?ho_ ?_); (case ho_ => first | assumption | exact upd_same)) | ((with_reducible refine' me_Reno_begin_anew ?ho_ ?_); (case ho_ => first | assumption | exact upd_same)) | ((with_reducible refine' me_Reno_acknowledge ?ho_ ?_); (case ho_ => first | assumption | exact upd_same)) | ((with_reducible refine' me_Reno_lose ?ho_ ?_); (case ho_ => first | assumption | exact upd_same)) | ((with_reducible refine' me_Reno_time_out ?ho_ ?_); (case ho_ => first | assumption | exact upd_same)) | ((with_reducible refine' me_Reno_mark ?ho_ ?_); (case ho_ => first | assumption | exact upd_same)) | ((with_reducible refine' me_Reno_bounded ?ho_ ?_); (case ho_ => first | assumption | exact upd_same)) | ((with_reducible refine' me_Reno_give_to ?ho_ ?_); (case ho_ => first | assumption | exact upd_same)))
section
variable {P : Program} {w : World} {K : PySem.W.Frag} {mg : Str → Option Value} {base : Heap}
/-! ### what the law of the bounds wants of a control -/
structure CtI (s : Int) (g : Ct) (now : Int) : Prop where
  c0 : s ≤ g.cwnd
  c1 : g.cwnd ≤ GG
  t0 : 2 * s ≤ g.thresh
  t1 : g.thresh ≤ GG
  p0 : 0 ≤ g.peak
  p1 : g.peak ≤ GG
  per : ∀ a b c d e, g.per = some (a, b, c, d, e) → 0 ≤ c ∧ c < 2 ^ 50 ∧ now - a < 2 ^ 40 ∧ (d ≤ g.cwnd ∨ g.cwnd = GG)
theorem CtI.b {s now : Int} {g : Ct} (h : CtI s g now) (s0 : 1 ≤ s) {now' : Int} (hn : now' ≤ now + 1000) : CtB g now' :=
  ⟨by have := h.c0; omega, h.c1, h.p0, h.p1, fun a b c d e z => by
    have := h.per a b c d e z
    omega⟩
theorem share_le {r : Bool} {b : Int} (h : 0 ≤ b) : Ct.share r b ≤ b ∧ 0 ≤ Ct.share r b := by
  cases r
  · show 7 * b / 10 ≤ b ∧ 0 ≤ 7 * b / 10
    omega
  · show b / 2 ≤ b ∧ 0 ≤ b / 2
    omega
/-- behind a loss -/
def Lost (before after s : Int) : Prop := (2 * s ≤ before → 2 * s ≤ after ∧ after ≤ before) ∧ (before < 2 * s → after = 2 * s)
theorem loseJ {r : Bool} {m now fl : Int} {g : Ct} (h : CtI 1 g now) (m0 : 1 ≤ m) (m1 : m ≤ 1460) (f0 : 0 ≤ fl) (now' : Int) : CtI 1 (g.lose r m fl) now' := by
  have c0 := h.c0
  have c1 := h.c1
  have gg : GG = 1073741824 := rfl
  have l : 2 ≤ g.lthr r m fl ∧ g.lthr r m fl ≤ GG := by
    have sh := share_le (r := r) (b := min fl g.cwnd) (by omega)
    unfold Ct.lthr
    generalize Ct.share r (min fl g.cwnd) = z at sh
    omega
  refine ⟨by show 1 ≤ g.lthr r m fl; omega, l.2, l.1, l.2, ?_, ?_, fun a b c d e z => by cases z⟩
  · show 0 ≤ (if g.cwnd < g.peak then 17 * g.cwnd / 20 else g.cwnd)
    split <;> omega
  · show (if g.cwnd < g.peak then 17 * g.cwnd / 20 else g.cwnd) ≤ GG
    split <;> omega
theorem toutJ {r : Bool} {m now fl : Int} {g : Ct} (h : CtI 1 g now) (m0 : 1 ≤ m) (m1 : m ≤ 1460) (f0 : 0 ≤ fl) (now' : Int) : CtI 1 (g.tout r m fl) now' := by
  have L := loseJ (r := r) h m0 m1 f0 now'
  have gg : GG = 1073741824 := rfl
  have e2 : (g.tout r m fl).cwnd = min m GG := rfl
  exact ⟨by rw [e2]; omega, by rw [e2]; omega, L.t0, L.t1, L.p0, L.p1, fun a b c d e z => by cases z⟩
theorem markJ {r : Bool} {m now fl len : Int} {g : Ct} (h : CtI 1 g now) (m0 : 1 ≤ m) (m1 : m ≤ 1460) (f0 : 0 ≤ fl) (now' now2 : Int) : CtI 1 (g.markd r m now' fl len) now2 :=
  let L := loseJ (r := r) h m0 m1 f0 now2
  ⟨L.c0, L.c1, L.t0, L.t1, L.p0, L.p1, L.per⟩
theorem gain_ok {c w o : Int} (c0 : 1 ≤ c) (o0 : 0 ≤ o) : 0 ≤ (min (max w c) (c + c / 2) - c) * o / c ∧ (min (max w c) (c + c / 2) - c) * o / c ≤ o := by
  have h1 : 0 ≤ min (max w c) (c + c / 2) - c := by omega
  have h2 : min (max w c) (c + c / 2) - c ≤ c := by omega
  generalize min (max w c) (c + c / 2) - c = z at h1 h2
  refine ⟨Int.ediv_nonneg (Int.mul_nonneg h1 o0) (by omega), ?_⟩
  refine Int.ediv_le_of_le_mul (by omega) ?_
  rw [Int.mul_comm o c]
  exact Int.mul_le_mul_of_nonneg_right h2 o0
theorem per1_ok {g : Ct} {p : Per} {m o : Int} (hm : 1 ≤ m) : (g.per1 p m o).1 = p.1 ∧ (g.per1 p m o).2.1 = p.2.1 ∧ (g.per1 p m o).2.2.1 = p.2.2.1 ∧ p.2.2.2.1 ≤ (g.per1 p m o).2.2.2.1 ∧ (g.per1 p m o).2.2.2.1 ≤ p.2.2.2.1 + m := by
  obtain ⟨a, b, c, d, e⟩ := p
  unfold Ct.per1
  dsimp only
  generalize (if d < g.prior then (9 : Int) else 17) = w
  split <;> refine ⟨rfl, rfl, rfl, ?_, ?_⟩ <;> dsimp only <;> omega
theorem ackJ {r : Bool} {s m now now' fl o : Int} {rec : Bool} {g : Ct} (h : CtI s g now) (s0 : 1 ≤ s) (m0 : 1 ≤ m) (o0 : 0 ≤ o) (hn : now' ≤ now + 1000) (hn2 : now ≤ now') (hb : now' ≤ 10 ^ 12 + 70000) (hb0 : 0 ≤ now) (hst : ∀ a b c d e, g.per = some (a, b, c, d, e) → 0 ≤ a) :
    CtI s (g.ack r m now' o fl rec) now' ∧ g.cwnd ≤ (g.ack r m now' o fl rec).cwnd ∧ (g.ack r m now' o fl rec).cwnd ≤ g.cwnd + max m o ∧ (∀ a b c d e, (g.ack r m now' o fl rec).per = some (a, b, c, d, e) → 0 ≤ a) := by
  have c0 := h.c0
  have c1 := h.c1
  have t0 := h.t0
  have gg : GG = 1073741824 := rfl
  have keep : ∀ a b c d e, g.per = some (a, b, c, d, e) → 0 ≤ c ∧ c < 2 ^ 50 ∧ now' - a < 2 ^ 40 ∧ (d ≤ g.cwnd ∨ g.cwnd = GG) := fun a b c d e z => by
    have := h.per a b c d e z
    have := hst a b c d e z
    omega
  unfold Ct.ack
  split
  · exact ⟨⟨c0, c1, t0, h.t1, h.p0, h.p1, keep⟩, by omega, by omega, hst⟩
  split
  · refine ⟨⟨?_, ?_, t0, h.t1, h.p0, h.p1, fun a b c d e z => ?_⟩, ?_, ?_, hst⟩
    · show s ≤ min (g.cwnd + min o m) GG; omega
    · show min (g.cwnd + min o m) GG ≤ GG; omega
    · have := keep a b c d e z
      show _ ∧ _ ∧ _ ∧ (d ≤ min (g.cwnd + min o m) GG ∨ min (g.cwnd + min o m) GG = GG)
      omega
    · show g.cwnd ≤ min (g.cwnd + min o m) GG; omega
    · show min (g.cwnd + min o m) GG ≤ _; omega
  cases r with
  | true =>
    show CtI s (if g.cwnd ≤ g.cr + o then { g with cr := g.cr + o - g.cwnd, cwnd := min (g.cwnd + m) GG } else { g with cr := g.cr + o }) now' ∧ g.cwnd ≤ (if g.cwnd ≤ g.cr + o then { g with cr := g.cr + o - g.cwnd, cwnd := min (g.cwnd + m) GG } else { g with cr := g.cr + o } : Ct).cwnd ∧ (if g.cwnd ≤ g.cr + o then { g with cr := g.cr + o - g.cwnd, cwnd := min (g.cwnd + m) GG } else { g with cr := g.cr + o } : Ct).cwnd ≤ _ ∧ (∀ a b c d e, (if g.cwnd ≤ g.cr + o then { g with cr := g.cr + o - g.cwnd, cwnd := min (g.cwnd + m) GG } else { g with cr := g.cr + o } : Ct).per = some (a, b, c, d, e) → 0 ≤ a)
    split
    · refine ⟨⟨?_, ?_, t0, h.t1, h.p0, h.p1, fun a b c d e z => ?_⟩, ?_, ?_, hst⟩
      · show s ≤ min (g.cwnd + m) GG; omega
      · show min (g.cwnd + m) GG ≤ GG; omega
      · have := keep a b c d e z
        show _ ∧ _ ∧ _ ∧ (d ≤ min (g.cwnd + m) GG ∨ min (g.cwnd + m) GG = GG)
        omega
      · show g.cwnd ≤ min (g.cwnd + m) GG; omega
      · show min (g.cwnd + m) GG ≤ _; omega
    · exact ⟨⟨c0, c1, t0, h.t1, h.p0, h.p1, keep⟩, by show g.cwnd ≤ g.cwnd; omega, by show g.cwnd ≤ _; omega, hst⟩
  | false =>
    have tp : 0 ≤ (g.thePer m now').2.2.1 ∧ (g.thePer m now').2.2.1 < 2 ^ 50 ∧ now' - (g.thePer m now').1 < 2 ^ 40 ∧ ((g.thePer m now').2.2.2.1 ≤ g.cwnd ∨ g.cwnd = GG) ∧ 0 ≤ (g.thePer m now').1 := by
      unfold Ct.thePer
      cases hp : g.per with
      | none =>
        dsimp only
        have z := newPer_ok (h.b s0 hn) m0
        have y : (newPer g m now').1 = now' ∧ (newPer g m now').2.2.2.1 = g.cwnd := by
          unfold newPer
          split <;> exact ⟨rfl, rfl⟩
        rw [y.1, y.2]
        refine ⟨z.1, z.2.1, ?_, .inl (Int.le_refl _), by omega⟩
        rw [Int.sub_self]
        decide
      | some z =>
        obtain ⟨a, b, c, d, e⟩ := z
        have := keep a b c d e hp
        have := hst a b c d e hp
        dsimp only
        omega
    obtain ⟨q1, q2, q3, q4, q5⟩ := per1_ok (g := g) (p := g.thePer m now') (m := m) (o := o) m0
    obtain ⟨g1, g2⟩ := gain_ok (c := g.cwnd) (w := crv m (g.per1 (g.thePer m now') m o).2.1 (g.per1 (g.thePer m now') m o).2.2.1 (max 0 (now' - (g.per1 (g.thePer m now') m o).1))) (by omega) o0
    have hw : g.grow (g.per1 (g.thePer m now') m o) m now' o = min (max (g.per1 (g.thePer m now') m o).2.2.2.1 (g.cwnd + (min (max (crv m (g.per1 (g.thePer m now') m o).2.1 (g.per1 (g.thePer m now') m o).2.2.1 (max 0 (now' - (g.per1 (g.thePer m now') m o).1))) g.cwnd) (g.cwnd + g.cwnd / 2) - g.cwnd) * o / g.cwnd)) GG := rfl
    have er : g.avoid false m now' o = { g with per := some (g.per1 (g.thePer m now') m o), cwnd := g.grow (g.per1 (g.thePer m now') m o) m now' o } := rfl
    rw [er]
    generalize (min (max (crv m (g.per1 (g.thePer m now') m o).2.1 (g.per1 (g.thePer m now') m o).2.2.1 (max 0 (now' - (g.per1 (g.thePer m now') m o).1))) g.cwnd) (g.cwnd + g.cwnd / 2) - g.cwnd) * o / g.cwnd = gn at g1 g2 hw
    generalize g.thePer m now' = tp0 at tp q1 q2 q3 q4 q5 hw
    generalize g.per1 tp0 m o = p1 at q1 q2 q3 q4 q5 hw
    generalize g.grow p1 m now' o = gr at hw
    refine ⟨⟨?_, ?_, t0, h.t1, h.p0, h.p1, fun a b c d e z => ?_⟩, ?_, ?_, fun a b c d e z => ?_⟩
    · show s ≤ gr; omega
    · show gr ≤ GG; omega
    · have z : some p1 = some (a, b, c, d, e) := z
      cases z
      dsimp only at q1 q2 q3 q4 q5 hw
      show _ ∧ _ ∧ _ ∧ (d ≤ gr ∨ gr = GG)
      omega
    · show g.cwnd ≤ gr; omega
    · show gr ≤ _; omega
    · have z : some p1 = some (a, b, c, d, e) := z
      cases z
      dsimp only at q1
      omega

/-! ### forks of controls -/
def sp_give (ky : List Str) (C : Addr) : Sp := fun vs H Q _ => ∃ (p x dx dy : Addr) (a b c d e f a' b' c' d' e' f' : V), vs = [.ref p, .ref x] ∧ p ≠ x ∧ H p = some (.ins C dx (obj ky [a, b, c, d, e, f])) ∧ H x = some (.ins C dy (obj ky [a', b', c', d', e', f'])) ∧ ∀ H', But x H H' → H' x = some (.ins C dy (obj ky [a, b, c, d, e, f'])) → Q .non H'
def sp_fork (r : Bool) (C : Addr) : Sp := fun vs H Q _ => ∃ (p : Addr) (g : Ct), vs = [.ref p] ∧ CtO r C H p g ∧ ∀ H' x, H x = none → Same H H' → CtO r C H' x g → Q (.ref x) H'
theorem ok_Reno_give_to (T : Txt P K mg) : FnOk P w K mg base CX0 1 T.f_Reno_give_to T.d_Reno_give_to ["self", "other"] (sp_give ky_Reno T.C_Reno) := by
  refine T.F_Reno_give_to.ok sc_Reno_give_to (fun vs H Q E h => ?_) (fun cdv A outer s H vs Q E hr h => ?_)
  · obtain ⟨p, x, dx, dy, a, b, c, d, e, f, a', b', c', d', e', f', rfl, npx, hp, hx, q⟩ := h
    rfl
  · obtain ⟨p, x, dx, dy, a, b, c, d, e, f, a', b', c', d', e', f', rfl, npx, hp, hx, q⟩ := h
    have hu := hu_of hr
    refine ⟨_, (pss_cons (ps_fld (pv 1) (pe_fld (pv 0) rfl) rfl)
        (pss_cons (ps_fld (pv 1) (pe_fld (pv 0) rfl) rfl)
        (pss_cons (ps_fld (pv 1) (pe_fld (pv 0) rfl) rfl)
        (pss_cons (ps_fld (pv 1) (pe_fld (pv 0) rfl) rfl)
        (pss_one (ps_fld (pv 1) (pe_fld (pv 0) rfl) rfl)))))), ?_⟩
    dsimp only [cxOf, Cx.nox, Cx.wish, L2.start, List.map, List.cons_append, List.nil_append, List.length_cons, List.length_nil, Nat.reduceAdd, Nat.reduceSub, Nat.zero_add, List.replicate_succ, List.replicate_zero]
    walk_at "go"
    simp only [List.set_cons_succ, List.set_cons_zero]
    walk_at "bt"
    rename_i H1 b1 k1
    have hp1 := b1 _ _ npx hp
    walk_at "go"
    simp only [List.set_cons_succ, List.set_cons_zero]
    walk_at "bt"
    rename_i H2 b2 k2
    have hp2 := b2 _ _ npx hp1
    walk_at "go"
    simp only [List.set_cons_succ, List.set_cons_zero]
    walk_at "bt"
    rename_i H3 b3 k3
    have hp3 := b3 _ _ npx hp2
    walk_at "go"
    simp only [List.set_cons_succ, List.set_cons_zero]
    walk_at "bt"
    rename_i H4 b4 k4
    have hp4 := b4 _ _ npx hp3
    walk_at "go"
    simp only [List.set_cons_succ, List.set_cons_zero]
    exact q _ ((((b1.trans b2).trans b3).trans b4).upd) upd_same
theorem ok_Reno_fork (T : Txt P K mg) : FnOk P w K mg base CX0 6 T.f_Reno_fork T.d_Reno_fork ["self"] (sp_fork true T.C_Reno) := by
  refine T.F_Reno_fork.ok sc_Reno_fork (fun vs H Q E h => ?_) (fun cdv A outer s H vs Q E hr h => ?_)
  · obtain ⟨p, g, rfl, O, q⟩ := h
    rfl
  · obtain ⟨p, g, rfl, O, q⟩ := h
    have hu := hu_of hr
    refine ⟨_, (pss_cons (ps_set (i := 1) sc_Reno_fork.nd rfl (Or.inl rfl) (pe_make T.mk_Reno (ok_Reno_init__ T) (hr.mono (by decide)) rfl T.c_Reno T.b_Reno_init__ .nil pass0 (pa_cons pe_int pa_nil)))
        (pss_cons (ps_expr (pe_meth (pv 0) T.k_Reno T.a_Reno_give_to (ok_Reno_give_to T) (hr.mono (by decide)) T.b_Reno_give_to .nil pass0 (pa_cons (pv 1) pa_nil)))
        (pss_cons (ps_fld (pv 1) (pe_fld (pv 0) rfl) rfl)
        (pss_one (ps_ret (pv 1)))))), ?_⟩
    dsimp only [cxOf, Cx.nox, Cx.wish, L2.start, List.map, List.cons_append, List.nil_append, List.length_cons, List.length_nil, Nat.reduceAdd, Nat.reduceSub, Nat.zero_add, List.replicate_succ, List.replicate_zero]
    obtain ⟨dx, ho⟩ := O.reno
    walk_at "go"
    intro x dy nx ndy nxd
    generalize z1 : upd (upd H dy _) x _ = H2
    have s2 : Same H H2 := by rw [← z1]; exact (same_upd ndy).trans (same_upd (by rw [upd_ne (fun z => nxd z.symm)]; exact nx))
    have k2 : H2 x = some (.ins T.C_Reno dy (obj ky_Reno [])) := (congrFun z1 x).symm.trans upd_same
    clear z1
    refine ⟨x, dy, 1, rfl, k2, fun H3 b3 O3 => ⟨rfl, ?_⟩⟩
    have npx : p ≠ x := ne_of_none ho nx
    have s3 : Same H H3 := But.tr2 s2 nx b3
    have ho3 := s3 _ _ ho
    obtain ⟨dz, hx3⟩ := O3.reno
    walk_at "go"
    refine ⟨p, x, dx, dz, _, _, _, _, _, _, _, _, _, _, _, _, rfl, npx, ho3, hx3, fun H4 b4 k4 => ?_⟩
    have ho4 := b4 _ _ npx ho3
    walk_at "go"
    simp only [List.set_cons_succ, List.set_cons_zero]
    refine q _ x nx ?_ (CtO.reno_mk upd_same)
    · intro b o hb
      have nb := ne_of_none hb nx
      rw [upd_ne nb]
      exact b4 _ _ nb (s3 _ _ hb)
theorem ok_Cubic_give_to (T : Txt P K mg) : FnOk P w K mg base CX0 1 T.f_Cubic_give_to T.d_Cubic_give_to ["self", "other"] (sp_give ky_Cubic T.C_Cubic) := by
  refine T.F_Cubic_give_to.ok sc_Cubic_give_to (fun vs H Q E h => ?_) (fun cdv A outer s H vs Q E hr h => ?_)
  · obtain ⟨p, x, dx, dy, a, b, c, d, e, f, a', b', c', d', e', f', rfl, npx, hp, hx, q⟩ := h
    rfl
  · obtain ⟨p, x, dx, dy, a, b, c, d, e, f, a', b', c', d', e', f', rfl, npx, hp, hx, q⟩ := h
    have hu := hu_of hr
    refine ⟨_, (pss_cons (ps_fld (pv 1) (pe_fld (pv 0) rfl) rfl)
        (pss_cons (ps_fld (pv 1) (pe_fld (pv 0) rfl) rfl)
        (pss_cons (ps_fld (pv 1) (pe_fld (pv 0) rfl) rfl)
        (pss_cons (ps_fld (pv 1) (pe_fld (pv 0) rfl) rfl)
        (pss_one (ps_fld (pv 1) (pe_fld (pv 0) rfl) rfl)))))), ?_⟩
    dsimp only [cxOf, Cx.nox, Cx.wish, L2.start, List.map, List.cons_append, List.nil_append, List.length_cons, List.length_nil, Nat.reduceAdd, Nat.reduceSub, Nat.zero_add, List.replicate_succ, List.replicate_zero]
    walk_at "go"
    simp only [List.set_cons_succ, List.set_cons_zero]
    walk_at "bt"
    rename_i H1 b1 k1
    have hp1 := b1 _ _ npx hp
    walk_at "go"
    simp only [List.set_cons_succ, List.set_cons_zero]
    walk_at "bt"
    rename_i H2 b2 k2
    have hp2 := b2 _ _ npx hp1
    walk_at "go"
    simp only [List.set_cons_succ, List.set_cons_zero]
    walk_at "bt"
    rename_i H3 b3 k3
    have hp3 := b3 _ _ npx hp2
    walk_at "go"
    simp only [List.set_cons_succ, List.set_cons_zero]
    walk_at "bt"
    rename_i H4 b4 k4
    have hp4 := b4 _ _ npx hp3
    walk_at "go"
    simp only [List.set_cons_succ, List.set_cons_zero]
    exact q _ ((((b1.trans b2).trans b3).trans b4).upd) upd_same
theorem ok_Cubic_fork (T : Txt P K mg) : FnOk P w K mg base CX0 6 T.f_Cubic_fork T.d_Cubic_fork ["self"] (sp_fork false T.C_Cubic) := by
  refine T.F_Cubic_fork.ok sc_Cubic_fork (fun vs H Q E h => ?_) (fun cdv A outer s H vs Q E hr h => ?_)
  · obtain ⟨p, g, rfl, O, q⟩ := h
    rfl
  · obtain ⟨p, g, rfl, O, q⟩ := h
    have hu := hu_of hr
    refine ⟨_, (pss_cons (ps_set (i := 1) sc_Cubic_fork.nd rfl (Or.inl rfl) (pe_make T.mk_Cubic (ok_Cubic_init__ T) (hr.mono (by decide)) rfl T.c_Cubic T.b_Cubic_init__ .nil pass0 (pa_cons pe_int pa_nil)))
        (pss_cons (ps_expr (pe_meth (pv 0) T.k_Cubic T.a_Cubic_give_to (ok_Cubic_give_to T) (hr.mono (by decide)) T.b_Cubic_give_to .nil pass0 (pa_cons (pv 1) pa_nil)))
        (pss_cons (ps_fld (pv 1) (pe_fld (pv 0) rfl) rfl)
        (pss_one (ps_ret (pv 1)))))), ?_⟩
    dsimp only [cxOf, Cx.nox, Cx.wish, L2.start, List.map, List.cons_append, List.nil_append, List.length_cons, List.length_nil, Nat.reduceAdd, Nat.reduceSub, Nat.zero_add, List.replicate_succ, List.replicate_zero]
    obtain ⟨dx, e, ho, hE⟩ := O.cubic
    walk_at "go"
    intro x dy nx ndy nxd
    generalize z1 : upd (upd H dy _) x _ = H2
    have s2 : Same H H2 := by rw [← z1]; exact (same_upd ndy).trans (same_upd (by rw [upd_ne (fun z => nxd z.symm)]; exact nx))
    have k2 : H2 x = some (.ins T.C_Cubic dy (obj ky_Cubic [])) := (congrFun z1 x).symm.trans upd_same
    clear z1
    refine ⟨x, dy, 1, rfl, k2, fun H3 b3 O3 => ⟨rfl, ?_⟩⟩
    have npx : p ≠ x := ne_of_none ho nx
    have s3 : Same H H3 := But.tr2 s2 nx b3
    have ho3 := s3 _ _ ho
    obtain ⟨dz, e3, hx3, hE3⟩ := O3.cubic
    walk_at "go"
    refine ⟨p, x, dx, dz, _, _, _, _, _, _, _, _, _, _, _, _, rfl, npx, ho3, hx3, fun H4 b4 k4 => ?_⟩
    have ho4 := b4 _ _ npx ho3
    walk_at "go"
    simp only [List.set_cons_succ, List.set_cons_zero]
    refine q _ x nx ?_ (CtO.cubic_mk upd_same ?_)
    · intro b o hb
      have nb := ne_of_none hb nx
      rw [upd_ne nb]
      exact b4 _ _ nb (s3 _ _ hb)
    · refine perV.but But.refl.upd k4 (perV.but b4 hx3 (perV.same s3 hE))

end
end My
namespace My
open PySem PySem.Spec L2
local macro_rules | `(tactic| walk_at "side") => `(tactic| first | assumption | decide | omega | exact ⟨by decide, by decide⟩ | exact ⟨by decide, by decide, by decide⟩ | decide +kernel | exact cdivW (by decide +kernel) (by decide +kernel) | exact Or.inl ⟨by omega, by omega⟩ | exact Or.inr ⟨by omega, by omega⟩ | (simp only [List.length_map, List.length_cons, List.length_nil, List.length_append]; omega))
local macro_rules | `(tactic| walk_at "fact") => `(tactic| first | assumption | omega | with_reducible rfl)
local macro_rules | `(tactic| walk_at "use") => `(tactic| fail "use")
local macro_rules | `(tactic| walk_at "go1") => `(tactic| with_reducible first | refine g_seq ?_ | refine g_asg ?_ | refine g_ret ?_ | refine g_ifS ?_ | refine g_drop ?_ | refine g_star ?_ | refine g_nx ?_ | refine g_rt ?_ | refine g_bkE ?_ | refine g_ctE ?_ | refine g_next ?_ | refine g_retN ?_ | refine g_brk ?_ | refine g_ct ?_ | refine g_c ?_ | refine g_op ?_ | refine g_un ?_ | refine g_rI0 ?_ | refine g_rU ?_ | refine g_rEqI ?_ | refine g_rNeI ?_ | refine g_isN ?_ | refine g_rIsB ?_ | refine g_rNotB ?_ | refine g_test ?_ | refine g_B ?_ | refine g_bl ?_ | refine g_and ?_ | refine g_or ?_ | refine g_not ?_ | refine g_andV ?_ | refine g_orV ?_ | refine g_notV ?_ | refine g_if ?_ | refine g_chain ?_ | refine g_yes ?_ | refine g_lc ?_ | refine g_revR ?_ | refine g_rng1 ?_ | refine g_iList ?_ | refine g_nil ?_ | refine g_cons ?_ | refine g_tup ?_ | refine g_lst ?_ | refine g_call ?_ | refine g_CB ?_ | refine g_sl ?_ | refine g_noPart ?_ | refine g_part ?_ | refine g_intE ?_ | refine g_ref ?_ | refine g_fld ?_ | refine g_sfld ?_ | refine g_meth ?_ | refine g_make ?_ | refine g_prop ?_  | refine g_ipI ?_ | refine g_int1 ?_ | refine g_int1B ?_ | refine g_one ?_ | refine g_two ?_ | refine g_isiI ?_ | refine g_isiIB ?_ | refine g_isiB ?_ | refine g_BM ?_ | refine g_BM0 ?_ | refine g_sub ?_)
local macro_rules | `(tactic| walk_at "go") => `(tactic| repeat (first | walk_at "go1" | ((with_reducible refine' g_nameE ?sd_ ?_); case sd_ => dsimp only [List.set_cons_succ, List.set_cons_zero]) | ((with_reducible refine' g_var ?sd_ ?_); case sd_ => exact rfl) | ((with_reducible refine' g_aug ?sd_ ?_); case sd_ => exact rfl) | ((with_reducible refine' g_rI ?sd_ ?_); case sd_ => walk_at "side") | ((with_reducible refine' g_dT ?sd_ ?_); case sd_ => walk_at "fact") | ((with_reducible refine' g_dF ?sd_ ?_); case sd_ => walk_at "fact") | ((with_reducible refine' g_nT ?sd_ ?_); case sd_ => walk_at "fact") | ((with_reducible refine' g_nF ?sd_ ?_); case sd_ => walk_at "fact") | (with_reducible refine g_iT rfl ?_) | (with_reducible refine g_iF rfl ?_) | walk_at "use"))
local macro_rules | `(tactic| walk_at "nw") => `(tactic| (generalize zq : upd _ _ _ = Hq; have sq : Same _ Hq := (by rw [← zq]; exact same_upd (by assumption)); have kq := (congrFun zq _).symm.trans upd_same; clear zq))
local macro_rules | `(tactic| walk_at "bt") => `(tactic| (generalize zq : upd _ _ _ = Hq; have bq : But _ _ Hq := (by rw [← zq]; exact But.refl.upd); have kq := (congrFun zq _).symm.trans upd_same; clear zq))
local macro_rules | `(tactic| walk_at "use") => `(tactic| first | ((with_reducible refine' fd_Cubic_cwnd ?ho_ ?hv_ ?_); (case ho_ => first | assumption | exact upd_same); (case hv_ => exact rfl)) | ((with_reducible refine' fd_Cubic_thresh ?ho_ ?hv_ ?_); (case ho_ => first | assumption | exact upd_same); (case hv_ => exact rfl)) | ((with_reducible refine' fd_Cubic_peak ?ho_ ?hv_ ?_); (case ho_ => first | assumption | exact upd_same); (case hv_ => exact rfl)) | ((with_reducible refine' fd_Cubic_prior ?ho_ ?hv_ ?_); (case ho_ => first | assumption | exact upd_same); (case hv_ => exact rfl)) | ((with_reducible refine' fd_Cubic_calm ?ho_ ?hv_ ?_); (case ho_ => first | assumption | exact upd_same); (case hv_ => exact rfl)) | ((with_reducible refine' fd_Cubic_period ?ho_ ?hv_ ?_); (case ho_ => first | assumption | exact upd_same); (case hv_ => exact rfl)) | ((with_reducible refine' nw_Cubic_cwnd ?ho_ ?hv_ ?_); (case ho_ => first | assumption | exact upd_same); (case hv_ => exact rfl)) | ((with_reducible refine' nw_Cubic_thresh ?ho_ ?hv_ ?_); (case ho_ => first | assumption | exact upd_same); (case hv_ => exact rfl)) | ((with_reducible refine' nw_Cubic_peak ?ho_ ?hv_ ?_); (case ho_ => first | assumption | exact upd_same); (case hv_ => exact rfl)) | ((with_reducible refine' nw_Cubic_prior ?ho_ ?hv_ ?_); (case ho_ => first | assumption | exact upd_same); (case hv_ => exact rfl)) | ((with_reducible refine' nw_Cubic_calm ?ho_ ?hv_ ?_); (case ho_ => first | assumption | exact upd_same); (case hv_ => exact rfl)) | ((with_reducible refine' nw_Cubic_period ?ho_ ?hv_ ?_); (case ho_ => first | assumption | exact upd_same); (case hv_ => exact rfl)) | ((with_reducible refine' st_Cubic_cwnd ?ho_ ?hv_ ?_); (case ho_ => first | assumption | exact upd_same); (case hv_ => exact Nat.le_of_ble_eq_true rfl)) | ((with_reducible refine' st_Cubic_thresh ?ho_ ?hv_ ?_); (case ho_ => first | assumption | exact upd_same); (case hv_ => exact Nat.le_of_ble_eq_true rfl)) | ((with_reducible refine' st_Cubic_peak ?ho_ ?hv_ ?_); (case ho_ => first | assumption | exact upd_same); (case hv_ => exact Nat.le_of_ble_eq_true rfl)) | ((with_reducible refine' st_Cubic_prior ?ho_ ?hv_ ?_); (case ho_ => first | assumption | exact upd_same); (case hv_ => exact Nat.le_of_ble_eq_true rfl)) | ((with_reducible refine' st_Cubic_calm ?ho_ ?hv_ ?_); (case ho_ => first | assumption | exact upd_same); (case hv_ => exact Nat.le_of_ble_eq_true rfl)) | ((with_reducible refine' st_Cubic_period ?ho_ ?hv_ ?_); (case ho_ => first | assumption | exact upd_same); (case hv_ => exact Nat.le_of_ble_eq_true rfl)) | ((with_reducible refine' me_Cubic_fork ?ho_ ?_); (case ho_ => first | assumption | exact upd_same)) | ((with_reducible refine' me_Cubic_avoid ?ho_ ?_); (case ho_ => first | assumption | exact upd_same)) | ((with_reducible refine' me_Cubic_new_period ?ho_ ?_); (case ho_ => first | assumption | exact upd_same)) | ((with_reducible refine' me_Cubic_share ?ho_ ?_); (case ho_ => first | assumption | exact upd_same)) | ((with_reducible refine' me_Cubic_begin_anew ?ho_ ?_); (case ho_ => first | assumption | exact upd_same)) | ((with_reducible refine' me_Cubic_acknowledge ?ho_ ?_); (case ho_ => first | assumption | exact upd_same)) | ((with_reducible refine' me_Cubic_lose ?ho_ ?_); (case ho_ => first | assumption | exact upd_same)) | ((with_reducible refine' me_Cubic_time_out ?ho_ ?_); (case ho_ => first | assumption | exact upd_same)) | ((with_reducible refine' me_Cubic_mark ?ho_ ?_); (case ho_ => first | assumption | exact upd_same)) | ((with_reducible refine' me_Cubic_bounded ?ho_ ?_); (case ho_ => first | assumption | exact upd_same)) | ((with_reducible refine' me_Cubic_give_to ?ho_ ?_); (case ho_ => first | assumption | exact upd_same)))
local macro_rules | `(tactic| walk_at "use") => `(tactic| first | ((with_reducible refine' fd_Reno_cwnd ?ho_ ?hv_ ?_); (case ho_ => first | assumption | exact upd_same); (case hv_ => exact rfl)) | ((with_reducible refine' fd_Reno_thresh ?ho_ ?hv_ ?_); (case ho_ => first | assumption | exact upd_same); (case hv_ => exact rfl)) | ((with_reducible refine' fd_Reno_peak ?ho_ ?hv_ ?_); (case ho_ => first | assumption | exact upd_same); (case hv_ => exact rfl)) | ((with_reducible refine' fd_Reno_prior ?ho_ ?hv_ ?_); (case ho_ => first | assumption | exact upd_same); (case hv_ => exact rfl)) | ((with_reducible refine' fd_Reno_calm ?ho_ ?hv_ ?_); (case ho_ => first | assumption | exact upd_same); (case hv_ => exact rfl)) | ((with_reducible refine' fd_Reno_credit ?ho_ ?hv_ ?_); (case ho_ => first | assumption | exact upd_same); (case hv_ => exact rfl)) | ((with_reducible refine' nw_Reno_cwnd ?ho_ ?hv_ ?_); (case ho_ => first | assumption | exact upd_same); (case hv_ => exact rfl)) | ((with_reducible refine' nw_Reno_thresh ?ho_ ?hv_ ?_); (case ho_ => first | assumption | exact upd_same); (case hv_ => exact rfl)) | ((with_reducible refine' nw_Reno_peak ?ho_ ?hv_ ?_); (case ho_ => first | assumption | exact upd_same); (case hv_ => exact rfl)) | ((with_reducible refine' nw_Reno_prior ?ho_ ?hv_ ?_); (case ho_ => first | assumption | exact upd_same); (case hv_ => exact rfl)) | ((with_reducible refine' nw_Reno_calm ?ho_ ?hv_ ?_); (case ho_ => first | assumption | exact upd_same); (case hv_ => exact rfl)) | ((with_reducible refine' nw_Reno_credit ?ho_ ?hv_ ?_); (case ho_ => first | assumption | exact upd_same); (case hv_ => exact rfl)) | ((with_reducible refine' st_Reno_cwnd ?ho_ ?hv_ ?_); (case ho_ => first | assumption | exact upd_same); (case hv_ => exact Nat.le_of_ble_eq_true rfl)) | ((with_reducible refine' st_Reno_thresh ?ho_ ?hv_ ?_); (case ho_ => first | assumption | exact upd_same); (case hv_ => exact Nat.le_of_ble_eq_true rfl)) | ((with_reducible refine' st_Reno_peak ?ho_ ?hv_ ?_); (case ho_ => first | assumption | exact upd_same); (case hv_ => exact Nat.le_of_ble_eq_true rfl)) | ((with_reducible refine' st_Reno_prior ?ho_ ?hv_ ?_); (case ho_ => first | assumption | exact upd_same); (case hv_ => exact Nat.le_of_ble_eq_true rfl)) | ((with_reducible refine' st_Reno_calm ?ho_ ?hv_ ?_); (case ho_ => first | assumption | exact upd_same); (case hv_ => exact Nat.le_of_ble_eq_true rfl)) | ((with_reducible refine' st_Reno_credit ?ho_ ?hv_ ?_); (case ho_ => first | assumption | exact upd_same); (case hv_ => exact Nat.le_of_ble_eq_true rfl)) | ((with_reducible refine' me_Reno_fork ?ho_ ?_); (case ho_ => first | assumption | exact upd_same)) | ((with_reducible refine' me_Reno_avoid ?ho_ ?_); (case ho_ => first | assumption | exact upd_same)) | ((with_reducible refine' me_Reno_share ?ho_ ?_); (case ho_ => first | assumption | exact upd_same)) | ((with_reducible refine' me_Reno_begin_anew ?ho_ ?_); (case ho_ => first | assumption | exact upd_same)) | ((with_reducible refine' me_Reno_acknowledge ?ho_ ?_); (case ho_ => first | assumption | exact upd_same)) | ((with_reducible refine' me_Reno_lose ?ho_ ?_); (case ho_ => first | assumption | exact upd_same)) | ((with_reducible refine' me_Reno_time_out ?ho_ ?_); (case ho_ => first | assumption | exact upd_same)) | ((with_reducible refine' me_Reno_mark ?ho_ ?_); (case ho_ => first | assumption | exact upd_same)) | ((with_reducible refine' me_Reno_bounded ?ho_ ?_); (case ho_ => first | assumption | exact upd_same)) | ((with_reducible refine' me_Reno_give_to ?ho_ ?_); (case ho_ => first | assumption | exact upd_same)))
local macro_rules | `(tactic| walk_at "use") => `(tactic| first | ((with_reducible refine' dg_S_reno ?ho_ ?hv_ ?_); (case ho_ => first | assumption | exact upd_same); (case hv_ => exact rfl)) | ((with_reducible refine' dg_S_cwnd ?ho_ ?hv_ ?_); (case ho_ => first | assumption | exact upd_same); (case hv_ => exact rfl)) | ((with_reducible refine' dg_S_thresh ?ho_ ?hv_ ?_); (case ho_ => first | assumption | exact upd_same); (case hv_ => exact rfl)) | ((with_reducible refine' dg_S_peak ?ho_ ?hv_ ?_); (case ho_ => first | assumption | exact upd_same); (case hv_ => exact rfl)) | ((with_reducible refine' dg_S_prior ?ho_ ?hv_ ?_); (case ho_ => first | assumption | exact upd_same); (case hv_ => exact rfl)) | ((with_reducible refine' dg_S_calm ?ho_ ?hv_ ?_); (case ho_ => first | assumption | exact upd_same); (case hv_ => exact rfl)) | ((with_reducible refine' dg_S_credit ?ho_ ?hv_ ?_); (case ho_ => first | assumption | exact upd_same); (case hv_ => exact rfl)) | ((with_reducible refine' dg_S_period ?ho_ ?hv_ ?_); (case ho_ => first | assumption | exact upd_same); (case hv_ => exact rfl)) | ((with_reducible refine' dn_S_reno ?ho_ ?hv_ ?_); (case ho_ => first | assumption | exact upd_same); (case hv_ => exact rfl)) | ((with_reducible refine' dn_S_cwnd ?ho_ ?hv_ ?_); (case ho_ => first | assumption | exact upd_same); (case hv_ => exact rfl)) | ((with_reducible refine' dn_S_thresh ?ho_ ?hv_ ?_); (case ho_ => first | assumption | exact upd_same); (case hv_ => exact rfl)) | ((with_reducible refine' dn_S_peak ?ho_ ?hv_ ?_); (case ho_ => first | assumption | exact upd_same); (case hv_ => exact rfl)) | ((with_reducible refine' dn_S_prior ?ho_ ?hv_ ?_); (case ho_ => first | assumption | exact upd_same); (case hv_ => exact rfl)) | ((with_reducible refine' dn_S_calm ?ho_ ?hv_ ?_); (case ho_ => first | assumption | exact upd_same); (case hv_ => exact rfl)) | ((with_reducible refine' dn_S_credit ?ho_ ?hv_ ?_); (case ho_ => first | assumption | exact upd_same); (case hv_ => exact rfl)) | ((with_reducible refine' dn_S_period ?ho_ ?hv_ ?_); (case ho_ => first | assumption | exact upd_same); (case hv_ => exact rfl)) | ((with_reducible refine' dp_S_reno ?ho_ ?hv_ ?_); (case ho_ => first | assumption | exact upd_same); (case hv_ => exact Nat.le_of_ble_eq_true rfl)) | ((with_reducible refine' dp_S_cwnd ?ho_ ?hv_ ?_); (case ho_ => first | assumption | exact upd_same); (case hv_ => exact Nat.le_of_ble_eq_true rfl)) | ((with_reducible refine' dp_S_thresh ?ho_ ?hv_ ?_); (case ho_ => first | assumption | exact upd_same); (case hv_ => exact Nat.le_of_ble_eq_true rfl)) | ((with_reducible refine' dp_S_peak ?ho_ ?hv_ ?_); (case ho_ => first | assumption | exact upd_same); (case hv_ => exact Nat.le_of_ble_eq_true rfl)) | ((with_reducible refine' dp_S_prior ?ho_ ?hv_ ?_); (case ho_ => first | assumption | exact upd_same); (case hv_ => exact Nat.le_of_ble_eq_true rfl)) | ((with_reducible refine' dp_S_calm ?ho_ ?hv_ ?_); (case ho_ => first | assumption | exact upd_same); (case hv_ => exact Nat.le_of_ble_eq_true rfl)) | ((with_reducible refine' dp_S_credit ?ho_ ?hv_ ?_); (case ho_ => first | assumption | exact upd_same); (case hv_ => exact Nat.le_of_ble_eq_true rfl)) | ((with_reducible refine' dp_S_period ?ho_ ?hv_ ?_); (case ho_ => first | assumption | exact upd_same); (case hv_ => exact Nat.le_of_ble_eq_true rfl)))
local macro_rules | `(tactic| walk_at "use") => `(tactic| with_reducible first | refine g_dgetT ?_ | refine g_dputT ?_)
section
variable {P : Program} {w : World} {K : PySem.W.Frag} {mg : Str → Option Value} {base : Heap}
local macro_rules | `(tactic| walk_at "use") => `(tactic| with_reducible first | refine g_dgetT ?_ | refine g_dputT ?_ | refine g_gcons ?_ | refine g_gnil ?_)
def sp_l_is_integer (K : PySem.W.Frag) : Sp := fun vs H Q _ => ∃ (n : Int), vs = [.int n] ∧ Q (.bl true) H
theorem u_isint {n : Int} {H Q E} (q : Q (.bl true) H) : sp_l_is_integer K ([.int n] ++ []) H Q E := ⟨n, rfl, q⟩
theorem ok_l_is_integer (T : Txt P K mg) : FnOk P w K mg base CX0 1 T.f_l_is_integer T.d_l_is_integer ["actual"] (sp_l_is_integer K) := by
  refine T.F_l_is_integer.ok sc_l_is_integer (fun vs H Q E h => ?_) (fun cdv A outer s H vs Q E hr h => ?_)
  · obtain ⟨n, rfl, q⟩ := h
    rfl
  · obtain ⟨n, rfl, q⟩ := h
    have hu := hu_of hr
    refine ⟨_, (pss_one (ps_ret (pe_and (pe_callB call_isi (by rfl) T.n_isinstance (by decide +kernel) (pa_cons (pv 0) (pa_cons (pe_bltn (v := .ty "int") (by rfl) T.n_int (by decide +kernel) rfl) pa_nil))) (pe_one (pe_not (pe_callB call_isi (by rfl) T.n_isinstance (by decide +kernel) (pa_cons (pv 0) (pa_cons (pe_bltn (v := .ty "bool") (by rfl) T.n_bool (by decide +kernel) rfl) pa_nil)))))))), ?_⟩
    dsimp only [cxOf, Cx.nox, Cx.wish, L2.start, List.map, List.cons_append, List.nil_append, List.length_cons, List.length_nil, Nat.reduceAdd, Nat.reduceSub, Nat.zero_add, List.replicate_succ, List.replicate_zero]
    walk_at "go"
    exact q
local macro_rules | `(tactic| walk_at "use") => `(tactic| with_reducible refine u_isint ?_)

def sp_l_cell (K : PySem.W.Frag) : Sp := fun vs H Q _ => ∃ (a : Addr) (ns : List Int) (k : Int), vs = [.ref a, .int k] ∧ SqL K H a (ns.map V.int) ∧ 0 ≤ k ∧ Q (.int (cell ns k)) H
theorem u_cell {a : Addr} {ns : List Int} {k : Int} {H Q E} (h : SqL K H a (ns.map V.int)) (h0 : 0 ≤ k) (q : Q (.int (cell ns k)) H) : sp_l_cell K ([.ref a, .int k] ++ []) H Q E := ⟨a, ns, k, rfl, h, h0, q⟩
theorem ok_l_cell (T : Txt P K mg) : FnOk P w K mg base CX0 1 T.f_l_cell T.d_l_cell ["script", "k"] (sp_l_cell K) := by
  refine T.F_l_cell.ok sc_l_cell (fun vs H Q E h => ?_) (fun cdv A outer s H vs Q E hr h => ?_)
  · obtain ⟨a, ns, k, rfl, hS, h0, q⟩ := h
    rfl
  · obtain ⟨a, ns, k, rfl, hS, h0, q⟩ := h
    have hu := hu_of hr
    refine ⟨_, (pss_cons (ps_if (pt_cmpR op_lt (pv 1) (pe_callB call_len_seq (by rfl) T.n_len (by decide +kernel) (pa_cons (pv 0) pa_nil)) (nomark _)) (pss_one (ps_ret (pe_ix ix_list (pv 0) (pv 1) (fun _ _ => rfl)))) pss_nil)
        (pss_one (ps_ret pe_int))), ?_⟩
    dsimp only [cxOf, Cx.nox, Cx.wish, L2.start, List.map, List.cons_append, List.nil_append, List.length_cons, List.length_nil, Nat.reduceAdd, Nat.reduceSub, Nat.zero_add, List.replicate_succ, List.replicate_zero]
    walk_at "go"
    refine g_len (.inl hS) ?_
    walk_at "go"
    rw [List.length_map]
    refine g_ite (fun h => ?_) (fun h => ?_)
    · walk_at "go"
      refine g_ixL hS (atI_map h0 h) ?_
      exact q
    · walk_at "go"
      rw [cell_out h] at q
      exact q
local macro_rules | `(tactic| walk_at "use") => `(tactic| with_reducible refine u_cell (by assumption) (by decide) ?_)

def sp_l_curve (K : PySem.W.Frag) : Sp := fun vs H Q _ => ∃ m o t a : Int, vs = [.int m, .int o, .int t, .int a] ∧ (0 ≤ m ∧ m ≤ 1460 ∧ 0 ≤ t ∧ t < 2 ^ 50 ∧ 0 ≤ a ∧ a < 2 ^ 50) ∧ Q (.int (crv m o t a)) H
theorem u_lcurve {m o t a : Int} {H Q E} (h : 0 ≤ m ∧ m ≤ 1460 ∧ 0 ≤ t ∧ t < 2 ^ 50 ∧ 0 ≤ a ∧ a < 2 ^ 50) (q : Q (.int (crv m o t a)) H) : sp_l_curve K ([.int m, .int o, .int t, .int a] ++ []) H Q E := ⟨m, o, t, a, rfl, h, q⟩
theorem ok_l_curve (T : Txt P K mg) : FnOk P w K mg base CX0 1 T.f_l_curve T.d_l_curve ["size", "origin", "turning", "at"] (sp_l_curve K) := by
  refine T.F_l_curve.ok sc_l_curve (fun vs H Q E h => ?_) (fun cdv A outer s H vs Q E hr h => ?_)
  · obtain ⟨m, o, t, a, rfl, h, q⟩ := h
    rfl
  · obtain ⟨m, o, t, a, rfl, h, q⟩ := h
    have hu := hu_of hr
    refine ⟨_, (pss_cons (ps_set (i := 4) sc_l_curve.nd rfl (Or.inl rfl) (pe_callB call_abs (by rfl) T.n_abs (by decide +kernel) (pa_cons (pe_op op_sub (pv 3) (pv 2)) pa_nil)))
        (pss_cons (ps_set (i := 5) sc_l_curve.nd rfl (Or.inl rfl) (pe_op op_fdivW (pe_op op_mul (pe_op op_mul (pe_op op_mul (pv 0) (pv 4)) (pv 4)) (pv 4)) pe_int))
        (pss_cons (ps_if (pt_cmpR op_le (pv 3) (pv 2) (nomark _)) (pss_one (ps_ret (pe_callB (call_max2 rfl) (by rfl) T.n_max (by decide +kernel) (pa_cons pe_int (pa_cons (pe_op op_sub (pv 1) (pv 5)) pa_nil))))) pss_nil)
        (pss_one (ps_ret (pe_op op_add (pv 1) (pv 5))))))), ?_⟩
    dsimp only [cxOf, Cx.nox, Cx.wish, L2.start, List.map, List.cons_append, List.nil_append, List.length_cons, List.length_nil, Nat.reduceAdd, Nat.reduceSub, Nat.zero_add, List.replicate_succ, List.replicate_zero]
    obtain ⟨h0, h1, h2, h3, h4, h5⟩ := h
    unfold crv at q
    walk_at "go"
    rw [lcrv]
    refine g_ite (fun c => ?_) (fun c => ?_)
    · rw [if_pos c] at q ⊢
      walk_at "go"
      exact q
    · rw [if_neg c] at q ⊢
      walk_at "go"
      exact q

def sp_l_number : Sp := fun vs H Q _ => ∃ (a b : Int), vs = [.int a, .int b] ∧ a = b ∧ Q (.bl true) H
theorem u_num {a b : Int} {H Q E} (h : a = b) (q : Q (.bl true) H) : sp_l_number ([.int a, .int b] ++ []) H Q E := ⟨a, b, rfl, h, q⟩
theorem ok_l_number (T : Txt P K mg) : FnOk P w K mg base CX0 2 T.f_l_number T.d_l_number ["actual", "expected"] (sp_l_number) := by
  refine T.F_l_number.ok sc_l_number (fun vs H Q E h => ?_) (fun cdv A outer s H vs Q E hr h => ?_)
  · obtain ⟨a, b, rfl, h, q⟩ := h
    rfl
  · obtain ⟨a, b, rfl, h, q⟩ := h
    have hu := hu_of hr
    refine ⟨_, (pss_one (ps_ret (pe_and (pe_call (ok_l_is_integer T) (hr.mono (by decide)) rfl T.m_l_is_integer T.F_l_is_integer.kp T.b_l_is_integer .nil pass0 (pa_cons (pv 0) pa_nil)) (pe_one (pe_cmpR op_eq (pv 0) (pv 1) (nomark _)))))), ?_⟩
    dsimp only [cxOf, Cx.nox, Cx.wish, L2.start, List.map, List.cons_append, List.nil_append, List.length_cons, List.length_nil, Nat.reduceAdd, Nat.reduceSub, Nat.zero_add, List.replicate_succ, List.replicate_zero]
    walk_at "go"
    rw [decide_eq_true h]
    exact q
def sp_l_root : Sp := fun vs H Q _ => ∃ (n : Int), vs = [.int n] ∧ 0 ≤ n ∧ n < 2 ^ 62 ∧ Q (.int (cbrt n)) H
theorem u_lroot {n : Int} {H Q E} (h0 : 0 ≤ n) (h1 : n < 2 ^ 62) (q : Q (.int (cbrt n)) H) : sp_l_root ([.int n] ++ []) H Q E := ⟨n, rfl, h0, h1, q⟩
theorem ok_l_root (T : Txt P K mg) : FnOk P w K mg base CX0 1 T.f_l_root T.d_l_root ["number"] (sp_l_root) := by
  refine T.F_l_root.ok sc_l_root (fun vs H Q E h => ?_) (fun cdv A outer s H vs Q E hr h => ?_)
  · obtain ⟨n, rfl, h0, h1, q⟩ := h
    rfl
  · obtain ⟨n, rfl, h0, h1, q⟩ := h
    have hu := hu_of hr
    refine ⟨_, (pss_cons (ps_set (i := 1) sc_l_root.nd rfl (Or.inl rfl) pe_int)
        (pss_cons (ps_set (i := 2) sc_l_root.nd rfl (Or.inl rfl) (pe_op op_pow pe_int pe_int))
        (pss_cons (ps_for PassesOwn.never rfl (pi_range1 (by rfl) T.n_range (pa_cons pe_int pa_nil)) (pg_name (i := 3) sc_l_root.nd rfl (Or.inl rfl)) (pss_cons (ps_if (pt_cmpR op_le (pe_op op_mul (pe_op op_mul (pe_op op_add (pv 1) (pv 2)) (pe_op op_add (pv 1) (pv 2))) (pe_op op_add (pv 1) (pv 2))) (pv 0) (nomark _)) (pss_one (ps_set (i := 1) sc_l_root.nd rfl (Or.inl rfl) (pe_op op_add (pv 1) (pv 2)))) pss_nil)
        (pss_one (ps_set (i := 2) sc_l_root.nd rfl (Or.inl rfl) (pe_op op_fdiv (pv 2) pe_int)))))
        (pss_one (ps_ret (pv 1)))))), ?_⟩
    dsimp only [cxOf, Cx.nox, Cx.wish, L2.start, List.map, List.cons_append, List.nil_append, List.length_cons, List.length_nil, Nat.reduceAdd, Nat.reduceSub, Nat.zero_add, List.replicate_succ, List.replicate_zero]
    walk_at "go"
    refine for_r (n := 41) 41 rfl (by omega) (by omega) (fun i σ' H' => H' = H ∧ ∃ (rt w : Int) (v : Option V), σ' = [some (.int n), some (.int rt), some (.int (w / 2)), v] ∧ w = 2 ^ (41 - i) ∧ 0 ≤ rt ∧ rt + w ≤ 4398046511104 ∧ rt * rt * rt ≤ n ∧ n < (rt + w) * (rt + w) * (rt + w)) ?start ?turn ?done ?ev
    case ev =>
      intro Y yy
      walk_at "go"
      exact yy
    case start =>
      refine ⟨rfl, 0, 2 ^ 41, _, rfl, rfl, Int.le_refl 0, by decide, h0, ?_⟩
      have : ((0 : Int) + 2 ^ 41) * (0 + 2 ^ 41) * (0 + 2 ^ 41) = 2 ^ 123 := by decide +kernel
      rw [this]
      have : (2 : Int) ^ 62 < 2 ^ 123 := by decide +kernel
      omega
    case done =>
      rintro σ' H' ⟨rfl, rt, w, v, rfl, hw, r0, r1, r2, r3⟩
      walk_at "go"
      have hw : w = 1 := hw
      subst hw
      rw [cbrt_eq r0 r2 r3]
      exact q
    case turn =>
      rintro i σ' H' hi ⟨rfl, rt, w, v, rfl, hw, r0, r1, r2, r3⟩
      obtain ⟨k, hk⟩ : ∃ k, 41 - i = k + 1 := ⟨40 - i, by omega⟩
      rw [hk, Int.pow_succ] at hw
      have hp : (0 : Int) < 2 ^ k := Int.pow_pos (by decide)
      have e1 : 41 - (i + 1) = k := by omega
      have e2 : w / 2 = 2 ^ k := by omega
      have e3 : rt + w = rt + 2 ^ k + 2 ^ k := by omega
      rw [e3] at r3 r1
      rw [e2]
      have e4 : (2 : Int) ^ (41 - (i + 1)) = 2 ^ k := by rw [e1]
      rw [e4]
      clear e4 e1 hk
      generalize (2 : Int) ^ k = u at *
      walk_at "go"
      refine g_ite (fun c => ?_) (fun c => ?_)
      · walk_at "go"
        exact ⟨rfl, rt + u, u, _, rfl, rfl, by omega, by omega, c, r3⟩
      · walk_at "go"
        exact ⟨rfl, rt, u, _, rfl, rfl, by omega, by omega, r2, by omega⟩
def StD (H : Hp) (d : Addr) (r : Bool) (g : Ct) : Prop := ∃ pv, H d = some (.dK (dk kd_S [.bl r, .int g.cwnd, .int g.thresh, .int g.peak, .int g.prior, .int g.calm, .int g.cr, pv])) ∧ perV H pv g.per
theorem StD.same {H H' : Hp} {d : Addr} {r : Bool} {g : Ct} (h : StD H d r g) (s : Same H H') : StD H' d r g := by
  obtain ⟨pv, h1, h2⟩ := h
  exact ⟨pv, s _ _ h1, perV.same s h2⟩
theorem perV.butD {H H' : Hp} {d : Addr} {e : V} {kvs : List (Key × V)} (b : But d H H') (hd : H d = some (.dK kvs)) : ∀ {o : Option Per}, perV H e o → perV H' e o
  | none, h => h
  | some (_, _, _, _, _), ⟨t, h1, h2⟩ => ⟨t, h1, b _ _ (fun z => by rw [z, hd] at h2; cases h2) h2⟩
def sp_l_lose : Sp := fun vs H Q _ => ∃ (d : Addr) (r : Bool) (g : Ct) (m fl : Int), vs = [.ref d, .int m, .int fl] ∧ StD H d r g ∧ ∀ H', But d H H' → StD H' d r (g.lose r m fl) → Q .non H'
theorem ok_l_lose (T : Txt P K mg) : FnOk P w K mg base CX0 1 T.f_l_lose T.d_l_lose ["state", "size", "flying"] (sp_l_lose) := by
  refine T.F_l_lose.ok sc_l_lose (fun vs H Q E h => ?_) (fun cdv A outer s H vs Q E hr h => ?_)
  · obtain ⟨d, r, g, m, fl, rfl, ⟨pe, hd, hp⟩, q⟩ := h
    rfl
  · obtain ⟨d, r, g, m, fl, rfl, ⟨pe, hd, hp⟩, q⟩ := h
    have hu := hu_of hr
    refine ⟨_, (pss_cons (ps_set (i := 3) sc_l_lose.nd rfl (Or.inl rfl) (pe_dget hu (pv 0) pe_str (fun _ _ => rfl)))
        (pss_cons (ps_set (i := 4) sc_l_lose.nd rfl (Or.inl rfl) (pe_callB (call_min2 rfl) (by rfl) T.n_min (by decide +kernel) (pa_cons (pv 2) (pa_cons (pv 3) pa_nil))))
        (pss_cons (ps_set (i := 5) sc_l_lose.nd rfl (Or.inl rfl) (pe_op op_fdiv (pe_op op_mul pe_int (pv 4)) pe_int))
        (C8.pss_cut (ps_if (pt_val (pe_dget hu (pv 0) pe_str (fun _ _ => rfl))) (pss_one (ps_set (i := 5) sc_l_lose.nd rfl (Or.inl rfl) (pe_op op_fdiv (pv 4) pe_int))) pss_nil)
        (pss_cons (ps_dput hu (pv 0) pe_str (pe_callB (call_min2 rfl) (by rfl) T.n_min (by decide +kernel) (pa_cons pe_int (pa_cons (pe_callB (call_max2 rfl) (by rfl) T.n_max (by decide +kernel) (pa_cons (pv 5) (pa_cons (pe_op op_mul pe_int (pv 1)) pa_nil))) pa_nil))) rfl)
        (pss_cons (ps_dput hu (pv 0) pe_str (pe_ix ix_list (pe_lst (pa_cons (pv 3) (pa_cons (pe_op op_fdiv (pe_op op_mul pe_int (pv 3)) pe_int) pa_nil))) (pe_callTy call_int1 (by rfl) T.n_int (by decide +kernel) (pa_cons (pe_cmpR op_lt (pv 3) (pe_dget hu (pv 0) pe_str (fun _ _ => rfl)) (nomark _)) pa_nil)) (fun _ _ => rfl)) rfl)
        (pss_cons (ps_dput hu (pv 0) pe_str (pv 3) rfl)
        (pss_cons (ps_dput hu (pv 0) pe_str (pe_dget hu (pv 0) pe_str (fun _ _ => rfl)) rfl)
        (pss_cons (ps_dput hu (pv 0) pe_str pe_int rfl)
        (pss_one (ps_dput hu (pv 0) pe_str pe_non rfl))))))))))), ?_⟩
    dsimp only [cxOf, Cx.nox, Cx.wish, L2.start, List.map, List.cons_append, List.nil_append, List.length_cons, List.length_nil, Nat.reduceAdd, Nat.reduceSub, Nat.zero_add, List.replicate_succ, List.replicate_zero]
    walk_at "go"
    have mn : (if g.cwnd < fl then g.cwnd else fl) = min fl g.cwnd := by split <;> omega
    rw [mn]
    refine g_cut (fun σ' H' => H' = H ∧ σ' = [some (.ref d), some (.int m), some (.int fl), some (.int g.cwnd), some (.int (min fl g.cwnd)), some (.int (Ct.share r (min fl g.cwnd)))]) ?_ ?_
    · walk_at "go"
      cases r with
      | true =>
        walk_at "go"
        exact ⟨rfl, rfl⟩
      | false =>
        walk_at "go"
        exact ⟨rfl, rfl⟩
    rintro σ' H' ⟨rfl, rfl⟩
    walk_at "go"
    have mx : (if (if 2 * m > Ct.share r (min fl g.cwnd) then 2 * m else Ct.share r (min fl g.cwnd)) < 1073741824 then (if 2 * m > Ct.share r (min fl g.cwnd) then 2 * m else Ct.share r (min fl g.cwnd)) else 1073741824) = g.lthr r m fl := by
      show _ = min (max _ _) (1073741824 : Int)
      split <;> split <;> omega
    rw [mx]
    simp only [List.set_cons_succ, List.set_cons_zero]
    walk_at "bt"
    rename_i H1 b1 k1
    walk_at "go"
    refine ⟨by show 2 ≤ sizeLine; decide, fun l nl => ?_⟩
    walk_at "nw"
    rename_i H2 s2 k2
    have hd2 := s2 _ _ k1
    have nld : l ≠ d := (ne_of_none k1 nl).symm
    walk_at "go"
    refine g_ixL (v := .int (if g.cwnd < g.peak then 17 * g.cwnd / 20 else g.cwnd)) (sl k2) ?_ ?_
    · by_cases c : g.cwnd < g.peak
      · rw [if_pos c, decide_eq_true c]
        exact at_of (j := 1) rfl rfl
      · rw [if_neg c, decide_eq_false c]
        exact at_of (j := 0) rfl rfl
    walk_at "go"
    simp only [List.set_cons_succ, List.set_cons_zero, upd_upd]
    exact q _ (b1.trans (But.of s2)).upd ⟨_, upd_same, rfl⟩
def sp_l_avoid : Sp := fun vs H Q _ => ∃ (d : Addr) (r : Bool) (g : Ct) (m now o : Int), vs = [.ref d, .int m, .int now, .int o] ∧ StD H d r g ∧ 1 ≤ m ∧ m ≤ 1460 ∧ 0 ≤ o ∧ o < 2 ^ 60 ∧ CtB g now ∧ ∀ H', But d H H' → StD H' d r (g.avoid r m now o) → Q (.int 0) H'
local macro_rules | `(tactic| walk_at "use") => `(tactic| with_reducible refine u_lcurve ⟨by omega, by omega, by omega, by omega, by omega, by omega⟩ ?_)
theorem ok_l_avoid (T : Txt P K mg) : FnOk P w K mg base CX0 2 T.f_l_avoid T.d_l_avoid ["state", "size", "now", "octets"] (sp_l_avoid) := by
  refine T.F_l_avoid.ok sc_l_avoid (fun vs H Q E h => ?_) (fun cdv A outer s H vs Q E hr h => ?_)
  · obtain ⟨d, r, g, m, now, o, rfl, ⟨pe, hd, hp⟩, m0, m1, o0, o1, B, q⟩ := h
    rfl
  · obtain ⟨d, r, g, m, now, o, rfl, ⟨pe, hd, hp⟩, m0, m1, o0, o1, B, q⟩ := h
    have hu := hu_of hr
    refine ⟨_, (pss_cons (ps_set (i := 4) sc_l_avoid.nd rfl (Or.inl rfl) (pe_dget hu (pv 0) pe_str (fun _ _ => rfl)))
        (pss_cons (ps_if (pt_val (pe_dget hu (pv 0) pe_str (fun _ _ => rfl))) (pss_cons (ps_dput hu (pv 0) pe_str (pe_op op_add (pe_dget hu (pv 0) pe_str (fun _ _ => rfl)) (pv 3)) rfl)
        (pss_cons (ps_if (pt_cmpR op_ge (pe_dget hu (pv 0) pe_str (fun _ _ => rfl)) (pv 4) (nomark _)) (pss_cons (ps_dput hu (pv 0) pe_str (pe_op op_sub (pe_dget hu (pv 0) pe_str (fun _ _ => rfl)) (pv 4)) rfl)
        (pss_one (ps_dput hu (pv 0) pe_str (pe_callB (call_min2 rfl) (by rfl) T.n_min (by decide +kernel) (pa_cons pe_int (pa_cons (pe_op op_add (pv 4) (pv 1)) pa_nil))) rfl))) pss_nil)
        (pss_one (ps_ret pe_int)))) pss_nil)
        (C8.pss_cut (ps_if (pt_cmpR op_isN (pe_dget hu (pv 0) pe_str (fun _ _ => rfl)) pe_non (nomark _)) (pss_cons (ps_dput hu (pv 0) pe_str (pe_tup (pa_cons (pv 2) (pa_cons (pv 4) (pa_cons pe_int (pa_cons (pv 4) (pa_cons pe_int pa_nil)))))) rfl)
        (pss_one (ps_if (pt_cmpR op_lt (pv 4) (pe_dget hu (pv 0) pe_str (fun _ _ => rfl)) (nomark _)) (pss_cons (ps_set (i := 5) sc_l_avoid.nd rfl (Or.inl rfl) (pe_call (ok_l_root T) (hr.mono (by decide)) rfl T.m_l_root T.F_l_root.kp T.b_l_root .nil pass0 (pa_cons (pe_op op_fdivW (pe_op op_mul (pe_op op_sub (pe_dget hu (pv 0) pe_str (fun _ _ => rfl)) (pv 4)) pe_int) (pv 1)) pa_nil)))
        (pss_one (ps_dput hu (pv 0) pe_str (pe_tup (pa_cons (pv 2) (pa_cons (pe_dget hu (pv 0) pe_str (fun _ _ => rfl)) (pa_cons (pv 5) (pa_cons (pv 4) (pa_cons pe_int pa_nil)))))) rfl))) pss_nil))) pss_nil)
        (pss_cons (ps_asg (pe_dget hu (pv 0) pe_str (fun _ _ => rfl)) (pg_tup rfl (pgs_cons (pg_name (i := 6) sc_l_avoid.nd rfl (Or.inl rfl)) (pgs_cons (pg_name (i := 7) sc_l_avoid.nd rfl (Or.inl rfl)) (pgs_cons (pg_name (i := 5) sc_l_avoid.nd rfl (Or.inl rfl)) (pgs_cons (pg_name (i := 8) sc_l_avoid.nd rfl (Or.inl rfl)) (pgs_cons (pg_name (i := 9) sc_l_avoid.nd rfl (Or.inl rfl)) pgs_nil)))))))
        (pss_cons (ps_set (i := 9) sc_l_avoid.nd rfl (Or.inl rfl) (pe_op op_add (pv 9) (pe_op op_mul (pe_ix ix_list (pe_lst (pa_cons pe_int (pa_cons pe_int pa_nil))) (pe_callTy call_int1 (by rfl) T.n_int (by decide +kernel) (pa_cons (pe_cmpR op_lt (pv 8) (pe_dget hu (pv 0) pe_str (fun _ _ => rfl)) (nomark _)) pa_nil)) (fun _ _ => rfl)) (pv 3))))
        (C8.pss_cut (ps_if (pt_cmpR op_ge (pv 9) (pe_op op_mul pe_int (pv 4)) (nomark _)) (pss_cons (ps_set (i := 9) sc_l_avoid.nd rfl (Or.inl rfl) (pe_op op_sub (pv 9) (pe_op op_mul pe_int (pv 4))))
        (pss_one (ps_set (i := 8) sc_l_avoid.nd rfl (Or.inl rfl) (pe_op op_add (pv 8) (pv 1))))) pss_nil)
        (pss_cons (ps_dput hu (pv 0) pe_str (pe_tup (pa_cons (pv 6) (pa_cons (pv 7) (pa_cons (pv 5) (pa_cons (pv 8) (pa_cons (pv 9) pa_nil)))))) rfl)
        (pss_cons (ps_set (i := 10) sc_l_avoid.nd rfl (Or.inl rfl) (pe_callB (call_min2 rfl) (by rfl) T.n_min (by decide +kernel) (pa_cons (pe_callB (call_max2 rfl) (by rfl) T.n_max (by decide +kernel) (pa_cons (pe_call (ok_l_curve T) (hr.mono (by decide)) rfl T.m_l_curve T.F_l_curve.kp T.b_l_curve .nil pass0 (pa_cons (pv 1) (pa_cons (pv 7) (pa_cons (pv 5) (pa_cons (pe_callB (call_max2 rfl) (by rfl) T.n_max (by decide +kernel) (pa_cons pe_int (pa_cons (pe_op op_sub (pv 2) (pv 6)) pa_nil))) pa_nil))))) (pa_cons (pv 4) pa_nil))) (pa_cons (pe_op op_add (pv 4) (pe_op op_fdiv (pv 4) pe_int)) pa_nil))))
        (pss_cons (ps_dput hu (pv 0) pe_str (pe_callB (call_min2 rfl) (by rfl) T.n_min (by decide +kernel) (pa_cons pe_int (pa_cons (pe_callB (call_max2 rfl) (by rfl) T.n_max (by decide +kernel) (pa_cons (pv 8) (pa_cons (pe_op op_add (pv 4) (pe_op op_fdivW (pe_op op_mul (pe_op op_sub (pv 10) (pv 4)) (pv 3)) (pv 4))) pa_nil))) pa_nil))) rfl)
        (pss_one (ps_ret pe_int))))))))))), ?_⟩
    dsimp only [cxOf, Cx.nox, Cx.wish, L2.start, List.map, List.cons_append, List.nil_append, List.length_cons, List.length_nil, Nat.reduceAdd, Nat.reduceSub, Nat.zero_add, List.replicate_succ, List.replicate_zero]
    have c0 := B.c0
    have c1 := B.c1
    have p1 := B.p1
    have gg : GG = 1073741824 := rfl
    unfold Ct.avoid at q
    walk_at "go"
    cases r with
    | true =>
      dsimp only at q
      walk_at "go"
      simp only [List.set_cons_succ, List.set_cons_zero]
      walk_at "bt"
      rename_i H1 b1 k1
      walk_at "go"
      refine g_ite (fun c => ?_) (fun c => ?_)
      · rw [if_pos c] at q
        walk_at "go"
        simp only [List.set_cons_succ, List.set_cons_zero, upd_upd]
        rw [show (if g.cwnd + m < 1073741824 then g.cwnd + m else 1073741824) = min (g.cwnd + m) GG by show _ = min (g.cwnd + m) (1073741824 : Int); split <;> omega]
        exact q _ b1.upd ⟨_, upd_same, perV.butD But.refl.upd k1 (perV.butD b1 hd hp)⟩
      · rw [if_neg c] at q
        walk_at "go"
        exact q _ b1 ⟨_, k1, perV.butD b1 hd hp⟩
    | false =>
      dsimp only at q
      obtain ⟨pr, epr⟩ : ∃ pr, g.thePer m now = pr := ⟨_, rfl⟩
      rw [epr] at q
      have hpr : 0 ≤ pr.2.2.1 ∧ pr.2.2.1 < 2 ^ 50 ∧ now - pr.1 < 2 ^ 50 := by
        unfold Ct.thePer at epr
        cases hp : g.per with
        | none =>
          rw [hp] at epr
          rw [← epr]
          exact newPer_ok B m0
        | some z =>
          rw [hp] at epr
          subst epr
          obtain ⟨a, b, c, d, f⟩ := z
          exact B.per a b c d f hp
      obtain ⟨a, b, c, dd, f⟩ := pr
      dsimp only at hpr
      walk_at "go"
      refine g_cut (fun σ' H1 => ∃ v5, σ' = [some (.ref d), some (.int m), some (.int now), some (.int o), some (.int g.cwnd), v5, none, none, none, none, none] ∧ But d H H1 ∧ ∃ t, H1 d = some (.dK (dk kd_S [.bl false, .int g.cwnd, .int g.thresh, .int g.peak, .int g.prior, .int g.calm, .int g.cr, .ref t])) ∧ H1 t = some (.tup [.int a, .int b, .int c, .int dd, .int f])) ?_ ?_
      · walk_at "go"
        cases hp2 : g.per with
        | none =>
          rw [hp2] at hp
          have hp : pe = .non := hp
          subst hp
          have en : newPer g m now = (a, b, c, dd, f) := by
            unfold Ct.thePer at epr
            rw [hp2] at epr
            exact epr
          unfold newPer at en
          walk_at "go"
          refine ⟨by show 5 ≤ sizeLine; decide, fun t nt => ?_⟩
          walk_at "nw"
          rename_i H1 s1 k1
          have hd1 := s1 _ _ hd
          have ntd : t ≠ d := (ne_of_none hd nt).symm
          walk_at "go"
          simp only [List.set_cons_succ, List.set_cons_zero]
          walk_at "bt"
          rename_i H2 b2 k2
          have k12 := b2 _ _ ntd k1
          walk_at "go"
          refine g_ite (fun z => ?_) (fun z => ?_)
          · rw [if_pos z] at en
            walk_at "go"
            refine g_rI (C := CDivW) (cdivW (by omega) (Int.lt_of_le_of_lt m1 (by decide +kernel))) ?_
            have dq2 := dq m0 (show 0 ≤ g.peak - g.cwnd by omega)
            walk_at "go"
            refine u_lroot dq2.1 (by omega) ?_
            walk_at "go"
            refine ⟨by show 5 ≤ sizeLine; decide, fun t2 nt2 => ?_⟩
            walk_at "nw"
            rename_i H3 s3 k3
            have hd3 := s3 _ _ k2
            have nt2d : t2 ≠ d := (ne_of_none k2 nt2).symm
            walk_at "go"
            simp only [List.set_cons_succ, List.set_cons_zero]
            cases en
            refine ⟨_, rfl, (((But.of s1).trans b2).trans (But.of s3)).upd, t2, upd_same, ?_⟩
            rw [upd_ne nt2d]
            exact k3
          · rw [if_neg z] at en
            walk_at "go"
            cases en
            exact ⟨_, rfl, (But.of s1).trans b2, t, k2, k12⟩
        | some z =>
          have ez : z = (a, b, c, dd, f) := by
            unfold Ct.thePer at epr
            rw [hp2] at epr
            exact epr
          subst ez
          rw [hp2] at hp
          obtain ⟨t, et, ht⟩ := hp
          subst et
          walk_at "go"
          exact ⟨_, rfl, But.refl, t, hd, ht⟩
      clear hp
      rintro σ' H1 ⟨v5, rfl, b1, t, hd1, ht1⟩
      walk_at "go"
      refine g_gtup (xs := [V.int a, V.int b, V.int c, V.int dd, V.int f]) (st ht1) rfl ?_
      walk_at "go"
      refine ⟨by show 2 ≤ sizeLine; decide, fun l nl => ?_⟩
      walk_at "nw"
      rename_i H2 s2 k2
      have hd2 := s2 _ _ hd1
      walk_at "go"
      refine g_ixL (v := .int (if dd < g.prior then 9 else 17)) (sl k2) ?_ ?_
      · by_cases z : dd < g.prior
        · rw [if_pos z, decide_eq_true z]
          exact at_of (j := 1) rfl rfl
        · rw [if_neg z, decide_eq_false z]
          exact at_of (j := 0) rfl rfl
      have w0 : (if dd < g.prior then (9 : Int) else 17) = 9 ∨ (if dd < g.prior then (9 : Int) else 17) = 17 := by split <;> simp
      generalize ew : (if dd < g.prior then (9 : Int) else 17) = wt at w0
      walk_at "go"
      obtain ⟨d2, f2, e2⟩ : ∃ d2 f2, g.per1 (a, b, c, dd, f) m o = (a, b, c, d2, f2) := by
        unfold Ct.per1
        dsimp only
        rw [ew]
        split <;> exact ⟨_, _, rfl⟩
      rw [e2] at q
      refine g_cut (fun σ' H3 => H3 = H2 ∧ σ' = [some (.ref d), some (.int m), some (.int now), some (.int o), some (.int g.cwnd), some (.int c), some (.int a), some (.int b), some (.int d2), some (.int f2), none]) ?_ ?_
      · unfold Ct.per1 at e2
        dsimp only at e2
        rw [ew] at e2
        walk_at "go"
        refine g_ite (fun z => ?_) (fun z => ?_)
        · rw [if_pos z] at e2
          cases e2
          walk_at "go"
          exact ⟨rfl, rfl⟩
        · rw [if_neg z] at e2
          cases e2
          walk_at "go"
          exact ⟨rfl, rfl⟩
      clear e2 ew w0
      rintro σ' H3 ⟨rfl, rfl⟩
      walk_at "go"
      refine ⟨by show 5 ≤ sizeLine; decide, fun t2 nt2 => ?_⟩
      walk_at "nw"
      rename_i H4 s4 k4
      have hd4 := s4 _ _ hd2
      have nt2d : t2 ≠ d := (ne_of_none hd2 nt2).symm
      walk_at "go"
      simp only [List.set_cons_succ, List.set_cons_zero]
      walk_at "bt"
      rename_i H5 b5 k5
      have k45 := b5 _ _ nt2d k4
      have mx0 : (if now - a > 0 then now - a else 0) = max 0 (now - a) := by split <;> omega
      walk_at "go"
      rw [mx0]
      have hm0 : 0 ≤ max 0 (now - a) := by omega
      have hm1 : max 0 (now - a) < 2 ^ 50 := by omega
      have hgrow : g.grow (a, b, c, d2, f2) m now o = min (max d2 (g.cwnd + (min (max (crv m b c (max 0 (now - a))) g.cwnd) (g.cwnd + g.cwnd / 2) - g.cwnd) * o / g.cwnd)) GG := rfl
      generalize max 0 (now - a) = at0 at hm0 hm1 hgrow
      walk_at "go"
      generalize crv m b c at0 = wish at hgrow
      have tg : (if g.cwnd + g.cwnd / 2 < (if g.cwnd > wish then g.cwnd else wish) then g.cwnd + g.cwnd / 2 else if g.cwnd > wish then g.cwnd else wish) = min (max wish g.cwnd) (g.cwnd + g.cwnd / 2) := by
        split <;> split <;> omega
      rw [tg]
      have tb : g.cwnd ≤ min (max wish g.cwnd) (g.cwnd + g.cwnd / 2) ∧ min (max wish g.cwnd) (g.cwnd + g.cwnd / 2) ≤ g.cwnd + g.cwnd / 2 := by omega
      generalize min (max wish g.cwnd) (g.cwnd + g.cwnd / 2) = target at tb hgrow
      walk_at "go"
      refine g_rI (C := CDivW) (cdivW (by omega) (Int.lt_of_le_of_lt c1 (by decide +kernel))) ?_
      walk_at "go"
      generalize hgn : g.cwnd + (target - g.cwnd) * o / g.cwnd = gn at hgrow
      rw [show (if (if gn > d2 then gn else d2) < 1073741824 then (if gn > d2 then gn else d2) else 1073741824) = min (max d2 gn) GG by show _ = min (max d2 gn) (1073741824 : Int); split <;> split <;> omega]
      rw [← hgrow]
      simp only [List.set_cons_succ, List.set_cons_zero]
      refine q _ (((b1.trans (But.of s2)).trans (But.of s4)).trans b5).upd ⟨_, upd_same, t2, rfl, ?_⟩
      rw [upd_ne nt2d]
      exact k45
def sp_l_acknowledge : Sp := fun vs H Q _ => ∃ (d : Addr) (r : Bool) (g : Ct) (m now o fl : Int) (rec : Bool), vs = [.ref d, .int m, .int now, .int o, .int fl, .bl rec] ∧ StD H d r g ∧ 1 ≤ m ∧ m ≤ 1460 ∧ 0 ≤ o ∧ o < 2 ^ 60 ∧ CtB g now ∧ ∀ H', But d H H' → StD H' d r (g.ack r m now o fl rec) → Q (.int 0) H'
theorem ok_l_acknowledge (T : Txt P K mg) : FnOk P w K mg base CX0 3 T.f_l_acknowledge T.d_l_acknowledge ["state", "size", "now", "octets", "flying", "resting"] (sp_l_acknowledge) := by
  refine T.F_l_acknowledge.ok sc_l_acknowledge (fun vs H Q E h => ?_) (fun cdv A outer s H vs Q E hr h => ?_)
  · obtain ⟨d, r, g, m, now, o, fl, rec, rfl, hD, m0, m1, o0, o1, B, q⟩ := h
    rfl
  · obtain ⟨d, r, g, m, now, o, fl, rec, rfl, hD, m0, m1, o0, o1, B, q⟩ := h
    have hu := hu_of hr
    refine ⟨_, (pss_cons (ps_if (PW.pt (pw_or (pt_val (pv 5)) (pw_or (pt_cmpR op_eq (pv 3) pe_int (nomark _)) (pw_or1 (pt_cmpR op_le (pe_op op_add (pe_op op_add (pv 4) (pv 3)) (pv 1)) (pe_dget hu (pv 0) pe_str (fun _ _ => rfl)) (nomark _)))))) (pss_one (ps_ret pe_int)) pss_nil)
        (pss_cons (ps_if (pt_cmpR op_lt (pe_dget hu (pv 0) pe_str (fun _ _ => rfl)) (pe_dget hu (pv 0) pe_str (fun _ _ => rfl)) (nomark _)) (pss_cons (ps_dput hu (pv 0) pe_str (pe_callB (call_min2 rfl) (by rfl) T.n_min (by decide +kernel) (pa_cons pe_int (pa_cons (pe_op op_add (pe_dget hu (pv 0) pe_str (fun _ _ => rfl)) (pe_callB (call_min2 rfl) (by rfl) T.n_min (by decide +kernel) (pa_cons (pv 3) (pa_cons (pv 1) pa_nil)))) pa_nil))) rfl)
        (pss_one (ps_ret pe_int))) pss_nil)
        (pss_one (ps_ret (pe_call (ok_l_avoid T) (hr.mono (by decide)) rfl T.m_l_avoid T.F_l_avoid.kp T.b_l_avoid .nil pass0 (pa_cons (pv 0) (pa_cons (pv 1) (pa_cons (pv 2) (pa_cons (pv 3) pa_nil))))))))), ?_⟩
    dsimp only [cxOf, Cx.nox, Cx.wish, L2.start, List.map, List.cons_append, List.nil_append, List.length_cons, List.length_nil, Nat.reduceAdd, Nat.reduceSub, Nat.zero_add, List.replicate_succ, List.replicate_zero]
    obtain ⟨pe, hd, hp⟩ := id hD
    have yes : (rec = true ∨ o = 0 ∨ fl + o + m ≤ g.cwnd) → Q (.int 0) H := fun z => by
      have w := q H But.refl
      unfold Ct.ack at w
      rw [if_pos z] at w
      exact w hD
    walk_at "go"
    cases hr2 : rec with
    | true =>
      subst hr2
      walk_at "go"
      exact yes (.inl rfl)
    | false =>
      subst hr2
      walk_at "go"
      by_cases c1 : o = 0
      · walk_at "go"
        exact yes (.inr (.inl c1))
      walk_at "go"
      by_cases c2 : fl + o + m ≤ g.cwnd
      · walk_at "go"
        exact yes (.inr (.inr c2))
      walk_at "go"
      unfold Ct.ack at q
      rw [if_neg (by rintro (z | z | z) <;> first | exact Bool.false_ne_true z | omega)] at q
      refine g_ite (fun c3 => ?_) (fun c3 => ?_)
      · rw [if_pos c3] at q
        walk_at "go"
        rw [show (if g.cwnd + (if m < o then m else o) < 1073741824 then g.cwnd + (if m < o then m else o) else 1073741824) = min (g.cwnd + min o m) GG by show _ = min (g.cwnd + min o m) (1073741824 : Int); split <;> split <;> omega]
        simp only [List.set_cons_succ, List.set_cons_zero]
        exact q _ But.refl.upd ⟨_, upd_same, perV.butD But.refl.upd hd hp⟩
      · rw [if_neg c3] at q
        walk_at "go"
        exact ⟨d, r, g, m, now, o, rfl, hD, m0, m1, o0, o1, B, q⟩
end
end My
namespace My
open PySem PySem.Spec L2
local macro_rules | `(tactic| walk_at "side") => `(tactic| first | assumption | decide | omega | exact ⟨by decide, by decide⟩ | exact ⟨by decide, by decide, by decide⟩ | decide +kernel | exact cdivW (by decide +kernel) (by decide +kernel) | exact Or.inl ⟨by omega, by omega⟩ | exact Or.inr ⟨by omega, by omega⟩ | (simp only [List.length_map, List.length_cons, List.length_nil, List.length_append]; omega))
local macro_rules | `(tactic| walk_at "fact") => `(tactic| first | assumption | omega | with_reducible rfl)
local macro_rules | `(tactic| walk_at "use") => `(tactic| fail "use")
local macro_rules | `(tactic| walk_at "go1") => `(tactic| with_reducible first | refine g_seq ?_ | refine g_asg ?_ | refine g_ret ?_ | refine g_ifS ?_ | refine g_drop ?_ | refine g_star ?_ | refine g_nx ?_ | refine g_rt ?_ | refine g_bkE ?_ | refine g_ctE ?_ | refine g_next ?_ | refine g_retN ?_ | refine g_brk ?_ | refine g_ct ?_ | refine g_c ?_ | refine g_op ?_ | refine g_un ?_ | refine g_rI0 ?_ | refine g_rU ?_ | refine g_rEqI ?_ | refine g_rNeI ?_ | refine g_isN ?_ | refine g_rIsB ?_ | refine g_rNotB ?_ | refine g_test ?_ | refine g_B ?_ | refine g_bl ?_ | refine g_and ?_ | refine g_or ?_ | refine g_not ?_ | refine g_andV ?_ | refine g_orV ?_ | refine g_notV ?_ | refine g_if ?_ | refine g_chain ?_ | refine g_yes ?_ | refine g_lc ?_ | refine g_revR ?_ | refine g_rng1 ?_ | refine g_iList ?_ | refine g_nil ?_ | refine g_cons ?_ | refine g_tup ?_ | refine g_lst ?_ | refine g_call ?_ | refine g_CB ?_ | refine g_sl ?_ | refine g_noPart ?_ | refine g_part ?_ | refine g_intE ?_ | refine g_ref ?_ | refine g_fld ?_ | refine g_sfld ?_ | refine g_meth ?_ | refine g_make ?_ | refine g_prop ?_  | refine g_ipI ?_ | refine g_int1 ?_ | refine g_int1B ?_ | refine g_one ?_ | refine g_two ?_ | refine g_isiI ?_ | refine g_isiIB ?_ | refine g_isiB ?_ | refine g_BM ?_ | refine g_BM0 ?_ | refine g_sub ?_)
local macro_rules | `(tactic| walk_at "go") => `(tactic| repeat (first | walk_at "go1" | ((with_reducible refine' g_nameE ?sd_ ?_); case sd_ => dsimp only [List.set_cons_succ, List.set_cons_zero]) | ((with_reducible refine' g_var ?sd_ ?_); case sd_ => exact rfl) | ((with_reducible refine' g_aug ?sd_ ?_); case sd_ => exact rfl) | ((with_reducible refine' g_rI ?sd_ ?_); case sd_ => walk_at "side") | ((with_reducible refine' g_dT ?sd_ ?_); case sd_ => walk_at "fact") | ((with_reducible refine' g_dF ?sd_ ?_); case sd_ => walk_at "fact") | ((with_reducible refine' g_nT ?sd_ ?_); case sd_ => walk_at "fact") | ((with_reducible refine' g_nF ?sd_ ?_); case sd_ => walk_at "fact") | (with_reducible refine g_iT rfl ?_) | (with_reducible refine g_iF rfl ?_) | walk_at "use"))
local macro_rules | `(tactic| walk_at "nw") => `(tactic| (generalize zq : upd _ _ _ = Hq; have sq : Same _ Hq := (by rw [← zq]; exact same_upd (by assumption)); have kq := (congrFun zq _).symm.trans upd_same; clear zq))
local macro_rules | `(tactic| walk_at "bt") => `(tactic| (generalize zq : upd _ _ _ = Hq; have bq : But _ _ Hq := (by rw [← zq]; exact But.refl.upd); have kq := (congrFun zq _).symm.trans upd_same; clear zq))
local macro_rules | `(tactic| walk_at "use") => `(tactic| first | ((with_reducible refine' fd_Cubic_cwnd ?ho_ ?hv_ ?_); (case ho_ => first | assumption | exact upd_same); (case hv_ => exact rfl)) | ((with_reducible refine' fd_Cubic_thresh ?ho_ ?hv_ ?_); (case ho_ => first | assumption | exact upd_same); (case hv_ => exact rfl)) | ((with_reducible refine' fd_Cubic_peak ?ho_ ?hv_ ?_); (case ho_ => first | assumption | exact upd_same); (case hv_ => exact rfl)) | ((with_reducible refine' fd_Cubic_prior ?ho_ ?hv_ ?_); (case ho_ => first | assumption | exact upd_same); (case hv_ => exact rfl)) | ((with_reducible refine' fd_Cubic_calm ?ho_ ?hv_ ?_); (case ho_ => first | assumption | exact upd_same); (case hv_ => exact rfl)) | ((with_reducible refine' fd_Cubic_period ?ho_ ?hv_ ?_); (case ho_ => first | assumption | exact upd_same); (case hv_ => exact rfl)) | ((with_reducible refine' nw_Cubic_cwnd ?ho_ ?hv_ ?_); (case ho_ => first | assumption | exact upd_same); (case hv_ => exact rfl)) | ((with_reducible refine' nw_Cubic_thresh ?ho_ ?hv_ ?_); (case ho_ => first | assumption | exact upd_same); (case hv_ => exact rfl)) | ((with_reducible refine' nw_Cubic_peak ?ho_ ?hv_ ?_); (case ho_ => first | assumption | exact upd_same); (case hv_ => exact rfl)) | ((with_reducible refine' nw_Cubic_prior ?ho_ ?hv_ ?_); (case ho_ => first | assumption | exact upd_same); (case hv_ => exact rfl)) | ((with_reducible refine' nw_Cubic_calm ?ho_ ?hv_ ?_); (case ho_ => first | assumption | exact upd_same); (case hv_ => exact rfl)) | ((with_reducible refine' nw_Cubic_period ?ho_ ?hv_ ?_); (case ho_ => first | assumption | exact upd_same); (case hv_ => exact rfl)) | ((with_reducible refine' st_Cubic_cwnd ?ho_ ?hv_ ?_); (case ho_ => first | assumption | exact upd_same); (case hv_ => exact Nat.le_of_ble_eq_true rfl)) | ((with_reducible refine' st_Cubic_thresh ?ho_ ?hv_ ?_); (case ho_ => first | assumption | exact upd_same); (case hv_ => exact Nat.le_of_ble_eq_true rfl)) | ((with_reducible refine' st_Cubic_peak ?ho_ ?hv_ ?_); (case ho_ => first | assumption | exact upd_same); (case hv_ => exact Nat.le_of_ble_eq_true rfl)) | ((with_reducible refine' st_Cubic_prior ?ho_ ?hv_ ?_); (case ho_ => first | assumption | exact upd_same); (case hv_ => exact Nat.le_of_ble_eq_true rfl)) | ((with_reducible refine' st_Cubic_calm ?ho_ ?hv_ ?_); (case ho_ => first | assumption | exact upd_same); (case hv_ => exact Nat.le_of_ble_eq_true rfl)) | ((with_reducible refine' st_Cubic_period ?ho_ ?hv_ ?_); (case ho_ => first | assumption | exact upd_same); (case hv_ => exact Nat.le_of_ble_eq_true rfl)) | ((with_reducible refine' me_Cubic_fork ?ho_ ?_); (case ho_ => first | assumption | exact upd_same)) | ((with_reducible refine' me_Cubic_avoid ?ho_ ?_); (case ho_ => first | assumption | exact upd_same)) | ((with_reducible refine' me_Cubic_new_period ?ho_ ?_); (case ho_ => first | assumption | exact upd_same)) | ((with_reducible refine' me_Cubic_share ?ho_ ?_); (case ho_ => first | assumption | exact upd_same)) | ((with_reducible refine' me_Cubic_begin_anew ?ho_ ?_); (case ho_ => first | assumption | exact upd_same)) | ((with_reducible refine' me_Cubic_acknowledge ?ho_ ?_); (case ho_ => first | assumption | exact upd_same)) | ((with_reducible refine' me_Cubic_lose ?ho_ ?_); (case ho_ => first | assumption | exact upd_same)) | ((with_reducible refine' me_Cubic_time_out ?ho_ ?_); (case ho_ => first | assumption | exact upd_same)) | ((with_reducible refine' me_Cubic_mark ?ho_ ?_); (case ho_ => first | assumption | exact upd_same)) | ((with_reducible refine' me_Cubic_bounded ?ho_ ?_); (case ho_ => first | assumption | exact upd_same)) | ((with_reducible refine' me_Cubic_give_to ?ho_ ?_); (case ho_ => first | assumption | exact upd_same)))
local macro_rules | `(tactic| walk_at "use") => `(tactic| first | ((with_reducible refine' fd_Reno_cwnd ?ho_ ?hv_ ?_); (case ho_ => first | assumption | exact upd_same); (case hv_ => exact rfl)) | ((with_reducible refine' fd_Reno_thresh ?ho_ ?hv_ ?_); (case ho_ => first | assumption | exact upd_same); (case hv_ => exact rfl)) | ((with_reducible refine' fd_Reno_peak ?ho_ ?hv_ ?_); (case ho_ => first | assumption | exact upd_same); (case hv_ => exact rfl)) | ((with_reducible refine' fd_Reno_prior ?ho_ ?hv_ ?_); (case ho_ => first | assumption | exact upd_same); (case hv_ => exact rfl)) | ((with_reducible refine' fd_Reno_calm ?ho_ ?hv_ ?_); (case ho_ => first | assumption | exact upd_same); (case hv_ => exact rfl)) | ((with_reducible refine' fd_Reno_credit ?ho_ ?hv_ ?_); (case ho_ => first | assumption | exact upd_same); (case hv_ => exact rfl)) | ((with_reducible refine' nw_Reno_cwnd ?ho_ ?hv_ ?_); (case ho_ => first | assumption | exact upd_same); (case hv_ => exact rfl)) | ((with_reducible refine' nw_Reno_thresh ?ho_ ?hv_ ?_); (case ho_ => first | assumption | exact upd_same); (case hv_ => exact rfl)) | ((with_reducible refine' nw_Reno_peak ?ho_ ?hv_ ?_); (case ho_ => first | assumption | exact upd_same); (case hv_ => exact rfl)) | ((with_reducible refine' nw_Reno_prior ?ho_ ?hv_ ?_); (case ho_ => first | assumption | exact upd_same); (case hv_ => exact rfl)) | ((with_reducible refine' nw_Reno_calm ?ho_ ?hv_ ?_); (case ho_ => first | assumption | exact upd_same); (case hv_ => exact rfl)) | ((with_reducible refine' nw_Reno_credit ?ho_ ?hv_ ?_); (case ho_ => first | assumption | exact upd_same); (case hv_ => exact rfl)) | ((with_reducible refine' st_Reno_cwnd ?ho_ ?hv_ ?_); (case ho_ => first | assumption | exact upd_same); (case hv_ => exact Nat.le_of_ble_eq_true rfl)) | ((with_reducible refine' st_Reno_thresh ?ho_ ?hv_ ?_); (case ho_ => first | assumption | exact upd_same); (case hv_ => exact Nat.le_of_ble_eq_true rfl)) | ((with_reducible refine' st_Reno_peak ?ho_ ?hv_ ?_); (case ho_ => first | assumption | exact upd_same); (case hv_ => exact Nat.le_of_ble_eq_true rfl)) | ((with_reducible refine' st_Reno_prior ?ho_ ?hv_ ?_); (case ho_ => first | assumption | exact upd_same); (case hv_ => exact Nat.le_of_ble_eq_true rfl)) | ((with_reducible refine' st_Reno_calm ?ho_ ?hv_ ?_); (case ho_ => first | assumption | exact upd_same); (case hv_ => exact Nat.le_of_ble_eq_true rfl)) | ((with_reducible refine' st_Reno_credit ?ho_ ?hv_ ?_); (case ho_ => first | assumption | exact upd_same); (case hv_ => exact Nat.le_of_ble_eq_true rfl)) | ((with_reducible refine' me_Reno_fork ?ho_ ?_); (case ho_ => first | assumption | exact upd_same)) | ((with_reducible refine' me_Reno_avoid ?ho_ ?_); (case ho_ => first | assumption | exact upd_same)) | ((with_reducible refine' me_Reno_share ?ho_ ?_); (case ho_ => first | assumption | exact upd_same)) | ((with_reducible refine' me_Reno_begin_anew ?ho_ ?_); (case ho_ => first | assumption | exact upd_same)) | ((with_reducible refine' me_Reno_acknowledge ?ho_ ?_); (case ho_ => first | assumption | exact upd_same)) | ((with_reducible refine' me_Reno_lose ?ho_ ?_); (case ho_ => first | assumption | exact upd_same)) | ((with_reducible refine' me_Reno_time_out ?ho_ ?_); (case ho_ => first | assumption | exact upd_same)) | ((with_reducible refine' me_Reno_mark ?ho_ ?_); (case ho_ => first | assumption | exact upd_same)) | ((with_reducible refine' me_Reno_bounded ?ho_ ?_); (case ho_ => first | assumption | exact upd_same)) | ((with_reducible refine' me_Reno_give_to ?ho_ ?_); (case ho_ => first | assumption | exact upd_same)))
local macro_rules | `(tactic| walk_at "use") => `(tactic| first | ((with_reducible refine' dg_S_reno ?ho_ ?hv_ ?_); (case ho_ => first | assumption | exact upd_same); (case hv_ => exact rfl)) | ((with_reducible refine' dg_S_cwnd ?ho_ ?hv_ ?_); (case ho_ => first | assumption | exact upd_same); (case hv_ => exact rfl)) | ((with_reducible refine' dg_S_thresh ?ho_ ?hv_ ?_); (case ho_ => first | assumption | exact upd_same); (case hv_ => exact rfl)) | ((with_reducible refine' dg_S_peak ?ho_ ?hv_ ?_); (case ho_ => first | assumption | exact upd_same); (case hv_ => exact rfl)) | ((with_reducible refine' dg_S_prior ?ho_ ?hv_ ?_); (case ho_ => first | assumption | exact upd_same); (case hv_ => exact rfl)) | ((with_reducible refine' dg_S_calm ?ho_ ?hv_ ?_); (case ho_ => first | assumption | exact upd_same); (case hv_ => exact rfl)) | ((with_reducible refine' dg_S_credit ?ho_ ?hv_ ?_); (case ho_ => first | assumption | exact upd_same); (case hv_ => exact rfl)) | ((with_reducible refine' dg_S_period ?ho_ ?hv_ ?_); (case ho_ => first | assumption | exact upd_same); (case hv_ => exact rfl)) | ((with_reducible refine' dn_S_reno ?ho_ ?hv_ ?_); (case ho_ => first | assumption | exact upd_same); (case hv_ => exact rfl)) | ((with_reducible refine' dn_S_cwnd ?ho_ ?hv_ ?_); (case ho_ => first | assumption | exact upd_same); (case hv_ => exact rfl)) | ((with_reducible refine' dn_S_thresh ?ho_ ?hv_ ?_); (case ho_ => first | assumption | exact upd_same); (case hv_ => exact rfl)) | ((with_reducible refine' dn_S_peak ?ho_ ?hv_ ?_); (case ho_ => first | assumption | exact upd_same); (case hv_ => exact rfl)) | ((with_reducible refine' dn_S_prior ?ho_ ?hv_ ?_); (case ho_ => first | assumption | exact upd_same); (case hv_ => exact rfl)) | ((with_reducible refine' dn_S_calm ?ho_ ?hv_ ?_); (case ho_ => first | assumption | exact upd_same); (case hv_ => exact rfl)) | ((with_reducible refine' dn_S_credit ?ho_ ?hv_ ?_); (case ho_ => first | assumption | exact upd_same); (case hv_ => exact rfl)) | ((with_reducible refine' dn_S_period ?ho_ ?hv_ ?_); (case ho_ => first | assumption | exact upd_same); (case hv_ => exact rfl)) | ((with_reducible refine' dp_S_reno ?ho_ ?hv_ ?_); (case ho_ => first | assumption | exact upd_same); (case hv_ => exact Nat.le_of_ble_eq_true rfl)) | ((with_reducible refine' dp_S_cwnd ?ho_ ?hv_ ?_); (case ho_ => first | assumption | exact upd_same); (case hv_ => exact Nat.le_of_ble_eq_true rfl)) | ((with_reducible refine' dp_S_thresh ?ho_ ?hv_ ?_); (case ho_ => first | assumption | exact upd_same); (case hv_ => exact Nat.le_of_ble_eq_true rfl)) | ((with_reducible refine' dp_S_peak ?ho_ ?hv_ ?_); (case ho_ => first | assumption | exact upd_same); (case hv_ => exact Nat.le_of_ble_eq_true rfl)) | ((with_reducible refine' dp_S_prior ?ho_ ?hv_ ?_); (case ho_ => first | assumption | exact upd_same); (case hv_ => exact Nat.le_of_ble_eq_true rfl)) | ((with_reducible refine' dp_S_calm ?ho_ ?hv_ ?_); (case ho_ => first | assumption | exact upd_same); (case hv_ => exact Nat.le_of_ble_eq_true rfl)) | ((with_reducible refine' dp_S_credit ?ho_ ?hv_ ?_); (case ho_ => first | assumption | exact upd_same); (case hv_ => exact Nat.le_of_ble_eq_true rfl)) | ((with_reducible refine' dp_S_period ?ho_ ?hv_ ?_); (case ho_ => first | assumption | exact upd_same); (case hv_ => exact Nat.le_of_ble_eq_true rfl)))
local macro_rules | `(tactic| walk_at "use") => `(tactic| with_reducible first | refine g_dgetT ?_ | refine g_dputT ?_)
section
variable {P : Program} {w : World} {K : PySem.W.Frag} {mg : Str → Option Value} {base : Heap}
local macro_rules | `(tactic| walk_at "use") => `(tactic| with_reducible first | refine g_dgetT ?_ | refine g_dputT ?_ | refine g_gcons ?_ | refine g_gnil ?_ | refine g_cval ?_ | refine cvq_Control_GREATEST ?_ | refine g_methN ?_ | refine u_num rfl ?_ | refine u_isint ?_)
def CtA (C1 C2 : Addr) (r : Bool) : Addr := match r with | true => C1 | false => C2
def sp_l_right (C1 C2 : Addr) : Sp := fun vs H Q _ => ∃ (r : Bool) (p d : Addr) (g : Ct), vs = [.ref p, .ref d] ∧ CtO r (CtA C1 C2 r) H p g ∧ StD H d r g ∧ Q (.bl true) H
theorem ok_l_right (T : Txt P K mg) : FnOk P w K mg base CX0 3 T.f_l_right T.d_l_right ["control", "state"] (sp_l_right T.C_Reno T.C_Cubic) := by
  refine T.F_l_right.ok sc_l_right (fun vs H Q E h => ?_) (fun cdv A outer s H vs Q E hr h => ?_)
  · obtain ⟨r, p, d, g, rfl, O, ⟨pe, hd, hp⟩, q⟩ := h
    rfl
  · obtain ⟨r, p, d, g, rfl, O, ⟨pe, hd, hp⟩, q⟩ := h
    have hu := hu_of hr
    refine ⟨_, (pss_cons (ps_if (PW.pt (pw_or (pt_not (pt_val (pe_callB call_isi (by rfl) T.n_isinstance (by decide +kernel) (pa_cons (pv 0) (pa_cons (pe_glob (v := .ref T.C_Control) (by rfl) T.c_Control rfl) pa_nil))))) (pw_or1 (pt_cmpR op_ne (ClX.pe_cval (pe_glob (v := .ref T.C_Control) (by rfl) T.c_Control rfl)) pe_int (nomark _))))) (pss_one (ps_ret pe_bl)) pss_nil)
        (pss_cons (ps_if (PW.pt (pw_or (pt_not (pt_val (pe_call (ok_l_number T) (hr.mono (by decide)) rfl T.m_l_number T.F_l_number.kp T.b_l_number .nil pass0 (pa_cons (pe_fld (pv 0) rfl) (pa_cons (pe_dget hu (pv 1) pe_str (fun _ _ => rfl)) pa_nil))))) (pw_or1 (pt_not (pt_val (pe_call (ok_l_number T) (hr.mono (by decide)) rfl T.m_l_number T.F_l_number.kp T.b_l_number .nil pass0 (pa_cons (pe_fld (pv 0) rfl) (pa_cons (pe_dget hu (pv 1) pe_str (fun _ _ => rfl)) pa_nil)))))))) (pss_one (ps_ret pe_bl)) pss_nil)
        (pss_cons (ps_if (PW.pt (pw_or (pt_not (pt_val (pe_call (ok_l_number T) (hr.mono (by decide)) rfl T.m_l_number T.F_l_number.kp T.b_l_number .nil pass0 (pa_cons (pe_fld (pv 0) rfl) (pa_cons (pe_dget hu (pv 1) pe_str (fun _ _ => rfl)) pa_nil))))) (pw_or1 (pt_not (pt_val (pe_call (ok_l_number T) (hr.mono (by decide)) rfl T.m_l_number T.F_l_number.kp T.b_l_number .nil pass0 (pa_cons (pe_fld (pv 0) rfl) (pa_cons (pe_dget hu (pv 1) pe_str (fun _ _ => rfl)) pa_nil)))))))) (pss_one (ps_ret pe_bl)) pss_nil)
        (pss_cons (ps_if (pt_not (pt_val (pe_call (ok_l_number T) (hr.mono (by decide)) rfl T.m_l_number T.F_l_number.kp T.b_l_number .nil pass0 (pa_cons (pe_fld (pv 0) rfl) (pa_cons (pe_dget hu (pv 1) pe_str (fun _ _ => rfl)) pa_nil))))) (pss_one (ps_ret pe_bl)) pss_nil)
        (pss_cons (ps_if (pt_val (pe_dget hu (pv 1) pe_str (fun _ _ => rfl))) (pss_one (ps_ret (pe_and (pe_callB call_isi (by rfl) T.n_isinstance (by decide +kernel) (pa_cons (pv 0) (pa_cons (pe_glob (v := .ref T.C_Reno) (by rfl) T.c_Reno rfl) pa_nil))) (pe_one (pe_call (ok_l_number T) (hr.mono (by decide)) rfl T.m_l_number T.F_l_number.kp T.b_l_number .nil pass0 (pa_cons (pe_fld (pv 0) rfl) (pa_cons (pe_dget hu (pv 1) pe_str (fun _ _ => rfl)) pa_nil))))))) pss_nil)
        (pss_cons (ps_if (pt_not (pt_val (pe_callB call_isi (by rfl) T.n_isinstance (by decide +kernel) (pa_cons (pv 0) (pa_cons (pe_glob (v := .ref T.C_Cubic) (by rfl) T.c_Cubic rfl) pa_nil))))) (pss_one (ps_ret pe_bl)) pss_nil)
        (pss_cons (ps_if (PW.pt (pw_or (pt_cmpR op_isN (pe_dget hu (pv 1) pe_str (fun _ _ => rfl)) pe_non (nomark _)) (pw_or1 (pt_cmpR op_isN (pe_fld (pv 0) rfl) pe_non (nomark _))))) (pss_one (ps_ret (pe_and (pe_cmpR op_isN (pe_dget hu (pv 1) pe_str (fun _ _ => rfl)) pe_non (nomark _)) (pe_one (pe_cmpR op_isN (pe_fld (pv 0) rfl) pe_non (nomark _)))))) pss_nil)
        (pss_cons (ps_if (PW.pt (pw_or (pt_not (pt_val (pe_callB call_isi (by rfl) T.n_isinstance (by decide +kernel) (pa_cons (pe_fld (pv 0) rfl) (pa_cons (pe_bltn (v := .ty "tuple") (by rfl) T.n_tuple (by decide +kernel) rfl) pa_nil))))) (pw_or1 (pt_cmpR op_ne (pe_callB call_len_seq (by rfl) T.n_len (by decide +kernel) (pa_cons (pe_fld (pv 0) rfl) pa_nil)) pe_int (nomark _))))) (pss_one (ps_ret pe_bl)) pss_nil)
        (pss_cons (ps_for PassesOwn.never rfl (pi_range1 (by rfl) T.n_range (pa_cons pe_int pa_nil)) (pg_name (i := 2) sc_l_right.nd rfl (Or.inl rfl)) (pss_one (ps_if (pt_not (pt_val (pe_call (ok_l_number T) (hr.mono (by decide)) rfl T.m_l_number T.F_l_number.kp T.b_l_number .nil pass0 (pa_cons (pe_ix ix_seq (pe_fld (pv 0) rfl) (pv 2) (fun _ _ => rfl)) (pa_cons (pe_ix ix_seq (pe_dget hu (pv 1) pe_str (fun _ _ => rfl)) (pv 2) (fun _ _ => rfl)) pa_nil))))) (pss_one (ps_ret pe_bl)) pss_nil)))
        (pss_one (ps_ret pe_bl))))))))))), ?_⟩
    dsimp only [cxOf, Cx.nox, Cx.wish, L2.start, List.map, List.cons_append, List.nil_append, List.length_cons, List.length_nil, Nat.reduceAdd, Nat.reduceSub, Nat.zero_add, List.replicate_succ, List.replicate_zero]
    cases r with
    | true =>
      obtain ⟨dx, ho⟩ := O.reno
      unfold CtA at ho
      dsimp only at ho
      walk_at "go"
      refine g_isi (.own _) (.base (T.i_Reno ho)) T.ks_Reno_Control ?_
      walk_at "go"
      refine g_isi (.own _) (.base (T.i_Reno ho)) (if_pos (beq_self_eq_true _)) ?_
      walk_at "go"
      exact q
    | false =>
      obtain ⟨dx, e, ho, hE⟩ := O.cubic
      unfold CtA at ho
      dsimp only at ho
      walk_at "go"
      refine g_isi (.own _) (.base (T.i_Cubic ho)) T.ks_Cubic_Control ?_
      walk_at "go"
      refine g_isi (.own _) (.base (T.i_Cubic ho)) (if_pos (beq_self_eq_true _)) ?_
      walk_at "go"
      cases hg : g.per with
      | none =>
        rw [hg] at hE hp
        have hE : e = .non := hE
        have hp : pe = .non := hp
        subst hE
        subst hp
        walk_at "go"
        exact q
      | some z =>
        obtain ⟨a, b, c, dd, f⟩ := z
        rw [hg] at hE hp
        obtain ⟨t1, e1, ht1⟩ := hE
        obtain ⟨t2, e2, ht2⟩ := hp
        subst e1
        subst e2
        walk_at "go"
        refine g_isiU ht1 ?_
        walk_at "go"
        refine g_len (.inr (st ht1)) ?_
        walk_at "go"
        refine for_r (n := 5) 5 rfl (by omega) (by omega) (fun i σ' H' => H' = H ∧ ∃ (v : Option V), σ' = [some (.ref p), some (.ref d), v]) ?start ?turn ?done ?ev
        case ev =>
          intro Y yy
          walk_at "go"
          exact yy
        case start => exact ⟨rfl, _, rfl⟩
        case done =>
          rintro σ' H' ⟨rfl, v, rfl⟩
          walk_at "go"
          exact q
        case turn =>
          rintro i σ' H' hi ⟨rfl, v, rfl⟩
          obtain ⟨x, hx⟩ : ∃ x : Int, [V.int a, V.int b, V.int c, V.int dd, V.int f][i]? = some (.int x) := by
            match i, hi with
            | 0, _ => exact ⟨_, rfl⟩
            | 1, _ => exact ⟨_, rfl⟩
            | 2, _ => exact ⟨_, rfl⟩
            | 3, _ => exact ⟨_, rfl⟩
            | 4, _ => exact ⟨_, rfl⟩
          have hx2 : atI [V.int a, V.int b, V.int c, V.int dd, V.int f] (i : Int) = some (.int x) := at_of (j := i) rfl hx
          walk_at "go"
          refine .inr (.inl (g_ixT (st ht1) hx2 ?_))
          walk_at "go"
          refine .inr (.inl (g_ixT (st ht2) hx2 ?_))
          walk_at "go"
          exact ⟨rfl, _, rfl⟩
/-- all that stands stands, but at p and d -/
def Bt2 (p d : Addr) (H H' : Hp) : Prop := ∀ b o, b ≠ p → b ≠ d → H b = some o → H' b = some o
theorem CtO.bt2 {r : Bool} {C C' p0 p d dx : Addr} {fs : List (Str × V)} {kvs : List (Key × V)} {H H' : Hp} {g : Ct} (h : CtO r C H p0 g) (b : Bt2 p d H H') (hp : H p = some (.ins C' dx fs)) (hd : H d = some (.dK kvs)) (n : p0 ≠ p) : CtO r C H' p0 g := by
  obtain ⟨dy, e, h1, h2⟩ := h
  refine ⟨dy, e, b _ _ n (fun z => by rw [z, hd] at h1; cases h1) h1, ?_⟩
  cases r with
  | true => exact h2
  | false =>
    have h2 : perV H e g.per := h2
    show perV H' e g.per
    revert h2
    generalize g.per = o
    intro h2
    match o, h2 with
    | none, h => exact h
    | some (_, _, _, _, _), ⟨t, z1, z2⟩ => exact ⟨t, z1, b _ _ (fun z => by rw [z, hp] at z2; cases z2) (fun z => by rw [z, hd] at z2; cases z2) z2⟩
theorem StD.bt2 {r : Bool} {C' d0 p d dx : Addr} {fs : List (Str × V)} {kvs : List (Key × V)} {H H' : Hp} {g : Ct} (h : StD H d0 r g) (b : Bt2 p d H H') (hp : H p = some (.ins C' dx fs)) (hd : H d = some (.dK kvs)) (n : d0 ≠ d) : StD H' d0 r g := by
  obtain ⟨e, h1, h2⟩ := h
  refine ⟨e, b _ _ (fun z => by rw [z, hp] at h1; cases h1) n h1, ?_⟩
  revert h2
  generalize g.per = o
  intro h2
  match o, h2 with
  | none, h => exact h
  | some (_, _, _, _, _), ⟨t, z1, z2⟩ => exact ⟨t, z1, b _ _ (fun z => by rw [z, hp] at z2; cases z2) (fun z => by rw [z, hd] at z2; cases z2) z2⟩
theorem CtO.butD {r : Bool} {C p d : Addr} {kvs : List (Key × V)} {H H' : Hp} {g : Ct} (h : CtO r C H p g) (b : But d H H') (hd : H d = some (.dK kvs)) : CtO r C H' p g := by
  obtain ⟨dy, e, h1, h2⟩ := h
  refine ⟨dy, e, b _ _ (fun z => by rw [z, hd] at h1; cases h1) h1, ?_⟩
  cases r with
  | true => exact h2
  | false => exact perV.butD b hd h2
theorem StD.butP {r : Bool} {C p d dx : Addr} {fs : List (Str × V)} {H H' : Hp} {g : Ct} (h : StD H d r g) (b : But p H H') (hp : H p = some (.ins C dx fs)) : StD H' d r g := by
  obtain ⟨e, h1, h2⟩ := h
  exact ⟨e, b _ _ (fun z => by rw [z, hp] at h1; cases h1) h1, perV.but b hp h2⟩
theorem ack_calm {r : Bool} {g : Ct} {m now o fl : Int} {rec : Bool} : (g.ack r m now o fl rec).calm = g.calm := by
  unfold Ct.ack
  split
  · rfl
  split
  · rfl
  cases r with
  | true =>
    unfold Ct.avoid
    dsimp only
    split <;> rfl
  | false => rfl
def Starts (g : Ct) : Prop := ∀ a b c d e, g.per = some (a, b, c, d, e) → 0 ≤ a
end
end My
namespace My
open PySem PySem.Spec L2
local macro_rules | `(tactic| walk_at "side") => `(tactic| first | assumption | decide | omega | exact ⟨by decide, by decide⟩ | exact ⟨by decide, by decide, by decide⟩ | decide +kernel | exact cdivW (by decide +kernel) (by decide +kernel) | exact Or.inl ⟨by omega, by omega⟩ | exact Or.inr ⟨by omega, by omega⟩ | (simp only [List.length_map, List.length_cons, List.length_nil, List.length_append]; omega))
local macro_rules | `(tactic| walk_at "fact") => `(tactic| first | assumption | omega | with_reducible rfl)
local macro_rules | `(tactic| walk_at "use") => `(tactic| fail "use")
local macro_rules | `(tactic| walk_at "go1") => `(tactic| with_reducible first | refine g_seq ?_ | refine g_asg ?_ | refine g_ret ?_ | refine g_ifS ?_ | refine g_drop ?_ | refine g_star ?_ | refine g_nx ?_ | refine g_rt ?_ | refine g_bkE ?_ | refine g_ctE ?_ | refine g_next ?_ | refine g_retN ?_ | refine g_brk ?_ | refine g_ct ?_ | refine g_c ?_ | refine g_op ?_ | refine g_un ?_ | refine g_rI0 ?_ | refine g_rU ?_ | refine g_rEqI ?_ | refine g_rNeI ?_ | refine g_isN ?_ | refine g_rIsB ?_ | refine g_rNotB ?_ | refine g_test ?_ | refine g_B ?_ | refine g_bl ?_ | refine g_and ?_ | refine g_or ?_ | refine g_not ?_ | refine g_andV ?_ | refine g_orV ?_ | refine g_notV ?_ | refine g_if ?_ | refine g_chain ?_ | refine g_yes ?_ | refine g_lc ?_ | refine g_revR ?_ | refine g_rng1 ?_ | refine g_iList ?_ | refine g_nil ?_ | refine g_cons ?_ | refine g_tup ?_ | refine g_lst ?_ | refine g_call ?_ | refine g_CB ?_ | refine g_sl ?_ | refine g_noPart ?_ | refine g_part ?_ | refine g_intE ?_ | refine g_ref ?_ | refine g_fld ?_ | refine g_sfld ?_ | refine g_meth ?_ | refine g_make ?_ | refine g_prop ?_  | refine g_ipI ?_ | refine g_int1 ?_ | refine g_int1B ?_ | refine g_one ?_ | refine g_two ?_ | refine g_isiI ?_ | refine g_isiIB ?_ | refine g_isiB ?_ | refine g_BM ?_ | refine g_BM0 ?_ | refine g_sub ?_)
local macro_rules | `(tactic| walk_at "go") => `(tactic| repeat (first | walk_at "go1" | ((with_reducible refine' g_nameE ?sd_ ?_); case sd_ => dsimp only [List.set_cons_succ, List.set_cons_zero]) | ((with_reducible refine' g_var ?sd_ ?_); case sd_ => exact rfl) | ((with_reducible refine' g_aug ?sd_ ?_); case sd_ => exact rfl) | ((with_reducible refine' g_rI ?sd_ ?_); case sd_ => walk_at "side") | ((with_reducible refine' g_dT ?sd_ ?_); case sd_ => walk_at "fact") | ((with_reducible refine' g_dF ?sd_ ?_); case sd_ => walk_at "fact") | ((with_reducible refine' g_nT ?sd_ ?_); case sd_ => walk_at "fact") | ((with_reducible refine' g_nF ?sd_ ?_); case sd_ => walk_at "fact") | (with_reducible refine g_iT rfl ?_) | (with_reducible refine g_iF rfl ?_) | walk_at "use"))
local macro_rules | `(tactic| walk_at "nw") => `(tactic| (generalize zq : upd _ _ _ = Hq; have sq : Same _ Hq := (by rw [← zq]; exact same_upd (by assumption)); have kq := (congrFun zq _).symm.trans upd_same; clear zq))
local macro_rules | `(tactic| walk_at "bt") => `(tactic| (generalize zq : upd _ _ _ = Hq; have bq : But _ _ Hq := (by rw [← zq]; exact But.refl.upd); have kq := (congrFun zq _).symm.trans upd_same; clear zq))
local macro_rules | `(tactic| walk_at "use") => `(tactic| first | ((with_reducible refine' fd_Cubic_cwnd ?ho_ ?hv_ ?_); (case ho_ => first | assumption | exact upd_same); (case hv_ => exact rfl)) | ((with_reducible refine' fd_Cubic_thresh ?ho_ ?hv_ ?_); (case ho_ => first | assumption | exact upd_same); (case hv_ => exact rfl)) | ((with_reducible refine' fd_Cubic_peak ?ho_ ?hv_ ?_); (case ho_ => first | assumption | exact upd_same); (case hv_ => exact rfl)) | ((with_reducible refine' fd_Cubic_prior ?ho_ ?hv_ ?_); (case ho_ => first | assumption | exact upd_same); (case hv_ => exact rfl)) | ((with_reducible refine' fd_Cubic_calm ?ho_ ?hv_ ?_); (case ho_ => first | assumption | exact upd_same); (case hv_ => exact rfl)) | ((with_reducible refine' fd_Cubic_period ?ho_ ?hv_ ?_); (case ho_ => first | assumption | exact upd_same); (case hv_ => exact rfl)) | ((with_reducible refine' nw_Cubic_cwnd ?ho_ ?hv_ ?_); (case ho_ => first | assumption | exact upd_same); (case hv_ => exact rfl)) | ((with_reducible refine' nw_Cubic_thresh ?ho_ ?hv_ ?_); (case ho_ => first | assumption | exact upd_same); (case hv_ => exact rfl)) | ((with_reducible refine' nw_Cubic_peak ?ho_ ?hv_ ?_); (case ho_ => first | assumption | exact upd_same); (case hv_ => exact rfl)) | ((with_reducible refine' nw_Cubic_prior ?ho_ ?hv_ ?_); (case ho_ => first | assumption | exact upd_same); (case hv_ => exact rfl)) | ((with_reducible refine' nw_Cubic_calm ?ho_ ?hv_ ?_); (case ho_ => first | assumption | exact upd_same); (case hv_ => exact rfl)) | ((with_reducible refine' nw_Cubic_period ?ho_ ?hv_ ?_); (case ho_ => first | assumption | exact upd_same); (case hv_ => exact rfl)) | ((with_reducible refine' st_Cubic_cwnd ?ho_ ?hv_ ?_); (case ho_ => first | assumption | exact upd_same); (case hv_ => exact Nat.le_of_ble_eq_true rfl)) | ((with_reducible refine' st_Cubic_thresh ?ho_ ?hv_ ?_); (case ho_ => first | assumption | exact upd_same); (case hv_ => exact Nat.le_of_ble_eq_true rfl)) | ((with_reducible refine' st_Cubic_peak ?ho_ ?hv_ ?_); (case ho_ => first | assumption | exact upd_same); (case hv_ => exact Nat.le_of_ble_eq_true rfl)) | ((with_reducible refine' st_Cubic_prior ?ho_ ?hv_ ?_); (case ho_ => first | assumption | exact upd_same); (case hv_ => exact Nat.le_of_ble_eq_true rfl)) | ((with_reducible refine' st_Cubic_calm ?ho_ ?hv_ ?_); (case ho_ => first | assumption | exact upd_same); (case hv_ => exact Nat.le_of_ble_eq_true rfl)) | ((with_reducible refine' st_Cubic_period ?ho_ ?hv_ ?_); (case ho_ => first | assumption | exact upd_same); (case hv_ => exact Nat.le_of_ble_eq_true rfl)) | ((with_reducible refine' me_Cubic_fork ?ho_ ?_); (case ho_ => first | assumption | exact upd_same)) | ((with_reducible refine' me_Cubic_avoid ?ho_ ?_); (case ho_ => first | assumption | exact upd_same)) | ((with_reducible refine' me_Cubic_new_period ?ho_ ?_); (case ho_ => first | assumption | exact upd_same)) | ((with_reducible refine' me_Cubic_share ?ho_ ?_); (case ho_ => first | assumption | exact upd_same)) | ((with_reducible refine' me_Cubic_begin_anew ?ho_ ?_); (case ho_ => first | assumption | exact upd_same)) | ((with_reducible refine' me_Cubic_acknowledge ?ho_ ?_); (case ho_ => first | assumption | exact upd_same)) | ((with_reducible refine' me_Cubic_lose ?ho_ ?_); (case ho_ => first | assumption | exact upd_same)) | ((with_reducible refine' me_Cubic_time_out ?ho_ ?_); (case ho_ => first | assumption | exact upd_same)) | ((with_reducible refine' me_Cubic_mark ?ho_ ?_); (case ho_ => first | assumption | exact upd_same)) | ((with_reducible refine' me_Cubic_bounded ?ho_ ?_); (case ho_ => first | assumption | exact upd_same)) | ((with_reducible refine' me_Cubic_give_to ?ho_ ?_); (case ho_ => first | assumption | exact upd_same)))
local macro_rules | `(tactic| walk_at "use") => `(tactic| first | ((with_reducible refine' fd_Reno_cwnd ?ho_ ?hv_ ?_); (case ho_ => first | assumption | exact upd_same); (case hv_ => exact rfl)) | ((with_reducible refine' fd_Reno_thresh ?ho_ ?hv_ ?_); (case ho_ => first | assumption | exact upd_same); (case hv_ => exact rfl)) | ((with_reducible refine' fd_Reno_peak ?ho_ ?hv_ ?_); (case ho_ => first | assumption | exact upd_same); (case hv_ => exact rfl)) | ((with_reducible refine' fd_Reno_prior ?ho_ ?hv_ ?_); (case ho_ => first | assumption | exact upd_same); (case hv_ => exact rfl)) | ((with_reducible refine' fd_Reno_calm ?ho_ ?hv_ ?_); (case ho_ => first | assumption | exact upd_same); (case hv_ => exact rfl)) | ((with_reducible refine' fd_Reno_credit ?ho_ ?hv_ ?_); (case ho_ => first | assumption | exact upd_same); (case hv_ => exact rfl)) | ((with_reducible refine' nw_Reno_cwnd ?ho_ ?hv_ ?_); (case ho_ => first | assumption | exact upd_same); (case hv_ => exact rfl)) | ((with_reducible refine' nw_Reno_thresh ?ho_ ?hv_ ?_); (case ho_ => first | assumption | exact upd_same); (case hv_ => exact rfl)) | ((with_reducible refine' nw_Reno_peak ?ho_ ?hv_ ?_); (case ho_ => first | assumption | exact upd_same); (case hv_ => exact rfl)) | ((with_reducible refine' nw_Reno_prior ?ho_ ?hv_ ?_); (case ho_ => first | assumption | exact upd_same); (case hv_ => exact rfl)) | ((with_reducible refine' nw_Reno_calm ?ho_ ?hv_ ?_); (case ho_ => first | assumption | exact upd_same); (case hv_ => exact rfl)) | ((with_reducible refine' nw_Reno_credit ?ho_ ?hv_ ?_); (case ho_ => first | assumption | exact upd_same); (case hv_ => exact rfl)) | ((with_reducible refine' st_Reno_cwnd ?ho_ ?hv_ ?_); (case ho_ => first | assumption | exact upd_same); (case hv_ => exact Nat.le_of_ble_eq_true rfl)) | ((with_reducible refine' st_Reno_thresh ?ho_ ?hv_ ?_); (case ho_ => first | assumption | exact upd_same); (case hv_ => exact Nat.le_of_ble_eq_true rfl)) | ((with_reducible refine' st_Reno_peak ?ho_ ?hv_ ?_); (case ho_ => first | assumption | exact upd_same); (case hv_ => exact Nat.le_of_ble_eq_true rfl)) | ((with_reducible refine' st_Reno_prior ?ho_ ?hv_ ?_); (case ho_ => first | assumption | exact upd_same); (case hv_ => exact Nat.le_of_ble_eq_true rfl)) | ((with_reducible refine' st_Reno_calm ?ho_ ?hv_ ?_); (case ho_ => first | assumption | exact upd_same); (case hv_ => exact Nat.le_of_ble_eq_true rfl)) | ((with_reducible refine' st_Reno_credit ?ho_ ?hv_ ?_); (case ho_ => first | assumption | exact upd_same); (case hv_ => exact Nat.le_of_ble_eq_true rfl)) | ((with_reducible refine' me_Reno_fork ?ho_ ?_); (case ho_ => first | assumption | exact upd_same)) | ((with_reducible refine' me_Reno_avoid ?ho_ ?_); (case ho_ => first | assumption | exact upd_same)) | ((with_reducible refine' me_Reno_share ?ho_ ?_); (case ho_ => first | assumption | exact upd_same)) | ((with_reducible refine' me_Reno_begin_anew ?ho_ ?_); (case ho_ => first | assumption | exact upd_same)) | ((with_reducible refine' me_Reno_acknowledge ?ho_ ?_); (case ho_ => first | assumption | exact upd_same)) | ((with_reducible refine' me_Reno_lose ?ho_ ?_); (case ho_ => first | assumption | exact upd_same)) | ((with_reducible refine' me_Reno_time_out ?ho_ ?_); (case ho_ => first | assumption | exact upd_same)) | ((with_reducible refine' me_Reno_mark ?ho_ ?_); (case ho_ => first | assumption | exact upd_same)) | ((with_reducible refine' me_Reno_bounded ?ho_ ?_); (case ho_ => first | assumption | exact upd_same)) | ((with_reducible refine' me_Reno_give_to ?ho_ ?_); (case ho_ => first | assumption | exact upd_same)))
local macro_rules | `(tactic| walk_at "use") => `(tactic| first | ((with_reducible refine' dg_S_reno ?ho_ ?hv_ ?_); (case ho_ => first | assumption | exact upd_same); (case hv_ => exact rfl)) | ((with_reducible refine' dg_S_cwnd ?ho_ ?hv_ ?_); (case ho_ => first | assumption | exact upd_same); (case hv_ => exact rfl)) | ((with_reducible refine' dg_S_thresh ?ho_ ?hv_ ?_); (case ho_ => first | assumption | exact upd_same); (case hv_ => exact rfl)) | ((with_reducible refine' dg_S_peak ?ho_ ?hv_ ?_); (case ho_ => first | assumption | exact upd_same); (case hv_ => exact rfl)) | ((with_reducible refine' dg_S_prior ?ho_ ?hv_ ?_); (case ho_ => first | assumption | exact upd_same); (case hv_ => exact rfl)) | ((with_reducible refine' dg_S_calm ?ho_ ?hv_ ?_); (case ho_ => first | assumption | exact upd_same); (case hv_ => exact rfl)) | ((with_reducible refine' dg_S_credit ?ho_ ?hv_ ?_); (case ho_ => first | assumption | exact upd_same); (case hv_ => exact rfl)) | ((with_reducible refine' dg_S_period ?ho_ ?hv_ ?_); (case ho_ => first | assumption | exact upd_same); (case hv_ => exact rfl)) | ((with_reducible refine' dn_S_reno ?ho_ ?hv_ ?_); (case ho_ => first | assumption | exact upd_same); (case hv_ => exact rfl)) | ((with_reducible refine' dn_S_cwnd ?ho_ ?hv_ ?_); (case ho_ => first | assumption | exact upd_same); (case hv_ => exact rfl)) | ((with_reducible refine' dn_S_thresh ?ho_ ?hv_ ?_); (case ho_ => first | assumption | exact upd_same); (case hv_ => exact rfl)) | ((with_reducible refine' dn_S_peak ?ho_ ?hv_ ?_); (case ho_ => first | assumption | exact upd_same); (case hv_ => exact rfl)) | ((with_reducible refine' dn_S_prior ?ho_ ?hv_ ?_); (case ho_ => first | assumption | exact upd_same); (case hv_ => exact rfl)) | ((with_reducible refine' dn_S_calm ?ho_ ?hv_ ?_); (case ho_ => first | assumption | exact upd_same); (case hv_ => exact rfl)) | ((with_reducible refine' dn_S_credit ?ho_ ?hv_ ?_); (case ho_ => first | assumption | exact upd_same); (case hv_ => exact rfl)) | ((with_reducible refine' dn_S_period ?ho_ ?hv_ ?_); (case ho_ => first | assumption | exact upd_same); (case hv_ => exact rfl)) | ((with_reducible refine' dp_S_reno ?ho_ ?hv_ ?_); (case ho_ => first | assumption | exact upd_same); (case hv_ => exact Nat.le_of_ble_eq_true rfl)) | ((with_reducible refine' dp_S_cwnd ?ho_ ?hv_ ?_); (case ho_ => first | assumption | exact upd_same); (case hv_ => exact Nat.le_of_ble_eq_true rfl)) | ((with_reducible refine' dp_S_thresh ?ho_ ?hv_ ?_); (case ho_ => first | assumption | exact upd_same); (case hv_ => exact Nat.le_of_ble_eq_true rfl)) | ((with_reducible refine' dp_S_peak ?ho_ ?hv_ ?_); (case ho_ => first | assumption | exact upd_same); (case hv_ => exact Nat.le_of_ble_eq_true rfl)) | ((with_reducible refine' dp_S_prior ?ho_ ?hv_ ?_); (case ho_ => first | assumption | exact upd_same); (case hv_ => exact Nat.le_of_ble_eq_true rfl)) | ((with_reducible refine' dp_S_calm ?ho_ ?hv_ ?_); (case ho_ => first | assumption | exact upd_same); (case hv_ => exact Nat.le_of_ble_eq_true rfl)) | ((with_reducible refine' dp_S_credit ?ho_ ?hv_ ?_); (case ho_ => first | assumption | exact upd_same); (case hv_ => exact Nat.le_of_ble_eq_true rfl)) | ((with_reducible refine' dp_S_period ?ho_ ?hv_ ?_); (case ho_ => first | assumption | exact upd_same); (case hv_ => exact Nat.le_of_ble_eq_true rfl)))
local macro_rules | `(tactic| walk_at "use") => `(tactic| with_reducible first | refine g_dgetT ?_ | refine g_dputT ?_)
section
variable {P : Program} {w : World} {K : PySem.W.Frag} {mg : Str → Option Value} {base : Heap}
local macro_rules | `(tactic| walk_at "use") => `(tactic| with_reducible first | refine g_dgetT ?_ | refine g_dputT ?_ | refine g_gcons ?_ | refine g_gnil ?_ | refine g_cval ?_ | refine cvq_Control_GREATEST ?_ | refine g_methN ?_)
def sp_l_event (C1 C2 : Addr) : Sp := fun vs H Q _ => ∃ (r : Bool) (p d : Addr) (g : Ct) (m now now0 c : Int), vs = [.ref p, .ref d, .int m, .int now, .int c] ∧ CtO r (CtA C1 C2 r) H p g ∧ StD H d r g ∧ 1 ≤ m ∧ m ≤ 1460 ∧ CtI 1 g now0 ∧ Starts g ∧ 0 ≤ now0 ∧ now0 ≤ now ∧ now ≤ now0 + 1000 ∧ now ≤ 10 ^ 12 ∧
  ∀ H' g', Bt2 p d H H' → CtO r (CtA C1 C2 r) H' p g' → StD H' d r g' → CtI 1 g' now → Starts g' → Q (.bl true) H'
theorem kbt_2 {P : Program} {K : PySem.W.Frag} {mg : Str → Option Value} (T : Txt P K mg) : ∃ g, KBn K T.d_Reno_mark ["self", "mss", "now", "flight", "length"] 3 ["flight", "length"] g (fun vs zs => vs ++ ((zs.drop 0).take 1 ++ ((zs.drop 1).take 1))) :=
  ⟨_, kb_pure (ps := ["self", "mss", "now", "flight", "length"]) T.F_Reno_mark 3 ["flight", "length"] (fun vs zs => vs ++ ((zs.drop 0).take 1 ++ ((zs.drop 1).take 1))) (fun r1 r2 => r1.append (((r2.drop 0).take 1).append ((r2.drop 1).take 1))) (fun kV doc pm an cdv ct us ws l1 l2 => match us, l1, ws, l2 with | [_, _, _], _, [_, _], _ => rfl)⟩
theorem kbt_3 {P : Program} {K : PySem.W.Frag} {mg : Str → Option Value} (T : Txt P K mg) : ∃ g, KBn K T.d_Cubic_mark ["self", "mss", "now", "flight", "length"] 3 ["flight", "length"] g (fun vs zs => vs ++ ((zs.drop 0).take 1 ++ ((zs.drop 1).take 1))) :=
  ⟨_, kb_pure (ps := ["self", "mss", "now", "flight", "length"]) T.F_Cubic_mark 3 ["flight", "length"] (fun vs zs => vs ++ ((zs.drop 0).take 1 ++ ((zs.drop 1).take 1))) (fun r1 r2 => r1.append (((r2.drop 0).take 1).append ((r2.drop 1).take 1))) (fun kV doc pm an cdv ct us ws l1 l2 => match us, l1, ws, l2 with | [_, _, _], _, [_, _], _ => rfl)⟩
theorem kbt_4 {P : Program} {K : PySem.W.Frag} {mg : Str → Option Value} (T : Txt P K mg) : ∃ g, KBn K T.d_Reno_time_out ["self", "mss", "flight"] 2 ["flight"] g (fun vs zs => vs ++ ((zs.drop 0).take 1)) :=
  ⟨_, kb_pure (ps := ["self", "mss", "flight"]) T.F_Reno_time_out 2 ["flight"] (fun vs zs => vs ++ ((zs.drop 0).take 1)) (fun r1 r2 => r1.append ((r2.drop 0).take 1)) (fun kV doc pm an cdv ct us ws l1 l2 => match us, l1, ws, l2 with | [_, _], _, [_], _ => rfl)⟩
theorem kbt_5 {P : Program} {K : PySem.W.Frag} {mg : Str → Option Value} (T : Txt P K mg) : ∃ g, KBn K T.d_Cubic_time_out ["self", "mss", "flight"] 2 ["flight"] g (fun vs zs => vs ++ ((zs.drop 0).take 1)) :=
  ⟨_, kb_pure (ps := ["self", "mss", "flight"]) T.F_Cubic_time_out 2 ["flight"] (fun vs zs => vs ++ ((zs.drop 0).take 1)) (fun r1 r2 => r1.append ((r2.drop 0).take 1)) (fun kV doc pm an cdv ct us ws l1 l2 => match us, l1, ws, l2 with | [_, _], _, [_], _ => rfl)⟩
theorem kbt_6 {P : Program} {K : PySem.W.Frag} {mg : Str → Option Value} (T : Txt P K mg) : ∃ g, KBn K T.d_Reno_acknowledge ["self", "mss", "now", "octets", "flight", "recovering"] 4 ["flight", "recovering"] g (fun vs zs => vs ++ ((zs.drop 0).take 1 ++ ((zs.drop 1).take 1))) :=
  ⟨_, kb_pure (ps := ["self", "mss", "now", "octets", "flight", "recovering"]) T.F_Reno_acknowledge 4 ["flight", "recovering"] (fun vs zs => vs ++ ((zs.drop 0).take 1 ++ ((zs.drop 1).take 1))) (fun r1 r2 => r1.append (((r2.drop 0).take 1).append ((r2.drop 1).take 1))) (fun kV doc pm an cdv ct us ws l1 l2 => match us, l1, ws, l2 with | [_, _, _, _], _, [_, _], _ => rfl)⟩
theorem kbt_7 {P : Program} {K : PySem.W.Frag} {mg : Str → Option Value} (T : Txt P K mg) : ∃ g, KBn K T.d_Cubic_acknowledge ["self", "mss", "now", "octets", "flight", "recovering"] 4 ["flight", "recovering"] g (fun vs zs => vs ++ ((zs.drop 0).take 1 ++ ((zs.drop 1).take 1))) :=
  ⟨_, kb_pure (ps := ["self", "mss", "now", "octets", "flight", "recovering"]) T.F_Cubic_acknowledge 4 ["flight", "recovering"] (fun vs zs => vs ++ ((zs.drop 0).take 1 ++ ((zs.drop 1).take 1))) (fun r1 r2 => r1.append (((r2.drop 0).take 1).append ((r2.drop 1).take 1))) (fun kV doc pm an cdv ct us ws l1 l2 => match us, l1, ws, l2 with | [_, _, _, _], _, [_, _], _ => rfl)⟩
theorem ok_l_event (T : Txt P K mg) : FnOk P w K mg base CX0 6 T.f_l_event T.d_l_event ["control", "state", "size", "now", "cell"] (sp_l_event T.C_Reno T.C_Cubic) := by
  refine T.F_l_event.ok sc_l_event (fun vs H Q E h => ?_) (fun cdv A outer s H vs Q E hr h => ?_)
  · obtain ⟨r, p, d, g, m, now, now0, c, rfl, O, hD, m0, m1, I, hst, n0, n1, n2, n3, q⟩ := h
    rfl
  · obtain ⟨r, p, d, g, m, now, now0, c, rfl, O, hD, m0, m1, I, hst, n0, n1, n2, n3, q⟩ := h
    have hu := hu_of hr
    obtain ⟨gk_2, kb_2⟩ := kbt_2 T
    obtain ⟨gk_3, kb_3⟩ := kbt_3 T
    obtain ⟨gk_4, kb_4⟩ := kbt_4 T
    obtain ⟨gk_5, kb_5⟩ := kbt_5 T
    obtain ⟨gk_1, kb_1⟩ := kbt_1 T
    obtain ⟨gk_0, kb_0⟩ := kbt_0 T
    obtain ⟨gk_6, kb_6⟩ := kbt_6 T
    obtain ⟨gk_7, kb_7⟩ := kbt_7 T
    refine ⟨_, (pss_cons (ps_set (i := 5) sc_l_event.nd rfl (Or.inl rfl) (pe_op op_mod (pe_callTy call_int1 (by rfl) T.n_int (by decide +kernel) (pa_cons (pv 4) pa_nil)) pe_int))
        (pss_cons (ps_set (i := 6) sc_l_event.nd rfl (Or.inl rfl) (pe_op op_mod (pe_op op_fdiv (pe_callTy call_int1 (by rfl) T.n_int (by decide +kernel) (pa_cons (pv 4) pa_nil)) pe_int) (pe_op op_add (pe_op op_mul pe_int (pe_dget hu (pv 1) pe_str (fun _ _ => rfl))) pe_int)))
        (pss_cons (ps_if (pt_cmpR op_lt (pv 5) pe_int (nomark _)) (pss_cons (ps_set (i := 7) sc_l_event.nd rfl (Or.inl rfl) (pe_ix ix_list (pe_lst (pa_cons (pe_op op_mul (pe_op op_mod (pe_op op_fdiv (pe_callTy call_int1 (by rfl) T.n_int (by decide +kernel) (pa_cons (pv 4) pa_nil)) pe_int) pe_int) (pv 2)) (pa_cons (pe_op op_mod (pe_op op_fdiv (pe_callTy call_int1 (by rfl) T.n_int (by decide +kernel) (pa_cons (pv 4) pa_nil)) pe_int) pe_int) pa_nil))) (pe_op op_mod (pe_op op_fdiv (pe_callTy call_int1 (by rfl) T.n_int (by decide +kernel) (pa_cons (pv 4) pa_nil)) pe_int) pe_int) (fun _ _ => rfl)))
        (pss_cons (ps_set (i := 6) sc_l_event.nd rfl (Or.inl rfl) (pe_ix ix_list (pe_lst (pa_cons (pe_callB (call_max2 rfl) (by rfl) T.n_max (by decide +kernel) (pa_cons pe_int (pa_cons (pe_op op_sub (pe_dget hu (pv 1) pe_str (fun _ _ => rfl)) (pv 7)) pa_nil))) (pa_cons (pv 6) pa_nil))) (pe_op op_mod (pe_op op_fdiv (pe_callTy call_int1 (by rfl) T.n_int (by decide +kernel) (pa_cons (pv 4) pa_nil)) pe_int) pe_int) (fun _ _ => rfl)))
        (pss_cons (ps_set (i := 8) sc_l_event.nd rfl (Or.inl rfl) (pe_cmpR op_eq (pe_op op_mod (pe_op op_fdiv (pe_callTy call_int1 (by rfl) T.n_int (by decide +kernel) (pa_cons (pv 4) pa_nil)) pe_int) pe_int) pe_int (nomark _)))
        (pss_cons (ps_expr (pe_call (ok_l_acknowledge T) (hr.mono (by decide)) rfl T.m_l_acknowledge T.F_l_acknowledge.kp T.b_l_acknowledge .nil pass0 (pa_cons (pv 1) (pa_cons (pv 2) (pa_cons (pv 3) (pa_cons (pv 7) (pa_cons (pv 6) (pa_cons (pv 8) pa_nil))))))))
        (pss_one (ps_ret (pe_cmpR op_isN (pe_or2 (pe_methN (pv 0) T.k_Reno T.a_Reno_acknowledge (ok_Reno_acknowledge T) (hr.mono (by decide)) kb_6 pass0 (pa_cons (pv 2) (pa_cons (pv 3) (pa_cons (pv 7) pa_nil))) (pk_cons (pv 6) (pk_cons (pv 8) pk_nil)))
          (pe_methN (pv 0) T.k_Cubic T.a_Cubic_acknowledge (ok_Cubic_acknowledge T) (hr.mono (by decide)) kb_7 pass0 (pa_cons (pv 2) (pa_cons (pv 3) (pa_cons (pv 7) pa_nil))) (pk_cons (pv 6) (pk_cons (pv 8) pk_nil)))) pe_non (nomark _)))))))) pss_nil)
        (pss_cons (ps_if (pt_cmpR op_eq (pv 5) pe_int (nomark _)) (pss_cons (ps_expr (pe_call (ok_l_lose T) (hr.mono (by decide)) rfl T.m_l_lose T.F_l_lose.kp T.b_l_lose .nil pass0 (pa_cons (pv 1) (pa_cons (pv 2) (pa_cons (pv 6) pa_nil)))))
        (pss_one (ps_ret (pe_cmpR op_isN (pe_or2 (pe_methN (pv 0) T.k_Reno T.a_Reno_lose (ok_Reno_lose T) (hr.mono (by decide)) kb_1 pass0 (pa_cons (pv 2) pa_nil) (pk_cons (pv 6) pk_nil))
          (pe_methN (pv 0) T.k_Cubic T.a_Cubic_lose (ok_Cubic_lose T) (hr.mono (by decide)) kb_0 pass0 (pa_cons (pv 2) pa_nil) (pk_cons (pv 6) pk_nil))) pe_non (nomark _))))) pss_nil)
        (pss_cons (ps_if (pt_cmpR op_eq (pv 5) pe_int (nomark _)) (pss_cons (ps_expr (pe_call (ok_l_lose T) (hr.mono (by decide)) rfl T.m_l_lose T.F_l_lose.kp T.b_l_lose .nil pass0 (pa_cons (pv 1) (pa_cons (pv 2) (pa_cons (pv 6) pa_nil)))))
        (pss_cons (ps_dput hu (pv 1) pe_str (pe_callB (call_min2 rfl) (by rfl) T.n_min (by decide +kernel) (pa_cons pe_int (pa_cons (pv 2) pa_nil))) rfl)
        (pss_one (ps_ret (pe_cmpR op_isN (pe_or2 (pe_methN (pv 0) T.k_Reno T.a_Reno_time_out (ok_Reno_time_out T) (hr.mono (by decide)) kb_4 pass0 (pa_cons (pv 2) pa_nil) (pk_cons (pv 6) pk_nil))
          (pe_methN (pv 0) T.k_Cubic T.a_Cubic_time_out (ok_Cubic_time_out T) (hr.mono (by decide)) kb_5 pass0 (pa_cons (pv 2) pa_nil) (pk_cons (pv 6) pk_nil))) pe_non (nomark _)))))) pss_nil)
        (pss_cons (ps_set (i := 9) sc_l_event.nd rfl (Or.inl rfl) (pe_or2 (pe_methN (pv 0) T.k_Reno T.a_Reno_mark (ok_Reno_mark T) (hr.mono (by decide)) kb_2 pass0 (pa_cons (pv 2) (pa_cons (pv 3) pa_nil)) (pk_cons (pv 6) (pk_cons (pe_op op_mod (pe_op op_fdiv (pe_callTy call_int1 (by rfl) T.n_int (by decide +kernel) (pa_cons (pv 4) pa_nil)) pe_int) pe_int) pk_nil)))
          (pe_methN (pv 0) T.k_Cubic T.a_Cubic_mark (ok_Cubic_mark T) (hr.mono (by decide)) kb_3 pass0 (pa_cons (pv 2) (pa_cons (pv 3) pa_nil)) (pk_cons (pv 6) (pk_cons (pe_op op_mod (pe_op op_fdiv (pe_callTy call_int1 (by rfl) T.n_int (by decide +kernel) (pa_cons (pv 4) pa_nil)) pe_int) pe_int) pk_nil)))))
        (pss_cons (ps_if (pt_cmpR op_lt (pv 3) (pe_dget hu (pv 1) pe_str (fun _ _ => rfl)) (nomark _)) (pss_one (ps_ret (pe_cmpR op_isBl (pv 9) pe_bl (nomark _)))) pss_nil)
        (pss_cons (ps_expr (pe_call (ok_l_lose T) (hr.mono (by decide)) rfl T.m_l_lose T.F_l_lose.kp T.b_l_lose .nil pass0 (pa_cons (pv 1) (pa_cons (pv 2) (pa_cons (pv 6) pa_nil)))))
        (pss_cons (ps_dput hu (pv 1) pe_str (pe_op op_add (pv 3) (pe_op op_mod (pe_op op_fdiv (pe_callTy call_int1 (by rfl) T.n_int (by decide +kernel) (pa_cons (pv 4) pa_nil)) pe_int) pe_int)) rfl)
        (pss_one (ps_ret (pe_cmpR op_isBl (pv 9) pe_bl (nomark _))))))))))))), ?_⟩
    dsimp only [cxOf, Cx.nox, Cx.wish, L2.start, List.map, List.cons_append, List.nil_append, List.length_cons, List.length_nil, Nat.reduceAdd, Nat.reduceSub, Nat.zero_add, List.replicate_succ, List.replicate_zero]
    have c0 := I.c0
    have c1 := I.c1
    have gg : GG = 1073741824 := rfl
    have B := I.b (by decide) n2
    have mod0 : 0 ≤ c / 8 % (2 * g.cwnd + 1) := Int.emod_nonneg _ (by omega)
    obtain ⟨fl, efl⟩ : ∃ fl, c / 8 % (2 * g.cwnd + 1) = fl := ⟨_, rfl⟩
    rw [efl] at mod0
    obtain ⟨pe, hd, hpe⟩ := id hD
    cases r with
    | true =>
      have O : CtO true T.C_Reno H p g := O
      have q : ∀ H' g', Bt2 p d H H' → CtO true T.C_Reno H' p g' → StD H' d true g' → CtI 1 g' now → Starts g' → Q (.bl true) H' := q
      obtain ⟨dx0, ho0⟩ := (id O).reno
      walk_at "go"
      try rw [efl]
      refine g_ite (fun k1 => ?_) (fun k1 => ?_)
      · walk_at "go"
        refine ⟨by show 2 ≤ sizeLine; decide, fun l1 nl1 => ?_⟩
        walk_at "nw"
        rename_i H1 s1 kl1
        obtain ⟨o, o0, o1, eo⟩ : ∃ o : Int, 0 ≤ o ∧ o < 2 ^ 60 ∧ atI [V.int (c / 8 % 4 * m), V.int (c / 8 % 5000)] (c / 32 % 2) = some (.int o) := by
          rcases (by omega : c / 32 % 2 = 0 ∨ c / 32 % 2 = 1) with z | z
          · rw [z]
            refine ⟨_, ?_, ?_, at_of (j := 0) rfl rfl⟩
            · exact Int.mul_nonneg (by omega) (by omega)
            · have : c / 8 % 4 * m ≤ 4 * m := Int.mul_le_mul_of_nonneg_right (by omega) (by omega)
              omega
          · rw [z]
            exact ⟨_, by omega, by omega, at_of (j := 1) rfl rfl⟩
        walk_at "go"
        refine g_ixL (sl kl1) eo ?_
        have hd1 := s1 _ _ hd
        walk_at "go"
        refine ⟨by show 2 ≤ sizeLine; decide, fun l2 nl2 => ?_⟩
        walk_at "nw"
        rename_i H2 s2 kl2
        have hD2 := (hD.same s1).same s2
        have O2 := (O.same s1).same s2
        have hd2 := s2 _ _ hd1
        have ho2 := s2 _ _ (s1 _ _ ho0)
        obtain ⟨fl2, f0, ef⟩ : ∃ fl2 : Int, 0 ≤ fl2 ∧ atI [V.int (if g.cwnd - o > 0 then g.cwnd - o else 0), V.int fl] (c / 64 % 2) = some (.int fl2) := by
          rcases (by omega : c / 64 % 2 = 0 ∨ c / 64 % 2 = 1) with z | z
          · rw [z]
            exact ⟨_, by split <;> omega, at_of (j := 0) rfl rfl⟩
          · rw [z]
            exact ⟨_, mod0, at_of (j := 1) rfl rfl⟩
        walk_at "go"
        refine g_ixL (sl kl2) ef ?_
        walk_at "go"
        generalize decide (c / 128 % 9 = 4) = rec
        refine ⟨d, true, g, m, now, o, fl2, rec, rfl, hD2, m0, m1, o0, o1, B, fun H3 b3 hD3 => ?_⟩
        have O3 := O2.butD b3 hd2
        obtain ⟨dx3, ho3⟩ := (id O3).reno
        walk_at "go"
        refine g_or2l ?_
        walk_at "go"
        refine ⟨rfl, rfl, p, g, m, now, o, fl2, rec, rfl, O3, m0, m1, o0, o1, B, fun H4 b4 O4 => ?_⟩
        have hD4 := hD3.butP b4 ho3
        obtain ⟨I4, _, _, st4⟩ := ackJ (r := true) (m := m) (now' := now) (fl := fl2) (o := o) (rec := rec) I (by decide) m0 o0 n2 n1 (by omega) n0 hst
        walk_at "go"
        exact q H4 _ (fun b' o' z1 z2 z3 => b4 _ _ z1 (b3 _ _ z2 (s2 _ _ (s1 _ _ z3)))) O4 hD4 I4 st4
      walk_at "go"
      refine g_ite (fun k2 => ?_) (fun k2 => ?_)
      · walk_at "go"
        refine ⟨d, true, g, m, fl, rfl, hD, fun H3 b3 hD3 => ?_⟩
        have O3 := O.butD b3 hd
        obtain ⟨dx3, ho3⟩ := (id O3).reno
        walk_at "go"
        refine g_or2l ?_
        walk_at "go"
        refine ⟨rfl, rfl, p, g, m, fl, rfl, O3, fun H4 b4 O4 => ?_⟩
        have hD4 := hD3.butP b4 ho3
        walk_at "go"
        exact q H4 _ (fun b' o' z1 z2 z3 => b4 _ _ z1 (b3 _ _ z2 z3)) O4 hD4 (loseJ I m0 m1 mod0 now) (fun _ _ _ _ _ z => by cases z)
      walk_at "go"
      refine g_ite (fun k3 => ?_) (fun k3 => ?_)
      · walk_at "go"
        refine ⟨d, true, g, m, fl, rfl, hD, fun H3 b3 hD3 => ?_⟩
        have O3 := O.butD b3 hd
        obtain ⟨pe3, hd3, hpe3⟩ := id hD3
        walk_at "go"
        rw [show (if m < 1073741824 then m else 1073741824) = min m GG by show _ = min m (1073741824 : Int); split <;> omega]
        simp only [List.set_cons_succ, List.set_cons_zero]
        walk_at "bt"
        rename_i H4 b4 k4
        have O4 := O3.butD b4 hd3
        have hD4 : StD H4 d true (g.tout true m fl) := ⟨pe3, k4, perV.butD b4 hd3 hpe3⟩
        obtain ⟨dx4, ho4⟩ := (id O4).reno
        walk_at "go"
        refine g_or2l ?_
        walk_at "go"
        refine ⟨rfl, rfl, p, g, m, fl, rfl, O4, fun H5 b5 O5 => ?_⟩
        have hD5 := hD4.butP b5 ho4
        walk_at "go"
        exact q H5 _ (fun b' o' z1 z2 z3 => b5 _ _ z1 (b4 _ _ z2 (b3 _ _ z2 z3))) O5 hD5 (toutJ I m0 m1 mod0 now) (fun _ _ _ _ _ z => by cases z)
      · walk_at "go"
        refine g_or2l ?_
        walk_at "go"
        refine ⟨rfl, rfl, p, g, m, now, fl, c / 16 % 700, rfl, O, fun cc => ?_, fun cc H3 b3 O3 => ?_⟩
        · walk_at "go"
          exact q H g (fun b' o' z1 z2 z3 => z3) O hD ⟨I.c0, I.c1, I.t0, I.t1, I.p0, I.p1, fun a' b' c' d' e' z => by
            have := I.per a' b' c' d' e' z
            have := hst a' b' c' d' e' z
            omega⟩ hst
        · have hD3 := hD.butP b3 ho0
          obtain ⟨pe3, hd3, hpe3⟩ := id hD3
          walk_at "go"
          refine ⟨d, true, g, m, fl, rfl, hD3, fun H4 b4 hD4 => ?_⟩
          have O4 := O3.butD b4 hd3
          obtain ⟨pe4, hd4, hpe4⟩ := id hD4
          walk_at "go"
          simp only [List.set_cons_succ, List.set_cons_zero]
          exact q _ (g.markd true m now fl (c / 16 % 700)) (fun b' o' z1 z2 z3 => by rw [upd_ne z2]; exact b4 _ _ z2 (b3 _ _ z1 z3)) (O4.butD But.refl.upd hd4) ⟨pe4, upd_same, perV.butD But.refl.upd hd4 hpe4⟩ (markJ I m0 m1 mod0 now now) (fun _ _ _ _ _ z => by cases z)

    | false =>
      have O : CtO false T.C_Cubic H p g := O
      have q : ∀ H' g', Bt2 p d H H' → CtO false T.C_Cubic H' p g' → StD H' d false g' → CtI 1 g' now → Starts g' → Q (.bl true) H' := q
      obtain ⟨dx0, e0, ho0, hE0⟩ := (id O).cubic
      walk_at "go"
      try rw [efl]
      refine g_ite (fun k1 => ?_) (fun k1 => ?_)
      · walk_at "go"
        refine ⟨by show 2 ≤ sizeLine; decide, fun l1 nl1 => ?_⟩
        walk_at "nw"
        rename_i H1 s1 kl1
        obtain ⟨o, o0, o1, eo⟩ : ∃ o : Int, 0 ≤ o ∧ o < 2 ^ 60 ∧ atI [V.int (c / 8 % 4 * m), V.int (c / 8 % 5000)] (c / 32 % 2) = some (.int o) := by
          rcases (by omega : c / 32 % 2 = 0 ∨ c / 32 % 2 = 1) with z | z
          · rw [z]
            refine ⟨_, ?_, ?_, at_of (j := 0) rfl rfl⟩
            · exact Int.mul_nonneg (by omega) (by omega)
            · have : c / 8 % 4 * m ≤ 4 * m := Int.mul_le_mul_of_nonneg_right (by omega) (by omega)
              omega
          · rw [z]
            exact ⟨_, by omega, by omega, at_of (j := 1) rfl rfl⟩
        walk_at "go"
        refine g_ixL (sl kl1) eo ?_
        have hd1 := s1 _ _ hd
        walk_at "go"
        refine ⟨by show 2 ≤ sizeLine; decide, fun l2 nl2 => ?_⟩
        walk_at "nw"
        rename_i H2 s2 kl2
        have hD2 := (hD.same s1).same s2
        have O2 := (O.same s1).same s2
        have hd2 := s2 _ _ hd1
        have ho2 := s2 _ _ (s1 _ _ ho0)
        obtain ⟨fl2, f0, ef⟩ : ∃ fl2 : Int, 0 ≤ fl2 ∧ atI [V.int (if g.cwnd - o > 0 then g.cwnd - o else 0), V.int fl] (c / 64 % 2) = some (.int fl2) := by
          rcases (by omega : c / 64 % 2 = 0 ∨ c / 64 % 2 = 1) with z | z
          · rw [z]
            exact ⟨_, by split <;> omega, at_of (j := 0) rfl rfl⟩
          · rw [z]
            exact ⟨_, mod0, at_of (j := 1) rfl rfl⟩
        walk_at "go"
        refine g_ixL (sl kl2) ef ?_
        walk_at "go"
        generalize decide (c / 128 % 9 = 4) = rec
        refine ⟨d, false, g, m, now, o, fl2, rec, rfl, hD2, m0, m1, o0, o1, B, fun H3 b3 hD3 => ?_⟩
        have O3 := O2.butD b3 hd2
        obtain ⟨dx3, e3, ho3, hE3⟩ := (id O3).cubic
        walk_at "go"
        refine g_or2r ?_
        walk_at "go"
        refine ⟨rfl, rfl, p, g, m, now, o, fl2, rec, rfl, O3, m0, m1, o0, o1, B, fun H4 b4 O4 => ?_⟩
        have hD4 := hD3.butP b4 ho3
        obtain ⟨I4, _, _, st4⟩ := ackJ (r := false) (m := m) (now' := now) (fl := fl2) (o := o) (rec := rec) I (by decide) m0 o0 n2 n1 (by omega) n0 hst
        walk_at "go"
        exact q H4 _ (fun b' o' z1 z2 z3 => b4 _ _ z1 (b3 _ _ z2 (s2 _ _ (s1 _ _ z3)))) O4 hD4 I4 st4
      walk_at "go"
      refine g_ite (fun k2 => ?_) (fun k2 => ?_)
      · walk_at "go"
        refine ⟨d, false, g, m, fl, rfl, hD, fun H3 b3 hD3 => ?_⟩
        have O3 := O.butD b3 hd
        obtain ⟨dx3, e3, ho3, hE3⟩ := (id O3).cubic
        walk_at "go"
        refine g_or2r ?_
        walk_at "go"
        refine ⟨rfl, rfl, p, g, m, fl, rfl, O3, fun H4 b4 O4 => ?_⟩
        have hD4 := hD3.butP b4 ho3
        walk_at "go"
        exact q H4 _ (fun b' o' z1 z2 z3 => b4 _ _ z1 (b3 _ _ z2 z3)) O4 hD4 (loseJ I m0 m1 mod0 now) (fun _ _ _ _ _ z => by cases z)
      walk_at "go"
      refine g_ite (fun k3 => ?_) (fun k3 => ?_)
      · walk_at "go"
        refine ⟨d, false, g, m, fl, rfl, hD, fun H3 b3 hD3 => ?_⟩
        have O3 := O.butD b3 hd
        obtain ⟨pe3, hd3, hpe3⟩ := id hD3
        walk_at "go"
        rw [show (if m < 1073741824 then m else 1073741824) = min m GG by show _ = min m (1073741824 : Int); split <;> omega]
        simp only [List.set_cons_succ, List.set_cons_zero]
        walk_at "bt"
        rename_i H4 b4 k4
        have O4 := O3.butD b4 hd3
        have hD4 : StD H4 d false (g.tout false m fl) := ⟨pe3, k4, perV.butD b4 hd3 hpe3⟩
        obtain ⟨dx4, e4, ho4, hE4⟩ := (id O4).cubic
        walk_at "go"
        refine g_or2r ?_
        walk_at "go"
        refine ⟨rfl, rfl, p, g, m, fl, rfl, O4, fun H5 b5 O5 => ?_⟩
        have hD5 := hD4.butP b5 ho4
        walk_at "go"
        exact q H5 _ (fun b' o' z1 z2 z3 => b5 _ _ z1 (b4 _ _ z2 (b3 _ _ z2 z3))) O5 hD5 (toutJ I m0 m1 mod0 now) (fun _ _ _ _ _ z => by cases z)
      · walk_at "go"
        refine g_or2r ?_
        walk_at "go"
        refine ⟨rfl, rfl, p, g, m, now, fl, c / 16 % 700, rfl, O, fun cc => ?_, fun cc H3 b3 O3 => ?_⟩
        · walk_at "go"
          exact q H g (fun b' o' z1 z2 z3 => z3) O hD ⟨I.c0, I.c1, I.t0, I.t1, I.p0, I.p1, fun a' b' c' d' e' z => by
            have := I.per a' b' c' d' e' z
            have := hst a' b' c' d' e' z
            omega⟩ hst
        · have hD3 := hD.butP b3 ho0
          obtain ⟨pe3, hd3, hpe3⟩ := id hD3
          walk_at "go"
          refine ⟨d, false, g, m, fl, rfl, hD3, fun H4 b4 hD4 => ?_⟩
          have O4 := O3.butD b4 hd3
          obtain ⟨pe4, hd4, hpe4⟩ := id hD4
          walk_at "go"
          simp only [List.set_cons_succ, List.set_cons_zero]
          exact q _ (g.markd false m now fl (c / 16 % 700)) (fun b' o' z1 z2 z3 => by rw [upd_ne z2]; exact b4 _ _ z2 (b3 _ _ z1 z3)) (O4.butD But.refl.upd hd4) ⟨pe4, upd_same, perV.butD But.refl.upd hd4 hpe4⟩ (markJ I m0 m1 mod0 now now) (fun _ _ _ _ _ z => by cases z)

end
end My
namespace My
open PySem PySem.Spec L2
local macro_rules | `(tactic| walk_at "side") => `(tactic| first | assumption | decide | omega | exact ⟨by decide, by decide⟩ | exact ⟨by decide, by decide, by decide⟩ | decide +kernel | exact cdivW (by decide +kernel) (by decide +kernel) | exact Or.inl ⟨by omega, by omega⟩ | exact Or.inr ⟨by omega, by omega⟩ | (simp only [List.length_map, List.length_cons, List.length_nil, List.length_append]; omega))
local macro_rules | `(tactic| walk_at "fact") => `(tactic| first | assumption | omega | with_reducible rfl)
local macro_rules | `(tactic| walk_at "use") => `(tactic| fail "use")
local macro_rules | `(tactic| walk_at "go1") => `(tactic| with_reducible first | refine g_seq ?_ | refine g_asg ?_ | refine g_ret ?_ | refine g_ifS ?_ | refine g_drop ?_ | refine g_star ?_ | refine g_nx ?_ | refine g_rt ?_ | refine g_bkE ?_ | refine g_ctE ?_ | refine g_next ?_ | refine g_retN ?_ | refine g_brk ?_ | refine g_ct ?_ | refine g_c ?_ | refine g_op ?_ | refine g_un ?_ | refine g_rI0 ?_ | refine g_rU ?_ | refine g_rEqI ?_ | refine g_rNeI ?_ | refine g_isN ?_ | refine g_rIsB ?_ | refine g_rNotB ?_ | refine g_test ?_ | refine g_B ?_ | refine g_bl ?_ | refine g_and ?_ | refine g_or ?_ | refine g_not ?_ | refine g_andV ?_ | refine g_orV ?_ | refine g_notV ?_ | refine g_if ?_ | refine g_chain ?_ | refine g_yes ?_ | refine g_lc ?_ | refine g_revR ?_ | refine g_rng1 ?_ | refine g_iList ?_ | refine g_nil ?_ | refine g_cons ?_ | refine g_tup ?_ | refine g_lst ?_ | refine g_call ?_ | refine g_CB ?_ | refine g_sl ?_ | refine g_noPart ?_ | refine g_part ?_ | refine g_intE ?_ | refine g_ref ?_ | refine g_fld ?_ | refine g_sfld ?_ | refine g_meth ?_ | refine g_make ?_ | refine g_prop ?_  | refine g_ipI ?_ | refine g_int1 ?_ | refine g_int1B ?_ | refine g_one ?_ | refine g_two ?_ | refine g_isiI ?_ | refine g_isiIB ?_ | refine g_isiB ?_ | refine g_BM ?_ | refine g_BM0 ?_ | refine g_sub ?_)
local macro_rules | `(tactic| walk_at "go") => `(tactic| repeat (first | walk_at "go1" | ((with_reducible refine' g_nameE ?sd_ ?_); case sd_ => dsimp only [List.set_cons_succ, List.set_cons_zero]) | ((with_reducible refine' g_var ?sd_ ?_); case sd_ => exact rfl) | ((with_reducible refine' g_aug ?sd_ ?_); case sd_ => exact rfl) | ((with_reducible refine' g_rI ?sd_ ?_); case sd_ => walk_at "side") | ((with_reducible refine' g_dT ?sd_ ?_); case sd_ => walk_at "fact") | ((with_reducible refine' g_dF ?sd_ ?_); case sd_ => walk_at "fact") | ((with_reducible refine' g_nT ?sd_ ?_); case sd_ => walk_at "fact") | ((with_reducible refine' g_nF ?sd_ ?_); case sd_ => walk_at "fact") | (with_reducible refine g_iT rfl ?_) | (with_reducible refine g_iF rfl ?_) | walk_at "use"))
local macro_rules | `(tactic| walk_at "nw") => `(tactic| (generalize zq : upd _ _ _ = Hq; have sq : Same _ Hq := (by rw [← zq]; exact same_upd (by assumption)); have kq := (congrFun zq _).symm.trans upd_same; clear zq))
local macro_rules | `(tactic| walk_at "bt") => `(tactic| (generalize zq : upd _ _ _ = Hq; have bq : But _ _ Hq := (by rw [← zq]; exact But.refl.upd); have kq := (congrFun zq _).symm.trans upd_same; clear zq))
local macro_rules | `(tactic| walk_at "use") => `(tactic| first | ((with_reducible refine' fd_Cubic_cwnd ?ho_ ?hv_ ?_); (case ho_ => first | assumption | exact upd_same); (case hv_ => exact rfl)) | ((with_reducible refine' fd_Cubic_thresh ?ho_ ?hv_ ?_); (case ho_ => first | assumption | exact upd_same); (case hv_ => exact rfl)) | ((with_reducible refine' fd_Cubic_peak ?ho_ ?hv_ ?_); (case ho_ => first | assumption | exact upd_same); (case hv_ => exact rfl)) | ((with_reducible refine' fd_Cubic_prior ?ho_ ?hv_ ?_); (case ho_ => first | assumption | exact upd_same); (case hv_ => exact rfl)) | ((with_reducible refine' fd_Cubic_calm ?ho_ ?hv_ ?_); (case ho_ => first | assumption | exact upd_same); (case hv_ => exact rfl)) | ((with_reducible refine' fd_Cubic_period ?ho_ ?hv_ ?_); (case ho_ => first | assumption | exact upd_same); (case hv_ => exact rfl)) | ((with_reducible refine' nw_Cubic_cwnd ?ho_ ?hv_ ?_); (case ho_ => first | assumption | exact upd_same); (case hv_ => exact rfl)) | ((with_reducible refine' nw_Cubic_thresh ?ho_ ?hv_ ?_); (case ho_ => first | assumption | exact upd_same); (case hv_ => exact rfl)) | ((with_reducible refine' nw_Cubic_peak ?ho_ ?hv_ ?_); (case ho_ => first | assumption | exact upd_same); (case hv_ => exact rfl)) | ((with_reducible refine' nw_Cubic_prior ?ho_ ?hv_ ?_); (case ho_ => first | assumption | exact upd_same); (case hv_ => exact rfl)) | ((with_reducible refine' nw_Cubic_calm ?ho_ ?hv_ ?_); (case ho_ => first | assumption | exact upd_same); (case hv_ => exact rfl)) | ((with_reducible refine' nw_Cubic_period ?ho_ ?hv_ ?_); (case ho_ => first | assumption | exact upd_same); (case hv_ => exact rfl)) | ((with_reducible refine' st_Cubic_cwnd ?ho_ ?hv_ ?_); (case ho_ => first | assumption | exact upd_same); (case hv_ => exact Nat.le_of_ble_eq_true rfl)) | ((with_reducible refine' st_Cubic_thresh ?ho_ ?hv_ ?_); (case ho_ => first | assumption | exact upd_same); (case hv_ => exact Nat.le_of_ble_eq_true rfl)) | ((with_reducible refine' st_Cubic_peak ?ho_ ?hv_ ?_); (case ho_ => first | assumption | exact upd_same); (case hv_ => exact Nat.le_of_ble_eq_true rfl)) | ((with_reducible refine' st_Cubic_prior ?ho_ ?hv_ ?_); (case ho_ => first | assumption | exact upd_same); (case hv_ => exact Nat.le_of_ble_eq_true rfl)) | ((with_reducible refine' st_Cubic_calm ?ho_ ?hv_ ?_); (case ho_ => first | assumption | exact upd_same); (case hv_ => exact Nat.le_of_ble_eq_true rfl)) | ((with_reducible refine' st_Cubic_period ?ho_ ?hv_ ?_); (case ho_ => first | assumption | exact upd_same); (case hv_ => exact Nat.le_of_ble_eq_true rfl)) | ((with_reducible refine' me_Cubic_fork ?ho_ ?_); (case ho_ => first | assumption | exact upd_same)) | ((with_reducible refine' me_Cubic_avoid ?ho_ ?_); (case ho_ => first | assumption | exact upd_same)) | ((with_reducible refine' me_Cubic_new_period ?ho_ ?_); (case ho_ => first | assumption | exact upd_same)) | ((with_reducible refine' me_Cubic_share ?ho_ ?_); (case ho_ => first | assumption | exact upd_same)) | ((with_reducible refine' me_Cubic_begin_anew ?ho_ ?_); (case ho_ => first | assumption | exact upd_same)) | ((with_reducible refine' me_Cubic_acknowledge ?ho_ ?_); (case ho_ => first | assumption | exact upd_same)) | ((with_reducible refine' me_Cubic_lose ?ho_ ?_); (case ho_ => first | assumption | exact upd_same)) | ((with_reducible refine' me_Cubic_time_out ?ho_ ?_); (case ho_ => first | assumption | exact upd_same)) | ((with_reducible refine' me_Cubic_mark ?ho_ ?_); (case ho_ => first | assumption | exact upd_same)) | ((with_reducible refine' me_Cubic_bounded ?ho_ ?_); (case ho_ => first | assumption | exact upd_same)) | ((with_reducible refine' me_Cubic_give_to ?ho_ ?_); (case ho_ => first | assumption | exact upd_same)))
local macro_rules | `(tactic| walk_at "use") => `(tactic| first | ((with_reducible refine' fd_Reno_cwnd ?ho_ ?hv_ ?_); (case ho_ => first | assumption | exact upd_same); (case hv_ => exact rfl)) | ((with_reducible refine' fd_Reno_thresh ?ho_ ?hv_ ?_); (case ho_ => first | assumption | exact upd_same); (case hv_ => exact rfl)) | ((with_reducible refine' fd_Reno_peak ?ho_ ?hv_ ?_); (case ho_ => first | assumption | exact upd_same); (case hv_ => exact rfl)) | ((with_reducible refine' fd_Reno_prior ?ho_ ?hv_ ?_); (case ho_ => first | assumption | exact upd_same); (case hv_ => exact rfl)) | ((with_reducible refine' fd_Reno_calm ?ho_ ?hv_ ?_); (case ho_ => first | assumption | exact upd_same); (case hv_ => exact rfl)) | ((with_reducible refine' fd_Reno_credit ?ho_ ?hv_ ?_); (case ho_ => first | assumption | exact upd_same); (case hv_ => exact rfl)) | ((with_reducible refine' nw_Reno_cwnd ?ho_ ?hv_ ?_); (case ho_ => first | assumption | exact upd_same); (case hv_ => exact rfl)) | ((with_reducible refine' nw_Reno_thresh ?ho_ ?hv_ ?_); (case ho_ => first | assumption | exact upd_same); (case hv_ => exact rfl)) | ((with_reducible refine' nw_Reno_peak ?ho_ ?hv_ ?_); (case ho_ => first | assumption | exact upd_same); (case hv_ => exact rfl)) | ((with_reducible refine' nw_Reno_prior ?ho_ ?hv_ ?_); (case ho_ => first | assumption | exact upd_same); (case hv_ => exact rfl)) | ((with_reducible refine' nw_Reno_calm ?ho_ ?hv_ ?_); (case ho_ => first | assumption | exact upd_same); (case hv_ => exact rfl)) | ((with_reducible refine' nw_Reno_credit ?ho_ ?hv_ ?_); (case ho_ => first | assumption | exact upd_same); (case hv_ => exact rfl)) | ((with_reducible refine' st_Reno_cwnd ?ho_ ?hv_ ?_); (case ho_ => first | assumption | exact upd_same); (case hv_ => exact Nat.le_of_ble_eq_true rfl)) | ((with_reducible refine' st_Reno_thresh ?ho_ ?hv_ ?_); (case ho_ => first | assumption | exact upd_same); (case hv_ => exact Nat.le_of_ble_eq_true rfl)) | ((with_reducible refine' st_Reno_peak ?ho_ ?hv_ ?_); (case ho_ => first | assumption | exact upd_same); (case hv_ => exact Nat.le_of_ble_eq_true rfl)) | ((with_reducible refine' st_Reno_prior ?ho_ ?hv_ ?_); (case ho_ => first | assumption | exact upd_same); (case hv_ => exact Nat.le_of_ble_eq_true rfl)) | ((with_reducible refine' st_Reno_calm ?ho_ ?hv_ ?_); (case ho_ => first | assumption | exact upd_same); (case hv_ => exact Nat.le_of_ble_eq_true rfl)) | ((with_reducible refine' st_Reno_credit ?ho_ ?hv_ ?_); (case ho_ => first | assumption | exact upd_same); (case hv_ => exact Nat.le_of_ble_eq_true rfl)) | ((with_reducible refine' me_Reno_fork ?ho_ ?_); (case ho_ => first | assumption | exact upd_same)) | ((with_reducible refine' me_Reno_avoid ?ho_ ?_); (case ho_ => first | assumption | exact upd_same)) | ((with_reducible refine' me_Reno_share ?ho_ ?_); (case ho_ => first | assumption | exact upd_same)) | ((with_reducible refine' me_Reno_begin_anew ?ho_ ?_); (case ho_ => first | assumption | exact upd_same)) | ((with_reducible refine' me_Reno_acknowledge ?ho_ ?_); (case ho_ => first | assumption | exact upd_same)) | ((with_reducible refine' me_Reno_lose ?ho_ ?_); (case ho_ => first | assumption | exact upd_same)) | ((with_reducible refine' me_Reno_time_out ?ho_ ?_); (case ho_ => first | assumption | exact upd_same)) | ((with_reducible refine' me_Reno_mark ?ho_ ?_); (case ho_ => first | assumption | exact upd_same)) | ((with_reducible refine' me_Reno_bounded ?ho_ ?_); (case ho_ => first | assumption | exact upd_same)) | ((with_reducible refine' me_Reno_give_to ?ho_ ?_); (case ho_ => first | assumption | exact upd_same)))
local macro_rules | `(tactic| walk_at "use") => `(tactic| first | ((with_reducible refine' dg_S_reno ?ho_ ?hv_ ?_); (case ho_ => first | assumption | exact upd_same); (case hv_ => exact rfl)) | ((with_reducible refine' dg_S_cwnd ?ho_ ?hv_ ?_); (case ho_ => first | assumption | exact upd_same); (case hv_ => exact rfl)) | ((with_reducible refine' dg_S_thresh ?ho_ ?hv_ ?_); (case ho_ => first | assumption | exact upd_same); (case hv_ => exact rfl)) | ((with_reducible refine' dg_S_peak ?ho_ ?hv_ ?_); (case ho_ => first | assumption | exact upd_same); (case hv_ => exact rfl)) | ((with_reducible refine' dg_S_prior ?ho_ ?hv_ ?_); (case ho_ => first | assumption | exact upd_same); (case hv_ => exact rfl)) | ((with_reducible refine' dg_S_calm ?ho_ ?hv_ ?_); (case ho_ => first | assumption | exact upd_same); (case hv_ => exact rfl)) | ((with_reducible refine' dg_S_credit ?ho_ ?hv_ ?_); (case ho_ => first | assumption | exact upd_same); (case hv_ => exact rfl)) | ((with_reducible refine' dg_S_period ?ho_ ?hv_ ?_); (case ho_ => first | assumption | exact upd_same); (case hv_ => exact rfl)) | ((with_reducible refine' dn_S_reno ?ho_ ?hv_ ?_); (case ho_ => first | assumption | exact upd_same); (case hv_ => exact rfl)) | ((with_reducible refine' dn_S_cwnd ?ho_ ?hv_ ?_); (case ho_ => first | assumption | exact upd_same); (case hv_ => exact rfl)) | ((with_reducible refine' dn_S_thresh ?ho_ ?hv_ ?_); (case ho_ => first | assumption | exact upd_same); (case hv_ => exact rfl)) | ((with_reducible refine' dn_S_peak ?ho_ ?hv_ ?_); (case ho_ => first | assumption | exact upd_same); (case hv_ => exact rfl)) | ((with_reducible refine' dn_S_prior ?ho_ ?hv_ ?_); (case ho_ => first | assumption | exact upd_same); (case hv_ => exact rfl)) | ((with_reducible refine' dn_S_calm ?ho_ ?hv_ ?_); (case ho_ => first | assumption | exact upd_same); (case hv_ => exact rfl)) | ((with_reducible refine' dn_S_credit ?ho_ ?hv_ ?_); (case ho_ => first | assumption | exact upd_same); (case hv_ => exact rfl)) | ((with_reducible refine' dn_S_period ?ho_ ?hv_ ?_); (case ho_ => first | assumption | exact upd_same); (case hv_ => exact rfl)) | ((with_reducible refine' dp_S_reno ?ho_ ?hv_ ?_); (case ho_ => first | assumption | exact upd_same); (case hv_ => exact Nat.le_of_ble_eq_true rfl)) | ((with_reducible refine' dp_S_cwnd ?ho_ ?hv_ ?_); (case ho_ => first | assumption | exact upd_same); (case hv_ => exact Nat.le_of_ble_eq_true rfl)) | ((with_reducible refine' dp_S_thresh ?ho_ ?hv_ ?_); (case ho_ => first | assumption | exact upd_same); (case hv_ => exact Nat.le_of_ble_eq_true rfl)) | ((with_reducible refine' dp_S_peak ?ho_ ?hv_ ?_); (case ho_ => first | assumption | exact upd_same); (case hv_ => exact Nat.le_of_ble_eq_true rfl)) | ((with_reducible refine' dp_S_prior ?ho_ ?hv_ ?_); (case ho_ => first | assumption | exact upd_same); (case hv_ => exact Nat.le_of_ble_eq_true rfl)) | ((with_reducible refine' dp_S_calm ?ho_ ?hv_ ?_); (case ho_ => first | assumption | exact upd_same); (case hv_ => exact Nat.le_of_ble_eq_true rfl)) | ((with_reducible refine' dp_S_credit ?ho_ ?hv_ ?_); (case ho_ => first | assumption | exact upd_same); (case hv_ => exact Nat.le_of_ble_eq_true rfl)) | ((with_reducible refine' dp_S_period ?ho_ ?hv_ ?_); (case ho_ => first | assumption | exact upd_same); (case hv_ => exact Nat.le_of_ble_eq_true rfl)))
local macro_rules | `(tactic| walk_at "use") => `(tactic| with_reducible first | refine g_dgetT ?_ | refine g_dputT ?_)
section
variable {P : Program} {w : World} {K : PySem.W.Frag} {mg : Str → Option Value} {base : Heap}
local macro_rules | `(tactic| walk_at "use") => `(tactic| with_reducible first | refine g_dgetT ?_ | refine g_dputT ?_ | refine g_gcons ?_ | refine g_gnil ?_ | refine g_cval ?_ | refine cvq_Control_GREATEST ?_ | refine g_methN ?_ | refine u_cell (by assumption) (by decide) ?_)
theorem g_disp {trs : List (TE × TE)} {σ : St} {H : Hp} {Q : VK} (h : ∀ p, H p = none → tPairs trs σ (upd H p (.dK [])) fun ps H2 => H2 p = some (.dK []) ∧ ∃ kvs : List (Key × V), ps = kvs.map (fun kv => (kV kv.1, kv.2)) ∧ kvs.length ≤ 15 ∧ Q (.ref p) (upd H2 p (.dK (mergeK [] kvs)))) : tDisp trs σ H Q := h
theorem g_pcons {tk tv : TE} {r : List (TE × TE)} {σ : St} {H : Hp} {Q : List (V × V) → Hp → Prop} (h : tk σ H fun x H1 => tv σ H1 fun y H2 => tPairs r σ H2 fun ps H3 => Q ((x, y) :: ps) H3) : tPairs ((tk, tv) :: r) σ H Q := h
theorem g_pnil {σ : St} {H : Hp} {Q : List (V × V) → Hp → Prop} (q : Q [] H) : tPairs [] σ H Q := q
local macro_rules | `(tactic| walk_at "use") => `(tactic| with_reducible first | refine g_disp ?_ | refine g_pcons ?_ | refine g_pnil ?_)
local macro_rules | `(tactic| walk_at "use") => `(tactic| with_reducible refine u_cell (by assumption) (by omega) ?_)

theorem dk_at {ks : List Str} {vs : List V} {i : Nat} {k : Key} {v : V} (h : (dk ks vs)[i]? = some (k, v)) : ∃ n, k = .inr n ∧ ks[i]? = some n ∧ vs[i]? = some v := by
  unfold dk at h
  rw [List.getElem?_map] at h
  cases e : (obj ks vs)[i]? with
  | none => rw [e] at h; cases h
  | some q =>
    rw [e] at h
    cases h
    refine ⟨q.1, rfl, ?_⟩
    induction ks generalizing vs i with
    | nil => cases e
    | cons k0 ks ih =>
      cases vs with
      | nil => cases e
      | cons v0 vs =>
        cases i with
        | zero => cases e; exact ⟨rfl, rfl⟩
        | succ i => exact ih e
theorem g_iKeys {td : TE} {σ : St} {H : Hp} {R : It → Hp → Prop} (h : td σ H fun x H1 => ∃ d o, x = .ref d ∧ ((∃ kvs, H1 d = some (.frz o (.dK kvs)) ∧ R (Itk d o kvs) H1) ∨ ∃ kvs, H1 d = some (.frz o (.dT kvs)) ∧ R (Itkt d o kvs) H1)) : iKeys td σ H R := h
theorem g_lock {t : TS} {D : Ends} {σ : St} {H : Hp} {d : Addr} {u : HO} (e : H d = some u) (m : Mut (some u)) (h : ∀ od, t ⟨fun σ' H' => H' d = some (.frz od u) ∧ D.nx σ' (upd H' d u), fun v H' => H' d = some (.frz od u) ∧ D.rt v (upd H' d u), fun σ' H' => H' d = some (.frz od u) ∧ D.bk σ' (upd H' d u), fun σ' H' => H' d = some (.frz od u) ∧ D.ct σ' (upd H' d u)⟩ σ (upd H d (.frz od u))) : tLock t D σ H := ⟨d, u, e, m, h⟩

def sp_law (K : PySem.W.Frag) : Sp := fun vs H Q _ => ∃ (a : Addr) (ns : List Int), vs = [.ref a] ∧ SqL K H a (ns.map V.int) ∧ ns.length ≤ 63 ∧ ∀ H', Q (.bl true) H'

theorem starts_none {g : Ct} (h : g.per = none) : Starts g := fun a b c d e z => by rw [h] at z; cases z
def sp_l_start : Sp := fun vs H Q _ => ∃ (r : Bool) (m : Int), vs = [.bl r, .int m] ∧ ∀ H' d, H d = none → Same H H' → StD H' d r ⟨10 * m, GG, 0, 0, 0, 0, none⟩ → Q (.ref d) H'
theorem ok_l_start (T : Txt P K mg) : FnOk P w K mg base CX0 1 T.f_l_start T.d_l_start ["reno", "size"] (sp_l_start) := by
  refine T.F_l_start.ok sc_l_start (fun vs H Q E h => ?_) (fun cdv A outer s H vs Q E hr h => ?_)
  · obtain ⟨r, m, rfl, q⟩ := h
    rfl
  · obtain ⟨r, m, rfl, q⟩ := h
    have hu := hu_of hr
    refine ⟨_, (pss_cons (ps_set (i := 2) sc_l_start.nd rfl (Or.inl rfl) (pe_disp (pps_cons pe_str (pv 0) (pps_cons pe_str (pe_op op_mul pe_int (pv 1)) (pps_cons pe_str pe_int (pps_cons pe_str pe_int (pps_cons pe_str pe_int (pps_cons pe_str pe_int (pps_cons pe_str pe_int pps_nil))))))) (by rfl) (by rfl) (fun z => by cases z) (by decide)))
        (pss_cons (ps_dput hu (pv 2) pe_str pe_non rfl)
        (pss_one (ps_ret (pv 2))))), ?_⟩
    dsimp only [cxOf, Cx.nox, Cx.wish, L2.start, List.map, List.cons_append, List.nil_append, List.length_cons, List.length_nil, Nat.reduceAdd, Nat.reduceSub, Nat.zero_add, List.replicate_succ, List.replicate_zero]
    walk_at "go"
    intro d nd
    walk_at "go"
    have mk : mergeK [] [((Sum.inr "reno" : Key), V.bl r), (.inr "cwnd", V.int (10 * m)), (.inr "thresh", .int 1073741824), (.inr "peak", .int 0), (.inr "prior", .int 0), (.inr "calm", .int 0), (.inr "credit", .int 0)] = dk kd_S [.bl r, .int (10 * m), .int 1073741824, .int 0, .int 0, .int 0, .int 0] := by
      show putK (putK (putK (putK (putK (putK (putK (dk kd_S []) (.inr "reno") _) (.inr "cwnd") _) (.inr "thresh") _) (.inr "peak") _) (.inr "prior") _) (.inr "calm") _) (.inr "credit") _ = _
      rw [dk_new ndd_S rfl, dk_new ndd_S rfl, dk_new ndd_S rfl, dk_new ndd_S rfl, dk_new ndd_S rfl, dk_new ndd_S rfl, dk_new ndd_S rfl]
      rfl
    refine ⟨upd_same, [((Sum.inr "reno" : Key), V.bl r), (.inr "cwnd", V.int (10 * m)), (.inr "thresh", .int 1073741824), (.inr "peak", .int 0), (.inr "prior", .int 0), (.inr "calm", .int 0), (.inr "credit", .int 0)], rfl, (by show 7 ≤ 15; decide), ?_⟩
    rw [mk, upd_upd]
    walk_at "nw"
    rename_i H1 s1 k1
    walk_at "go"
    refine q _ d nd ?_ ⟨_, upd_same, rfl⟩
    exact fun b o hb => by rw [upd_ne (ne_of_none hb nd)]; exact s1 _ _ hb
theorem ok_law (T : Txt P K mg) : FnOk P w K mg base CX0 7 T.f_law T.d_law ["script"] (sp_law K) := by
  refine T.F_law.ok sc_law (fun vs H Q E h => ?_) (fun cdv A outer s H vs Q E hr h => ?_)
  · obtain ⟨a, ns, rfl, hS, hlen, q⟩ := h
    rfl
  · obtain ⟨a, ns, rfl, hS, hlen, q⟩ := h
    have hu := hu_of hr
    refine ⟨_, (pss_cons (ps_set (i := 1) sc_law.nd rfl (Or.inl rfl) (pe_op op_add pe_int (pe_op op_mod (pe_op op_fdiv (pe_callTy call_int1 (by rfl) T.n_int (by decide +kernel) (pa_cons (pe_call (ok_l_cell T) (hr.mono (by decide)) rfl T.m_l_cell T.F_l_cell.kp T.b_l_cell .nil pass0 (pa_cons (pv 0) (pa_cons pe_int pa_nil))) pa_nil)) pe_int) pe_int)))
        (pss_cons (ps_set (i := 2) sc_law.nd rfl (Or.inl rfl) (pe_cmpR op_eq (pe_op op_mod (pe_callTy call_int1 (by rfl) T.n_int (by decide +kernel) (pa_cons (pe_call (ok_l_cell T) (hr.mono (by decide)) rfl T.m_l_cell T.F_l_cell.kp T.b_l_cell .nil pass0 (pa_cons (pv 0) (pa_cons pe_int pa_nil))) pa_nil)) pe_int) pe_int (nomark _)))
        (pss_cons (ps_set (i := 3) sc_law.nd rfl (Or.inl rfl) (pe_call (ok_l_start T) (hr.mono (by decide)) rfl T.m_l_start T.F_l_start.kp T.b_l_start .nil pass0 (pa_cons (pv 2) (pa_cons (pv 1) pa_nil))))
        (C8.pss_cut (ps_if (pt_val (pv 2)) (pss_one (ps_set (i := 4) sc_law.nd rfl (Or.inl rfl) (pe_make T.mk_Reno (ok_Reno_init__ T) (hr.mono (by decide)) rfl T.c_Reno T.b_Reno_init__ .nil pass0 (pa_cons (pv 1) pa_nil)))) (pss_one (ps_set (i := 4) sc_law.nd rfl (Or.inl rfl) (pe_make T.mk_Cubic (ok_Cubic_init__ T) (hr.mono (by decide)) rfl T.c_Cubic T.b_Cubic_init__ .nil pass0 (pa_cons (pv 1) pa_nil)))))
        (pss_cons (ps_if (pt_not (pt_val (pe_call (ok_l_right T) (hr.mono (by decide)) rfl T.m_l_right T.F_l_right.kp T.b_l_right .nil pass0 (pa_cons (pv 4) (pa_cons (pv 3) pa_nil))))) (pss_one (ps_ret pe_bl)) pss_nil)
        (pss_cons (ps_set (i := 5) sc_law.nd rfl (Or.inl rfl) (pe_op op_mod (pe_op op_fdiv (pe_callTy call_int1 (by rfl) T.n_int (by decide +kernel) (pa_cons (pe_call (ok_l_cell T) (hr.mono (by decide)) rfl T.m_l_cell T.F_l_cell.kp T.b_l_cell .nil pass0 (pa_cons (pv 0) (pa_cons pe_int pa_nil))) pa_nil)) pe_int) pe_int))
        (pss_cons (ps_set (i := 6) sc_law.nd rfl (Or.inl rfl) pe_dnewK)
        (pss_cons (ps_set (i := 7) sc_law.nd rfl (Or.inl rfl) pe_non)
        (pss_cons (ps_set (i := 8) sc_law.nd rfl (Or.inl rfl) pe_int)
        (pss_cons (ps_set (i := 9) sc_law.nd rfl (Or.inl rfl) (pe_slice sl_list (pv 0) (po_some pe_int) (po_some pe_int)))
        (pss_cons (ps_for PassesOwn.never rfl (pi_range1 (by rfl) T.n_range (pa_cons (pe_callB call_len_seq (by rfl) T.n_len (by decide +kernel) (pa_cons (pv 9) pa_nil)) pa_nil)) (pg_name (i := 10) sc_law.nd rfl (Or.inl rfl)) (C8.pss_cut (ps_if (PW.pt (pw_and (pt_cmpR op_eq (pv 10) pe_int (nomark _)) (pw_and1 (pt_cmpR op_eq (pe_op op_mod (pe_callTy call_int1 (by rfl) T.n_int (by decide +kernel) (pa_cons (pe_call (ok_l_cell T) (hr.mono (by decide)) rfl T.m_l_cell T.F_l_cell.kp T.b_l_cell .nil pass0 (pa_cons (pv 0) (pa_cons pe_int pa_nil))) pa_nil)) pe_int) pe_int (nomark _))))) (pss_one (ps_set (i := 1) sc_law.nd rfl (Or.inl rfl) (pe_op op_add pe_int (pe_op op_mod (pe_op op_fdiv (pe_callTy call_int1 (by rfl) T.n_int (by decide +kernel) (pa_cons (pe_call (ok_l_cell T) (hr.mono (by decide)) rfl T.m_l_cell T.F_l_cell.kp T.b_l_cell .nil pass0 (pa_cons (pv 0) (pa_cons pe_int pa_nil))) pa_nil)) pe_int) pe_int)))) pss_nil)
        (C8.pss_cut (ps_if (pt_cmpR op_eq (pv 10) (pv 5) (nomark _)) (pss_cons (ps_set (i := 7) sc_law.nd rfl (Or.inl rfl) (pv 4))
        (pss_cons (ps_set (i := 4) sc_law.nd rfl (Or.inl rfl) (pe_or2 (pe_meth0 (pv 7) T.k_Reno T.a_Reno_fork (ok_Reno_fork T) (hr.mono (by decide)) T.b_Reno_fork .nil pass0)
          (pe_meth0 (pv 7) T.k_Cubic T.a_Cubic_fork (ok_Cubic_fork T) (hr.mono (by decide)) T.b_Cubic_fork .nil pass0)))
        (pss_one (ps_lock (ps_for PassesOwn.never rfl (pi_keys (pv 3)) (pg_name (i := 11) sc_law.nd rfl (Or.inl rfl)) (pss_one (ps_dput hu (pv 6) (pv 11) (pe_dget hu (pv 3) (pv 11) (fun _ _ => rfl)) rfl))))))) pss_nil)
        (pss_cons (ps_set (i := 8) sc_law.nd rfl (Or.inl rfl) (pe_op op_add (pv 8) (pe_op op_mod (pe_op op_fdiv (pe_callTy call_int1 (by rfl) T.n_int (by decide +kernel) (pa_cons (pe_ix ix_list (pv 9) (pv 10) (fun _ _ => rfl)) pa_nil)) pe_int) pe_int)))
        (pss_cons (ps_if (PW.pt (pw_or (pt_not (pt_val (pe_call (ok_l_event T) (hr.mono (by decide)) rfl T.m_l_event T.F_l_event.kp T.b_l_event .nil pass0 (pa_cons (pv 4) (pa_cons (pv 3) (pa_cons (pv 1) (pa_cons (pv 8) (pa_cons (pe_ix ix_list (pv 9) (pv 10) (fun _ _ => rfl)) pa_nil)))))))) (pw_or1 (pt_not (pt_val (pe_call (ok_l_right T) (hr.mono (by decide)) rfl T.m_l_right T.F_l_right.kp T.b_l_right .nil pass0 (pa_cons (pv 4) (pa_cons (pv 3) pa_nil)))))))) (pss_one (ps_ret pe_bl)) pss_nil)
        (pss_one (ps_if (PW.pt (pw_and (pt_cmpR op_notN (pv 7) pe_non (nomark _)) (pw_and1 (pt_not (pt_val (pe_call (ok_l_right T) (hr.mono (by decide)) rfl T.m_l_right T.F_l_right.kp T.b_l_right .nil pass0 (pa_cons (pv 7) (pa_cons (pv 6) pa_nil)))))))) (pss_one (ps_ret pe_bl)) pss_nil)))))))
        (pss_one (ps_ret pe_bl))))))))))))), ?_⟩
    dsimp only [cxOf, Cx.nox, Cx.wish, L2.start, List.map, List.cons_append, List.nil_append, List.length_cons, List.length_nil, Nat.reduceAdd, Nat.reduceSub, Nat.zero_add, List.replicate_succ, List.replicate_zero]
    walk_at "go"
    have s0 : 1 ≤ 1 + cell ns 0 / 2 % 1460 := by omega
    have s1 : 1 + cell ns 0 / 2 % 1460 ≤ 1460 := by omega
    generalize 1 + cell ns 0 / 2 % 1460 = s at s0 s1
    have gg : GG = 1073741824 := rfl
    generalize decide (cell ns 0 % 2 = 1) = r
    refine ⟨r, s, rfl, fun H0 d nd sm0 hD0 => ?_⟩
    have hS0 := sm0.seq hS
    obtain ⟨pe0, hd0, _⟩ := id hD0
    walk_at "go"
    refine g_cut (fun σ' H1 => ∃ (p : Addr), σ' = [some (.ref a), some (.int s), some (.bl r), some (.ref d), some (.ref p), none, none, none, none, none, none, none] ∧ H0 p = none ∧ Same H0 H1 ∧ CtO r (CtA T.C_Reno T.C_Cubic r) H1 p ⟨10 * s, GG, 0, 0, 0, 0, none⟩) ?_ ?_
    · have e10 : min (10 * s) GG = 10 * s := by omega
      walk_at "go"
      cases r with
      | true =>
        walk_at "go"
        intro p dx np ndx nxd
        generalize z1 : upd (upd H0 dx _) p _ = H2
        have s2 : Same H0 H2 := by rw [← z1]; exact (same_upd ndx).trans (same_upd (by rw [upd_ne (fun z => nxd z.symm)]; exact np))
        have k2 : H2 p = some (.ins T.C_Reno dx (obj ky_Reno [])) := (congrFun z1 p).symm.trans upd_same
        clear z1
        refine ⟨p, dx, s, rfl, k2, fun H3 b3 O3 => ⟨rfl, ?_⟩⟩
        walk_at "go"
        rw [e10] at O3
        exact ⟨p, rfl, np, But.tr2 s2 np b3, O3⟩
      | false =>
        walk_at "go"
        intro p dx np ndx nxd
        generalize z1 : upd (upd H0 dx _) p _ = H2
        have s2 : Same H0 H2 := by rw [← z1]; exact (same_upd ndx).trans (same_upd (by rw [upd_ne (fun z => nxd z.symm)]; exact np))
        have k2 : H2 p = some (.ins T.C_Cubic dx (obj ky_Cubic [])) := (congrFun z1 p).symm.trans upd_same
        clear z1
        refine ⟨p, dx, s, rfl, k2, fun H3 b3 O3 => ⟨rfl, ?_⟩⟩
        walk_at "go"
        rw [e10] at O3
        exact ⟨p, rfl, np, But.tr2 s2 np b3, O3⟩
    rintro σ' H1 ⟨p, rfl, np, sm1, O1⟩
    have hS1 := sm1.seq hS0
    have hD1 := hD0.same sm1
    have I1 : CtI 1 ⟨10 * s, GG, 0, 0, 0, 0, none⟩ 0 := ⟨by show 1 ≤ 10 * s; omega, by show 10 * s ≤ GG; omega, by show 2 * 1 ≤ GG; omega, Int.le_refl _, Int.le_refl 0, show (0 : Int) ≤ GG by decide, fun a b c d e z => by cases z⟩
    clear hD0 hd0
    walk_at "go"
    cases r with
    | true =>
      have O1 : CtO true T.C_Reno H1 p ⟨10 * s, GG, 0, 0, 0, 0, none⟩ := O1
      refine ⟨true, p, d, _, rfl, O1, hD1, ?_⟩
      walk_at "go"
      intro kd nkd
      walk_at "nw"
      rename_i H2 s2 k2
      have O2 := O1.same s2
      have hD2 := hD1.same s2
      have hS2 := s2.seq hS1
      obtain ⟨pe, hd, _⟩ := id hD1
      have nkdd : kd ≠ d := (ne_of_none hd nkd).symm
      clear O1 hD1
      walk_at "go"
      generalize esp : cell ns 1 / 4 % 41 = sp
      refine g_slL hS2 fun cl ncl => ?_
      obtain ⟨ms, ems, lms⟩ := cut_ints ns (some 2) (some 42)
      rw [ems]
      walk_at "nw"
      rename_i H3 s3 k3
      have O3 := O2.same s3
      have hD3 := hD2.same s3
      have hS3 := s3.seq hS2
      have kk3 := s3 _ _ k2
      obtain ⟨dx3, e3, ho3, _⟩ := id O3
      obtain ⟨pe3, hd3, _⟩ := id hD3
      have nclp : cl ≠ p := fun z => by rw [z, ho3] at k3; cases k3
      have ncld : cl ≠ d := fun z => by rw [z, hd3] at k3; cases k3
      walk_at "go"
      refine g_for ?_
      walk_at "go"
      refine g_len (.inl (sl k3)) ?_
      walk_at "go"
      rw [List.length_map]
      refine ⟨by omega, by omega, ?_⟩
      obtain ⟨Inv, eInv⟩ : ∃ Inv : Nat → St → Hp → Prop, Inv = fun (i : Nat) (σ' : St) (H' : Hp) => (∃ (m now : Int) (p : Addr) (fv : V) (g : Ct) (v10 v11 : Option V), σ' = [some (.ref a), some (.int m), some (.bl true), some (.ref d), some (.ref p), some (.int sp), some (.ref kd), some fv, some (.int now), some (.ref cl), v10, v11] ∧ CtO true T.C_Reno H' p g ∧ StD H' d true g ∧ 1 ≤ m ∧ m ≤ 1460 ∧ CtI 1 g now ∧ Starts g ∧ 0 ≤ now ∧ now ≤ 500 * (i : Int) ∧ H' cl = some (.lst (ms.map V.int)) ∧ SqL K H' a (ns.map V.int) ∧
        (((i : Int) ≤ sp ∧ fv = .non ∧ H' kd = some (.dK [])) ∨ (sp < (i : Int) ∧ ∃ p0 g0, fv = .ref p0 ∧ p0 ≠ p ∧ CtO true T.C_Reno H' p0 g0 ∧ StD H' kd true g0))) := ⟨_, rfl⟩
      refine for_range (lo := 0) Inv ?start ?turn ?done
      case start =>
        rw [eInv]
        exact ⟨s, 0, p, .non, _, _, _, rfl, O3, hD3, s0, s1, I1, starts_none rfl, Int.le_refl 0, by omega, k3, hS3, .inl ⟨by omega, rfl, kk3⟩⟩
      case done =>
        intro σ' H' hI
        rw [eInv] at hI
        obtain ⟨m, now, p, fv, g, v10, v11, rfl, _⟩ := hI
        walk_at "go"
        exact q _
      case turn =>
        intro i σ' H0 hi hI
        rw [eInv] at hI
        clear O2 hD2 O3 hD3 kk3 ho3 hd3 k3 hS3
        obtain ⟨m, now, p, fv, g, v10, v11, rfl, O, hD, m0, m1, I, hst, n0, n1, kcl, hS0, hk⟩ := hI
        have hi' : i < ms.length := by omega
        obtain ⟨c, hc⟩ : ∃ c, ms[i]? = some c := ⟨ms[i]'hi', List.getElem?_eq_getElem _⟩
        have hx : atI (ms.map V.int) (0 + (i : Int)) = some (.int c) := at_of (j := i) (by omega) (by rw [List.getElem?_map, hc]; rfl)
        walk_at "go"
        refine g_cut (fun σ2 H2 => H2 = H0 ∧ ∃ m', 1 ≤ m' ∧ m' ≤ 1460 ∧ σ2 = [some (.ref a), some (.int m'), some (.bl true), some (.ref d), some (.ref p), some (.int sp), some (.ref kd), some fv, some (.int now), some (.ref cl), some (.int (0 + (i : Int))), v11]) ?_ ?_
        · walk_at "go"
          by_cases z1 : 0 + (i : Int) = 3
          · walk_at "go"
            refine g_ite (fun z2 => ?_) (fun z2 => ?_)
            · walk_at "go"
              exact ⟨rfl, _, by omega, by omega, rfl⟩
            · walk_at "go"
              exact ⟨rfl, _, m0, m1, rfl⟩
          · walk_at "go"
            exact ⟨rfl, _, m0, m1, rfl⟩
        rintro σ2 H2 ⟨rfl, m', m0', m1', rfl⟩
        walk_at "go"
        refine g_cut (fun σ2 H3 => ∃ (p' : Addr) (fv' : V) (v11' : Option V), σ2 = [some (.ref a), some (.int m'), some (.bl true), some (.ref d), some (.ref p'), some (.int sp), some (.ref kd), some fv', some (.int now), some (.ref cl), some (.int (0 + (i : Int))), v11'] ∧ CtO true T.C_Reno H3 p' g ∧ StD H3 d true g ∧ H3 cl = some (.lst (ms.map V.int)) ∧ SqL K H3 a (ns.map V.int) ∧ (((i : Int) + 1 ≤ sp ∧ fv' = .non ∧ H3 kd = some (.dK [])) ∨ (sp < (i : Int) + 1 ∧ ∃ p0 g0, fv' = .ref p0 ∧ p0 ≠ p' ∧ CtO true T.C_Reno H3 p0 g0 ∧ StD H3 kd true g0))) ?_ ?_
        · walk_at "go"
          by_cases z1 : 0 + (i : Int) = sp
          · rcases hk with ⟨_, rfl, ek⟩ | ⟨z, _⟩
            · obtain ⟨dx0, e0, ho0, _⟩ := id O
              walk_at "go"
              refine g_or2l ?_
              walk_at "go"
              refine ⟨p, g, rfl, O, fun H3 x nx s3 Ox => ?_⟩
              have O3 := O.same s3
              have hD3 := hD.same s3
              have hS3 := s3.seq hS0
              have kc3 := s3 _ _ kcl
              have ek3 := s3 _ _ ek
              have npx : p ≠ x := ne_of_none ho0 nx
              obtain ⟨pe3, hd3, hpe3⟩ := id hD3
              walk_at "go"
              generalize hVS : [V.bl true, V.int g.cwnd, V.int g.thresh, V.int g.peak, V.int g.prior, V.int g.calm, V.int g.cr, pe3] = VS at hd3
              have hn : (dk kd_S VS).length = 8 := by rw [← hVS]; rfl
              have hn2 : VS.length = 8 := by rw [← hVS]; rfl
              refine g_lock hd3 trivial fun od => ?_
              refine g_for ?_
              refine g_iKeys ?_
              walk_at "go"
              refine ⟨d, od, rfl, .inl ⟨_, upd_same, ?_⟩⟩
              have ek3' : H3 kd = some (.dK (dk kd_S [])) := ek3
              refine for_it walk_keys (fun j σ4 H4 => ∃ v11, σ4 = [some (.ref a), some (.int m'), some (.bl true), some (.ref d), some (.ref x), some (.int sp), some (.ref kd), some (.ref p), some (.int now), some (.ref cl), some (.int (0 + (i : Int))), v11] ∧ H4 d = some (.frz od (.dK (dk kd_S VS))) ∧ H4 kd = some (.dK (dk kd_S (VS.take j))) ∧ But kd (upd H3 d (.frz od (.dK (dk kd_S VS)))) H4) ⟨_, rfl, upd_same, (by rw [upd_ne nkdd]; exact ek3'), But.refl⟩ (fun j σ4 H4 _ ⟨_, _, e, _⟩ => e) ?turn2 ?done2
              case turn2 =>
                rintro j x0 σ4 H4 H5 hj ⟨v11, rfl, e1, e2, bu⟩ ⟨rfl, k, vv, hk, rfl⟩
                obtain ⟨nm, rfl, hks, hvs⟩ := dk_at hk
                walk_at "go"
                refine ⟨d, vv, rfl, .inl ⟨_, .inr nm, .inr ⟨od, e1⟩, rfl, (by unfold dk; rw [val_map, obj_get ndd_S hks, hvs])⟩, ?_⟩
                walk_at "go"
                refine ⟨kd, _, rfl, DPut.k (k := .inr nm) e2 (szl (Nat.lt_of_le_of_lt dk_len (by decide))), ?_⟩
                rw [dk_new ndd_S (by rw [List.length_take, Nat.min_eq_left (by omega)]; exact hks)]
                walk_at "go"
                refine ⟨_, rfl, (by rw [upd_ne nkdd.symm]; exact e1), ?_, bu.upd⟩
                rw [upd_same, List.take_add_one, hvs]
                rfl
              case done2 =>
                rintro σ4 H4 ⟨v11, rfl, e1, e2, bu⟩
                rw [List.take_of_length_le (by omega)] at e2
                refine ⟨e1, ?_⟩
                generalize z1 : upd H4 d _ = H7
                have e7f : H7 kd = some (.dK (dk kd_S VS)) := by rw [← z1, upd_ne nkdd]; exact e2
                have s37 : But kd H3 H7 := fun b o nb hb => by
                  by_cases c : b = d
                  · subst c
                    rw [← z1, upd_same, ← hd3, hb]
                  · rw [← z1, upd_ne c]
                    exact bu b o nb (by rw [upd_ne c]; exact hb)
                clear z1 e1 e2 bu
                subst hVS
                have O7 := O3.butD s37 ek3'
                have Ox7 := Ox.butD s37 ek3'
                obtain ⟨pe7, hd7, hpe7⟩ : StD H7 d true g := ⟨pe3, s37 _ _ nkdd.symm hd3, perV.butD s37 ek3' hpe3⟩
                have ncl : cl ≠ kd := fun z => by rw [z, ek3] at kc3; cases kc3
                refine ⟨x, .ref p, _, rfl, Ox7, ⟨pe7, hd7, hpe7⟩, s37 _ _ ncl kc3, ?_, .inr ⟨by omega, p, g, rfl, npx, O7, ⟨pe3, e7f, perV.butD s37 ek3' hpe3⟩⟩⟩
                rcases hS3 with (h | ⟨o, h⟩) | h
                · exact .inl (.inl (s37 _ _ (fun z => by rw [z, ek3] at h; cases h) h))
                · exact .inl (.inr ⟨o, s37 _ _ (fun z => by rw [z, ek3] at h; cases h) h⟩)
                · exact .inr h
            · omega
          · walk_at "go"
            refine ⟨p, fv, _, rfl, O, hD, kcl, hS0, ?_⟩
            rcases hk with ⟨z, z2⟩ | ⟨z, z2⟩
            · exact .inl ⟨by omega, z2⟩
            · exact .inr ⟨by omega, z2⟩
        clear O hD kcl hS0 hk
        rintro σ3 H3 ⟨p', fv', v11', rfl, O, hD, kcl, hS0, hk⟩
        obtain ⟨dx0, e0, ho0, _⟩ := id O
        obtain ⟨pe0, hd0, _⟩ := id hD
        walk_at "go"
        refine g_ixL (sl kcl) hx ?_
        walk_at "go"
        refine g_ixL (sl kcl) hx ?_
        walk_at "go"
        refine ⟨true, p', d, g, m', now + c / 1024 % 500, now, c, rfl, O, hD, m0', m1', I, hst, n0, by omega, by omega, by omega, fun H4 g4 b4 O4 hD4 I4 st4 => ?_⟩
        have kcl4 : H4 cl = some (.lst (ms.map V.int)) := b4 _ _ (fun z => by rw [z, ho0] at kcl; cases kcl) (fun z => by rw [z, hd0] at kcl; cases kcl) kcl
        have hS4 : SqL K H4 a (ns.map V.int) := by
          rcases hS0 with (h | ⟨o, h⟩) | h
          · exact .inl (.inl (b4 _ _ (fun z => by rw [z, ho0] at h; cases h) (fun z => by rw [z, hd0] at h; cases h) h))
          · exact .inl (.inr ⟨o, b4 _ _ (fun z => by rw [z, ho0] at h; cases h) (fun z => by rw [z, hd0] at h; cases h) h⟩)
          · exact .inr h
        have hk4 : (((i : Int) + 1 ≤ sp ∧ fv' = .non ∧ H4 kd = some (.dK [])) ∨ (sp < (i : Int) + 1 ∧ ∃ p0 g0, fv' = .ref p0 ∧ p0 ≠ p' ∧ CtO true T.C_Reno H4 p0 g0 ∧ StD H4 kd true g0)) := by
          rcases hk with ⟨z, z2, z3⟩ | ⟨z, p0, g0, z1, z2, z3, z4⟩
          · exact .inl ⟨z, z2, b4 _ _ (fun y => by rw [y, ho0] at z3; cases z3) nkdd z3⟩
          · exact .inr ⟨z, p0, g0, z1, z2, z3.bt2 b4 ho0 hd0 z2, z4.bt2 b4 ho0 hd0 nkdd⟩
        clear hk O hD kcl hS0
        walk_at "go"
        refine ⟨true, p', d, g4, rfl, O4, hD4, ?_⟩
        walk_at "go"
        rcases hk4 with ⟨z, rfl, z3⟩ | ⟨z, p0, g0, rfl, z2, z3, z4⟩
        · walk_at "go"
          rw [eInv]
          exact ⟨m', _, p', .non, g4, _, _, rfl, O4, hD4, m0', m1', I4, st4, by omega, by push_cast; omega, kcl4, hS4, .inl ⟨by push_cast; omega, rfl, z3⟩⟩
        · walk_at "go"
          refine ⟨true, p0, kd, g0, rfl, z3, z4, ?_⟩
          walk_at "go"
          rw [eInv]
          exact ⟨m', _, p', .ref p0, g4, _, _, rfl, O4, hD4, m0', m1', I4, st4, by omega, by push_cast; omega, kcl4, hS4, .inr ⟨by push_cast; omega, p0, g0, rfl, z2, z3, z4⟩⟩

    | false =>
      have O1 : CtO false T.C_Cubic H1 p ⟨10 * s, GG, 0, 0, 0, 0, none⟩ := O1
      refine ⟨false, p, d, _, rfl, O1, hD1, ?_⟩
      walk_at "go"
      intro kd nkd
      walk_at "nw"
      rename_i H2 s2 k2
      have O2 := O1.same s2
      have hD2 := hD1.same s2
      have hS2 := s2.seq hS1
      obtain ⟨pe, hd, _⟩ := id hD1
      have nkdd : kd ≠ d := (ne_of_none hd nkd).symm
      clear O1 hD1
      walk_at "go"
      generalize esp : cell ns 1 / 4 % 41 = sp
      refine g_slL hS2 fun cl ncl => ?_
      obtain ⟨ms, ems, lms⟩ := cut_ints ns (some 2) (some 42)
      rw [ems]
      walk_at "nw"
      rename_i H3 s3 k3
      have O3 := O2.same s3
      have hD3 := hD2.same s3
      have hS3 := s3.seq hS2
      have kk3 := s3 _ _ k2
      obtain ⟨dx3, e3, ho3, _⟩ := id O3
      obtain ⟨pe3, hd3, _⟩ := id hD3
      have nclp : cl ≠ p := fun z => by rw [z, ho3] at k3; cases k3
      have ncld : cl ≠ d := fun z => by rw [z, hd3] at k3; cases k3
      walk_at "go"
      refine g_for ?_
      walk_at "go"
      refine g_len (.inl (sl k3)) ?_
      walk_at "go"
      rw [List.length_map]
      refine ⟨by omega, by omega, ?_⟩
      obtain ⟨Inv, eInv⟩ : ∃ Inv : Nat → St → Hp → Prop, Inv = fun (i : Nat) (σ' : St) (H' : Hp) => (∃ (m now : Int) (p : Addr) (fv : V) (g : Ct) (v10 v11 : Option V), σ' = [some (.ref a), some (.int m), some (.bl false), some (.ref d), some (.ref p), some (.int sp), some (.ref kd), some fv, some (.int now), some (.ref cl), v10, v11] ∧ CtO false T.C_Cubic H' p g ∧ StD H' d false g ∧ 1 ≤ m ∧ m ≤ 1460 ∧ CtI 1 g now ∧ Starts g ∧ 0 ≤ now ∧ now ≤ 500 * (i : Int) ∧ H' cl = some (.lst (ms.map V.int)) ∧ SqL K H' a (ns.map V.int) ∧
        (((i : Int) ≤ sp ∧ fv = .non ∧ H' kd = some (.dK [])) ∨ (sp < (i : Int) ∧ ∃ p0 g0, fv = .ref p0 ∧ p0 ≠ p ∧ CtO false T.C_Cubic H' p0 g0 ∧ StD H' kd false g0))) := ⟨_, rfl⟩
      refine for_range (lo := 0) Inv ?start ?turn ?done
      case start =>
        rw [eInv]
        exact ⟨s, 0, p, .non, _, _, _, rfl, O3, hD3, s0, s1, I1, starts_none rfl, Int.le_refl 0, by omega, k3, hS3, .inl ⟨by omega, rfl, kk3⟩⟩
      case done =>
        intro σ' H' hI
        rw [eInv] at hI
        obtain ⟨m, now, p, fv, g, v10, v11, rfl, _⟩ := hI
        walk_at "go"
        exact q _
      case turn =>
        intro i σ' H0 hi hI
        rw [eInv] at hI
        clear O2 hD2 O3 hD3 kk3 ho3 hd3 k3 hS3
        obtain ⟨m, now, p, fv, g, v10, v11, rfl, O, hD, m0, m1, I, hst, n0, n1, kcl, hS0, hk⟩ := hI
        have hi' : i < ms.length := by omega
        obtain ⟨c, hc⟩ : ∃ c, ms[i]? = some c := ⟨ms[i]'hi', List.getElem?_eq_getElem _⟩
        have hx : atI (ms.map V.int) (0 + (i : Int)) = some (.int c) := at_of (j := i) (by omega) (by rw [List.getElem?_map, hc]; rfl)
        walk_at "go"
        refine g_cut (fun σ2 H2 => H2 = H0 ∧ ∃ m', 1 ≤ m' ∧ m' ≤ 1460 ∧ σ2 = [some (.ref a), some (.int m'), some (.bl false), some (.ref d), some (.ref p), some (.int sp), some (.ref kd), some fv, some (.int now), some (.ref cl), some (.int (0 + (i : Int))), v11]) ?_ ?_
        · walk_at "go"
          by_cases z1 : 0 + (i : Int) = 3
          · walk_at "go"
            refine g_ite (fun z2 => ?_) (fun z2 => ?_)
            · walk_at "go"
              exact ⟨rfl, _, by omega, by omega, rfl⟩
            · walk_at "go"
              exact ⟨rfl, _, m0, m1, rfl⟩
          · walk_at "go"
            exact ⟨rfl, _, m0, m1, rfl⟩
        rintro σ2 H2 ⟨rfl, m', m0', m1', rfl⟩
        walk_at "go"
        refine g_cut (fun σ2 H3 => ∃ (p' : Addr) (fv' : V) (v11' : Option V), σ2 = [some (.ref a), some (.int m'), some (.bl false), some (.ref d), some (.ref p'), some (.int sp), some (.ref kd), some fv', some (.int now), some (.ref cl), some (.int (0 + (i : Int))), v11'] ∧ CtO false T.C_Cubic H3 p' g ∧ StD H3 d false g ∧ H3 cl = some (.lst (ms.map V.int)) ∧ SqL K H3 a (ns.map V.int) ∧ (((i : Int) + 1 ≤ sp ∧ fv' = .non ∧ H3 kd = some (.dK [])) ∨ (sp < (i : Int) + 1 ∧ ∃ p0 g0, fv' = .ref p0 ∧ p0 ≠ p' ∧ CtO false T.C_Cubic H3 p0 g0 ∧ StD H3 kd false g0))) ?_ ?_
        · walk_at "go"
          by_cases z1 : 0 + (i : Int) = sp
          · rcases hk with ⟨_, rfl, ek⟩ | ⟨z, _⟩
            · obtain ⟨dx0, e0, ho0, _⟩ := id O
              walk_at "go"
              refine g_or2r ?_
              walk_at "go"
              refine ⟨p, g, rfl, O, fun H3 x nx s3 Ox => ?_⟩
              have O3 := O.same s3
              have hD3 := hD.same s3
              have hS3 := s3.seq hS0
              have kc3 := s3 _ _ kcl
              have ek3 := s3 _ _ ek
              have npx : p ≠ x := ne_of_none ho0 nx
              obtain ⟨pe3, hd3, hpe3⟩ := id hD3
              walk_at "go"
              generalize hVS : [V.bl false, V.int g.cwnd, V.int g.thresh, V.int g.peak, V.int g.prior, V.int g.calm, V.int g.cr, pe3] = VS at hd3
              have hn : (dk kd_S VS).length = 8 := by rw [← hVS]; rfl
              have hn2 : VS.length = 8 := by rw [← hVS]; rfl
              refine g_lock hd3 trivial fun od => ?_
              refine g_for ?_
              refine g_iKeys ?_
              walk_at "go"
              refine ⟨d, od, rfl, .inl ⟨_, upd_same, ?_⟩⟩
              have ek3' : H3 kd = some (.dK (dk kd_S [])) := ek3
              refine for_it walk_keys (fun j σ4 H4 => ∃ v11, σ4 = [some (.ref a), some (.int m'), some (.bl false), some (.ref d), some (.ref x), some (.int sp), some (.ref kd), some (.ref p), some (.int now), some (.ref cl), some (.int (0 + (i : Int))), v11] ∧ H4 d = some (.frz od (.dK (dk kd_S VS))) ∧ H4 kd = some (.dK (dk kd_S (VS.take j))) ∧ But kd (upd H3 d (.frz od (.dK (dk kd_S VS)))) H4) ⟨_, rfl, upd_same, (by rw [upd_ne nkdd]; exact ek3'), But.refl⟩ (fun j σ4 H4 _ ⟨_, _, e, _⟩ => e) ?turn2 ?done2
              case turn2 =>
                rintro j x0 σ4 H4 H5 hj ⟨v11, rfl, e1, e2, bu⟩ ⟨rfl, k, vv, hk, rfl⟩
                obtain ⟨nm, rfl, hks, hvs⟩ := dk_at hk
                walk_at "go"
                refine ⟨d, vv, rfl, .inl ⟨_, .inr nm, .inr ⟨od, e1⟩, rfl, (by unfold dk; rw [val_map, obj_get ndd_S hks, hvs])⟩, ?_⟩
                walk_at "go"
                refine ⟨kd, _, rfl, DPut.k (k := .inr nm) e2 (szl (Nat.lt_of_le_of_lt dk_len (by decide))), ?_⟩
                rw [dk_new ndd_S (by rw [List.length_take, Nat.min_eq_left (by omega)]; exact hks)]
                walk_at "go"
                refine ⟨_, rfl, (by rw [upd_ne nkdd.symm]; exact e1), ?_, bu.upd⟩
                rw [upd_same, List.take_add_one, hvs]
                rfl
              case done2 =>
                rintro σ4 H4 ⟨v11, rfl, e1, e2, bu⟩
                rw [List.take_of_length_le (by omega)] at e2
                refine ⟨e1, ?_⟩
                generalize z1 : upd H4 d _ = H7
                have e7f : H7 kd = some (.dK (dk kd_S VS)) := by rw [← z1, upd_ne nkdd]; exact e2
                have s37 : But kd H3 H7 := fun b o nb hb => by
                  by_cases c : b = d
                  · subst c
                    rw [← z1, upd_same, ← hd3, hb]
                  · rw [← z1, upd_ne c]
                    exact bu b o nb (by rw [upd_ne c]; exact hb)
                clear z1 e1 e2 bu
                subst hVS
                have O7 := O3.butD s37 ek3'
                have Ox7 := Ox.butD s37 ek3'
                obtain ⟨pe7, hd7, hpe7⟩ : StD H7 d false g := ⟨pe3, s37 _ _ nkdd.symm hd3, perV.butD s37 ek3' hpe3⟩
                have ncl : cl ≠ kd := fun z => by rw [z, ek3] at kc3; cases kc3
                refine ⟨x, .ref p, _, rfl, Ox7, ⟨pe7, hd7, hpe7⟩, s37 _ _ ncl kc3, ?_, .inr ⟨by omega, p, g, rfl, npx, O7, ⟨pe3, e7f, perV.butD s37 ek3' hpe3⟩⟩⟩
                rcases hS3 with (h | ⟨o, h⟩) | h
                · exact .inl (.inl (s37 _ _ (fun z => by rw [z, ek3] at h; cases h) h))
                · exact .inl (.inr ⟨o, s37 _ _ (fun z => by rw [z, ek3] at h; cases h) h⟩)
                · exact .inr h
            · omega
          · walk_at "go"
            refine ⟨p, fv, _, rfl, O, hD, kcl, hS0, ?_⟩
            rcases hk with ⟨z, z2⟩ | ⟨z, z2⟩
            · exact .inl ⟨by omega, z2⟩
            · exact .inr ⟨by omega, z2⟩
        clear O hD kcl hS0 hk
        rintro σ3 H3 ⟨p', fv', v11', rfl, O, hD, kcl, hS0, hk⟩
        obtain ⟨dx0, e0, ho0, _⟩ := id O
        obtain ⟨pe0, hd0, _⟩ := id hD
        walk_at "go"
        refine g_ixL (sl kcl) hx ?_
        walk_at "go"
        refine g_ixL (sl kcl) hx ?_
        walk_at "go"
        refine ⟨false, p', d, g, m', now + c / 1024 % 500, now, c, rfl, O, hD, m0', m1', I, hst, n0, by omega, by omega, by omega, fun H4 g4 b4 O4 hD4 I4 st4 => ?_⟩
        have kcl4 : H4 cl = some (.lst (ms.map V.int)) := b4 _ _ (fun z => by rw [z, ho0] at kcl; cases kcl) (fun z => by rw [z, hd0] at kcl; cases kcl) kcl
        have hS4 : SqL K H4 a (ns.map V.int) := by
          rcases hS0 with (h | ⟨o, h⟩) | h
          · exact .inl (.inl (b4 _ _ (fun z => by rw [z, ho0] at h; cases h) (fun z => by rw [z, hd0] at h; cases h) h))
          · exact .inl (.inr ⟨o, b4 _ _ (fun z => by rw [z, ho0] at h; cases h) (fun z => by rw [z, hd0] at h; cases h) h⟩)
          · exact .inr h
        have hk4 : (((i : Int) + 1 ≤ sp ∧ fv' = .non ∧ H4 kd = some (.dK [])) ∨ (sp < (i : Int) + 1 ∧ ∃ p0 g0, fv' = .ref p0 ∧ p0 ≠ p' ∧ CtO false T.C_Cubic H4 p0 g0 ∧ StD H4 kd false g0)) := by
          rcases hk with ⟨z, z2, z3⟩ | ⟨z, p0, g0, z1, z2, z3, z4⟩
          · exact .inl ⟨z, z2, b4 _ _ (fun y => by rw [y, ho0] at z3; cases z3) nkdd z3⟩
          · exact .inr ⟨z, p0, g0, z1, z2, z3.bt2 b4 ho0 hd0 z2, z4.bt2 b4 ho0 hd0 nkdd⟩
        clear hk O hD kcl hS0
        walk_at "go"
        refine ⟨false, p', d, g4, rfl, O4, hD4, ?_⟩
        walk_at "go"
        rcases hk4 with ⟨z, rfl, z3⟩ | ⟨z, p0, g0, rfl, z2, z3, z4⟩
        · walk_at "go"
          rw [eInv]
          exact ⟨m', _, p', .non, g4, _, _, rfl, O4, hD4, m0', m1', I4, st4, by omega, by push_cast; omega, kcl4, hS4, .inl ⟨by push_cast; omega, rfl, z3⟩⟩
        · walk_at "go"
          refine ⟨false, p0, kd, g0, rfl, z3, z4, ?_⟩
          walk_at "go"
          rw [eInv]
          exact ⟨m', _, p', .ref p0, g4, _, _, rfl, O4, hD4, m0', m1', I4, st4, by omega, by push_cast; omega, kcl4, hS4, .inr ⟨by push_cast; omega, p0, g0, rfl, z2, z3, z4⟩⟩

end
end My
namespace My
open PySem PySem.Spec L2
local macro_rules | `(tactic| walk_at "side") => `(tactic| first | assumption | decide | omega | exact ⟨by decide, by decide⟩ | exact ⟨by decide, by decide, by decide⟩ | decide +kernel | exact cdivW (by decide +kernel) (by decide +kernel) | exact Or.inl ⟨by omega, by omega⟩ | exact Or.inr ⟨by omega, by omega⟩ | (simp only [List.length_map, List.length_cons, List.length_nil, List.length_append]; omega))
local macro_rules | `(tactic| walk_at "fact") => `(tactic| first | assumption | omega | with_reducible rfl)
local macro_rules | `(tactic| walk_at "use") => `(tactic| fail "use")
local macro_rules | `(tactic| walk_at "go1") => `(tactic| with_reducible first | refine g_seq ?_ | refine g_asg ?_ | refine g_ret ?_ | refine g_ifS ?_ | refine g_drop ?_ | refine g_star ?_ | refine g_nx ?_ | refine g_rt ?_ | refine g_bkE ?_ | refine g_ctE ?_ | refine g_next ?_ | refine g_retN ?_ | refine g_brk ?_ | refine g_ct ?_ | refine g_c ?_ | refine g_op ?_ | refine g_un ?_ | refine g_rI0 ?_ | refine g_rU ?_ | refine g_rEqI ?_ | refine g_rNeI ?_ | refine g_isN ?_ | refine g_rIsB ?_ | refine g_rNotB ?_ | refine g_test ?_ | refine g_B ?_ | refine g_bl ?_ | refine g_and ?_ | refine g_or ?_ | refine g_not ?_ | refine g_andV ?_ | refine g_orV ?_ | refine g_notV ?_ | refine g_if ?_ | refine g_chain ?_ | refine g_yes ?_ | refine g_lc ?_ | refine g_revR ?_ | refine g_rng1 ?_ | refine g_iList ?_ | refine g_nil ?_ | refine g_cons ?_ | refine g_tup ?_ | refine g_lst ?_ | refine g_call ?_ | refine g_CB ?_ | refine g_sl ?_ | refine g_noPart ?_ | refine g_part ?_ | refine g_intE ?_ | refine g_ref ?_ | refine g_fld ?_ | refine g_sfld ?_ | refine g_meth ?_ | refine g_make ?_ | refine g_prop ?_  | refine g_ipI ?_ | refine g_int1 ?_ | refine g_int1B ?_ | refine g_one ?_ | refine g_two ?_ | refine g_isiI ?_ | refine g_isiIB ?_ | refine g_isiB ?_ | refine g_BM ?_ | refine g_BM0 ?_ | refine g_sub ?_)
local macro_rules | `(tactic| walk_at "go") => `(tactic| repeat (first | walk_at "go1" | ((with_reducible refine' g_nameE ?sd_ ?_); case sd_ => dsimp only [List.set_cons_succ, List.set_cons_zero]) | ((with_reducible refine' g_var ?sd_ ?_); case sd_ => exact rfl) | ((with_reducible refine' g_aug ?sd_ ?_); case sd_ => exact rfl) | ((with_reducible refine' g_rI ?sd_ ?_); case sd_ => walk_at "side") | ((with_reducible refine' g_dT ?sd_ ?_); case sd_ => walk_at "fact") | ((with_reducible refine' g_dF ?sd_ ?_); case sd_ => walk_at "fact") | ((with_reducible refine' g_nT ?sd_ ?_); case sd_ => walk_at "fact") | ((with_reducible refine' g_nF ?sd_ ?_); case sd_ => walk_at "fact") | (with_reducible refine g_iT rfl ?_) | (with_reducible refine g_iF rfl ?_) | walk_at "use"))
local macro_rules | `(tactic| walk_at "nw") => `(tactic| (generalize zq : upd _ _ _ = Hq; have sq : Same _ Hq := (by rw [← zq]; exact same_upd (by assumption)); have kq := (congrFun zq _).symm.trans upd_same; clear zq))
local macro_rules | `(tactic| walk_at "bt") => `(tactic| (generalize zq : upd _ _ _ = Hq; have bq : But _ _ Hq := (by rw [← zq]; exact But.refl.upd); have kq := (congrFun zq _).symm.trans upd_same; clear zq))
theorem all_mk {l : PySem.W.OpenLaw} {w : World} {K : PySem.W.Frag} {h : Heap} {mg : Str → Option Value} {fa : Addr} (X : K.In h) (G : h.Ns mainGlobals mg) (hfa : mg "law" = some (.ref fa))
    {t_SLOWNESS : Tok} {C_Control : Addr} {C_Cubic : Addr} {C_Reno : Addr} {tcc_Control_GREATEST : Tok} {f_cube_root : Addr} {od_cube_root an_cube_root : Option Addr} {sl_cube_root : Array (Option Value)} {oc_cube_root kV_cube_root dc_cube_root pm_cube_root cd_cube_root ct_cube_root : Value} {f_curve : Addr} {od_curve an_curve : Option Addr} {sl_curve : Array (Option Value)} {oc_curve kV_curve dc_curve pm_curve cd_curve ct_curve : Value} {f_turning_time : Addr} {od_turning_time an_turning_time : Option Addr} {sl_turning_time : Array (Option Value)} {oc_turning_time kV_turning_time dc_turning_time pm_turning_time cd_turning_time ct_turning_time : Value} {f_rise : Addr} {od_rise an_rise : Option Addr} {sl_rise : Array (Option Value)} {oc_rise kV_rise dc_rise pm_rise cd_rise ct_rise : Value} {f_Cubic_init__ cda_Cubic_init__ cc_Cubic_init__ : Addr} {od_Cubic_init__ an_Cubic_init__ c3_Cubic_init__ c4_Cubic_init__ : Option Addr} {sl_Cubic_init__ c5_Cubic_init__ c6_Cubic_init__ : Array (Option Value)} {oc_Cubic_init__ kV_Cubic_init__ dc_Cubic_init__ pm_Cubic_init__ ct_Cubic_init__ c1_Cubic_init__ c2_Cubic_init__ : Value} {vs_Cubic_init__ : Array Value} {fl_Cubic_init__ : Str} {tf_Cubic_init__ : Tok} {cdd_Cubic_init__ : ClassData} {f_Cubic_fork : Addr} {od_Cubic_fork an_Cubic_fork : Option Addr} {sl_Cubic_fork : Array (Option Value)} {oc_Cubic_fork kV_Cubic_fork dc_Cubic_fork pm_Cubic_fork cd_Cubic_fork ct_Cubic_fork : Value} {f_Cubic_avoid : Addr} {od_Cubic_avoid an_Cubic_avoid : Option Addr} {sl_Cubic_avoid : Array (Option Value)} {oc_Cubic_avoid kV_Cubic_avoid dc_Cubic_avoid pm_Cubic_avoid cd_Cubic_avoid ct_Cubic_avoid : Value} {f_Cubic_new_period : Addr} {od_Cubic_new_period an_Cubic_new_period : Option Addr} {sl_Cubic_new_period : Array (Option Value)} {oc_Cubic_new_period kV_Cubic_new_period dc_Cubic_new_period pm_Cubic_new_period cd_Cubic_new_period ct_Cubic_new_period : Value} {f_Cubic_share : Addr} {od_Cubic_share an_Cubic_share : Option Addr} {sl_Cubic_share : Array (Option Value)} {oc_Cubic_share kV_Cubic_share dc_Cubic_share pm_Cubic_share cd_Cubic_share ct_Cubic_share : Value} {f_Cubic_begin_anew : Addr} {od_Cubic_begin_anew an_Cubic_begin_anew : Option Addr} {sl_Cubic_begin_anew : Array (Option Value)} {oc_Cubic_begin_anew kV_Cubic_begin_anew dc_Cubic_begin_anew pm_Cubic_begin_anew cd_Cubic_begin_anew ct_Cubic_begin_anew : Value} {f_Cubic_upper__init__ : Addr} {od_Cubic_upper__init__ an_Cubic_upper__init__ : Option Addr} {sl_Cubic_upper__init__ : Array (Option Value)} {oc_Cubic_upper__init__ kV_Cubic_upper__init__ dc_Cubic_upper__init__ pm_Cubic_upper__init__ cd_Cubic_upper__init__ ct_Cubic_upper__init__ : Value} {f_Cubic_acknowledge : Addr} {od_Cubic_acknowledge an_Cubic_acknowledge : Option Addr} {sl_Cubic_acknowledge : Array (Option Value)} {oc_Cubic_acknowledge dc_Cubic_acknowledge pm_Cubic_acknowledge cd_Cubic_acknowledge ct_Cubic_acknowledge : Value} {kV_Cubic_acknowledge : Value} {f_Cubic_lose : Addr} {od_Cubic_lose an_Cubic_lose : Option Addr} {sl_Cubic_lose : Array (Option Value)} {oc_Cubic_lose dc_Cubic_lose pm_Cubic_lose cd_Cubic_lose ct_Cubic_lose : Value} {kV_Cubic_lose : Value} {f_Cubic_time_out : Addr} {od_Cubic_time_out an_Cubic_time_out : Option Addr} {sl_Cubic_time_out : Array (Option Value)} {oc_Cubic_time_out dc_Cubic_time_out pm_Cubic_time_out cd_Cubic_time_out ct_Cubic_time_out : Value} {kV_Cubic_time_out : Value} {f_Cubic_mark : Addr} {od_Cubic_mark an_Cubic_mark : Option Addr} {sl_Cubic_mark : Array (Option Value)} {oc_Cubic_mark dc_Cubic_mark pm_Cubic_mark cd_Cubic_mark ct_Cubic_mark : Value} {kV_Cubic_mark : Value} {f_Cubic_bounded : Addr} {od_Cubic_bounded an_Cubic_bounded : Option Addr} {sl_Cubic_bounded : Array (Option Value)} {oc_Cubic_bounded kV_Cubic_bounded dc_Cubic_bounded pm_Cubic_bounded cd_Cubic_bounded ct_Cubic_bounded : Value} {f_Cubic_give_to : Addr} {od_Cubic_give_to an_Cubic_give_to : Option Addr} {sl_Cubic_give_to : Array (Option Value)} {oc_Cubic_give_to kV_Cubic_give_to dc_Cubic_give_to pm_Cubic_give_to cd_Cubic_give_to ct_Cubic_give_to : Value} {f_Reno_init__ cda_Reno_init__ cc_Reno_init__ : Addr} {od_Reno_init__ an_Reno_init__ c3_Reno_init__ c4_Reno_init__ : Option Addr} {sl_Reno_init__ c5_Reno_init__ c6_Reno_init__ : Array (Option Value)} {oc_Reno_init__ kV_Reno_init__ dc_Reno_init__ pm_Reno_init__ ct_Reno_init__ c1_Reno_init__ c2_Reno_init__ : Value} {vs_Reno_init__ : Array Value} {fl_Reno_init__ : Str} {tf_Reno_init__ : Tok} {cdd_Reno_init__ : ClassData} {f_Reno_fork : Addr} {od_Reno_fork an_Reno_fork : Option Addr} {sl_Reno_fork : Array (Option Value)} {oc_Reno_fork kV_Reno_fork dc_Reno_fork pm_Reno_fork cd_Reno_fork ct_Reno_fork : Value} {f_Reno_avoid : Addr} {od_Reno_avoid an_Reno_avoid : Option Addr} {sl_Reno_avoid : Array (Option Value)} {oc_Reno_avoid kV_Reno_avoid dc_Reno_avoid pm_Reno_avoid cd_Reno_avoid ct_Reno_avoid : Value} {f_Reno_share : Addr} {od_Reno_share an_Reno_share : Option Addr} {sl_Reno_share : Array (Option Value)} {oc_Reno_share kV_Reno_share dc_Reno_share pm_Reno_share cd_Reno_share ct_Reno_share : Value} {f_Reno_begin_anew : Addr} {od_Reno_begin_anew an_Reno_begin_anew : Option Addr} {sl_Reno_begin_anew : Array (Option Value)} {oc_Reno_begin_anew kV_Reno_begin_anew dc_Reno_begin_anew pm_Reno_begin_anew cd_Reno_begin_anew ct_Reno_begin_anew : Value} {f_Reno_upper__init__ : Addr} {od_Reno_upper__init__ an_Reno_upper__init__ : Option Addr} {sl_Reno_upper__init__ : Array (Option Value)} {oc_Reno_upper__init__ kV_Reno_upper__init__ dc_Reno_upper__init__ pm_Reno_upper__init__ cd_Reno_upper__init__ ct_Reno_upper__init__ : Value} {f_Reno_acknowledge : Addr} {od_Reno_acknowledge an_Reno_acknowledge : Option Addr} {sl_Reno_acknowledge : Array (Option Value)} {oc_Reno_acknowledge dc_Reno_acknowledge pm_Reno_acknowledge cd_Reno_acknowledge ct_Reno_acknowledge : Value} {kV_Reno_acknowledge : Value} {f_Reno_lose : Addr} {od_Reno_lose an_Reno_lose : Option Addr} {sl_Reno_lose : Array (Option Value)} {oc_Reno_lose dc_Reno_lose pm_Reno_lose cd_Reno_lose ct_Reno_lose : Value} {kV_Reno_lose : Value} {f_Reno_time_out : Addr} {od_Reno_time_out an_Reno_time_out : Option Addr} {sl_Reno_time_out : Array (Option Value)} {oc_Reno_time_out dc_Reno_time_out pm_Reno_time_out cd_Reno_time_out ct_Reno_time_out : Value} {kV_Reno_time_out : Value} {f_Reno_mark : Addr} {od_Reno_mark an_Reno_mark : Option Addr} {sl_Reno_mark : Array (Option Value)} {oc_Reno_mark dc_Reno_mark pm_Reno_mark cd_Reno_mark ct_Reno_mark : Value} {kV_Reno_mark : Value} {f_Reno_bounded : Addr} {od_Reno_bounded an_Reno_bounded : Option Addr} {sl_Reno_bounded : Array (Option Value)} {oc_Reno_bounded kV_Reno_bounded dc_Reno_bounded pm_Reno_bounded cd_Reno_bounded ct_Reno_bounded : Value} {f_Reno_give_to : Addr} {od_Reno_give_to an_Reno_give_to : Option Addr} {sl_Reno_give_to : Array (Option Value)} {oc_Reno_give_to kV_Reno_give_to dc_Reno_give_to pm_Reno_give_to cd_Reno_give_to ct_Reno_give_to : Value} {f_l_is_integer : Addr} {od_l_is_integer an_l_is_integer : Option Addr} {sl_l_is_integer : Array (Option Value)} {oc_l_is_integer kV_l_is_integer dc_l_is_integer pm_l_is_integer cd_l_is_integer ct_l_is_integer : Value} {f_l_cell : Addr} {od_l_cell an_l_cell : Option Addr} {sl_l_cell : Array (Option Value)} {oc_l_cell kV_l_cell dc_l_cell pm_l_cell cd_l_cell ct_l_cell : Value} {f_l_number : Addr} {od_l_number an_l_number : Option Addr} {sl_l_number : Array (Option Value)} {oc_l_number kV_l_number dc_l_number pm_l_number cd_l_number ct_l_number : Value} {f_l_root : Addr} {od_l_root an_l_root : Option Addr} {sl_l_root : Array (Option Value)} {oc_l_root kV_l_root dc_l_root pm_l_root cd_l_root ct_l_root : Value} {f_l_curve : Addr} {od_l_curve an_l_curve : Option Addr} {sl_l_curve : Array (Option Value)} {oc_l_curve kV_l_curve dc_l_curve pm_l_curve cd_l_curve ct_l_curve : Value} {f_l_lose : Addr} {od_l_lose an_l_lose : Option Addr} {sl_l_lose : Array (Option Value)} {oc_l_lose kV_l_lose dc_l_lose pm_l_lose cd_l_lose ct_l_lose : Value} {f_l_avoid : Addr} {od_l_avoid an_l_avoid : Option Addr} {sl_l_avoid : Array (Option Value)} {oc_l_avoid kV_l_avoid dc_l_avoid pm_l_avoid cd_l_avoid ct_l_avoid : Value} {f_l_acknowledge : Addr} {od_l_acknowledge an_l_acknowledge : Option Addr} {sl_l_acknowledge : Array (Option Value)} {oc_l_acknowledge kV_l_acknowledge dc_l_acknowledge pm_l_acknowledge cd_l_acknowledge ct_l_acknowledge : Value} {f_l_right : Addr} {od_l_right an_l_right : Option Addr} {sl_l_right : Array (Option Value)} {oc_l_right kV_l_right dc_l_right pm_l_right cd_l_right ct_l_right : Value} {f_l_event : Addr} {od_l_event an_l_event : Option Addr} {sl_l_event : Array (Option Value)} {oc_l_event kV_l_event dc_l_event pm_l_event cd_l_event ct_l_event : Value} {f_l_start : Addr} {od_l_start an_l_start : Option Addr} {sl_l_start : Array (Option Value)} {oc_l_start kV_l_start dc_l_start pm_l_start cd_l_start ct_l_start : Value} {f_law : Addr} {od_law an_law : Option Addr} {sl_law : Array (Option Value)} {oc_law kV_law dc_law pm_law cd_law ct_law : Value}
    (v_SLOWNESS : PySem.W.nsIn K mainGlobals "SLOWNESS" = some (some (.int 2500000000 t_SLOWNESS)))
    (c_Control : PySem.W.nsIn K mainGlobals "Control" = some (some (.ref C_Control)))
    (pg_Control : PySem.W.plainGet K C_Control Str.empty = true)
    (hd_Control : PySem.W.hasDictIn K C_Control = true)
    (po_Control : PySem.W.plainOver K C_Control = true)
    (sa_Control : PySem.W.findIn K (.ref C_Control) "__setattr__" = some (some (.builtin "object.__setattr__")))
    (mk0_Control : PySem.W.makesIn K C_Control = true)
    (kc_Control : PySem.W.keepIn K (.ref C_Control) = true)
    (ha_Control : PySem.W.findIn K (.ref C_Control) "__class__" = some (some (.builtin "object.__class__")))
    (hm_Control : PySem.W.mroIn K C_Control (.type "object") = some true)
    (hn_all : PySem.W.specialIn K (.builtin "object.__class__") "__get__" = some (some (.builtin "getset_descriptor.__get__")))
    (ht_all : PySem.W.takesIn K (.builtin "object.__class__") = some true)
    (c_Cubic : PySem.W.nsIn K mainGlobals "Cubic" = some (some (.ref C_Cubic)))
    (pg_Cubic : PySem.W.plainGet K C_Cubic Str.empty = true)
    (hd_Cubic : PySem.W.hasDictIn K C_Cubic = true)
    (po_Cubic : PySem.W.plainOver K C_Cubic = true)
    (sa_Cubic : PySem.W.findIn K (.ref C_Cubic) "__setattr__" = some (some (.builtin "object.__setattr__")))
    (mk0_Cubic : PySem.W.makesIn K C_Cubic = true)
    (kc_Cubic : PySem.W.keepIn K (.ref C_Cubic) = true)
    (ha_Cubic : PySem.W.findIn K (.ref C_Cubic) "__class__" = some (some (.builtin "object.__class__")))
    (hm_Cubic : PySem.W.mroIn K C_Cubic (.type "object") = some true)
    (kic_Cubic_Control : PySem.W.isClsIn K C_Control = true)
    (kte_Cubic_Control : PySem.W.typeIn K (.ref C_Control) = some (.type "type"))
    (ksu_Cubic_Control : PySem.W.subIn K (.ref C_Cubic) (.ref C_Control) = some true)
    (n_Cubic_cwnd : PySem.W.findIn K (.ref C_Cubic) "cwnd" = some none)
    (n_Cubic_thresh : PySem.W.findIn K (.ref C_Cubic) "thresh" = some none)
    (n_Cubic_peak : PySem.W.findIn K (.ref C_Cubic) "peak" = some none)
    (n_Cubic_prior : PySem.W.findIn K (.ref C_Cubic) "prior" = some none)
    (n_Cubic_calm : PySem.W.findIn K (.ref C_Cubic) "calm" = some none)
    (n_Cubic_period : PySem.W.findIn K (.ref C_Cubic) "period" = some none)
    (c_Reno : PySem.W.nsIn K mainGlobals "Reno" = some (some (.ref C_Reno)))
    (pg_Reno : PySem.W.plainGet K C_Reno Str.empty = true)
    (hd_Reno : PySem.W.hasDictIn K C_Reno = true)
    (po_Reno : PySem.W.plainOver K C_Reno = true)
    (sa_Reno : PySem.W.findIn K (.ref C_Reno) "__setattr__" = some (some (.builtin "object.__setattr__")))
    (mk0_Reno : PySem.W.makesIn K C_Reno = true)
    (kc_Reno : PySem.W.keepIn K (.ref C_Reno) = true)
    (ha_Reno : PySem.W.findIn K (.ref C_Reno) "__class__" = some (some (.builtin "object.__class__")))
    (hm_Reno : PySem.W.mroIn K C_Reno (.type "object") = some true)
    (kic_Reno_Control : PySem.W.isClsIn K C_Control = true)
    (kte_Reno_Control : PySem.W.typeIn K (.ref C_Control) = some (.type "type"))
    (ksu_Reno_Control : PySem.W.subIn K (.ref C_Reno) (.ref C_Control) = some true)
    (n_Reno_cwnd : PySem.W.findIn K (.ref C_Reno) "cwnd" = some none)
    (n_Reno_thresh : PySem.W.findIn K (.ref C_Reno) "thresh" = some none)
    (n_Reno_peak : PySem.W.findIn K (.ref C_Reno) "peak" = some none)
    (n_Reno_prior : PySem.W.findIn K (.ref C_Reno) "prior" = some none)
    (n_Reno_calm : PySem.W.findIn K (.ref C_Reno) "calm" = some none)
    (n_Reno_credit : PySem.W.findIn K (.ref C_Reno) "credit" = some none)
    (rd_Control : PySem.W.readsIn K C_Control (.type "type") = true)
    (gg_Control : PySem.W.specialIn K (.ref C_Control) "__getattribute__" = some (some (.builtin "type.__getattribute__")))
    (cva_Control_GREATEST : PySem.W.findCls K (.ref C_Control) (.type "type") "GREATEST" = some (.val (.int 1073741824 tcc_Control_GREATEST)))
    (a_cube_root : PySem.W.nsIn K mainGlobals "cube_root" = some (some (.ref f_cube_root)))
    (l_cube_root : K.lookup f_cube_root = some ⟨oc_cube_root, od_cube_root, .func (PySem.W.fnOf "cube_root" "cube_root" (defArgs s_cube_root) (defBody s_cube_root) (defScope s_cube_root) .none kV_cube_root dc_cube_root pm_cube_root an_cube_root cd_cube_root ct_cube_root), sl_cube_root⟩)
    (cc_cube_root : PySem.W.codeIn K cd_cube_root "cube_root" = true)
    (kk_cube_root : PySem.W.keepIn K (.ref f_cube_root) = true)
    (a_curve : PySem.W.nsIn K mainGlobals "curve" = some (some (.ref f_curve)))
    (l_curve : K.lookup f_curve = some ⟨oc_curve, od_curve, .func (PySem.W.fnOf "curve" "curve" (defArgs s_curve) (defBody s_curve) (defScope s_curve) .none kV_curve dc_curve pm_curve an_curve cd_curve ct_curve), sl_curve⟩)
    (cc_curve : PySem.W.codeIn K cd_curve "curve" = true)
    (kk_curve : PySem.W.keepIn K (.ref f_curve) = true)
    (a_turning_time : PySem.W.nsIn K mainGlobals "turning_time" = some (some (.ref f_turning_time)))
    (l_turning_time : K.lookup f_turning_time = some ⟨oc_turning_time, od_turning_time, .func (PySem.W.fnOf "turning_time" "turning_time" (defArgs s_turning_time) (defBody s_turning_time) (defScope s_turning_time) .none kV_turning_time dc_turning_time pm_turning_time an_turning_time cd_turning_time ct_turning_time), sl_turning_time⟩)
    (cc_turning_time : PySem.W.codeIn K cd_turning_time "turning_time" = true)
    (kk_turning_time : PySem.W.keepIn K (.ref f_turning_time) = true)
    (a_rise : PySem.W.nsIn K mainGlobals "_rise" = some (some (.ref f_rise)))
    (l_rise : K.lookup f_rise = some ⟨oc_rise, od_rise, .func (PySem.W.fnOf "_rise" "_rise" (defArgs s_rise) (defBody s_rise) (defScope s_rise) .none kV_rise dc_rise pm_rise an_rise cd_rise ct_rise), sl_rise⟩)
    (cc_rise : PySem.W.codeIn K cd_rise "_rise" = true)
    (kk_rise : PySem.W.keepIn K (.ref f_rise) = true)
    (a_Cubic_init__ : PySem.W.findIn K (.ref C_Cubic) "__init__" = some (some (.ref f_Cubic_init__)))
    (i_Cubic_init__ : PySem.W.isFn K (.ref f_Cubic_init__) = true)
    (l_Cubic_init__ : K.lookup f_Cubic_init__ = some ⟨oc_Cubic_init__, od_Cubic_init__, .func (PySem.W.fnX "__init__" "Cubic.__init__" (defArgs s_Cubic_init__) (defBody s_Cubic_init__) (defScope s_Cubic_init__) [("__class__", cc_Cubic_init__)] .none kV_Cubic_init__ dc_Cubic_init__ pm_Cubic_init__ an_Cubic_init__ (.ref cda_Cubic_init__) ct_Cubic_init__), sl_Cubic_init__⟩)
    (cc0_Cubic_init__ : PySem.W.codeIn K (.ref cda_Cubic_init__) "Cubic.__init__" = true)
    (kk_Cubic_init__ : PySem.W.keepIn K (.ref f_Cubic_init__) = true)
    (la_Cubic_init__ : K.lookup cda_Cubic_init__ = some ⟨c1_Cubic_init__, c3_Cubic_init__, .fields vs_Cubic_init__, c5_Cubic_init__⟩)
    (lv_Cubic_init__ : vs_Cubic_init__[2]? = some (.str fl_Cubic_init__ tf_Cubic_init__))
    (lf_Cubic_init__ : ((l.prog.main.file : Str) == fl_Cubic_init__) = true)
    (le_Cubic_init__ : K.lookup cc_Cubic_init__ = some ⟨c2_Cubic_init__, c4_Cubic_init__, .cell (some (.ref C_Cubic)), c6_Cubic_init__⟩)
    (ld_Cubic_init__ : PySem.W.clsIn K C_Cubic = some cdd_Cubic_init__)
    (ls_Cubic_init__ : PySem.W.mroIn K C_Cubic (.ref C_Cubic) = some true)
    (lt_Cubic_init__ : (l.prog.main.scope.names.lookup ("super" : Str)).isSome = false)
    (lu_Cubic_init__ : PySem.W.ks_superIn K C_Cubic C_Cubic "__init__" = some (some (.ref f_Cubic_upper__init__)))
    (ly_Cubic_init__ : PySem.W.typeIn K (.ref f_Cubic_upper__init__) = some (.type "function"))
    (ln_Cubic_init__ : PySem.W.fnIn K f_Cubic_upper__init__ = true)
    (lo_Cubic_init__ : PySem.W.nsIn K cStatics "thirdparty.any" = some none)
    (a_Cubic_fork : PySem.W.findIn K (.ref C_Cubic) "fork" = some (some (.ref f_Cubic_fork)))
    (i_Cubic_fork : PySem.W.isFn K (.ref f_Cubic_fork) = true)
    (l_Cubic_fork : K.lookup f_Cubic_fork = some ⟨oc_Cubic_fork, od_Cubic_fork, .func (PySem.W.fnOf "fork" "Cubic.fork" (defArgs s_Cubic_fork) (defBody s_Cubic_fork) (defScope s_Cubic_fork) .none kV_Cubic_fork dc_Cubic_fork pm_Cubic_fork an_Cubic_fork cd_Cubic_fork ct_Cubic_fork), sl_Cubic_fork⟩)
    (cc_Cubic_fork : PySem.W.codeIn K cd_Cubic_fork "Cubic.fork" = true)
    (kk_Cubic_fork : PySem.W.keepIn K (.ref f_Cubic_fork) = true)
    (a_Cubic_avoid : PySem.W.findIn K (.ref C_Cubic) "_avoid" = some (some (.ref f_Cubic_avoid)))
    (i_Cubic_avoid : PySem.W.isFn K (.ref f_Cubic_avoid) = true)
    (l_Cubic_avoid : K.lookup f_Cubic_avoid = some ⟨oc_Cubic_avoid, od_Cubic_avoid, .func (PySem.W.fnOf "_avoid" "Cubic._avoid" (defArgs s_Cubic_avoid) (defBody s_Cubic_avoid) (defScope s_Cubic_avoid) .none kV_Cubic_avoid dc_Cubic_avoid pm_Cubic_avoid an_Cubic_avoid cd_Cubic_avoid ct_Cubic_avoid), sl_Cubic_avoid⟩)
    (cc_Cubic_avoid : PySem.W.codeIn K cd_Cubic_avoid "Cubic._avoid" = true)
    (kk_Cubic_avoid : PySem.W.keepIn K (.ref f_Cubic_avoid) = true)
    (a_Cubic_new_period : PySem.W.findIn K (.ref C_Cubic) "_new_period" = some (some (.ref f_Cubic_new_period)))
    (i_Cubic_new_period : PySem.W.isFn K (.ref f_Cubic_new_period) = true)
    (l_Cubic_new_period : K.lookup f_Cubic_new_period = some ⟨oc_Cubic_new_period, od_Cubic_new_period, .func (PySem.W.fnOf "_new_period" "Cubic._new_period" (defArgs s_Cubic_new_period) (defBody s_Cubic_new_period) (defScope s_Cubic_new_period) .none kV_Cubic_new_period dc_Cubic_new_period pm_Cubic_new_period an_Cubic_new_period cd_Cubic_new_period ct_Cubic_new_period), sl_Cubic_new_period⟩)
    (cc_Cubic_new_period : PySem.W.codeIn K cd_Cubic_new_period "Cubic._new_period" = true)
    (kk_Cubic_new_period : PySem.W.keepIn K (.ref f_Cubic_new_period) = true)
    (a_Cubic_share : PySem.W.findIn K (.ref C_Cubic) "_share" = some (some (.ref f_Cubic_share)))
    (i_Cubic_share : PySem.W.isFn K (.ref f_Cubic_share) = true)
    (l_Cubic_share : K.lookup f_Cubic_share = some ⟨oc_Cubic_share, od_Cubic_share, .func (PySem.W.fnOf "_share" "Cubic._share" (defArgs s_Cubic_share) (defBody s_Cubic_share) (defScope s_Cubic_share) .none kV_Cubic_share dc_Cubic_share pm_Cubic_share an_Cubic_share cd_Cubic_share ct_Cubic_share), sl_Cubic_share⟩)
    (cc_Cubic_share : PySem.W.codeIn K cd_Cubic_share "Cubic._share" = true)
    (kk_Cubic_share : PySem.W.keepIn K (.ref f_Cubic_share) = true)
    (a_Cubic_begin_anew : PySem.W.findIn K (.ref C_Cubic) "_begin_anew" = some (some (.ref f_Cubic_begin_anew)))
    (i_Cubic_begin_anew : PySem.W.isFn K (.ref f_Cubic_begin_anew) = true)
    (l_Cubic_begin_anew : K.lookup f_Cubic_begin_anew = some ⟨oc_Cubic_begin_anew, od_Cubic_begin_anew, .func (PySem.W.fnOf "_begin_anew" "Cubic._begin_anew" (defArgs s_Cubic_begin_anew) (defBody s_Cubic_begin_anew) (defScope s_Cubic_begin_anew) .none kV_Cubic_begin_anew dc_Cubic_begin_anew pm_Cubic_begin_anew an_Cubic_begin_anew cd_Cubic_begin_anew ct_Cubic_begin_anew), sl_Cubic_begin_anew⟩)
    (cc_Cubic_begin_anew : PySem.W.codeIn K cd_Cubic_begin_anew "Cubic._begin_anew" = true)
    (kk_Cubic_begin_anew : PySem.W.keepIn K (.ref f_Cubic_begin_anew) = true)
    (l_Cubic_upper__init__ : K.lookup f_Cubic_upper__init__ = some ⟨oc_Cubic_upper__init__, od_Cubic_upper__init__, .func (PySem.W.fnOf "__init__" "Control.__init__" (defArgs s_Cubic_upper__init__) (defBody s_Cubic_upper__init__) (defScope s_Cubic_upper__init__) .none kV_Cubic_upper__init__ dc_Cubic_upper__init__ pm_Cubic_upper__init__ an_Cubic_upper__init__ cd_Cubic_upper__init__ ct_Cubic_upper__init__), sl_Cubic_upper__init__⟩)
    (cc_Cubic_upper__init__ : PySem.W.codeIn K cd_Cubic_upper__init__ "Control.__init__" = true)
    (kk_Cubic_upper__init__ : PySem.W.keepIn K (.ref f_Cubic_upper__init__) = true)
    (a_Cubic_acknowledge : PySem.W.findIn K (.ref C_Cubic) "acknowledge" = some (some (.ref f_Cubic_acknowledge)))
    (i_Cubic_acknowledge : PySem.W.isFn K (.ref f_Cubic_acknowledge) = true)
    (l_Cubic_acknowledge : K.lookup f_Cubic_acknowledge = some ⟨oc_Cubic_acknowledge, od_Cubic_acknowledge, .func (PySem.W.fnOf "acknowledge" "Control.acknowledge" (defArgs s_Cubic_acknowledge) (defBody s_Cubic_acknowledge) (defScope s_Cubic_acknowledge) .none kV_Cubic_acknowledge dc_Cubic_acknowledge pm_Cubic_acknowledge an_Cubic_acknowledge cd_Cubic_acknowledge ct_Cubic_acknowledge), sl_Cubic_acknowledge⟩)
    (cc_Cubic_acknowledge : PySem.W.codeIn K cd_Cubic_acknowledge "Control.acknowledge" = true)
    (kk_Cubic_acknowledge : PySem.W.keepIn K (.ref f_Cubic_acknowledge) = true)
    (a_Cubic_lose : PySem.W.findIn K (.ref C_Cubic) "lose" = some (some (.ref f_Cubic_lose)))
    (i_Cubic_lose : PySem.W.isFn K (.ref f_Cubic_lose) = true)
    (l_Cubic_lose : K.lookup f_Cubic_lose = some ⟨oc_Cubic_lose, od_Cubic_lose, .func (PySem.W.fnOf "lose" "Control.lose" (defArgs s_Cubic_lose) (defBody s_Cubic_lose) (defScope s_Cubic_lose) .none kV_Cubic_lose dc_Cubic_lose pm_Cubic_lose an_Cubic_lose cd_Cubic_lose ct_Cubic_lose), sl_Cubic_lose⟩)
    (cc_Cubic_lose : PySem.W.codeIn K cd_Cubic_lose "Control.lose" = true)
    (kk_Cubic_lose : PySem.W.keepIn K (.ref f_Cubic_lose) = true)
    (a_Cubic_time_out : PySem.W.findIn K (.ref C_Cubic) "time_out" = some (some (.ref f_Cubic_time_out)))
    (i_Cubic_time_out : PySem.W.isFn K (.ref f_Cubic_time_out) = true)
    (l_Cubic_time_out : K.lookup f_Cubic_time_out = some ⟨oc_Cubic_time_out, od_Cubic_time_out, .func (PySem.W.fnOf "time_out" "Control.time_out" (defArgs s_Cubic_time_out) (defBody s_Cubic_time_out) (defScope s_Cubic_time_out) .none kV_Cubic_time_out dc_Cubic_time_out pm_Cubic_time_out an_Cubic_time_out cd_Cubic_time_out ct_Cubic_time_out), sl_Cubic_time_out⟩)
    (cc_Cubic_time_out : PySem.W.codeIn K cd_Cubic_time_out "Control.time_out" = true)
    (kk_Cubic_time_out : PySem.W.keepIn K (.ref f_Cubic_time_out) = true)
    (a_Cubic_mark : PySem.W.findIn K (.ref C_Cubic) "mark" = some (some (.ref f_Cubic_mark)))
    (i_Cubic_mark : PySem.W.isFn K (.ref f_Cubic_mark) = true)
    (l_Cubic_mark : K.lookup f_Cubic_mark = some ⟨oc_Cubic_mark, od_Cubic_mark, .func (PySem.W.fnOf "mark" "Control.mark" (defArgs s_Cubic_mark) (defBody s_Cubic_mark) (defScope s_Cubic_mark) .none kV_Cubic_mark dc_Cubic_mark pm_Cubic_mark an_Cubic_mark cd_Cubic_mark ct_Cubic_mark), sl_Cubic_mark⟩)
    (cc_Cubic_mark : PySem.W.codeIn K cd_Cubic_mark "Control.mark" = true)
    (kk_Cubic_mark : PySem.W.keepIn K (.ref f_Cubic_mark) = true)
    (a_Cubic_bounded : PySem.W.findIn K (.ref C_Cubic) "_bounded" = some (some (.ref f_Cubic_bounded)))
    (i_Cubic_bounded : PySem.W.isFn K (.ref f_Cubic_bounded) = true)
    (l_Cubic_bounded : K.lookup f_Cubic_bounded = some ⟨oc_Cubic_bounded, od_Cubic_bounded, .func (PySem.W.fnOf "_bounded" "Control._bounded" (defArgs s_Cubic_bounded) (defBody s_Cubic_bounded) (defScope s_Cubic_bounded) .none kV_Cubic_bounded dc_Cubic_bounded pm_Cubic_bounded an_Cubic_bounded cd_Cubic_bounded ct_Cubic_bounded), sl_Cubic_bounded⟩)
    (cc_Cubic_bounded : PySem.W.codeIn K cd_Cubic_bounded "Control._bounded" = true)
    (kk_Cubic_bounded : PySem.W.keepIn K (.ref f_Cubic_bounded) = true)
    (a_Cubic_give_to : PySem.W.findIn K (.ref C_Cubic) "_give_to" = some (some (.ref f_Cubic_give_to)))
    (i_Cubic_give_to : PySem.W.isFn K (.ref f_Cubic_give_to) = true)
    (l_Cubic_give_to : K.lookup f_Cubic_give_to = some ⟨oc_Cubic_give_to, od_Cubic_give_to, .func (PySem.W.fnOf "_give_to" "Control._give_to" (defArgs s_Cubic_give_to) (defBody s_Cubic_give_to) (defScope s_Cubic_give_to) .none kV_Cubic_give_to dc_Cubic_give_to pm_Cubic_give_to an_Cubic_give_to cd_Cubic_give_to ct_Cubic_give_to), sl_Cubic_give_to⟩)
    (cc_Cubic_give_to : PySem.W.codeIn K cd_Cubic_give_to "Control._give_to" = true)
    (kk_Cubic_give_to : PySem.W.keepIn K (.ref f_Cubic_give_to) = true)
    (a_Reno_init__ : PySem.W.findIn K (.ref C_Reno) "__init__" = some (some (.ref f_Reno_init__)))
    (i_Reno_init__ : PySem.W.isFn K (.ref f_Reno_init__) = true)
    (l_Reno_init__ : K.lookup f_Reno_init__ = some ⟨oc_Reno_init__, od_Reno_init__, .func (PySem.W.fnX "__init__" "Reno.__init__" (defArgs s_Reno_init__) (defBody s_Reno_init__) (defScope s_Reno_init__) [("__class__", cc_Reno_init__)] .none kV_Reno_init__ dc_Reno_init__ pm_Reno_init__ an_Reno_init__ (.ref cda_Reno_init__) ct_Reno_init__), sl_Reno_init__⟩)
    (cc0_Reno_init__ : PySem.W.codeIn K (.ref cda_Reno_init__) "Reno.__init__" = true)
    (kk_Reno_init__ : PySem.W.keepIn K (.ref f_Reno_init__) = true)
    (la_Reno_init__ : K.lookup cda_Reno_init__ = some ⟨c1_Reno_init__, c3_Reno_init__, .fields vs_Reno_init__, c5_Reno_init__⟩)
    (lv_Reno_init__ : vs_Reno_init__[2]? = some (.str fl_Reno_init__ tf_Reno_init__))
    (lf_Reno_init__ : ((l.prog.main.file : Str) == fl_Reno_init__) = true)
    (le_Reno_init__ : K.lookup cc_Reno_init__ = some ⟨c2_Reno_init__, c4_Reno_init__, .cell (some (.ref C_Reno)), c6_Reno_init__⟩)
    (ld_Reno_init__ : PySem.W.clsIn K C_Reno = some cdd_Reno_init__)
    (ls_Reno_init__ : PySem.W.mroIn K C_Reno (.ref C_Reno) = some true)
    (lt_Reno_init__ : (l.prog.main.scope.names.lookup ("super" : Str)).isSome = false)
    (lu_Reno_init__ : PySem.W.ks_superIn K C_Reno C_Reno "__init__" = some (some (.ref f_Reno_upper__init__)))
    (ly_Reno_init__ : PySem.W.typeIn K (.ref f_Reno_upper__init__) = some (.type "function"))
    (ln_Reno_init__ : PySem.W.fnIn K f_Reno_upper__init__ = true)
    (lo_Reno_init__ : PySem.W.nsIn K cStatics "thirdparty.any" = some none)
    (a_Reno_fork : PySem.W.findIn K (.ref C_Reno) "fork" = some (some (.ref f_Reno_fork)))
    (i_Reno_fork : PySem.W.isFn K (.ref f_Reno_fork) = true)
    (l_Reno_fork : K.lookup f_Reno_fork = some ⟨oc_Reno_fork, od_Reno_fork, .func (PySem.W.fnOf "fork" "Reno.fork" (defArgs s_Reno_fork) (defBody s_Reno_fork) (defScope s_Reno_fork) .none kV_Reno_fork dc_Reno_fork pm_Reno_fork an_Reno_fork cd_Reno_fork ct_Reno_fork), sl_Reno_fork⟩)
    (cc_Reno_fork : PySem.W.codeIn K cd_Reno_fork "Reno.fork" = true)
    (kk_Reno_fork : PySem.W.keepIn K (.ref f_Reno_fork) = true)
    (a_Reno_avoid : PySem.W.findIn K (.ref C_Reno) "_avoid" = some (some (.ref f_Reno_avoid)))
    (i_Reno_avoid : PySem.W.isFn K (.ref f_Reno_avoid) = true)
    (l_Reno_avoid : K.lookup f_Reno_avoid = some ⟨oc_Reno_avoid, od_Reno_avoid, .func (PySem.W.fnOf "_avoid" "Reno._avoid" (defArgs s_Reno_avoid) (defBody s_Reno_avoid) (defScope s_Reno_avoid) .none kV_Reno_avoid dc_Reno_avoid pm_Reno_avoid an_Reno_avoid cd_Reno_avoid ct_Reno_avoid), sl_Reno_avoid⟩)
    (cc_Reno_avoid : PySem.W.codeIn K cd_Reno_avoid "Reno._avoid" = true)
    (kk_Reno_avoid : PySem.W.keepIn K (.ref f_Reno_avoid) = true)
    (a_Reno_share : PySem.W.findIn K (.ref C_Reno) "_share" = some (some (.ref f_Reno_share)))
    (i_Reno_share : PySem.W.isFn K (.ref f_Reno_share) = true)
    (l_Reno_share : K.lookup f_Reno_share = some ⟨oc_Reno_share, od_Reno_share, .func (PySem.W.fnOf "_share" "Reno._share" (defArgs s_Reno_share) (defBody s_Reno_share) (defScope s_Reno_share) .none kV_Reno_share dc_Reno_share pm_Reno_share an_Reno_share cd_Reno_share ct_Reno_share), sl_Reno_share⟩)
    (cc_Reno_share : PySem.W.codeIn K cd_Reno_share "Reno._share" = true)
    (kk_Reno_share : PySem.W.keepIn K (.ref f_Reno_share) = true)
    (a_Reno_begin_anew : PySem.W.findIn K (.ref C_Reno) "_begin_anew" = some (some (.ref f_Reno_begin_anew)))
    (i_Reno_begin_anew : PySem.W.isFn K (.ref f_Reno_begin_anew) = true)
    (l_Reno_begin_anew : K.lookup f_Reno_begin_anew = some ⟨oc_Reno_begin_anew, od_Reno_begin_anew, .func (PySem.W.fnOf "_begin_anew" "Reno._begin_anew" (defArgs s_Reno_begin_anew) (defBody s_Reno_begin_anew) (defScope s_Reno_begin_anew) .none kV_Reno_begin_anew dc_Reno_begin_anew pm_Reno_begin_anew an_Reno_begin_anew cd_Reno_begin_anew ct_Reno_begin_anew), sl_Reno_begin_anew⟩)
    (cc_Reno_begin_anew : PySem.W.codeIn K cd_Reno_begin_anew "Reno._begin_anew" = true)
    (kk_Reno_begin_anew : PySem.W.keepIn K (.ref f_Reno_begin_anew) = true)
    (l_Reno_upper__init__ : K.lookup f_Reno_upper__init__ = some ⟨oc_Reno_upper__init__, od_Reno_upper__init__, .func (PySem.W.fnOf "__init__" "Control.__init__" (defArgs s_Reno_upper__init__) (defBody s_Reno_upper__init__) (defScope s_Reno_upper__init__) .none kV_Reno_upper__init__ dc_Reno_upper__init__ pm_Reno_upper__init__ an_Reno_upper__init__ cd_Reno_upper__init__ ct_Reno_upper__init__), sl_Reno_upper__init__⟩)
    (cc_Reno_upper__init__ : PySem.W.codeIn K cd_Reno_upper__init__ "Control.__init__" = true)
    (kk_Reno_upper__init__ : PySem.W.keepIn K (.ref f_Reno_upper__init__) = true)
    (a_Reno_acknowledge : PySem.W.findIn K (.ref C_Reno) "acknowledge" = some (some (.ref f_Reno_acknowledge)))
    (i_Reno_acknowledge : PySem.W.isFn K (.ref f_Reno_acknowledge) = true)
    (l_Reno_acknowledge : K.lookup f_Reno_acknowledge = some ⟨oc_Reno_acknowledge, od_Reno_acknowledge, .func (PySem.W.fnOf "acknowledge" "Control.acknowledge" (defArgs s_Reno_acknowledge) (defBody s_Reno_acknowledge) (defScope s_Reno_acknowledge) .none kV_Reno_acknowledge dc_Reno_acknowledge pm_Reno_acknowledge an_Reno_acknowledge cd_Reno_acknowledge ct_Reno_acknowledge), sl_Reno_acknowledge⟩)
    (cc_Reno_acknowledge : PySem.W.codeIn K cd_Reno_acknowledge "Control.acknowledge" = true)
    (kk_Reno_acknowledge : PySem.W.keepIn K (.ref f_Reno_acknowledge) = true)
    (a_Reno_lose : PySem.W.findIn K (.ref C_Reno) "lose" = some (some (.ref f_Reno_lose)))
    (i_Reno_lose : PySem.W.isFn K (.ref f_Reno_lose) = true)
    (l_Reno_lose : K.lookup f_Reno_lose = some ⟨oc_Reno_lose, od_Reno_lose, .func (PySem.W.fnOf "lose" "Control.lose" (defArgs s_Reno_lose) (defBody s_Reno_lose) (defScope s_Reno_lose) .none kV_Reno_lose dc_Reno_lose pm_Reno_lose an_Reno_lose cd_Reno_lose ct_Reno_lose), sl_Reno_lose⟩)
    (cc_Reno_lose : PySem.W.codeIn K cd_Reno_lose "Control.lose" = true)
    (kk_Reno_lose : PySem.W.keepIn K (.ref f_Reno_lose) = true)
    (a_Reno_time_out : PySem.W.findIn K (.ref C_Reno) "time_out" = some (some (.ref f_Reno_time_out)))
    (i_Reno_time_out : PySem.W.isFn K (.ref f_Reno_time_out) = true)
    (l_Reno_time_out : K.lookup f_Reno_time_out = some ⟨oc_Reno_time_out, od_Reno_time_out, .func (PySem.W.fnOf "time_out" "Control.time_out" (defArgs s_Reno_time_out) (defBody s_Reno_time_out) (defScope s_Reno_time_out) .none kV_Reno_time_out dc_Reno_time_out pm_Reno_time_out an_Reno_time_out cd_Reno_time_out ct_Reno_time_out), sl_Reno_time_out⟩)
    (cc_Reno_time_out : PySem.W.codeIn K cd_Reno_time_out "Control.time_out" = true)
    (kk_Reno_time_out : PySem.W.keepIn K (.ref f_Reno_time_out) = true)
    (a_Reno_mark : PySem.W.findIn K (.ref C_Reno) "mark" = some (some (.ref f_Reno_mark)))
    (i_Reno_mark : PySem.W.isFn K (.ref f_Reno_mark) = true)
    (l_Reno_mark : K.lookup f_Reno_mark = some ⟨oc_Reno_mark, od_Reno_mark, .func (PySem.W.fnOf "mark" "Control.mark" (defArgs s_Reno_mark) (defBody s_Reno_mark) (defScope s_Reno_mark) .none kV_Reno_mark dc_Reno_mark pm_Reno_mark an_Reno_mark cd_Reno_mark ct_Reno_mark), sl_Reno_mark⟩)
    (cc_Reno_mark : PySem.W.codeIn K cd_Reno_mark "Control.mark" = true)
    (kk_Reno_mark : PySem.W.keepIn K (.ref f_Reno_mark) = true)
    (a_Reno_bounded : PySem.W.findIn K (.ref C_Reno) "_bounded" = some (some (.ref f_Reno_bounded)))
    (i_Reno_bounded : PySem.W.isFn K (.ref f_Reno_bounded) = true)
    (l_Reno_bounded : K.lookup f_Reno_bounded = some ⟨oc_Reno_bounded, od_Reno_bounded, .func (PySem.W.fnOf "_bounded" "Control._bounded" (defArgs s_Reno_bounded) (defBody s_Reno_bounded) (defScope s_Reno_bounded) .none kV_Reno_bounded dc_Reno_bounded pm_Reno_bounded an_Reno_bounded cd_Reno_bounded ct_Reno_bounded), sl_Reno_bounded⟩)
    (cc_Reno_bounded : PySem.W.codeIn K cd_Reno_bounded "Control._bounded" = true)
    (kk_Reno_bounded : PySem.W.keepIn K (.ref f_Reno_bounded) = true)
    (a_Reno_give_to : PySem.W.findIn K (.ref C_Reno) "_give_to" = some (some (.ref f_Reno_give_to)))
    (i_Reno_give_to : PySem.W.isFn K (.ref f_Reno_give_to) = true)
    (l_Reno_give_to : K.lookup f_Reno_give_to = some ⟨oc_Reno_give_to, od_Reno_give_to, .func (PySem.W.fnOf "_give_to" "Control._give_to" (defArgs s_Reno_give_to) (defBody s_Reno_give_to) (defScope s_Reno_give_to) .none kV_Reno_give_to dc_Reno_give_to pm_Reno_give_to an_Reno_give_to cd_Reno_give_to ct_Reno_give_to), sl_Reno_give_to⟩)
    (cc_Reno_give_to : PySem.W.codeIn K cd_Reno_give_to "Control._give_to" = true)
    (kk_Reno_give_to : PySem.W.keepIn K (.ref f_Reno_give_to) = true)
    (a_l_is_integer : PySem.W.nsIn K mainGlobals "_law_is_integer" = some (some (.ref f_l_is_integer)))
    (l_l_is_integer : K.lookup f_l_is_integer = some ⟨oc_l_is_integer, od_l_is_integer, .func (PySem.W.fnOf "_law_is_integer" "_law_is_integer" (defArgs s_l_is_integer) (defBody s_l_is_integer) (defScope s_l_is_integer) .none kV_l_is_integer dc_l_is_integer pm_l_is_integer an_l_is_integer cd_l_is_integer ct_l_is_integer), sl_l_is_integer⟩)
    (cc_l_is_integer : PySem.W.codeIn K cd_l_is_integer "_law_is_integer" = true)
    (kk_l_is_integer : PySem.W.keepIn K (.ref f_l_is_integer) = true)
    (a_l_cell : PySem.W.nsIn K mainGlobals "_law_cell" = some (some (.ref f_l_cell)))
    (l_l_cell : K.lookup f_l_cell = some ⟨oc_l_cell, od_l_cell, .func (PySem.W.fnOf "_law_cell" "_law_cell" (defArgs s_l_cell) (defBody s_l_cell) (defScope s_l_cell) .none kV_l_cell dc_l_cell pm_l_cell an_l_cell cd_l_cell ct_l_cell), sl_l_cell⟩)
    (cc_l_cell : PySem.W.codeIn K cd_l_cell "_law_cell" = true)
    (kk_l_cell : PySem.W.keepIn K (.ref f_l_cell) = true)
    (a_l_number : PySem.W.nsIn K mainGlobals "_law_number" = some (some (.ref f_l_number)))
    (l_l_number : K.lookup f_l_number = some ⟨oc_l_number, od_l_number, .func (PySem.W.fnOf "_law_number" "_law_number" (defArgs s_l_number) (defBody s_l_number) (defScope s_l_number) .none kV_l_number dc_l_number pm_l_number an_l_number cd_l_number ct_l_number), sl_l_number⟩)
    (cc_l_number : PySem.W.codeIn K cd_l_number "_law_number" = true)
    (kk_l_number : PySem.W.keepIn K (.ref f_l_number) = true)
    (a_l_root : PySem.W.nsIn K mainGlobals "_law_root" = some (some (.ref f_l_root)))
    (l_l_root : K.lookup f_l_root = some ⟨oc_l_root, od_l_root, .func (PySem.W.fnOf "_law_root" "_law_root" (defArgs s_l_root) (defBody s_l_root) (defScope s_l_root) .none kV_l_root dc_l_root pm_l_root an_l_root cd_l_root ct_l_root), sl_l_root⟩)
    (cc_l_root : PySem.W.codeIn K cd_l_root "_law_root" = true)
    (kk_l_root : PySem.W.keepIn K (.ref f_l_root) = true)
    (a_l_curve : PySem.W.nsIn K mainGlobals "_law_curve" = some (some (.ref f_l_curve)))
    (l_l_curve : K.lookup f_l_curve = some ⟨oc_l_curve, od_l_curve, .func (PySem.W.fnOf "_law_curve" "_law_curve" (defArgs s_l_curve) (defBody s_l_curve) (defScope s_l_curve) .none kV_l_curve dc_l_curve pm_l_curve an_l_curve cd_l_curve ct_l_curve), sl_l_curve⟩)
    (cc_l_curve : PySem.W.codeIn K cd_l_curve "_law_curve" = true)
    (kk_l_curve : PySem.W.keepIn K (.ref f_l_curve) = true)
    (a_l_lose : PySem.W.nsIn K mainGlobals "_law_lose" = some (some (.ref f_l_lose)))
    (l_l_lose : K.lookup f_l_lose = some ⟨oc_l_lose, od_l_lose, .func (PySem.W.fnOf "_law_lose" "_law_lose" (defArgs s_l_lose) (defBody s_l_lose) (defScope s_l_lose) .none kV_l_lose dc_l_lose pm_l_lose an_l_lose cd_l_lose ct_l_lose), sl_l_lose⟩)
    (cc_l_lose : PySem.W.codeIn K cd_l_lose "_law_lose" = true)
    (kk_l_lose : PySem.W.keepIn K (.ref f_l_lose) = true)
    (a_l_avoid : PySem.W.nsIn K mainGlobals "_law_avoid" = some (some (.ref f_l_avoid)))
    (l_l_avoid : K.lookup f_l_avoid = some ⟨oc_l_avoid, od_l_avoid, .func (PySem.W.fnOf "_law_avoid" "_law_avoid" (defArgs s_l_avoid) (defBody s_l_avoid) (defScope s_l_avoid) .none kV_l_avoid dc_l_avoid pm_l_avoid an_l_avoid cd_l_avoid ct_l_avoid), sl_l_avoid⟩)
    (cc_l_avoid : PySem.W.codeIn K cd_l_avoid "_law_avoid" = true)
    (kk_l_avoid : PySem.W.keepIn K (.ref f_l_avoid) = true)
    (a_l_acknowledge : PySem.W.nsIn K mainGlobals "_law_acknowledge" = some (some (.ref f_l_acknowledge)))
    (l_l_acknowledge : K.lookup f_l_acknowledge = some ⟨oc_l_acknowledge, od_l_acknowledge, .func (PySem.W.fnOf "_law_acknowledge" "_law_acknowledge" (defArgs s_l_acknowledge) (defBody s_l_acknowledge) (defScope s_l_acknowledge) .none kV_l_acknowledge dc_l_acknowledge pm_l_acknowledge an_l_acknowledge cd_l_acknowledge ct_l_acknowledge), sl_l_acknowledge⟩)
    (cc_l_acknowledge : PySem.W.codeIn K cd_l_acknowledge "_law_acknowledge" = true)
    (kk_l_acknowledge : PySem.W.keepIn K (.ref f_l_acknowledge) = true)
    (a_l_right : PySem.W.nsIn K mainGlobals "_law_right" = some (some (.ref f_l_right)))
    (l_l_right : K.lookup f_l_right = some ⟨oc_l_right, od_l_right, .func (PySem.W.fnOf "_law_right" "_law_right" (defArgs s_l_right) (defBody s_l_right) (defScope s_l_right) .none kV_l_right dc_l_right pm_l_right an_l_right cd_l_right ct_l_right), sl_l_right⟩)
    (cc_l_right : PySem.W.codeIn K cd_l_right "_law_right" = true)
    (kk_l_right : PySem.W.keepIn K (.ref f_l_right) = true)
    (a_l_event : PySem.W.nsIn K mainGlobals "_law_event" = some (some (.ref f_l_event)))
    (l_l_event : K.lookup f_l_event = some ⟨oc_l_event, od_l_event, .func (PySem.W.fnOf "_law_event" "_law_event" (defArgs s_l_event) (defBody s_l_event) (defScope s_l_event) .none kV_l_event dc_l_event pm_l_event an_l_event cd_l_event ct_l_event), sl_l_event⟩)
    (cc_l_event : PySem.W.codeIn K cd_l_event "_law_event" = true)
    (kk_l_event : PySem.W.keepIn K (.ref f_l_event) = true)
    (a_l_start : PySem.W.nsIn K mainGlobals "_law_start" = some (some (.ref f_l_start)))
    (l_l_start : K.lookup f_l_start = some ⟨oc_l_start, od_l_start, .func (PySem.W.fnOf "_law_start" "_law_start" (defArgs s_l_start) (defBody s_l_start) (defScope s_l_start) .none kV_l_start dc_l_start pm_l_start an_l_start cd_l_start ct_l_start), sl_l_start⟩)
    (cc_l_start : PySem.W.codeIn K cd_l_start "_law_start" = true)
    (kk_l_start : PySem.W.keepIn K (.ref f_l_start) = true)
    (a_law : PySem.W.nsIn K mainGlobals "law" = some (some (.ref f_law)))
    (l_law : K.lookup f_law = some ⟨oc_law, od_law, .func (PySem.W.fnOf "law" "law" (defArgs s_law) (defBody s_law) (defScope s_law) .none kV_law dc_law pm_law an_law cd_law ct_law), sl_law⟩)
    (cc_law : PySem.W.codeIn K cd_law "law" = true)
    (kk_law : PySem.W.keepIn K (.ref f_law) = true)
    (z_abs : PySem.W.nsIn K mainGlobals "abs" = some none)
    (z_bool : PySem.W.nsIn K mainGlobals "bool" = some none)
    (z_int : PySem.W.nsIn K mainGlobals "int" = some none)
    (z_isinstance : PySem.W.nsIn K mainGlobals "isinstance" = some none)
    (z_len : PySem.W.nsIn K mainGlobals "len" = some none)
    (z_max : PySem.W.nsIn K mainGlobals "max" = some none)
    (z_min : PySem.W.nsIn K mainGlobals "min" = some none)
    (z_range : PySem.W.nsIn K mainGlobals "range" = some none)
    (z_super : PySem.W.nsIn K mainGlobals "super" = some none)
    (z_tuple : PySem.W.nsIn K mainGlobals "tuple" = some none)
    : ∃ fd : FuncData, (∀ (s : Shared) (v : Value), BindsTo s fd ⟨[v], []⟩ [("script", v)]) ∧ ∀ base : Heap, K.In base → base.Ns mainGlobals mg → FnOk l.prog w K mg base CX0 7 fa fd ["script"] (sp_law K) := by
  have e := hfa.symm.trans (PySem.W.mg_of X G a_law)
  have e2 : f_law = fa := by
    injection e with e
    injection e with e
    exact e.symm
  subst e2
  have F_cube_root := fun_mk (st := s_cube_root) l_cube_root cc_cube_root kk_cube_root
  have b_cube_root := F_cube_root.binds (ps := ["number"]) fun _ _ _ _ _ _ us hl => match us, hl with | [_], _ => rfl
  have F_curve := fun_mk (st := s_curve) l_curve cc_curve kk_curve
  have b_curve := F_curve.binds (ps := ["mss", "origin", "turning", "at"]) fun _ _ _ _ _ _ us hl => match us, hl with | [_, _, _, _], _ => rfl
  have F_turning_time := fun_mk (st := s_turning_time) l_turning_time cc_turning_time kk_turning_time
  have b_turning_time := F_turning_time.binds (ps := ["mss", "depth"]) fun _ _ _ _ _ _ us hl => match us, hl with | [_, _], _ => rfl
  have F_rise := fun_mk (st := s_rise) l_rise cc_rise kk_rise
  have b_rise := F_rise.binds (ps := ["mss", "distance"]) fun _ _ _ _ _ _ us hl => match us, hl with | [_, _], _ => rfl
  have F_Cubic_init__ : FunS K l.prog "__init__" "Cubic.__init__" s_Cubic_init__ f_Cubic_init__ f_Cubic_upper__init__ C_Cubic cda_Cubic_init__ cc_Cubic_init__ _ := ⟨⟨_, _, _, _, _, rfl⟩, ⟨⟨_, _, _, l_Cubic_init__⟩, ⟨_, _, _, _, _, _, la_Cubic_init__, lv_Cubic_init__, lf_Cubic_init__⟩, ⟨_, _, _, le_Cubic_init__⟩, ⟨_, ld_Cubic_init__⟩, ls_Cubic_init__, lt_Cubic_init__, lu_Cubic_init__, ly_Cubic_init__, ln_Cubic_init__, lo_Cubic_init__⟩, cc0_Cubic_init__, kk_Cubic_init__⟩
  have b_Cubic_init__ := F_Cubic_init__.binds (ps := ["self", "mss"]) fun _ _ _ _ _ _ us hl => match us, hl with | [_, _], _ => rfl
  have F_Cubic_fork := fun_mk (st := s_Cubic_fork) l_Cubic_fork cc_Cubic_fork kk_Cubic_fork
  have b_Cubic_fork := F_Cubic_fork.binds (ps := ["self"]) fun _ _ _ _ _ _ us hl => match us, hl with | [_], _ => rfl
  have F_Cubic_avoid := fun_mk (st := s_Cubic_avoid) l_Cubic_avoid cc_Cubic_avoid kk_Cubic_avoid
  have b_Cubic_avoid := F_Cubic_avoid.binds (ps := ["self", "mss", "now", "octets"]) fun _ _ _ _ _ _ us hl => match us, hl with | [_, _, _, _], _ => rfl
  have F_Cubic_new_period := fun_mk (st := s_Cubic_new_period) l_Cubic_new_period cc_Cubic_new_period kk_Cubic_new_period
  have b_Cubic_new_period := F_Cubic_new_period.binds (ps := ["self", "mss", "now"]) fun _ _ _ _ _ _ us hl => match us, hl with | [_, _, _], _ => rfl
  have F_Cubic_share := fun_mk (st := s_Cubic_share) l_Cubic_share cc_Cubic_share kk_Cubic_share
  have b_Cubic_share := F_Cubic_share.binds (ps := ["self", "base"]) fun _ _ _ _ _ _ us hl => match us, hl with | [_, _], _ => rfl
  have F_Cubic_begin_anew := fun_mk (st := s_Cubic_begin_anew) l_Cubic_begin_anew cc_Cubic_begin_anew kk_Cubic_begin_anew
  have b_Cubic_begin_anew := F_Cubic_begin_anew.binds (ps := ["self"]) fun _ _ _ _ _ _ us hl => match us, hl with | [_], _ => rfl
  have F_Cubic_upper__init__ := fun_mk (st := s_Cubic_upper__init__) l_Cubic_upper__init__ cc_Cubic_upper__init__ kk_Cubic_upper__init__
  have b_Cubic_upper__init__ := F_Cubic_upper__init__.binds (ps := ["self", "mss"]) fun _ _ _ _ _ _ us hl => match us, hl with | [_, _], _ => rfl
  have F_Cubic_acknowledge : FunD K "acknowledge" "Control.acknowledge" (defArgs s_Cubic_acknowledge) (defBody s_Cubic_acknowledge) (defScope s_Cubic_acknowledge) [] [] f_Cubic_acknowledge _ := ⟨⟨_, _, _, _, _, _, _, _, _, _, rfl, l_Cubic_acknowledge, cc_Cubic_acknowledge, .inl ⟨rfl, rfl⟩, .inl rfl⟩, kk_Cubic_acknowledge⟩
  have F_Cubic_lose : FunD K "lose" "Control.lose" (defArgs s_Cubic_lose) (defBody s_Cubic_lose) (defScope s_Cubic_lose) [] [] f_Cubic_lose _ := ⟨⟨_, _, _, _, _, _, _, _, _, _, rfl, l_Cubic_lose, cc_Cubic_lose, .inl ⟨rfl, rfl⟩, .inl rfl⟩, kk_Cubic_lose⟩
  have F_Cubic_time_out : FunD K "time_out" "Control.time_out" (defArgs s_Cubic_time_out) (defBody s_Cubic_time_out) (defScope s_Cubic_time_out) [] [] f_Cubic_time_out _ := ⟨⟨_, _, _, _, _, _, _, _, _, _, rfl, l_Cubic_time_out, cc_Cubic_time_out, .inl ⟨rfl, rfl⟩, .inl rfl⟩, kk_Cubic_time_out⟩
  have F_Cubic_mark : FunD K "mark" "Control.mark" (defArgs s_Cubic_mark) (defBody s_Cubic_mark) (defScope s_Cubic_mark) [] [] f_Cubic_mark _ := ⟨⟨_, _, _, _, _, _, _, _, _, _, rfl, l_Cubic_mark, cc_Cubic_mark, .inl ⟨rfl, rfl⟩, .inl rfl⟩, kk_Cubic_mark⟩
  have F_Cubic_bounded := fun_mk (st := s_Cubic_bounded) l_Cubic_bounded cc_Cubic_bounded kk_Cubic_bounded
  have b_Cubic_bounded := F_Cubic_bounded.binds (ps := ["self", "octets"]) fun _ _ _ _ _ _ us hl => match us, hl with | [_, _], _ => rfl
  have F_Cubic_give_to := fun_mk (st := s_Cubic_give_to) l_Cubic_give_to cc_Cubic_give_to kk_Cubic_give_to
  have b_Cubic_give_to := F_Cubic_give_to.binds (ps := ["self", "other"]) fun _ _ _ _ _ _ us hl => match us, hl with | [_, _], _ => rfl
  have F_Reno_init__ : FunS K l.prog "__init__" "Reno.__init__" s_Reno_init__ f_Reno_init__ f_Reno_upper__init__ C_Reno cda_Reno_init__ cc_Reno_init__ _ := ⟨⟨_, _, _, _, _, rfl⟩, ⟨⟨_, _, _, l_Reno_init__⟩, ⟨_, _, _, _, _, _, la_Reno_init__, lv_Reno_init__, lf_Reno_init__⟩, ⟨_, _, _, le_Reno_init__⟩, ⟨_, ld_Reno_init__⟩, ls_Reno_init__, lt_Reno_init__, lu_Reno_init__, ly_Reno_init__, ln_Reno_init__, lo_Reno_init__⟩, cc0_Reno_init__, kk_Reno_init__⟩
  have b_Reno_init__ := F_Reno_init__.binds (ps := ["self", "mss"]) fun _ _ _ _ _ _ us hl => match us, hl with | [_, _], _ => rfl
  have F_Reno_fork := fun_mk (st := s_Reno_fork) l_Reno_fork cc_Reno_fork kk_Reno_fork
  have b_Reno_fork := F_Reno_fork.binds (ps := ["self"]) fun _ _ _ _ _ _ us hl => match us, hl with | [_], _ => rfl
  have F_Reno_avoid := fun_mk (st := s_Reno_avoid) l_Reno_avoid cc_Reno_avoid kk_Reno_avoid
  have b_Reno_avoid := F_Reno_avoid.binds (ps := ["self", "mss", "now", "octets"]) fun _ _ _ _ _ _ us hl => match us, hl with | [_, _, _, _], _ => rfl
  have F_Reno_share := fun_mk (st := s_Reno_share) l_Reno_share cc_Reno_share kk_Reno_share
  have b_Reno_share := F_Reno_share.binds (ps := ["self", "base"]) fun _ _ _ _ _ _ us hl => match us, hl with | [_, _], _ => rfl
  have F_Reno_begin_anew := fun_mk (st := s_Reno_begin_anew) l_Reno_begin_anew cc_Reno_begin_anew kk_Reno_begin_anew
  have b_Reno_begin_anew := F_Reno_begin_anew.binds (ps := ["self"]) fun _ _ _ _ _ _ us hl => match us, hl with | [_], _ => rfl
  have F_Reno_upper__init__ := fun_mk (st := s_Reno_upper__init__) l_Reno_upper__init__ cc_Reno_upper__init__ kk_Reno_upper__init__
  have b_Reno_upper__init__ := F_Reno_upper__init__.binds (ps := ["self", "mss"]) fun _ _ _ _ _ _ us hl => match us, hl with | [_, _], _ => rfl
  have F_Reno_acknowledge : FunD K "acknowledge" "Control.acknowledge" (defArgs s_Reno_acknowledge) (defBody s_Reno_acknowledge) (defScope s_Reno_acknowledge) [] [] f_Reno_acknowledge _ := ⟨⟨_, _, _, _, _, _, _, _, _, _, rfl, l_Reno_acknowledge, cc_Reno_acknowledge, .inl ⟨rfl, rfl⟩, .inl rfl⟩, kk_Reno_acknowledge⟩
  have F_Reno_lose : FunD K "lose" "Control.lose" (defArgs s_Reno_lose) (defBody s_Reno_lose) (defScope s_Reno_lose) [] [] f_Reno_lose _ := ⟨⟨_, _, _, _, _, _, _, _, _, _, rfl, l_Reno_lose, cc_Reno_lose, .inl ⟨rfl, rfl⟩, .inl rfl⟩, kk_Reno_lose⟩
  have F_Reno_time_out : FunD K "time_out" "Control.time_out" (defArgs s_Reno_time_out) (defBody s_Reno_time_out) (defScope s_Reno_time_out) [] [] f_Reno_time_out _ := ⟨⟨_, _, _, _, _, _, _, _, _, _, rfl, l_Reno_time_out, cc_Reno_time_out, .inl ⟨rfl, rfl⟩, .inl rfl⟩, kk_Reno_time_out⟩
  have F_Reno_mark : FunD K "mark" "Control.mark" (defArgs s_Reno_mark) (defBody s_Reno_mark) (defScope s_Reno_mark) [] [] f_Reno_mark _ := ⟨⟨_, _, _, _, _, _, _, _, _, _, rfl, l_Reno_mark, cc_Reno_mark, .inl ⟨rfl, rfl⟩, .inl rfl⟩, kk_Reno_mark⟩
  have F_Reno_bounded := fun_mk (st := s_Reno_bounded) l_Reno_bounded cc_Reno_bounded kk_Reno_bounded
  have b_Reno_bounded := F_Reno_bounded.binds (ps := ["self", "octets"]) fun _ _ _ _ _ _ us hl => match us, hl with | [_, _], _ => rfl
  have F_Reno_give_to := fun_mk (st := s_Reno_give_to) l_Reno_give_to cc_Reno_give_to kk_Reno_give_to
  have b_Reno_give_to := F_Reno_give_to.binds (ps := ["self", "other"]) fun _ _ _ _ _ _ us hl => match us, hl with | [_, _], _ => rfl
  have F_l_is_integer := fun_mk (st := s_l_is_integer) l_l_is_integer cc_l_is_integer kk_l_is_integer
  have b_l_is_integer := F_l_is_integer.binds (ps := ["actual"]) fun _ _ _ _ _ _ us hl => match us, hl with | [_], _ => rfl
  have F_l_cell := fun_mk (st := s_l_cell) l_l_cell cc_l_cell kk_l_cell
  have b_l_cell := F_l_cell.binds (ps := ["script", "k"]) fun _ _ _ _ _ _ us hl => match us, hl with | [_, _], _ => rfl
  have F_l_number := fun_mk (st := s_l_number) l_l_number cc_l_number kk_l_number
  have b_l_number := F_l_number.binds (ps := ["actual", "expected"]) fun _ _ _ _ _ _ us hl => match us, hl with | [_, _], _ => rfl
  have F_l_root := fun_mk (st := s_l_root) l_l_root cc_l_root kk_l_root
  have b_l_root := F_l_root.binds (ps := ["number"]) fun _ _ _ _ _ _ us hl => match us, hl with | [_], _ => rfl
  have F_l_curve := fun_mk (st := s_l_curve) l_l_curve cc_l_curve kk_l_curve
  have b_l_curve := F_l_curve.binds (ps := ["size", "origin", "turning", "at"]) fun _ _ _ _ _ _ us hl => match us, hl with | [_, _, _, _], _ => rfl
  have F_l_lose := fun_mk (st := s_l_lose) l_l_lose cc_l_lose kk_l_lose
  have b_l_lose := F_l_lose.binds (ps := ["state", "size", "flying"]) fun _ _ _ _ _ _ us hl => match us, hl with | [_, _, _], _ => rfl
  have F_l_avoid := fun_mk (st := s_l_avoid) l_l_avoid cc_l_avoid kk_l_avoid
  have b_l_avoid := F_l_avoid.binds (ps := ["state", "size", "now", "octets"]) fun _ _ _ _ _ _ us hl => match us, hl with | [_, _, _, _], _ => rfl
  have F_l_acknowledge := fun_mk (st := s_l_acknowledge) l_l_acknowledge cc_l_acknowledge kk_l_acknowledge
  have b_l_acknowledge := F_l_acknowledge.binds (ps := ["state", "size", "now", "octets", "flying", "resting"]) fun _ _ _ _ _ _ us hl => match us, hl with | [_, _, _, _, _, _], _ => rfl
  have F_l_right := fun_mk (st := s_l_right) l_l_right cc_l_right kk_l_right
  have b_l_right := F_l_right.binds (ps := ["control", "state"]) fun _ _ _ _ _ _ us hl => match us, hl with | [_, _], _ => rfl
  have F_l_event := fun_mk (st := s_l_event) l_l_event cc_l_event kk_l_event
  have b_l_event := F_l_event.binds (ps := ["control", "state", "size", "now", "cell"]) fun _ _ _ _ _ _ us hl => match us, hl with | [_, _, _, _, _], _ => rfl
  have F_l_start := fun_mk (st := s_l_start) l_l_start cc_l_start kk_l_start
  have b_l_start := F_l_start.binds (ps := ["reno", "size"]) fun _ _ _ _ _ _ us hl => match us, hl with | [_, _], _ => rfl
  have F_law := fun_mk (st := s_law) l_law cc_law kk_law
  have b_law := F_law.binds (ps := ["script"]) fun _ _ _ _ _ _ us hl => match us, hl with | [_], _ => rfl
  let T : Txt l.prog K mg := { t_SLOWNESS := t_SLOWNESS, C_Control := C_Control, C_Cubic := C_Cubic, C_Reno := C_Reno, f_cube_root := f_cube_root, d_cube_root := _, f_curve := f_curve, d_curve := _, f_turning_time := f_turning_time, d_turning_time := _, f_rise := f_rise, d_rise := _, f_Cubic_init__ := f_Cubic_init__, d_Cubic_init__ := _, cda_Cubic_init__ := cda_Cubic_init__, cc_Cubic_init__ := cc_Cubic_init__, f_Cubic_fork := f_Cubic_fork, d_Cubic_fork := _, f_Cubic_avoid := f_Cubic_avoid, d_Cubic_avoid := _, f_Cubic_new_period := f_Cubic_new_period, d_Cubic_new_period := _, f_Cubic_share := f_Cubic_share, d_Cubic_share := _, f_Cubic_begin_anew := f_Cubic_begin_anew, d_Cubic_begin_anew := _, f_Cubic_upper__init__ := f_Cubic_upper__init__, d_Cubic_upper__init__ := _, f_Cubic_acknowledge := f_Cubic_acknowledge, d_Cubic_acknowledge := _, f_Cubic_lose := f_Cubic_lose, d_Cubic_lose := _, f_Cubic_time_out := f_Cubic_time_out, d_Cubic_time_out := _, f_Cubic_mark := f_Cubic_mark, d_Cubic_mark := _, f_Cubic_bounded := f_Cubic_bounded, d_Cubic_bounded := _, f_Cubic_give_to := f_Cubic_give_to, d_Cubic_give_to := _, f_Reno_init__ := f_Reno_init__, d_Reno_init__ := _, cda_Reno_init__ := cda_Reno_init__, cc_Reno_init__ := cc_Reno_init__, f_Reno_fork := f_Reno_fork, d_Reno_fork := _, f_Reno_avoid := f_Reno_avoid, d_Reno_avoid := _, f_Reno_share := f_Reno_share, d_Reno_share := _, f_Reno_begin_anew := f_Reno_begin_anew, d_Reno_begin_anew := _, f_Reno_upper__init__ := f_Reno_upper__init__, d_Reno_upper__init__ := _, f_Reno_acknowledge := f_Reno_acknowledge, d_Reno_acknowledge := _, f_Reno_lose := f_Reno_lose, d_Reno_lose := _, f_Reno_time_out := f_Reno_time_out, d_Reno_time_out := _, f_Reno_mark := f_Reno_mark, d_Reno_mark := _, f_Reno_bounded := f_Reno_bounded, d_Reno_bounded := _, f_Reno_give_to := f_Reno_give_to, d_Reno_give_to := _, f_l_is_integer := f_l_is_integer, d_l_is_integer := _, f_l_cell := f_l_cell, d_l_cell := _, f_l_number := f_l_number, d_l_number := _, f_l_root := f_l_root, d_l_root := _, f_l_curve := f_l_curve, d_l_curve := _, f_l_lose := f_l_lose, d_l_lose := _, f_l_avoid := f_l_avoid, d_l_avoid := _, f_l_acknowledge := f_l_acknowledge, d_l_acknowledge := _, f_l_right := f_l_right, d_l_right := _, f_l_event := f_l_event, d_l_event := _, f_l_start := f_l_start, d_l_start := _, f_law := f_law, d_law := _, v_SLOWNESS := PySem.W.mg_of X G v_SLOWNESS, c_Control := PySem.W.mg_of X G c_Control, k_Control := ⟨pg_Control, hd_Control, po_Control, sa_Control⟩, i_Control := fun e => .ins e ⟨pg_Control, hd_Control, po_Control, sa_Control⟩ ha_Control hn_all ht_all hm_Control, c_Cubic := PySem.W.mg_of X G c_Cubic, k_Cubic := ⟨pg_Cubic, hd_Cubic, po_Cubic, sa_Cubic⟩, i_Cubic := fun e => .ins e ⟨pg_Cubic, hd_Cubic, po_Cubic, sa_Cubic⟩ ha_Cubic hn_all ht_all hm_Cubic, ks_Cubic_Control := kit_subT kic_Cubic_Control kte_Cubic_Control ksu_Cubic_Control, n_Cubic_cwnd := n_Cubic_cwnd, n_Cubic_thresh := n_Cubic_thresh, n_Cubic_peak := n_Cubic_peak, n_Cubic_prior := n_Cubic_prior, n_Cubic_calm := n_Cubic_calm, n_Cubic_period := n_Cubic_period, c_Reno := PySem.W.mg_of X G c_Reno, k_Reno := ⟨pg_Reno, hd_Reno, po_Reno, sa_Reno⟩, i_Reno := fun e => .ins e ⟨pg_Reno, hd_Reno, po_Reno, sa_Reno⟩ ha_Reno hn_all ht_all hm_Reno, ks_Reno_Control := kit_subT kic_Reno_Control kte_Reno_Control ksu_Reno_Control, n_Reno_cwnd := n_Reno_cwnd, n_Reno_thresh := n_Reno_thresh, n_Reno_peak := n_Reno_peak, n_Reno_prior := n_Reno_prior, n_Reno_calm := n_Reno_calm, n_Reno_credit := n_Reno_credit, F_cube_root := F_cube_root, b_cube_root := b_cube_root, m_cube_root := PySem.W.mg_of X G a_cube_root, F_curve := F_curve, b_curve := b_curve, m_curve := PySem.W.mg_of X G a_curve, F_turning_time := F_turning_time, b_turning_time := b_turning_time, m_turning_time := PySem.W.mg_of X G a_turning_time, F_rise := F_rise, b_rise := b_rise, m_rise := PySem.W.mg_of X G a_rise, F_Cubic_init__ := F_Cubic_init__, b_Cubic_init__ := b_Cubic_init__, mk_Cubic := ⟨mk0_Cubic, a_Cubic_init__, i_Cubic_init__, kc_Cubic⟩, F_Cubic_fork := F_Cubic_fork, b_Cubic_fork := b_Cubic_fork, a_Cubic_fork := ⟨a_Cubic_fork, i_Cubic_fork, kk_Cubic_fork⟩, F_Cubic_avoid := F_Cubic_avoid, b_Cubic_avoid := b_Cubic_avoid, a_Cubic_avoid := ⟨a_Cubic_avoid, i_Cubic_avoid, kk_Cubic_avoid⟩, F_Cubic_new_period := F_Cubic_new_period, b_Cubic_new_period := b_Cubic_new_period, a_Cubic_new_period := ⟨a_Cubic_new_period, i_Cubic_new_period, kk_Cubic_new_period⟩, F_Cubic_share := F_Cubic_share, b_Cubic_share := b_Cubic_share, a_Cubic_share := ⟨a_Cubic_share, i_Cubic_share, kk_Cubic_share⟩, F_Cubic_begin_anew := F_Cubic_begin_anew, b_Cubic_begin_anew := b_Cubic_begin_anew, a_Cubic_begin_anew := ⟨a_Cubic_begin_anew, i_Cubic_begin_anew, kk_Cubic_begin_anew⟩, F_Cubic_upper__init__ := F_Cubic_upper__init__, b_Cubic_upper__init__ := b_Cubic_upper__init__, F_Cubic_acknowledge := F_Cubic_acknowledge, a_Cubic_acknowledge := ⟨a_Cubic_acknowledge, i_Cubic_acknowledge, kk_Cubic_acknowledge⟩, F_Cubic_lose := F_Cubic_lose, a_Cubic_lose := ⟨a_Cubic_lose, i_Cubic_lose, kk_Cubic_lose⟩, F_Cubic_time_out := F_Cubic_time_out, a_Cubic_time_out := ⟨a_Cubic_time_out, i_Cubic_time_out, kk_Cubic_time_out⟩, F_Cubic_mark := F_Cubic_mark, a_Cubic_mark := ⟨a_Cubic_mark, i_Cubic_mark, kk_Cubic_mark⟩, F_Cubic_bounded := F_Cubic_bounded, b_Cubic_bounded := b_Cubic_bounded, a_Cubic_bounded := ⟨a_Cubic_bounded, i_Cubic_bounded, kk_Cubic_bounded⟩, F_Cubic_give_to := F_Cubic_give_to, b_Cubic_give_to := b_Cubic_give_to, a_Cubic_give_to := ⟨a_Cubic_give_to, i_Cubic_give_to, kk_Cubic_give_to⟩, F_Reno_init__ := F_Reno_init__, b_Reno_init__ := b_Reno_init__, mk_Reno := ⟨mk0_Reno, a_Reno_init__, i_Reno_init__, kc_Reno⟩, F_Reno_fork := F_Reno_fork, b_Reno_fork := b_Reno_fork, a_Reno_fork := ⟨a_Reno_fork, i_Reno_fork, kk_Reno_fork⟩, F_Reno_avoid := F_Reno_avoid, b_Reno_avoid := b_Reno_avoid, a_Reno_avoid := ⟨a_Reno_avoid, i_Reno_avoid, kk_Reno_avoid⟩, F_Reno_share := F_Reno_share, b_Reno_share := b_Reno_share, a_Reno_share := ⟨a_Reno_share, i_Reno_share, kk_Reno_share⟩, F_Reno_begin_anew := F_Reno_begin_anew, b_Reno_begin_anew := b_Reno_begin_anew, a_Reno_begin_anew := ⟨a_Reno_begin_anew, i_Reno_begin_anew, kk_Reno_begin_anew⟩, F_Reno_upper__init__ := F_Reno_upper__init__, b_Reno_upper__init__ := b_Reno_upper__init__, F_Reno_acknowledge := F_Reno_acknowledge, a_Reno_acknowledge := ⟨a_Reno_acknowledge, i_Reno_acknowledge, kk_Reno_acknowledge⟩, F_Reno_lose := F_Reno_lose, a_Reno_lose := ⟨a_Reno_lose, i_Reno_lose, kk_Reno_lose⟩, F_Reno_time_out := F_Reno_time_out, a_Reno_time_out := ⟨a_Reno_time_out, i_Reno_time_out, kk_Reno_time_out⟩, F_Reno_mark := F_Reno_mark, a_Reno_mark := ⟨a_Reno_mark, i_Reno_mark, kk_Reno_mark⟩, F_Reno_bounded := F_Reno_bounded, b_Reno_bounded := b_Reno_bounded, a_Reno_bounded := ⟨a_Reno_bounded, i_Reno_bounded, kk_Reno_bounded⟩, F_Reno_give_to := F_Reno_give_to, b_Reno_give_to := b_Reno_give_to, a_Reno_give_to := ⟨a_Reno_give_to, i_Reno_give_to, kk_Reno_give_to⟩, F_l_is_integer := F_l_is_integer, b_l_is_integer := b_l_is_integer, m_l_is_integer := PySem.W.mg_of X G a_l_is_integer, F_l_cell := F_l_cell, b_l_cell := b_l_cell, m_l_cell := PySem.W.mg_of X G a_l_cell, F_l_number := F_l_number, b_l_number := b_l_number, m_l_number := PySem.W.mg_of X G a_l_number, F_l_root := F_l_root, b_l_root := b_l_root, m_l_root := PySem.W.mg_of X G a_l_root, F_l_curve := F_l_curve, b_l_curve := b_l_curve, m_l_curve := PySem.W.mg_of X G a_l_curve, F_l_lose := F_l_lose, b_l_lose := b_l_lose, m_l_lose := PySem.W.mg_of X G a_l_lose, F_l_avoid := F_l_avoid, b_l_avoid := b_l_avoid, m_l_avoid := PySem.W.mg_of X G a_l_avoid, F_l_acknowledge := F_l_acknowledge, b_l_acknowledge := b_l_acknowledge, m_l_acknowledge := PySem.W.mg_of X G a_l_acknowledge, F_l_right := F_l_right, b_l_right := b_l_right, m_l_right := PySem.W.mg_of X G a_l_right, F_l_event := F_l_event, b_l_event := b_l_event, m_l_event := PySem.W.mg_of X G a_l_event, F_l_start := F_l_start, b_l_start := b_l_start, m_l_start := PySem.W.mg_of X G a_l_start, F_law := F_law, b_law := b_law, m_law := PySem.W.mg_of X G a_law, cr_Control := ⟨rd_Control, gg_Control⟩, cv_Control_GREATEST := ⟨_, cva_Control_GREATEST, by first | exact rfl | exact ⟨_, rfl⟩⟩, n_abs := PySem.W.mg_none_of X G z_abs, n_bool := PySem.W.mg_none_of X G z_bool, n_int := PySem.W.mg_none_of X G z_int, n_isinstance := PySem.W.mg_none_of X G z_isinstance, n_len := PySem.W.mg_none_of X G z_len, n_max := PySem.W.mg_none_of X G z_max, n_min := PySem.W.mg_none_of X G z_min, n_range := PySem.W.mg_none_of X G z_range, n_super := PySem.W.mg_none_of X G z_super, n_tuple := PySem.W.mg_none_of X G z_tuple }
  exact ⟨PySem.W.fnOf "law" "law" (defArgs s_law) (defBody s_law) (defScope s_law) .none kV_law dc_law pm_law an_law cd_law ct_law, fun s v => .of_eq rfl, fun base _ _ => ok_law T⟩
theorem walk {l : PySem.W.OpenLaw} {q : Program} {loose : List Str} {XP : (Str → Option Value) → Heap → Prop} {YP : World → Heap → Prop} {d : DefRec} {K : Params → PySem.W.Frag} (hn : l.most = some 63) (hdf : d.params.defaults = [])
    (hY : ∀ (w : World) (h : Heap), YP w h → (K w.params).In h)
    (F : ∀ (w : World) (mg : Str → Option Value) (fa : Addr) (h : Heap), (K w.params).In h → h.Ns mainGlobals mg → mg d.name = some (.ref fa) →
      ∃ fd : FuncData, (∀ (s : Shared) (u : Value), BindsTo s fd ⟨[u], []⟩ [("script", u)]) ∧ ∀ base : Heap, (K w.params).In base → base.Ns mainGlobals mg → FnOk l.prog w (K w.params) mg base CX0 7 fa fd ["script"] (sp_law (K w.params))) :
    PySem.W.WalkO q loose XP YP l.row.toRowW d [] (fun f vs => PySem.call f vs) :=
  L2.walk_of (n := 63) (k := 7) (x := "script") (CX := fun _ => CX0) (sp := fun w => sp_law (K w.params)) hn (by decide) hdf ⟨rfl, by decide, by decide⟩ hY F (fun _ _ a ns hl _ hS => ⟨a, ns, rfl, hS, hl, fun _ => rfl⟩) fun _ _ _ _ _ z => z
end My
open PySem PySem.W PyProof.Rows
set_option maxRecDepth 100000 in
set_option maxHeartbeats 0 in
theorem PySem.Challenge.cw_throughline_k19_reno_and_cubic_holds : PySem.Challenge.rw_throughline_k19_reno_and_cubic.Holds := by
  w_on; o_law; k_head; (case hw => w_witness2)
  k_fill
  refine My.walk (l := PySem.Challenge.rw_throughline_k19_reno_and_cubic) rfl rfl (fun w h Y => PySem.W.kIn_of Y) ?F
  case F =>
    intro w mg fa h KX G hmg
    refine' My.all_mk KX G hmg ?v_SLOWNESS ?c_Control ?pg_Control ?hd_Control ?po_Control ?sa_Control ?mk0_Control ?kc_Control ?ha_Control ?hm_Control ?hn_all ?ht_all ?c_Cubic ?pg_Cubic ?hd_Cubic ?po_Cubic ?sa_Cubic ?mk0_Cubic ?kc_Cubic ?ha_Cubic ?hm_Cubic ?kic_Cubic_Control ?kte_Cubic_Control ?ksu_Cubic_Control ?n_Cubic_cwnd ?n_Cubic_thresh ?n_Cubic_peak ?n_Cubic_prior ?n_Cubic_calm ?n_Cubic_period ?c_Reno ?pg_Reno ?hd_Reno ?po_Reno ?sa_Reno ?mk0_Reno ?kc_Reno ?ha_Reno ?hm_Reno ?kic_Reno_Control ?kte_Reno_Control ?ksu_Reno_Control ?n_Reno_cwnd ?n_Reno_thresh ?n_Reno_peak ?n_Reno_prior ?n_Reno_calm ?n_Reno_credit ?rd_Control ?gg_Control ?cva_Control_GREATEST ?a_cube_root ?l_cube_root ?cc_cube_root ?kk_cube_root ?a_curve ?l_curve ?cc_curve ?kk_curve ?a_turning_time ?l_turning_time ?cc_turning_time ?kk_turning_time ?a_rise ?l_rise ?cc_rise ?kk_rise ?a_Cubic_init__ ?i_Cubic_init__ ?l_Cubic_init__ ?cc0_Cubic_init__ ?kk_Cubic_init__ ?la_Cubic_init__ ?lv_Cubic_init__ ?lf_Cubic_init__ ?le_Cubic_init__ ?ld_Cubic_init__ ?ls_Cubic_init__ ?lt_Cubic_init__ ?lu_Cubic_init__ ?ly_Cubic_init__ ?ln_Cubic_init__ ?lo_Cubic_init__ ?a_Cubic_fork ?i_Cubic_fork ?l_Cubic_fork ?cc_Cubic_fork ?kk_Cubic_fork ?a_Cubic_avoid ?i_Cubic_avoid ?l_Cubic_avoid ?cc_Cubic_avoid ?kk_Cubic_avoid ?a_Cubic_new_period ?i_Cubic_new_period ?l_Cubic_new_period ?cc_Cubic_new_period ?kk_Cubic_new_period ?a_Cubic_share ?i_Cubic_share ?l_Cubic_share ?cc_Cubic_share ?kk_Cubic_share ?a_Cubic_begin_anew ?i_Cubic_begin_anew ?l_Cubic_begin_anew ?cc_Cubic_begin_anew ?kk_Cubic_begin_anew ?l_Cubic_upper__init__ ?cc_Cubic_upper__init__ ?kk_Cubic_upper__init__ ?a_Cubic_acknowledge ?i_Cubic_acknowledge ?l_Cubic_acknowledge ?cc_Cubic_acknowledge ?kk_Cubic_acknowledge ?a_Cubic_lose ?i_Cubic_lose ?l_Cubic_lose ?cc_Cubic_lose ?kk_Cubic_lose ?a_Cubic_time_out ?i_Cubic_time_out ?l_Cubic_time_out ?cc_Cubic_time_out ?kk_Cubic_time_out ?a_Cubic_mark ?i_Cubic_mark ?l_Cubic_mark ?cc_Cubic_mark ?kk_Cubic_mark ?a_Cubic_bounded ?i_Cubic_bounded ?l_Cubic_bounded ?cc_Cubic_bounded ?kk_Cubic_bounded ?a_Cubic_give_to ?i_Cubic_give_to ?l_Cubic_give_to ?cc_Cubic_give_to ?kk_Cubic_give_to ?a_Reno_init__ ?i_Reno_init__ ?l_Reno_init__ ?cc0_Reno_init__ ?kk_Reno_init__ ?la_Reno_init__ ?lv_Reno_init__ ?lf_Reno_init__ ?le_Reno_init__ ?ld_Reno_init__ ?ls_Reno_init__ ?lt_Reno_init__ ?lu_Reno_init__ ?ly_Reno_init__ ?ln_Reno_init__ ?lo_Reno_init__ ?a_Reno_fork ?i_Reno_fork ?l_Reno_fork ?cc_Reno_fork ?kk_Reno_fork ?a_Reno_avoid ?i_Reno_avoid ?l_Reno_avoid ?cc_Reno_avoid ?kk_Reno_avoid ?a_Reno_share ?i_Reno_share ?l_Reno_share ?cc_Reno_share ?kk_Reno_share ?a_Reno_begin_anew ?i_Reno_begin_anew ?l_Reno_begin_anew ?cc_Reno_begin_anew ?kk_Reno_begin_anew ?l_Reno_upper__init__ ?cc_Reno_upper__init__ ?kk_Reno_upper__init__ ?a_Reno_acknowledge ?i_Reno_acknowledge ?l_Reno_acknowledge ?cc_Reno_acknowledge ?kk_Reno_acknowledge ?a_Reno_lose ?i_Reno_lose ?l_Reno_lose ?cc_Reno_lose ?kk_Reno_lose ?a_Reno_time_out ?i_Reno_time_out ?l_Reno_time_out ?cc_Reno_time_out ?kk_Reno_time_out ?a_Reno_mark ?i_Reno_mark ?l_Reno_mark ?cc_Reno_mark ?kk_Reno_mark ?a_Reno_bounded ?i_Reno_bounded ?l_Reno_bounded ?cc_Reno_bounded ?kk_Reno_bounded ?a_Reno_give_to ?i_Reno_give_to ?l_Reno_give_to ?cc_Reno_give_to ?kk_Reno_give_to ?a_l_is_integer ?l_l_is_integer ?cc_l_is_integer ?kk_l_is_integer ?a_l_cell ?l_l_cell ?cc_l_cell ?kk_l_cell ?a_l_number ?l_l_number ?cc_l_number ?kk_l_number ?a_l_root ?l_l_root ?cc_l_root ?kk_l_root ?a_l_curve ?l_l_curve ?cc_l_curve ?kk_l_curve ?a_l_lose ?l_l_lose ?cc_l_lose ?kk_l_lose ?a_l_avoid ?l_l_avoid ?cc_l_avoid ?kk_l_avoid ?a_l_acknowledge ?l_l_acknowledge ?cc_l_acknowledge ?kk_l_acknowledge ?a_l_right ?l_l_right ?cc_l_right ?kk_l_right ?a_l_event ?l_l_event ?cc_l_event ?kk_l_event ?a_l_start ?l_l_start ?cc_l_start ?kk_l_start ?a_law ?l_law ?cc_law ?kk_law ?z_abs ?z_bool ?z_int ?z_isinstance ?z_len ?z_max ?z_min ?z_range ?z_super ?z_tuple
    (case v_SLOWNESS => k_is)
    (case c_Control => k_is)
    (case pg_Control => k_is)
    (case hd_Control => k_is)
    (case po_Control => k_is)
    (case sa_Control => k_is)
    (case mk0_Control => k_is)
    (case kc_Control => k_is)
    (case ha_Control => k_is)
    (case hm_Control => k_is)
    (case hn_all => k_is)
    (case ht_all => k_is)
    (case c_Cubic => k_is)
    (case pg_Cubic => k_is)
    (case hd_Cubic => k_is)
    (case po_Cubic => k_is)
    (case sa_Cubic => k_is)
    (case mk0_Cubic => k_is)
    (case kc_Cubic => k_is)
    (case ha_Cubic => k_is)
    (case hm_Cubic => k_is)
    (case kic_Cubic_Control => k_is)
    (case kte_Cubic_Control => k_is)
    (case ksu_Cubic_Control => k_is)
    (case n_Cubic_cwnd => k_is)
    (case n_Cubic_thresh => k_is)
    (case n_Cubic_peak => k_is)
    (case n_Cubic_prior => k_is)
    (case n_Cubic_calm => k_is)
    (case n_Cubic_period => k_is)
    (case c_Reno => k_is)
    (case pg_Reno => k_is)
    (case hd_Reno => k_is)
    (case po_Reno => k_is)
    (case sa_Reno => k_is)
    (case mk0_Reno => k_is)
    (case kc_Reno => k_is)
    (case ha_Reno => k_is)
    (case hm_Reno => k_is)
    (case kic_Reno_Control => k_is)
    (case kte_Reno_Control => k_is)
    (case ksu_Reno_Control => k_is)
    (case n_Reno_cwnd => k_is)
    (case n_Reno_thresh => k_is)
    (case n_Reno_peak => k_is)
    (case n_Reno_prior => k_is)
    (case n_Reno_calm => k_is)
    (case n_Reno_credit => k_is)
    (case rd_Control => k_is)
    (case gg_Control => k_is)
    (case cva_Control_GREATEST => k_is)
    (case a_cube_root => k_is)
    (case l_cube_root => k_is)
    (case cc_cube_root => k_is)
    (case kk_cube_root => k_is)
    (case a_curve => k_is)
    (case l_curve => k_is)
    (case cc_curve => k_is)
    (case kk_curve => k_is)
    (case a_turning_time => k_is)
    (case l_turning_time => k_is)
    (case cc_turning_time => k_is)
    (case kk_turning_time => k_is)
    (case a_rise => k_is)
    (case l_rise => k_is)
    (case cc_rise => k_is)
    (case kk_rise => k_is)
    (case a_Cubic_init__ => k_is)
    (case i_Cubic_init__ => k_is)
    (case l_Cubic_init__ => k_is)
    (case cc0_Cubic_init__ => k_is)
    (case kk_Cubic_init__ => k_is)
    (case la_Cubic_init__ => k_is)
    (case lv_Cubic_init__ => rfl)
    (case lf_Cubic_init__ => first | rfl | decide +kernel | kernel_rfl)
    (case le_Cubic_init__ => k_is)
    (case ld_Cubic_init__ => k_is)
    (case ls_Cubic_init__ => k_is)
    (case lt_Cubic_init__ => first | rfl | decide +kernel)
    (case lu_Cubic_init__ => ks_is)
    (case ly_Cubic_init__ => k_is)
    (case ln_Cubic_init__ => k_is)
    (case lo_Cubic_init__ => k_is)
    (case a_Cubic_fork => k_is)
    (case i_Cubic_fork => k_is)
    (case l_Cubic_fork => k_is)
    (case cc_Cubic_fork => k_is)
    (case kk_Cubic_fork => k_is)
    (case a_Cubic_avoid => k_is)
    (case i_Cubic_avoid => k_is)
    (case l_Cubic_avoid => k_is)
    (case cc_Cubic_avoid => k_is)
    (case kk_Cubic_avoid => k_is)
    (case a_Cubic_new_period => k_is)
    (case i_Cubic_new_period => k_is)
    (case l_Cubic_new_period => k_is)
    (case cc_Cubic_new_period => k_is)
    (case kk_Cubic_new_period => k_is)
    (case a_Cubic_share => k_is)
    (case i_Cubic_share => k_is)
    (case l_Cubic_share => k_is)
    (case cc_Cubic_share => k_is)
    (case kk_Cubic_share => k_is)
    (case a_Cubic_begin_anew => k_is)
    (case i_Cubic_begin_anew => k_is)
    (case l_Cubic_begin_anew => k_is)
    (case cc_Cubic_begin_anew => k_is)
    (case kk_Cubic_begin_anew => k_is)
    (case l_Cubic_upper__init__ => k_is)
    (case cc_Cubic_upper__init__ => k_is)
    (case kk_Cubic_upper__init__ => k_is)
    (case a_Cubic_acknowledge => k_is)
    (case i_Cubic_acknowledge => k_is)
    (case l_Cubic_acknowledge => k_is)
    (case cc_Cubic_acknowledge => k_is)
    (case kk_Cubic_acknowledge => k_is)
    (case a_Cubic_lose => k_is)
    (case i_Cubic_lose => k_is)
    (case l_Cubic_lose => k_is)
    (case cc_Cubic_lose => k_is)
    (case kk_Cubic_lose => k_is)
    (case a_Cubic_time_out => k_is)
    (case i_Cubic_time_out => k_is)
    (case l_Cubic_time_out => k_is)
    (case cc_Cubic_time_out => k_is)
    (case kk_Cubic_time_out => k_is)
    (case a_Cubic_mark => k_is)
    (case i_Cubic_mark => k_is)
    (case l_Cubic_mark => k_is)
    (case cc_Cubic_mark => k_is)
    (case kk_Cubic_mark => k_is)
    (case a_Cubic_bounded => k_is)
    (case i_Cubic_bounded => k_is)
    (case l_Cubic_bounded => k_is)
    (case cc_Cubic_bounded => k_is)
    (case kk_Cubic_bounded => k_is)
    (case a_Cubic_give_to => k_is)
    (case i_Cubic_give_to => k_is)
    (case l_Cubic_give_to => k_is)
    (case cc_Cubic_give_to => k_is)
    (case kk_Cubic_give_to => k_is)
    (case a_Reno_init__ => k_is)
    (case i_Reno_init__ => k_is)
    (case l_Reno_init__ => k_is)
    (case cc0_Reno_init__ => k_is)
    (case kk_Reno_init__ => k_is)
    (case la_Reno_init__ => k_is)
    (case lv_Reno_init__ => rfl)
    (case lf_Reno_init__ => first | rfl | decide +kernel | kernel_rfl)
    (case le_Reno_init__ => k_is)
    (case ld_Reno_init__ => k_is)
    (case ls_Reno_init__ => k_is)
    (case lt_Reno_init__ => first | rfl | decide +kernel)
    (case lu_Reno_init__ => ks_is)
    (case ly_Reno_init__ => k_is)
    (case ln_Reno_init__ => k_is)
    (case lo_Reno_init__ => k_is)
    (case a_Reno_fork => k_is)
    (case i_Reno_fork => k_is)
    (case l_Reno_fork => k_is)
    (case cc_Reno_fork => k_is)
    (case kk_Reno_fork => k_is)
    (case a_Reno_avoid => k_is)
    (case i_Reno_avoid => k_is)
    (case l_Reno_avoid => k_is)
    (case cc_Reno_avoid => k_is)
    (case kk_Reno_avoid => k_is)
    (case a_Reno_share => k_is)
    (case i_Reno_share => k_is)
    (case l_Reno_share => k_is)
    (case cc_Reno_share => k_is)
    (case kk_Reno_share => k_is)
    (case a_Reno_begin_anew => k_is)
    (case i_Reno_begin_anew => k_is)
    (case l_Reno_begin_anew => k_is)
    (case cc_Reno_begin_anew => k_is)
    (case kk_Reno_begin_anew => k_is)
    (case l_Reno_upper__init__ => k_is)
    (case cc_Reno_upper__init__ => k_is)
    (case kk_Reno_upper__init__ => k_is)
    (case a_Reno_acknowledge => k_is)
    (case i_Reno_acknowledge => k_is)
    (case l_Reno_acknowledge => k_is)
    (case cc_Reno_acknowledge => k_is)
    (case kk_Reno_acknowledge => k_is)
    (case a_Reno_lose => k_is)
    (case i_Reno_lose => k_is)
    (case l_Reno_lose => k_is)
    (case cc_Reno_lose => k_is)
    (case kk_Reno_lose => k_is)
    (case a_Reno_time_out => k_is)
    (case i_Reno_time_out => k_is)
    (case l_Reno_time_out => k_is)
    (case cc_Reno_time_out => k_is)
    (case kk_Reno_time_out => k_is)
    (case a_Reno_mark => k_is)
    (case i_Reno_mark => k_is)
    (case l_Reno_mark => k_is)
    (case cc_Reno_mark => k_is)
    (case kk_Reno_mark => k_is)
    (case a_Reno_bounded => k_is)
    (case i_Reno_bounded => k_is)
    (case l_Reno_bounded => k_is)
    (case cc_Reno_bounded => k_is)
    (case kk_Reno_bounded => k_is)
    (case a_Reno_give_to => k_is)
    (case i_Reno_give_to => k_is)
    (case l_Reno_give_to => k_is)
    (case cc_Reno_give_to => k_is)
    (case kk_Reno_give_to => k_is)
    (case a_l_is_integer => k_is)
    (case l_l_is_integer => k_is)
    (case cc_l_is_integer => k_is)
    (case kk_l_is_integer => k_is)
    (case a_l_cell => k_is)
    (case l_l_cell => k_is)
    (case cc_l_cell => k_is)
    (case kk_l_cell => k_is)
    (case a_l_number => k_is)
    (case l_l_number => k_is)
    (case cc_l_number => k_is)
    (case kk_l_number => k_is)
    (case a_l_root => k_is)
    (case l_l_root => k_is)
    (case cc_l_root => k_is)
    (case kk_l_root => k_is)
    (case a_l_curve => k_is)
    (case l_l_curve => k_is)
    (case cc_l_curve => k_is)
    (case kk_l_curve => k_is)
    (case a_l_lose => k_is)
    (case l_l_lose => k_is)
    (case cc_l_lose => k_is)
    (case kk_l_lose => k_is)
    (case a_l_avoid => k_is)
    (case l_l_avoid => k_is)
    (case cc_l_avoid => k_is)
    (case kk_l_avoid => k_is)
    (case a_l_acknowledge => k_is)
    (case l_l_acknowledge => k_is)
    (case cc_l_acknowledge => k_is)
    (case kk_l_acknowledge => k_is)
    (case a_l_right => k_is)
    (case l_l_right => k_is)
    (case cc_l_right => k_is)
    (case kk_l_right => k_is)
    (case a_l_event => k_is)
    (case l_l_event => k_is)
    (case cc_l_event => k_is)
    (case kk_l_event => k_is)
    (case a_l_start => k_is)
    (case l_l_start => k_is)
    (case cc_l_start => k_is)
    (case kk_l_start => k_is)
    (case a_law => k_is)
    (case l_law => k_is)
    (case cc_law => k_is)
    (case kk_law => k_is)
    (case z_abs => k_is)
    (case z_bool => k_is)
    (case z_int => k_is)
    (case z_isinstance => k_is)
    (case z_len => k_is)
    (case z_max => k_is)
    (case z_min => k_is)
    (case z_range => k_is)
    (case z_super => k_is)
    (case z_tuple => k_is)
#print axioms PySem.Challenge.cw_throughline_k19_reno_and_cubic_holds

