import PyProof.Rows.All
import Wide.All
import OpenK.AllK
import Wide.FinOn
import HandS.ForMost
import HandS.IsInst
import HandS.Wide
import HandS.Style
import HandS.Conv
import HandS.RevRange
import HandS.Walk
import HandS.Property
import HandS.Star
import HandS.Codes
import HandS.TupAny
import HandS.MakeKwOnly
import HandS.Defaults
import HandS.Rev
import HandS.Iter
import HandS.Dict
import PySem.Challenge.RW_throughline_k15_pieces
set_option Elab.async false
set_option linter.all false
set_option maxRecDepth 100000
set_option maxHeartbeats 4000000
namespace My
open PySem PySem.Spec L2
/-! ### readings, one rule a construct -/
section
variable {K : PySem.W.Frag} {σ : St} {H : Hp} {Q : VK} {v x y z : V} {ta tb te tc : TE} {tt tu : TT} {r : R2} {D : Ends} {ts us : TS} {P : Bool → Hp → Prop} {i j : Int}
theorem g_var {i : Nat} (h : σ[i]? = some (some v)) (q : Q v H) : tVar i σ H Q := ⟨v, h, q⟩
theorem g_c (q : Q v H) : tC v σ H Q := q
theorem g_op (h : ta σ H fun x H1 => tb σ H1 fun y H2 => r x y H2 Q) : tOp r ta tb σ H Q := h
theorem g_un {r : V → Hp → VK → Prop} (h : ta σ H fun x H1 => r x H1 Q) : tUn r ta σ H Q := h
theorem g_rI0 {g : Int → Int → V} (q : Q (g i j) H) : rI0 g (.int i) (.int j) H Q := ⟨i, j, rfl, rfl, q⟩
theorem g_rI {C : Int → Int → Prop} {g : Int → Int → V} (c : C i j) (q : Q (g i j) H) : rI C g (.int i) (.int j) H Q := ⟨i, j, rfl, rfl, c, q⟩
theorem g_rU {g : Int → V} (q : Q (g i) H) : rU g (.int i) H Q := ⟨i, rfl, q⟩
theorem g_rEqI (q : Q (.bl (decide (i = j))) H) : rEq (.int i) (.int j) H Q := ⟨rfl, by rw [dec_int]; exact q⟩
theorem g_rNeI (q : Q (.bl (!decide (i = j))) H) : rNe (.int i) (.int j) H Q := ⟨rfl, by rw [dec_int]; exact q⟩
theorem g_rEq (s : scal x y = true) (q : Q (.bl (decide (x = y))) H) : rEq x y H Q := ⟨s, q⟩
theorem g_rNe (s : scal x y = true) (q : Q (.bl (!decide (x = y))) H) : rNe x y H Q := ⟨s, q⟩
theorem g_isN {A : Prop} (q : A) : V.non = V.non ∧ A := ⟨rfl, q⟩
theorem g_rIsB {a b : Bool} (q : Q (.bl (decide (a = b))) H) : rIsB (.bl a) (.bl b) H Q := ⟨a, b, rfl, rfl, q⟩
theorem g_rNotB {a b : Bool} (q : Q (.bl (!decide (a = b))) H) : rNotB (.bl a) (.bl b) H Q := ⟨a, b, rfl, rfl, q⟩
theorem g_test {t : TE} (h : t σ H fun x H' => ∃ k, x = .bl k ∧ P k H') : tTest t σ H P := h
theorem g_B {t : TE} (h : t σ H fun x H' => ∃ k, x = .bl k ∧ P k H') : tB t σ H P := h
theorem g_bl {b : Bool} {A : Bool → Prop} (q : A b) : ∃ k, V.bl b = .bl k ∧ A k := ⟨b, rfl, q⟩
theorem g_and (h : tt σ H fun c H1 => if c = true then tu σ H1 P else P false H1) : tAnd tt tu σ H P := h
theorem g_or (h : tt σ H fun c H1 => if c = true then P true H1 else tu σ H1 P) : tOr tt tu σ H P := h
theorem g_not (h : tt σ H fun c H1 => P (!c) H1) : tNot tt σ H P := h
theorem g_andV (h : ta σ H fun x H1 => ∃ c, x = .bl c ∧ if c = true then tb σ H1 Q else Q (.bl false) H1) : tAndV ta tb σ H Q := h
theorem g_orV (h : ta σ H fun x H1 => ∃ c, x = .bl c ∧ if c = true then Q (.bl true) H1 else tb σ H1 Q) : tOrV ta tb σ H Q := h
theorem g_notV (h : ta σ H fun x H1 => ∃ c, x = .bl c ∧ Q (.bl (!c)) H1) : tNotV ta σ H Q := h
theorem g_if (h : tt σ H fun c H1 => if c = true then ta σ H1 Q else tb σ H1 Q) : tIf tt ta tb σ H Q := h
theorem g_chain {r' : R2} (h : ta σ H fun x H1 => tb σ H1 fun y H2 => r x y H2 fun z H3 => ∃ k, z = .bl k ∧ (if k = true then tc σ H3 fun w' H4 => r' y w' H4 Q else Q (.bl false) H3)) : tChain r r' ta tb tc σ H Q := h
theorem g_nil {A : List V → Hp → Prop} (q : A [] H) : tNil σ H A := q
theorem g_cons {tr : TA} {A : List V → Hp → Prop} (h : ta σ H fun x H1 => tr σ H1 fun xs H2 => A (x :: xs) H2) : tCons ta tr σ H A := h
theorem g_tup {t : TA} (h : t σ H fun xs H1 => xs.length ≤ sizeLine ∧ ∀ p, H1 p = none → Q (.ref p) (upd H1 p (.tup xs))) : tTup t σ H Q := h
theorem g_lst {t : TA} (h : t σ H fun xs H1 => xs.length ≤ sizeLine ∧ ∀ p, H1 p = none → Q (.ref p) (upd H1 p (.lst xs))) : tLst t σ H Q := h
theorem g_call {sp : Sp} {dvs : List V} {E : XK} {t : TA} (h : t σ H fun vs H1 => sp (vs ++ dvs) H1 Q E) : tCall sp dvs E t σ H Q := h
theorem g_CB {r : List V → Hp → VK → Prop} {t : TA} (h : t σ H fun vs H1 => r vs H1 Q) : tCB r t σ H Q := h
theorem g_sl {r : V → Option Int → Option Int → Hp → VK → Prop} {tl th : TO} (h : te σ H fun x H1 => tl σ H1 fun l H2 => th σ H2 fun u H3 => r x l u H3 Q) : tSl r te tl th σ H Q := h
theorem g_noPart {A : Option Int → Hp → Prop} (q : A none H) : tNoPart σ H A := q
theorem g_part {A : Option Int → Hp → Prop} (h : te σ H fun x H1 => ∃ i, x = .int i ∧ A (some i) H1) : tPart te σ H A := h
theorem g_intE {A : Int → Prop} (q : A i) : ∃ k, V.int i = .int k ∧ A k := ⟨i, rfl, q⟩
theorem g_seq (h : ts { D with nx := us D } σ H) : tSeq ts us D σ H := h
theorem g_next (q : D.nx σ H) : tNext D σ H := q
theorem g_brk (q : D.bk σ H) : tBreak D σ H := q
theorem g_ct (q : D.ct σ H) : tCont D σ H := q
theorem g_asg {g : TG} (h : te σ H fun x H1 => g x σ H1 D.nx) : tAsg te g D σ H := h
theorem g_name {i : Nat} {A : St → Hp → Prop} (q : A (σ.set i (some v)) H) : gName i v σ H A := q
theorem g_aug {i : Nat} {ti : TIp} (h : σ[i]? = some (some x)) (q : te σ H fun y H1 => ti x y H1 fun z H2 => D.nx (σ.set i (some z)) H2) : tAug i te ti D σ H := ⟨x, h, q⟩
theorem g_ipI {f : Int → Int → Int} (q : Q (.int (f i j)) H) : ipI f (.int i) (.int j) H Q := ⟨i, j, rfl, rfl, q⟩
theorem g_drop (h : te σ H fun _ H1 => D.nx σ H1) : tDrop te D σ H := h
theorem g_ret (h : te σ H D.rt) : tRet te D σ H := h
theorem g_retN (q : D.rt .non H) : tRetN D σ H := q
theorem g_ifS (h : tt σ H fun b H1 => if b = true then ts D σ H1 else us D σ H1) : tIfS tt ts us D σ H := h
theorem g_for {wi : TI} {g : TG} {tb : TS} (h : wi σ H fun J H1 => ∃ W : Nat → Nat → St → Hp → Prop, (∃ m, W 0 m σ H1) ∧ ∀ i m σ H, W i m σ H →
    (J.stop i H ∧ D.nx σ H) ∨ (J.go i H ∧ ∃ N : St → Hp → Prop, (∀ σ' H', N σ' H' → ∃ m', m' < m ∧ W (i + 1) m' σ' H') ∧ ∀ x H', J.yld i H x H' → g x σ H' fun σ2 H2 => tb { D with nx := N, ct := N, bk := D.nx } σ2 H2)) : tFor wi g tb D σ H := h
theorem g_iT {c : Bool} {A B : Prop} (e : c = true) (h : A) : if c = true then A else B := by rw [if_pos e]; exact h
theorem g_iF {c : Bool} {A B : Prop} (e : c = false) (h : B) : if c = true then A else B := by rw [e]; exact iteF h
theorem g_ite {p A B : Prop} [Decidable p] (h1 : p → A) (h2 : ¬ p → B) : if decide p = true then A else B := by
  by_cases h : p
  · rw [decide_eq_true h]; exact iteT (h1 h)
  · rw [decide_eq_false h]; exact iteF (h2 h)
theorem g_iteN {p A B : Prop} [Decidable p] (h1 : ¬ p → A) (h2 : p → B) : if (!decide p) = true then A else B := by
  by_cases h : p
  · rw [decide_eq_true h]; exact iteF (h2 h)
  · rw [decide_eq_false h]; exact iteT (h1 h)
theorem g_iteB {b : Bool} {A B : Prop} (h1 : b = true → A) (h2 : b = false → B) : if b = true then A else B := by
  cases b with
  | true => exact iteT (h1 rfl)
  | false => exact iteF (h2 rfl)
theorem g_iteNB {b : Bool} {A B : Prop} (h1 : b = false → A) (h2 : b = true → B) : if (!b) = true then A else B := by
  cases b with
  | true => exact iteF (h2 rfl)
  | false => exact iteT (h1 rfl)
/-! calls of built-ins, by values -/
theorem g_int1 {A : Int → Prop} {B : Bool → Prop} (q : A i) : (∃ i', [V.int i] = [V.int i'] ∧ A i') ∨ ∃ k, [V.int i] = [V.bl k] ∧ B k := .inl ⟨i, rfl, q⟩
theorem g_int1B {b : Bool} {A : Int → Prop} {B : Bool → Prop} (q : B b) : (∃ i', [V.bl b] = [V.int i'] ∧ A i') ∨ ∃ k, [V.bl b] = [V.bl k] ∧ B k := .inr ⟨b, rfl, q⟩
theorem g_one {A : Int → Prop} (q : A i) : ∃ i', [V.int i] = [V.int i'] ∧ A i' := ⟨i, rfl, q⟩
theorem g_two {A : Int → Int → Prop} (q : A i j) : ∃ i' j', [V.int i, V.int j] = [V.int i', V.int j'] ∧ A i' j' := ⟨i, j, rfl, q⟩
theorem g_isi {c : V} {t u : Value} {b : Bool} (hc : ClsV c u) (ht : TyX K H x t) (e : PySem.W.kitOne K t u = some b) (q : Q (.bl b) H) : rIsi K [x, c] H Q := ⟨x, c, t, u, b, rfl, hc, ht, e, q⟩
theorem g_isiI (q : Q (.bl true) H) : rIsi K [.int i, .ty "int"] H Q := g_isi (.ty _) (.base (.int _)) (kit_ty (by decide +kernel)) q
theorem g_isiB {b : Bool} (q : Q (.bl true) H) : rIsi K [.bl b, .ty "bool"] H Q := g_isi (.ty _) (.base (.bl _)) (kit_ty (by decide +kernel)) q
theorem g_isiIB (q : Q (.bl false) H) : rIsi K [.int i, .ty "bool"] H Q := g_isi (.ty _) (.base (.int _)) (kit_ty (by decide +kernel)) q
theorem g_isiL {p : Addr} {xs : List V} (h : H p = some (.lst xs)) (q : Q (.bl true) H) : rIsi K [.ref p, .ty "list"] H Q := g_isi (.ty _) (.base (.lst h)) (kit_ty (by decide +kernel)) q
theorem g_isiU {p : Addr} {xs : List V} (h : H p = some (.tup xs)) (q : Q (.bl true) H) : rIsi K [.ref p, .ty "tuple"] H Q := g_isi (.ty _) (.base (.tup h)) (kit_ty (by decide +kernel)) q
theorem g_ixL {p : Addr} {xs : List V} (h : SqL K H p xs) (e : atI xs i = some v) (q : Q v H) : rIxL K (.ref p) (.int i) H Q := ⟨p, xs, i, v, rfl, rfl, h, e, q⟩
theorem g_ixT {p : Addr} {xs : List V} (h : SqT K H p xs) (e : atI xs i = some v) (q : Q v H) : rIxT K (.ref p) (.int i) H Q := ⟨p, xs, i, v, rfl, rfl, h, e, q⟩
theorem g_append {p : Addr} {xs : List V} (h : H p = some (.lst xs)) (l : xs.length < sizeLine) (q : Q .non (upd H p (.lst (xs ++ [y])))) : rAppend (.ref p) [y] H Q := ⟨p, xs, y, rfl, rfl, h, l, q⟩
theorem g_BM {T : String} {r : V → List V → Hp → VK → Prop} {t : TA} (h : te σ H fun x H1 => tyV K T x H1 ∧ t σ H1 fun xs H2 => r x xs H2 Q) : tBM K T r te t σ H Q := h
theorem g_BM0 {T : String} {r : V → List V → Hp → VK → Prop} (h : te σ H fun x H1 => tyV K T x H1 ∧ r x [] H1 Q) : tBM0 K T r te σ H Q := h
theorem ty_l {p : Addr} {xs : List V} (h : H p = some (.lst xs)) : tyV K "list" (.ref p) H := Or.inl ⟨rfl, _, Or.inl (Or.inl h)⟩
theorem g_setL {p : Addr} {xs : List V} {k : Int} {j : Nat} {A : Hp → Prop} (h : H p = some (.lst xs)) (e : ixN xs.length k = some j) (q : A (upd H p (.lst (xs.set j v)))) : rSetL (.ref p) (.int k) v H A := ⟨p, xs, k, j, rfl, rfl, h, e, q⟩
theorem g_sub {to ti : TE} {t : TSet} {A : St → Hp → Prop} (h : to σ H fun o H1 => ti σ H1 fun i H2 => t o i v H2 fun H3 => A σ H3) : gSub to ti t v σ H A := h
theorem g_len {p : Addr} {xs : List V} {A : Addr → List V → Prop} (h : SqL K H p xs ∨ SqT K H p xs) (q : A p xs) : ∃ p' ys, [V.ref p] = [V.ref p'] ∧ (SqL K H p' ys ∨ SqT K H p' ys) ∧ A p' ys := ⟨p, xs, rfl, h, q⟩
theorem g_slL {p : Addr} {xs : List V} {lo hi : Option Int} (h : SqL K H p xs) (q : ∀ l, H l = none → Q (.ref l) (upd H l (.lst (cutV xs lo hi)))) : rSlL K (.ref p) lo hi H Q := ⟨p, xs, rfl, h, q⟩
theorem g_cat {p q : Addr} {xs ys : List V} (h : H p = some (.lst xs)) (h2 : H q = some (.lst ys)) (l : xs.length + ys.length ≤ sizeLine) (k : ∀ l, H l = none → Q (.ref l) (upd H l (.lst (xs ++ ys)))) : rCat (.ref p) (.ref q) H Q := ⟨p, q, xs, ys, rfl, rfl, h, h2, l, k⟩
end
/-! ### heaps -/
theorem same_upd {H : Hp} {p : Addr} {o : HO} (h : H p = none) : Same H (upd H p o) := fun b x e => by
  rw [upd_ne (ne_of_none e h)]
  exact e
theorem sm {H H' : Hp} {p : Addr} {o : HO} (s : Same H H') (h : H p = some o) : H' p = some o := s p o h
theorem sq_upd {K : PySem.W.Frag} {H : Hp} {p a : Addr} {o : HO} {xs : List V} (n : H p = none) (h : SqL K H a xs) : SqL K (upd H p o) a xs := (same_upd n).seq h
theorem sl {K : PySem.W.Frag} {H : Hp} {a : Addr} {xs : List V} (h : H a = some (.lst xs)) : SqL K H a xs := Or.inl (Or.inl h)
theorem st {K : PySem.W.Frag} {H : Hp} {a : Addr} {xs : List V} (h : H a = some (.tup xs)) : SqT K H a xs := Or.inl (Or.inl h)
theorem Same.sqt {K : PySem.W.Frag} {H H' : Hp} {a : Addr} {xs : List V} (e : Same H H') (h : SqT K H a xs) : SqT K H' a xs := by
  rcases h with (h | ⟨o, h⟩) | h
  · exact .inl (.inl (e _ _ h))
  · exact .inl (.inr ⟨o, e _ _ h⟩)
  · exact .inr h
theorem upd_keep {H : Hp} {p b : Addr} {o o' : HO} (n : H p = none) (h : H b = some o') : upd H p o b = some o' := (same_upd n) b o' h
theorem ne_new {H : Hp} {p b : Addr} {o : HO} (h : H b = some o) (n : H p = none) : b ≠ p := ne_of_none h n
/-- H' is H but at p -/
def But (p : Addr) (H H' : Hp) : Prop := ∀ b o, b ≠ p → H b = some o → H' b = some o
theorem But.refl {p : Addr} {H : Hp} : But p H H := fun _ _ _ h => h
theorem But.of {p : Addr} {H H' : Hp} (s : Same H H') : But p H H' := fun b o _ h => s b o h
theorem But.trans {p : Addr} {H H1 H2 : Hp} (a : But p H H1) (b : But p H1 H2) : But p H H2 := fun c o n h => b c o n (a c o n h)
theorem But.upd {p : Addr} {H H' : Hp} {o : HO} (a : But p H H') : But p H (upd H' p o) := fun b o n h => by rw [upd_ne n]; exact a b o n h
theorem But.same {p : Addr} {H H' : Hp} (a : But p H H') (n : H p = none) : Same H H' := fun b o h => a b o (ne_of_none h n) h
theorem But.tr2 {p : Addr} {H H1 H2 : Hp} (s : Same H H1) (n : H p = none) (a : But p H1 H2) : Same H H2 := fun b o h => a b o (ne_of_none h n) (s b o h)
/-! ### numbers -/
theorem cdivW {a b : Int} (h : 0 < b) (h2 : b < 2 ^ 8000) : CDivW a b := by
  refine ⟨h, ?_⟩
  have e : b.natAbs < 2 ^ 8000 := by
    have : ((b.natAbs : Nat) : Int) < ((2 ^ 8000 : Nat) : Int) := by
      rw [Int.natAbs_of_nonneg (Int.le_of_lt h)]
      exact_mod_cast h2
    exact_mod_cast this
  by_cases z : b.natAbs = 0
  · rw [z]; decide
  · exact Nat.lt_of_lt_of_le (Nat.log2_lt z |>.mpr e) (by decide)
theorem sz {n : Nat} (h : n ≤ 100000) : n ≤ sizeLine := Nat.le_trans h (by decide)
theorem szl {n : Nat} (h : n < 100000) : n < sizeLine := Nat.lt_of_lt_of_le h (by decide)
/-! ### loops -/
theorem for_l {K : PySem.W.Frag} {tl : TE} {g : TG} {tb : TS} {D : Ends} {σ : St} {H : Hp} {a : Addr} {xs : List V} (Pv : Nat → St → Hp → Prop) (hs : SqL K H a xs) (h0 : Pv 0 σ H) (hl : ∀ i σ H, i ≤ xs.length → Pv i σ H → SqL K H a xs)
    (turn : ∀ i x σ H, xs[i]? = some x → Pv i σ H → g x σ H fun σ2 H2 => tb { D with nx := Pv (i + 1), ct := Pv (i + 1), bk := D.nx } σ2 H2) (hd : ∀ σ H, Pv xs.length σ H → D.nx σ H) (e : ∀ R : V → Hp → Prop, R (.ref a) H → tl σ H R) : tFor (iList K tl) g tb D σ H := by
  refine g_for ?_
  refine e _ ⟨a, rfl, ⟨_, hs⟩, ?_⟩
  exact for_list (xs := xs) Pv h0 hl turn hd
theorem for_r {ta : TA} {g : TG} {tb : TS} {D : Ends} {σ : St} {H : Hp} {n : Int} (N : Nat) (en : n.toNat = N) (b1 : -(2 ^ 62) ≤ n) (b2 : n < 2 ^ 62) (Pv : Nat → St → Hp → Prop) (h0 : Pv 0 σ H)
    (turn : ∀ (i : Nat) σ H, i < N → Pv i σ H → g (.int (i : Int)) σ H fun σ2 H2 => tb { D with nx := Pv (i + 1), ct := Pv (i + 1), bk := D.nx } σ2 H2) (hd : ∀ σ H, Pv N σ H → D.nx σ H) (e : ∀ R : List V → Hp → Prop, R [.int n] H → ta σ H R) : tFor (iRng1 ta) g tb D σ H := by
  subst en
  refine g_for ?_
  refine e _ ⟨n, rfl, b1, b2, ?_⟩
  refine for_range (lo := 0) Pv h0 (fun i σ H hi p => ?_) hd
  have z := turn i σ H hi p
  rw [Int.zero_add]
  exact z
theorem g_nx {nx : St → Hp → Prop} {rt : VK} {bk ct : St → Hp → Prop} {σ : St} {H : Hp} (q : nx σ H) : (Ends.mk nx rt bk ct).nx σ H := q
theorem g_bkE {nx : St → Hp → Prop} {rt : VK} {bk ct : St → Hp → Prop} {σ : St} {H : Hp} (q : bk σ H) : (Ends.mk nx rt bk ct).bk σ H := q
theorem g_ctE {nx : St → Hp → Prop} {rt : VK} {bk ct : St → Hp → Prop} {σ : St} {H : Hp} (q : ct σ H) : (Ends.mk nx rt bk ct).ct σ H := q
theorem g_rt {nx : St → Hp → Prop} {rt : VK} {bk ct : St → Hp → Prop} {v : V} {H : Hp} (q : rt v H) : (Ends.mk nx rt bk ct).rt v H := q
/-- a cell of the script -/
def cell (ns : List Int) (k : Int) : Int := ns.getD k.toNat 0
theorem atI_map {ns : List Int} {k : Int} (h0 : 0 ≤ k) (h : k < (ns.length : Int)) : atI (ns.map V.int) k = some (.int (cell ns k)) := by
  have e : k = ((k.toNat : Nat) : Int) := by omega
  have hl : k.toNat < ns.length := by omega
  have e2 : cell ns k = ns[k.toNat] := by
    unfold cell
    rw [List.getD_eq_getElem?_getD, List.getElem?_eq_getElem hl]; rfl
  rw [e2]
  refine at_of e ?_
  rw [List.getElem?_map, List.getElem?_eq_getElem hl]; rfl
theorem cell_out {ns : List Int} {k : Int} (h : ¬ k < (ns.length : Int)) : cell ns k = 0 := by
  unfold cell
  rw [List.getD_eq_getElem?_getD, List.getElem?_eq_none (by omega)]; rfl
theorem atI_some {xs : List V} {i : Int} (h0 : 0 ≤ i) (h : i < (xs.length : Int)) : ∃ v, xs[i.toNat]? = some v ∧ atI xs i = some v := by
  have hl : i.toNat < xs.length := by omega
  exact ⟨xs[i.toNat], List.getElem?_eq_getElem hl, at_of (by omega) (List.getElem?_eq_getElem hl)⟩
theorem atI_ints {xs : List Int} {i : Int} (h0 : 0 ≤ i) (h : i < (xs.length : Int)) : ∃ n, atI (xs.map V.int) i = some (.int n) ∧ xs[i.toNat]? = some n := by
  have hl : i.toNat < xs.length := by omega
  refine ⟨xs[i.toNat], at_of (j := i.toNat) (by omega) ?_, List.getElem?_eq_getElem hl⟩
  rw [List.getElem?_map, List.getElem?_eq_getElem hl]; rfl
theorem g_dT {p A B : Prop} [Decidable p] (h : p) (q : A) : if decide p = true then A else B := by rw [decide_eq_true h]; exact iteT q
theorem g_dF {p A B : Prop} [Decidable p] (h : ¬ p) (q : B) : if decide p = true then A else B := by rw [decide_eq_false h]; exact iteF q
theorem g_nT {p A B : Prop} [Decidable p] (h : ¬ p) (q : A) : if (!decide p) = true then A else B := by rw [decide_eq_false h]; exact iteT q
theorem g_nF {p A B : Prop} [Decidable p] (h : p) (q : B) : if (!decide p) = true then A else B := by rw [decide_eq_true h]; exact iteF q
/-! ### comprehensions: the list ys, value by value -/
theorem g_yes {σ : St} {H : Hp} {P : Bool → Hp → Prop} (q : P true H) : tYes σ H P := q
theorem g_lc {wi : TI} {g : TG} {tt : TT} {te : TE} {vs : List Nat} {σ : St} {H : Hp} {Q : VK} (h : wi σ H fun J H1 => ∀ D, H1 D = none → ∃ W : Nat → Nat → Hp → Prop, (∃ m, W 0 m (upd H1 D (.lst []))) ∧ ∀ i m H, W i m H →
  (J.stop i H ∧ Q (.ref D) H) ∨ (J.go i H ∧ ∃ Nx : Hp → Prop, (∀ H', Nx H' → ∃ m', m' < m ∧ W (i + 1) m' H') ∧ ∀ x H', J.yld i H x H' → g x (wipe σ vs) H' fun σ2 H2 => wipe σ2 vs = wipe σ vs ∧ tt σ2 H2 fun b H3 =>
    if b = true then te σ2 H3 fun y H4 => ∃ acc, H4 D = some (.lst acc) ∧ acc.length < sizeLine ∧ Nx (upd H4 D (.lst (acc ++ [y]))) else Nx H3)) : tLc wi g tt te vs σ H Q := h
theorem g_revR {ta : TE} {σ : St} {H : Hp} {R : It → Hp → Prop} (h : ta σ H fun x H1 => ∃ n : Int, x = .int n ∧ -(2 ^ 62) ≤ (0 : Int) ∧ (0 : Int) < 2 ^ 62 ∧ -(2 ^ 62) ≤ n ∧ n < 2 ^ 62 ∧ R (Itc (0 + (((n - 0).toNat : Nat) : Int) - 1) (-1) (n - 0).toNat) H1) : iRevR (tRg1 ta) σ H R := h
theorem g_rng1 {ta : TA} {σ : St} {H : Hp} {R : It → Hp → Prop} (h : ta σ H fun vs H1 => ∃ j : Int, vs = [.int j] ∧ -(2 ^ 62) ≤ j ∧ j < 2 ^ 62 ∧ R (Itr 0 j.toNat) H1) : iRng1 ta σ H R := h
theorem g_iList {K : PySem.W.Frag} {tl : TE} {σ : St} {H : Hp} {R : It → Hp → Prop} (h : tl σ H fun x H1 => ∃ a, x = .ref a ∧ (∃ xs, SqL K H1 a xs) ∧ R (Itl K a) H1) : iList K tl σ H R := h
def LcP (H1 : Hp) (D : Addr) (ys : List V) (i : Nat) (H : Hp) : Prop := Same H1 H ∧ H D = some (.lst (ys.take i))
theorem lc_vals {J : It} {n : Nat} {G : Hp → Prop} {Y : Nat → Hp → V → Hp → Prop} (w : Walk J n G Y) (ys : List V) {g : TG} {tt : TT} {te : TE} {vs : List Nat} {σ : St} {H1 : Hp} {D : Addr} {Qd : Hp → Prop} (hD : H1 D = none) (hlen : ys.length = n) (hG : ∀ H, Same H1 H → G H)
    (hs : ∀ i x H H', i < n → LcP H1 D ys i H → Y i H x H' → g x (wipe σ vs) H' fun σ2 H2 => wipe σ2 vs = wipe σ vs ∧ tt σ2 H2 fun b H3 =>
      if b = true then te σ2 H3 fun y H4 => ∃ acc, H4 D = some (.lst acc) ∧ acc.length < sizeLine ∧ LcP H1 D ys (i + 1) (upd H4 D (.lst (acc ++ [y]))) else LcP H1 D ys (i + 1) H3)
    (hd : ∀ H, Same H1 H → H D = some (.lst ys) → Qd H) :
    ∃ W : Nat → Nat → Hp → Prop, (∃ m, W 0 m (upd H1 D (.lst []))) ∧ ∀ i m H, W i m H →
      (J.stop i H ∧ Qd H) ∨ (J.go i H ∧ ∃ Nx : Hp → Prop, (∀ H', Nx H' → ∃ m', m' < m ∧ W (i + 1) m' H') ∧ ∀ x H', J.yld i H x H' → g x (wipe σ vs) H' fun σ2 H2 => wipe σ2 vs = wipe σ vs ∧ tt σ2 H2 fun b H3 =>
        if b = true then te σ2 H3 fun y H4 => ∃ acc, H4 D = some (.lst acc) ∧ acc.length < sizeLine ∧ Nx (upd H4 D (.lst (acc ++ [y]))) else Nx H3) := by
  refine lc_it w (LcP H1 D ys) ⟨same_upd hD, by rw [upd_same]; rfl⟩ (fun i H _ p => hG H p.1) hs (fun H p => hd H p.1 ?_)
  have e := p.2
  rw [← hlen, List.take_length] at e
  exact e
theorem lc_next {H1 H4 : Hp} {D : Addr} {ys : List V} {i : Nat} {y : V} (hD : H1 D = none) (p : LcP H1 D ys i H4) (hz : ys.length ≤ 100000) (hy : ys[i]? = some y) :
    ∃ acc, H4 D = some (.lst acc) ∧ acc.length < sizeLine ∧ LcP H1 D ys (i + 1) (upd H4 D (.lst (acc ++ [y]))) := by
  refine ⟨_, p.2, ?_, ?_, ?_⟩
  · rw [List.length_take]
    obtain ⟨h, _⟩ := List.getElem?_eq_some_iff.mp hy
    exact szl (by omega)
  · exact (But.of p.1).upd.same hD
  · rw [upd_same, List.take_add_one, hy]
    rfl
theorem LcP.same {H1 H4 H5 : Hp} {D : Addr} {ys : List V} {i : Nat} (p : LcP H1 D ys i H4) (s : Same H4 H5) : LcP H1 D ys i H5 := ⟨p.1.trans s, s _ _ p.2⟩
theorem map_get {α : Type} {f : α → V} {xs : List α} {i : Nat} {y : V} (h : (xs.map f)[i]? = some y) : ∃ z, xs[i]? = some z ∧ y = f z := by
  rw [List.getElem?_map] at h
  cases e : xs[i]? with
  | none => rw [e] at h; cases h
  | some z => rw [e] at h; exact ⟨z, rfl, (Option.some.inj h).symm⟩
/-! ### == of lists of ints -/
section
variable {K : PySem.W.Frag} {H : Hp} {Q : VK}
theorem dpAll_ints : ∀ {ns : List Int}, DpAll K H (ns.map V.int) (ns.map PyData.int)
  | [] => .nil
  | n :: _ => .cons (.int n) dpAll_ints
theorem lay_ints : ∀ {ns : List Int}, PyData.canLayAll0 (ns.map PyData.int) = true
  | [] => rfl
  | _ :: ns => by
    show (true && PyData.canLayAll0 (ns.map PyData.int)) = true
    rw [lay_ints]; rfl
theorem depth_ints : ∀ {ns : List Int}, PyData.depthAll (ns.map PyData.int) = 0
  | [] => rfl
  | _ :: ns => by
    show max 0 (PyData.depthAll (ns.map PyData.int)) = 0
    rw [depth_ints]; rfl
theorem shaped_ints {ns : List Int} : SeqAt.shaped (.list (ns.map PyData.int)) = true := by
  show (PyData.canLayAll0 (ns.map PyData.int) && decide (PyData.depthAll (ns.map PyData.int) + 1 ≤ 64)) = true
  rw [lay_ints, depth_ints]; rfl
theorem eqvAll_ints : ∀ {ns ms : List Int}, PyData.eqvAll (ns.map PyData.int) (ms.map PyData.int) = decide (ns = ms)
  | [], [] => rfl
  | [], _ :: _ => rfl
  | _ :: _, [] => rfl
  | n :: ns, m :: ms => by
    show ((n == m) && PyData.eqvAll (ns.map PyData.int) (ms.map PyData.int)) = decide (n :: ns = m :: ms)
    rw [eqvAll_ints, Bool.eq_iff_iff]
    simp
theorem dp_ints {a : Addr} {ns : List Int} (h : SqL K H a (ns.map V.int)) : Dp K H (.ref a) (.list (ns.map PyData.int)) := .lst h dpAll_ints
theorem g_eqL {a b : Addr} {ns ms : List Int} (h1 : SqL K H a (ns.map V.int)) (h2 : SqL K H b (ms.map V.int)) (q : Q (.bl (decide (ns = ms))) H) : rEqD K (.ref a) (.ref b) H Q :=
  ⟨_, _, dp_ints h1, dp_ints h2, shaped_ints, shaped_ints, by rw [show PyData.eqv (.list (ns.map PyData.int)) (.list (ms.map PyData.int)) = decide (ns = ms) from eqvAll_ints]; exact q⟩
theorem g_neL {a b : Addr} {ns ms : List Int} (h1 : SqL K H a (ns.map V.int)) (h2 : SqL K H b (ms.map V.int)) (q : Q (.bl (!decide (ns = ms))) H) : rNeD K (.ref a) (.ref b) H Q :=
  ⟨_, _, dp_ints h1, dp_ints h2, shaped_ints, shaped_ints, by rw [show PyData.eqv (.list (ns.map PyData.int)) (.list (ms.map PyData.int)) = decide (ns = ms) from eqvAll_ints]; exact q⟩
theorem g_sum {a : Addr} {ns : List Int} (h : SqL K H a (ns.map V.int)) (q : Q (.int ns.sum) H) : rSum K [.ref a] H Q := ⟨a, ns, rfl, h, q⟩
end
theorem ixN_nat {n : Nat} {k : Int} (h0 : 0 ≤ k) (h : k < (n : Int)) : ixN n k = some k.toNat := by
  unfold ixN
  rw [if_pos h0, if_pos h]
theorem g_ref {a : Addr} {A : Addr → Prop} (q : A a) : ∃ b, V.ref a = .ref b ∧ A b := ⟨a, rfl, q⟩
/-! ### objects: the attributes by their places -/
def obj : List Str → List V → List (Str × V)
  | k :: ks, v :: vs => (k, v) :: obj ks vs
  | _, _ => []
theorem obj_len : ∀ (ks : List Str) (vs : List V), (obj ks vs).length ≤ ks.length
  | [], _ => Nat.zero_le _
  | _ :: _, [] => Nat.zero_le _
  | _ :: ks, _ :: vs => Nat.succ_le_succ (obj_len ks vs)
theorem obj_get : ∀ {ks : List Str} {vs : List V} {i : Nat} {k : Str}, ks.Nodup → ks[i]? = some k → (obj ks vs).lookup k = vs[i]?
  | [], _, _, _, _, h => by cases h
  | k0 :: ks, [], i, k, _, _ => by simp [obj]
  | k0 :: ks, v :: vs, 0, k, _, h => by
    have e : k0 = k := Option.some.inj h
    subst e
    simp [obj]
  | k0 :: ks, v :: vs, i + 1, k, nd, h => by
    have nd' := List.nodup_cons.mp nd
    have hk : k ∈ ks := List.mem_of_getElem? h
    have ne : (k == k0) = false := by
      rw [beq_eq_false_iff_ne]
      intro e
      subst e
      exact nd'.1 hk
    show List.lookup k ((k0, v) :: obj ks vs) = vs[i]?
    rw [List.lookup_cons, ne]
    exact obj_get nd'.2 h
theorem obj_none : ∀ {ks : List Str} {vs : List V} {k : Str}, k ∉ ks → (obj ks vs).lookup k = none
  | [], _, _, _ => rfl
  | _ :: _, [], _, _ => rfl
  | k0 :: ks, v :: vs, k, h => by
    have ne : (k == k0) = false := by
      rw [beq_eq_false_iff_ne]
      intro e
      subst e
      exact h (List.mem_cons_self ..)
    show List.lookup k ((k0, v) :: obj ks vs) = none
    rw [List.lookup_cons, ne]
    exact obj_none fun z => h (List.mem_cons_of_mem _ z)
theorem obj_put : ∀ {ks : List Str} {vs : List V} {i : Nat} {k : Str} {y : V}, ks.Nodup → ks[i]? = some k → i < vs.length → putF k y (obj ks vs) = obj ks (vs.set i y)
  | [], _, _, _, _, _, h, _ => by cases h
  | _ :: _, [], _, _, _, _, _, h => by simp at h
  | k0 :: ks, v :: vs, 0, k, y, _, h, _ => by
    have e : k0 = k := Option.some.inj h
    subst e
    show (if k0 = k0 then _ else _) = _
    rw [if_pos rfl]
    rfl
  | k0 :: ks, v :: vs, i + 1, k, y, nd, h, hl => by
    have nd' := List.nodup_cons.mp nd
    have hk : k ∈ ks := List.mem_of_getElem? h
    have ne : ¬ k0 = k := by
      intro e
      subst e
      exact nd'.1 hk
    show (if k0 = k then _ else (k0, v) :: putF k y (obj ks vs)) = (k0, v) :: obj ks (vs.set i y)
    rw [if_neg ne, obj_put nd'.2 h (by simpa using hl)]
theorem obj_new : ∀ {ks : List Str} {vs : List V} {k : Str} {y : V}, ks.Nodup → ks[vs.length]? = some k → putF k y (obj ks vs) = obj ks (vs ++ [y])
  | [], _, _, _, _, h => by simp at h
  | k0 :: ks, [], k, y, _, h => by
    have e : k0 = k := Option.some.inj h
    subst e
    show [(k0, y)] = obj (k0 :: ks) [y]
    cases ks <;> rfl
  | k0 :: ks, v :: vs, k, y, nd, h => by
    have nd' := List.nodup_cons.mp nd
    have h' : ks[vs.length]? = some k := h
    have hk : k ∈ ks := List.mem_of_getElem? h'
    have ne : ¬ k0 = k := by
      intro e
      subst e
      exact nd'.1 hk
    show (if k0 = k then _ else (k0, v) :: putF k y (obj ks vs)) = (k0, v) :: obj ks (vs ++ [y])
    rw [if_neg ne, obj_new nd'.2 h']
section
variable {K : PySem.W.Frag} {σ : St} {H : Hp} {Q : VK} {v y : V} {ta tv : TE} {D : Ends} {f m : Str} {a C dx : Addr} {ks : List Str} {vs : List V} {i : Nat}
theorem g_fld (h : ta σ H fun x H1 => ∃ a C dx fs v, x = .ref a ∧ H1 a = some (.ins C dx fs) ∧ Cls K C ∧ NoAttr K C f ∧ fs.lookup f = some v ∧ Q v H1) : tFld K ta f σ H Q := h
theorem g_fldE {A : V → Prop} (ho : H a = some (.ins C dx (obj ks vs))) (c : Cls K C) (n : NoAttr K C f) (nd : ks.Nodup) (hk : ks[i]? = some f) (hv : vs[i]? = some v) (q : A v) :
    ∃ a' C' dx' fs v', V.ref a = .ref a' ∧ H a' = some (.ins C' dx' fs) ∧ Cls K C' ∧ NoAttr K C' f ∧ fs.lookup f = some v' ∧ A v' := ⟨a, C, dx, _, v, rfl, ho, c, n, (obj_get nd hk).trans hv, q⟩
theorem g_sfld (h : tv σ H fun y H1 => ta σ H1 fun x H2 => ∃ a C dx fs, x = .ref a ∧ H2 a = some (.ins C dx fs) ∧ Cls K C ∧ NoAttr K C f ∧ fs.length < 1000 ∧ D.nx σ (upd H2 a (.ins C dx (putF f y fs)))) : sFld K ta tv f D σ H := h
theorem g_putE {A : Hp → Prop} (ho : H a = some (.ins C dx (obj ks vs))) (c : Cls K C) (n : NoAttr K C f) (nd : ks.Nodup) (h1 : ks.length < 1000) (hk : ks[i]? = some f) (hv : i < vs.length) (q : A (upd H a (.ins C dx (obj ks (vs.set i y))))) :
    ∃ a' C' dx' fs, V.ref a = .ref a' ∧ H a' = some (.ins C' dx' fs) ∧ Cls K C' ∧ NoAttr K C' f ∧ fs.length < 1000 ∧ A (upd H a' (.ins C' dx' (putF f y fs))) :=
  ⟨a, C, dx, _, rfl, ho, c, n, Nat.lt_of_le_of_lt (obj_len ks vs) h1, by rw [obj_put nd hk hv]; exact q⟩
theorem g_newE {A : Hp → Prop} (ho : H a = some (.ins C dx (obj ks vs))) (c : Cls K C) (n : NoAttr K C f) (nd : ks.Nodup) (h1 : ks.length < 1000) (hk : ks[vs.length]? = some f) (q : A (upd H a (.ins C dx (obj ks (vs ++ [y]))))) :
    ∃ a' C' dx' fs, V.ref a = .ref a' ∧ H a' = some (.ins C' dx' fs) ∧ Cls K C' ∧ NoAttr K C' f ∧ fs.length < 1000 ∧ A (upd H a' (.ins C' dx' (putF f y fs))) :=
  ⟨a, C, dx, _, rfl, ho, c, n, Nat.lt_of_le_of_lt (obj_len ks vs) h1, by rw [obj_new nd hk]; exact q⟩
theorem g_meth {sp : Sp} {dvs : List V} {E : XK} {t : TA} (h : ta σ H fun x H1 => ∃ a dx fs, x = .ref a ∧ H1 a = some (.ins C dx fs) ∧ fs.lookup m = none ∧ t σ H1 fun vs H2 => sp (x :: (vs ++ dvs)) H2 Q E) : tMeth C m sp dvs E ta t σ H Q := h
theorem g_methE {A : Prop} (ho : H a = some (.ins C dx (obj ks vs))) (no : m ∉ ks) (q : A) : ∃ a' dx' fs, V.ref a = .ref a' ∧ H a' = some (.ins C dx' fs) ∧ fs.lookup m = none ∧ A := ⟨a, dx, _, rfl, ho, obj_none no, q⟩
theorem g_make {sp : Sp} {dvs : List V} {E : XK} {t : TA} (h : t σ H fun vs H1 => ∀ x dx, H1 x = none → H1 dx = none → dx ≠ x → sp (.ref x :: (vs ++ dvs)) (upd (upd H1 dx (.own x)) x (.ins C dx [])) (fun v H2 => v = .non ∧ Q (.ref x) H2) E) : tMake C sp dvs E t σ H Q := h
theorem g_prop {sp : Sp} {dvs : List V} {E : XK} (h : ta σ H fun x H1 => ∃ a dx fs, x = .ref a ∧ H1 a = some (.ins C dx fs) ∧ sp (.ref a :: dvs) H1 Q E) : tProp C sp dvs E ta σ H Q := h
theorem g_propE {A : Addr → Prop} (ho : H a = some (.ins C dx (obj ks vs))) (q : A a) : ∃ a' dx' fs, V.ref a = .ref a' ∧ H a' = some (.ins C dx' fs) ∧ A a' := ⟨a, dx, _, rfl, ho, q⟩
theorem g_absE {A : Int → Prop} {n : Int} (q : A n) : ∃ i, [V.int n] = [V.int i] ∧ A i := ⟨n, rfl, q⟩
end
/-- a slice of ints -/
theorem cut_ints (ns : List Int) (lo hi : Option Int) : ∃ ms : List Int, cutV (ns.map V.int) lo hi = ms.map V.int ∧ ms.length ≤ ns.length := by
  unfold cutV
  refine ⟨(ns.drop (HT.sIx (ns.map V.int).length 0 lo)).take (HT.sIx (ns.map V.int).length (ns.map V.int).length hi - HT.sIx (ns.map V.int).length 0 lo), ?_, ?_⟩
  · rw [List.map_take, List.map_drop]
  · rw [List.length_take, List.length_drop]
    omega
theorem g_nameE {i : Nat} {v : V} {σ σ' : St} {H : Hp} {A : St → Hp → Prop} (e : σ.set i (some v) = σ') (q : A σ' H) : gName i v σ H A := by
  subst e
  exact q
theorem but_sq {K : PySem.W.Frag} {p : Addr} {H H' : Hp} {a : Addr} {xs : List V} (e : But p H H') (n : a ≠ p) (h : SqL K H a xs) : SqL K H' a xs := by
  rcases h with (h | ⟨o, h⟩) | h
  · exact .inl (.inl (e _ _ n h))
  · exact .inl (.inr ⟨o, e _ _ n h⟩)
  · exact .inr h
theorem g_star {K : PySem.W.Frag} {te : TE} {t : TA} {σ : St} {H : Hp} {Q : List V → Hp → Prop} (h : te σ H fun x H1 => ∃ p xs, x = V.ref p ∧ (SqT K H1 p xs ∨ SqL K H1 p xs) ∧ t σ H1 fun ys H2 => Q (xs ++ ys) H2) : StX.tStar K te t σ H Q := h
theorem g_while {c : TT} {tb : TS} {D : Ends} {σ : St} {H : Hp} (W : Nat → St → Hp → Prop) (h0 : ∃ m, W m σ H) (h : ∀ m σ H, W m σ H → c σ H fun b H1 => if b = true then ∃ N : St → Hp → Prop, (∀ σ' H', N σ' H' → ∃ m', m' < m ∧ W m' σ' H') ∧ tb { D with nx := N, ct := N, bk := D.nx } σ H1 else D.nx σ H1) : tWhile c tb D σ H := ⟨W, h0, h⟩
theorem g_cut {t u : TS} {D : Ends} {σ : St} {H : Hp} (Mid : St → Hp → Prop) (h1 : t { D with nx := Mid } σ H) (h2 : ∀ σ' H', Mid σ' H' → u D σ' H') : C8.tCut t u D σ H := ⟨Mid, h1, h2⟩
theorem g_min {K : PySem.W.Frag} {a : Addr} {ns : List Int} {H : Hp} {Q : VK} (h : SqL K H a (ns.map V.int)) (h0 : 0 < ns.length) (q : ∀ m, m ∈ ns → (∀ y, y ∈ ns → m ≤ y) → Q (.int m) H) : rMin K [.ref a] H Q := ⟨a, ns, rfl, h, h0, q⟩
theorem g_max {K : PySem.W.Frag} {a : Addr} {ns : List Int} {H : Hp} {Q : VK} (h : SqL K H a (ns.map V.int)) (h0 : 0 < ns.length) (q : ∀ m, m ∈ ns → (∀ y, y ∈ ns → y ≤ m) → Q (.int m) H) : rMax K [.ref a] H Q := ⟨a, ns, rfl, h, h0, q⟩
theorem atI_nat' {xs : List V} {i : Int} {j : Nat} {v : V} (e : i = (j : Int)) (h : xs[j]? = some v) : atI xs i = some v := at_of e h
theorem ixN_last {n : Nat} (h : 0 < n) : ixN n (-1) = some (n - 1) := by
  unfold ixN
  rw [if_neg (by decide), if_pos (by omega)]
  congr 1
  omega
theorem atI_neg1 {xs : List V} {v : V} (h : xs[xs.length - 1]? = some v) : atI xs (-1) = some v := by
  obtain ⟨hl, _⟩ := List.getElem?_eq_some_iff.mp h
  unfold atI
  rw [ixN_last (by omega)]
  exact h
theorem snoc_of {α : Type} {xs : List α} (h : 0 < xs.length) : ∃ a x, xs = a ++ [x] :=
  ⟨xs.dropLast, xs.getLast (List.ne_nil_of_length_pos h), (List.dropLast_concat_getLast _).symm⟩
theorem set_last {α : Type} {a : List α} {x y : α} : (a ++ [x]).set a.length y = a ++ [y] := by
  rw [List.set_append_right _ _ (Nat.le_refl _), Nat.sub_self]
  rfl
end My
namespace My
open PySem PySem.Spec L2
local macro_rules | `(tactic| walk_at "side") => `(tactic| first | assumption | decide | omega | exact ⟨by decide, by decide⟩ | exact ⟨by decide, by decide, by decide⟩ | decide +kernel | exact cdivW (by decide +kernel) (by decide +kernel) | exact Or.inl ⟨by omega, by omega⟩ | exact Or.inr ⟨by omega, by omega⟩ | (simp only [List.length_map, List.length_cons, List.length_nil, List.length_append]; omega))
local macro_rules | `(tactic| walk_at "fact") => `(tactic| first | assumption | omega | with_reducible rfl)
local macro_rules | `(tactic| walk_at "use") => `(tactic| fail "use")
local macro_rules | `(tactic| walk_at "go1") => `(tactic| with_reducible first | refine g_seq ?_ | refine g_asg ?_ | refine g_ret ?_ | refine g_ifS ?_ | refine g_drop ?_ | refine g_star ?_ | refine g_nx ?_ | refine g_rt ?_ | refine g_bkE ?_ | refine g_ctE ?_ | refine g_next ?_ | refine g_retN ?_ | refine g_brk ?_ | refine g_ct ?_ | refine g_c ?_ | refine g_op ?_ | refine g_un ?_ | refine g_rI0 ?_ | refine g_rU ?_ | refine g_rEqI ?_ | refine g_rNeI ?_ | refine g_isN ?_ | refine g_rIsB ?_ | refine g_rNotB ?_ | refine g_test ?_ | refine g_B ?_ | refine g_bl ?_ | refine g_and ?_ | refine g_or ?_ | refine g_not ?_ | refine g_andV ?_ | refine g_orV ?_ | refine g_notV ?_ | refine g_if ?_ | refine g_chain ?_ | refine g_yes ?_ | refine g_lc ?_ | refine g_revR ?_ | refine g_rng1 ?_ | refine g_iList ?_ | refine g_nil ?_ | refine g_cons ?_ | refine g_tup ?_ | refine g_lst ?_ | refine g_call ?_ | refine g_CB ?_ | refine g_sl ?_ | refine g_noPart ?_ | refine g_part ?_ | refine g_intE ?_ | refine g_ref ?_ | refine g_fld ?_ | refine g_sfld ?_ | refine g_meth ?_ | refine g_make ?_ | refine g_prop ?_  | refine g_ipI ?_ | refine g_int1 ?_ | refine g_int1B ?_ | refine g_one ?_ | refine g_two ?_ | refine g_isiI ?_ | refine g_isiIB ?_ | refine g_isiB ?_ | refine g_BM ?_ | refine g_BM0 ?_ | refine g_sub ?_)
local macro_rules | `(tactic| walk_at "go") => `(tactic| repeat (first | walk_at "go1" | ((with_reducible refine' g_nameE ?sd_ ?_); case sd_ => dsimp only [List.set_cons_succ, List.set_cons_zero]) | ((with_reducible refine' g_var ?sd_ ?_); case sd_ => exact rfl) | ((with_reducible refine' g_aug ?sd_ ?_); case sd_ => exact rfl) | ((with_reducible refine' g_rI ?sd_ ?_); case sd_ => walk_at "side") | ((with_reducible refine' g_dT ?sd_ ?_); case sd_ => walk_at "fact") | ((with_reducible refine' g_dF ?sd_ ?_); case sd_ => walk_at "fact") | ((with_reducible refine' g_nT ?sd_ ?_); case sd_ => walk_at "fact") | ((with_reducible refine' g_nF ?sd_ ?_); case sd_ => walk_at "fact") | (with_reducible refine g_iT rfl ?_) | (with_reducible refine g_iF rfl ?_) | walk_at "use"))
def topS (i : Nat) : Stmt := PySem.Challenge.pw_throughline_k15_pieces.main.body.getD i (.Pass ⟨0, 0, 0, 0⟩)
abbrev s_Piece_init__ : Stmt := inClass (topS 1) 0
abbrev s_Piece_size : Stmt := inClass (topS 1) 1
abbrev s_Piece_stop : Stmt := inClass (topS 1) 2
abbrev s_Piece_first_octet : Stmt := inClass (topS 1) 3
abbrev s_Piece_eq__ : Stmt := inClass (topS 1) 4
abbrev s_Piece_fields : Stmt := inClass (topS 1) 5
abbrev s_l_is_integer : Stmt := topS 3
abbrev s_l_cell : Stmt := topS 4
abbrev s_l_row : Stmt := topS 5
abbrev s_l_octets : Stmt := topS 6
abbrev s_l_number : Stmt := topS 7
abbrev s_l_pair : Stmt := topS 8
abbrev s_l_all_pairs : Stmt := topS 9
abbrev s_l_flag : Stmt := topS 10
abbrev s_l_fields : Stmt := topS 11
abbrev s_l_made : Stmt := topS 12
abbrev s_l_right : Stmt := topS 13
abbrev s_l_changed : Stmt := topS 14
abbrev s_law : Stmt := topS 15
theorem sc_Piece_init__ : FnScope ["self", "start", "data", "syn", "fin", "reset", "ack", "window", "ranges", "marked", "cut", "stamp"] ["self", "start", "data", "syn", "fin", "reset", "ack", "window", "ranges", "marked", "cut", "stamp"] (defScope s_Piece_init__) := ⟨rfl, rfl, rfl, by decide +kernel, rfl, by decide +kernel, by decide +kernel⟩
theorem sc_Piece_size : FnScope ["self"] ["self"] (defScope s_Piece_size) := ⟨rfl, rfl, rfl, by decide +kernel, rfl, by decide +kernel, by decide +kernel⟩
theorem sc_Piece_stop : FnScope ["self"] ["self"] (defScope s_Piece_stop) := ⟨rfl, rfl, rfl, by decide +kernel, rfl, by decide +kernel, by decide +kernel⟩
theorem sc_Piece_first_octet : FnScope ["self"] ["self"] (defScope s_Piece_first_octet) := ⟨rfl, rfl, rfl, by decide +kernel, rfl, by decide +kernel, by decide +kernel⟩
theorem sc_Piece_eq__ : FnScope ["self", "other"] ["self", "other"] (defScope s_Piece_eq__) := ⟨rfl, rfl, rfl, by decide +kernel, rfl, by decide +kernel, by decide +kernel⟩
theorem sc_Piece_fields : FnScope ["self"] ["self"] (defScope s_Piece_fields) := ⟨rfl, rfl, rfl, by decide +kernel, rfl, by decide +kernel, by decide +kernel⟩
theorem sc_l_is_integer : FnScope ["actual"] ["actual"] (defScope s_l_is_integer) := ⟨rfl, rfl, rfl, by decide +kernel, rfl, by decide +kernel, by decide +kernel⟩
theorem sc_l_cell : FnScope ["script", "k"] ["script", "k"] (defScope s_l_cell) := ⟨rfl, rfl, rfl, by decide +kernel, rfl, by decide +kernel, by decide +kernel⟩
theorem sc_l_row : FnScope ["cell", "size", "base", "row", "number", "k", "mixed"] ["cell", "size", "base"] (defScope s_l_row) := ⟨rfl, rfl, rfl, by decide +kernel, rfl, by decide +kernel, by decide +kernel⟩
theorem sc_l_octets : FnScope ["actual", "expected", "k"] ["actual", "expected"] (defScope s_l_octets) := ⟨rfl, rfl, rfl, by decide +kernel, rfl, by decide +kernel, by decide +kernel⟩
theorem sc_l_number : FnScope ["actual", "expected"] ["actual", "expected"] (defScope s_l_number) := ⟨rfl, rfl, rfl, by decide +kernel, rfl, by decide +kernel, by decide +kernel⟩
theorem sc_l_pair : FnScope ["actual", "expected"] ["actual", "expected"] (defScope s_l_pair) := ⟨rfl, rfl, rfl, by decide +kernel, rfl, by decide +kernel, by decide +kernel⟩
theorem sc_l_all_pairs : FnScope ["actual", "expected", "k"] ["actual", "expected"] (defScope s_l_all_pairs) := ⟨rfl, rfl, rfl, by decide +kernel, rfl, by decide +kernel, by decide +kernel⟩
theorem sc_l_flag : FnScope ["actual", "expected"] ["actual", "expected"] (defScope s_l_flag) := ⟨rfl, rfl, rfl, by decide +kernel, rfl, by decide +kernel, by decide +kernel⟩
theorem sc_l_fields : FnScope ["script", "cells", "fields", "row", "k"] ["script"] (defScope s_l_fields) := ⟨rfl, rfl, rfl, by decide +kernel, rfl, by decide +kernel, by decide +kernel⟩
theorem sc_l_made : FnScope ["fields"] ["fields"] (defScope s_l_made) := ⟨rfl, rfl, rfl, by decide +kernel, rfl, by decide +kernel, by decide +kernel⟩
theorem sc_l_right : FnScope ["piece", "fields", "size"] ["piece", "fields"] (defScope s_l_right) := ⟨rfl, rfl, rfl, by decide +kernel, rfl, by decide +kernel, by decide +kernel⟩
theorem sc_l_changed : FnScope ["fields", "choice", "names", "changed", "name"] ["fields", "choice"] (defScope s_l_changed) := ⟨rfl, rfl, rfl, by decide +kernel, rfl, by decide +kernel, by decide +kernel⟩
theorem sc_law : FnScope ["script", "fields", "piece", "octets", "pairs", "own", "plain", "name", "changed"] ["script"] (defScope s_law) := ⟨rfl, rfl, rfl, by decide +kernel, rfl, by decide +kernel, by decide +kernel⟩
structure Txt (K : PySem.W.Frag) (mg : Str → Option Value) where
  C_Piece : Addr
  f_Piece_init__ : Addr
  d_Piece_init__ : FuncData
  e_Piece_init___data : Addr
  e_Piece_init___ranges : Addr
  f_Piece_size : Addr
  d_Piece_size : FuncData
  p0_Piece_size : Addr
  f_Piece_stop : Addr
  d_Piece_stop : FuncData
  p0_Piece_stop : Addr
  f_Piece_first_octet : Addr
  d_Piece_first_octet : FuncData
  p0_Piece_first_octet : Addr
  f_Piece_eq__ : Addr
  d_Piece_eq__ : FuncData
  f_Piece_fields : Addr
  d_Piece_fields : FuncData
  f_l_is_integer : Addr
  d_l_is_integer : FuncData
  f_l_cell : Addr
  d_l_cell : FuncData
  f_l_row : Addr
  d_l_row : FuncData
  f_l_octets : Addr
  d_l_octets : FuncData
  f_l_number : Addr
  d_l_number : FuncData
  f_l_pair : Addr
  d_l_pair : FuncData
  f_l_all_pairs : Addr
  d_l_all_pairs : FuncData
  f_l_flag : Addr
  d_l_flag : FuncData
  f_l_fields : Addr
  d_l_fields : FuncData
  f_l_made : Addr
  d_l_made : FuncData
  f_l_right : Addr
  d_l_right : FuncData
  f_l_changed : Addr
  d_l_changed : FuncData
  f_law : Addr
  d_law : FuncData
  c_Piece : mg "Piece" = some (.ref C_Piece)
  k_Piece : Cls K C_Piece
  i_Piece : ∀ {H : Hp} {a dx : Addr} {fs : List (Str × V)}, H a = some (.ins C_Piece dx fs) → TyOf K H (.ref a) (.ref C_Piece)
  q_Piece : PySem.W.subIn K (.type "int") (.ref C_Piece) = some false
  ki_Piece : PySem.W.kitOne K (.type "int") (.ref C_Piece) = some false
  n_Piece_start : NoAttr K C_Piece "start"
  n_Piece_data : NoAttr K C_Piece "data"
  n_Piece_syn : NoAttr K C_Piece "syn"
  n_Piece_fin : NoAttr K C_Piece "fin"
  n_Piece_reset : NoAttr K C_Piece "reset"
  n_Piece_ack : NoAttr K C_Piece "ack"
  n_Piece_window : NoAttr K C_Piece "window"
  n_Piece_ranges : NoAttr K C_Piece "ranges"
  n_Piece_marked : NoAttr K C_Piece "marked"
  n_Piece_cut : NoAttr K C_Piece "cut"
  n_Piece_stamp : NoAttr K C_Piece "stamp"
  es_Piece_init___data : ∀ H : Hp, SqT K H e_Piece_init___data []
  es_Piece_init___ranges : ∀ H : Hp, SqT K H e_Piece_init___ranges []
  F_Piece_init__ : FunD K "__init__" "Piece.__init__" (defArgs s_Piece_init__) (defBody s_Piece_init__) (defScope s_Piece_init__) [] [("data", .ref e_Piece_init___data), ("syn", .bl false), ("fin", .bl false), ("reset", .bl false), ("ack", .non), ("window", .int 0), ("ranges", .ref e_Piece_init___ranges), ("marked", .bl false), ("cut", .bl false), ("stamp", .non)] f_Piece_init__ d_Piece_init__
  mk_Piece : Mk K C_Piece f_Piece_init__
  F_Piece_size : Fun K "size" "Piece.size" s_Piece_size f_Piece_size d_Piece_size
  b_Piece_size : Binds K d_Piece_size ["self"] []
  p_Piece_size : PropOf K C_Piece "size" p0_Piece_size f_Piece_size
  F_Piece_stop : Fun K "stop" "Piece.stop" s_Piece_stop f_Piece_stop d_Piece_stop
  b_Piece_stop : Binds K d_Piece_stop ["self"] []
  p_Piece_stop : PropOf K C_Piece "stop" p0_Piece_stop f_Piece_stop
  F_Piece_first_octet : Fun K "first_octet" "Piece.first_octet" s_Piece_first_octet f_Piece_first_octet d_Piece_first_octet
  b_Piece_first_octet : Binds K d_Piece_first_octet ["self"] []
  p_Piece_first_octet : PropOf K C_Piece "first_octet" p0_Piece_first_octet f_Piece_first_octet
  F_Piece_eq__ : Fun K "__eq__" "Piece.__eq__" s_Piece_eq__ f_Piece_eq__ d_Piece_eq__
  b_Piece_eq__ : Binds K d_Piece_eq__ ["self", "other"] []
  a_Piece_eq__ : Meth K C_Piece "__eq__" f_Piece_eq__
  F_Piece_fields : Fun K "_fields" "Piece._fields" s_Piece_fields f_Piece_fields d_Piece_fields
  b_Piece_fields : Binds K d_Piece_fields ["self"] []
  a_Piece_fields : Meth K C_Piece "_fields" f_Piece_fields
  F_l_is_integer : Fun K "_law_is_integer" "_law_is_integer" s_l_is_integer f_l_is_integer d_l_is_integer
  b_l_is_integer : Binds K d_l_is_integer ["actual"] []
  m_l_is_integer : mg "_law_is_integer" = some (.ref f_l_is_integer)
  F_l_cell : Fun K "_law_cell" "_law_cell" s_l_cell f_l_cell d_l_cell
  b_l_cell : Binds K d_l_cell ["script", "k"] []
  m_l_cell : mg "_law_cell" = some (.ref f_l_cell)
  F_l_row : Fun K "_law_row" "_law_row" s_l_row f_l_row d_l_row
  b_l_row : Binds K d_l_row ["cell", "size", "base"] []
  m_l_row : mg "_law_row" = some (.ref f_l_row)
  F_l_octets : Fun K "_law_octets" "_law_octets" s_l_octets f_l_octets d_l_octets
  b_l_octets : Binds K d_l_octets ["actual", "expected"] []
  m_l_octets : mg "_law_octets" = some (.ref f_l_octets)
  F_l_number : Fun K "_law_number" "_law_number" s_l_number f_l_number d_l_number
  b_l_number : Binds K d_l_number ["actual", "expected"] []
  m_l_number : mg "_law_number" = some (.ref f_l_number)
  F_l_pair : Fun K "_law_pair" "_law_pair" s_l_pair f_l_pair d_l_pair
  b_l_pair : Binds K d_l_pair ["actual", "expected"] []
  m_l_pair : mg "_law_pair" = some (.ref f_l_pair)
  F_l_all_pairs : Fun K "_law_all_pairs" "_law_all_pairs" s_l_all_pairs f_l_all_pairs d_l_all_pairs
  b_l_all_pairs : Binds K d_l_all_pairs ["actual", "expected"] []
  m_l_all_pairs : mg "_law_all_pairs" = some (.ref f_l_all_pairs)
  F_l_flag : Fun K "_law_flag" "_law_flag" s_l_flag f_l_flag d_l_flag
  b_l_flag : Binds K d_l_flag ["actual", "expected"] []
  m_l_flag : mg "_law_flag" = some (.ref f_l_flag)
  F_l_fields : Fun K "_law_fields" "_law_fields" s_l_fields f_l_fields d_l_fields
  b_l_fields : Binds K d_l_fields ["script"] []
  m_l_fields : mg "_law_fields" = some (.ref f_l_fields)
  F_l_made : Fun K "_law_made" "_law_made" s_l_made f_l_made d_l_made
  b_l_made : Binds K d_l_made ["fields"] []
  m_l_made : mg "_law_made" = some (.ref f_l_made)
  F_l_right : Fun K "_law_right" "_law_right" s_l_right f_l_right d_l_right
  b_l_right : Binds K d_l_right ["piece", "fields"] []
  m_l_right : mg "_law_right" = some (.ref f_l_right)
  F_l_changed : Fun K "_law_changed" "_law_changed" s_l_changed f_l_changed d_l_changed
  b_l_changed : Binds K d_l_changed ["fields", "choice"] []
  m_l_changed : mg "_law_changed" = some (.ref f_l_changed)
  F_law : Fun K "law" "law" s_law f_law d_law
  b_law : Binds K d_law ["script"] []
  m_law : mg "law" = some (.ref f_law)
  n_bool : mg "bool" = none
  n_int : mg "int" = none
  n_isinstance : mg "isinstance" = none
  n_len : mg "len" = none
  n_list : mg "list" = none
  n_range : mg "range" = none
  n_tuple : mg "tuple" = none
def ky_Piece : List Str := ["start", "data", "syn", "fin", "reset", "ack", "window", "ranges", "marked", "cut", "stamp"]
theorem nd_Piece : ky_Piece.Nodup := by decide +kernel
section
variable {K : PySem.W.Frag} {mg : Str → Option Value} {T : Txt K mg} {H : Hp} {a dx : Addr} {vs : List V} {v y : V}
theorem fd_Piece_start {A : V → Prop} (ho : H a = some (.ins T.C_Piece dx (obj ky_Piece vs))) (hv : vs[0]? = some v) (q : A v) : ∃ a' C' dx' fs v', V.ref a = .ref a' ∧ H a' = some (.ins C' dx' fs) ∧ Cls K C' ∧ NoAttr K C' "start" ∧ fs.lookup ("start" : Str) = some v' ∧ A v' := g_fldE ho T.k_Piece T.n_Piece_start nd_Piece rfl hv q
theorem st_Piece_start {A : Hp → Prop} (ho : H a = some (.ins T.C_Piece dx (obj ky_Piece vs))) (hv : 0 < vs.length) (q : A (upd H a (.ins T.C_Piece dx (obj ky_Piece (vs.set 0 y))))) : ∃ a' C' dx' fs, V.ref a = .ref a' ∧ H a' = some (.ins C' dx' fs) ∧ Cls K C' ∧ NoAttr K C' "start" ∧ fs.length < 1000 ∧ A (upd H a' (.ins C' dx' (putF "start" y fs))) := g_putE ho T.k_Piece T.n_Piece_start nd_Piece (by decide) rfl hv q
theorem nw_Piece_start {A : Hp → Prop} (ho : H a = some (.ins T.C_Piece dx (obj ky_Piece vs))) (hv : vs.length = 0) (q : A (upd H a (.ins T.C_Piece dx (obj ky_Piece (vs ++ [y]))))) : ∃ a' C' dx' fs, V.ref a = .ref a' ∧ H a' = some (.ins C' dx' fs) ∧ Cls K C' ∧ NoAttr K C' "start" ∧ fs.length < 1000 ∧ A (upd H a' (.ins C' dx' (putF "start" y fs))) := g_newE ho T.k_Piece T.n_Piece_start nd_Piece (by decide) (by rw [hv]; rfl) q
theorem fd_Piece_data {A : V → Prop} (ho : H a = some (.ins T.C_Piece dx (obj ky_Piece vs))) (hv : vs[1]? = some v) (q : A v) : ∃ a' C' dx' fs v', V.ref a = .ref a' ∧ H a' = some (.ins C' dx' fs) ∧ Cls K C' ∧ NoAttr K C' "data" ∧ fs.lookup ("data" : Str) = some v' ∧ A v' := g_fldE ho T.k_Piece T.n_Piece_data nd_Piece rfl hv q
theorem st_Piece_data {A : Hp → Prop} (ho : H a = some (.ins T.C_Piece dx (obj ky_Piece vs))) (hv : 1 < vs.length) (q : A (upd H a (.ins T.C_Piece dx (obj ky_Piece (vs.set 1 y))))) : ∃ a' C' dx' fs, V.ref a = .ref a' ∧ H a' = some (.ins C' dx' fs) ∧ Cls K C' ∧ NoAttr K C' "data" ∧ fs.length < 1000 ∧ A (upd H a' (.ins C' dx' (putF "data" y fs))) := g_putE ho T.k_Piece T.n_Piece_data nd_Piece (by decide) rfl hv q
theorem nw_Piece_data {A : Hp → Prop} (ho : H a = some (.ins T.C_Piece dx (obj ky_Piece vs))) (hv : vs.length = 1) (q : A (upd H a (.ins T.C_Piece dx (obj ky_Piece (vs ++ [y]))))) : ∃ a' C' dx' fs, V.ref a = .ref a' ∧ H a' = some (.ins C' dx' fs) ∧ Cls K C' ∧ NoAttr K C' "data" ∧ fs.length < 1000 ∧ A (upd H a' (.ins C' dx' (putF "data" y fs))) := g_newE ho T.k_Piece T.n_Piece_data nd_Piece (by decide) (by rw [hv]; rfl) q
theorem fd_Piece_syn {A : V → Prop} (ho : H a = some (.ins T.C_Piece dx (obj ky_Piece vs))) (hv : vs[2]? = some v) (q : A v) : ∃ a' C' dx' fs v', V.ref a = .ref a' ∧ H a' = some (.ins C' dx' fs) ∧ Cls K C' ∧ NoAttr K C' "syn" ∧ fs.lookup ("syn" : Str) = some v' ∧ A v' := g_fldE ho T.k_Piece T.n_Piece_syn nd_Piece rfl hv q
theorem st_Piece_syn {A : Hp → Prop} (ho : H a = some (.ins T.C_Piece dx (obj ky_Piece vs))) (hv : 2 < vs.length) (q : A (upd H a (.ins T.C_Piece dx (obj ky_Piece (vs.set 2 y))))) : ∃ a' C' dx' fs, V.ref a = .ref a' ∧ H a' = some (.ins C' dx' fs) ∧ Cls K C' ∧ NoAttr K C' "syn" ∧ fs.length < 1000 ∧ A (upd H a' (.ins C' dx' (putF "syn" y fs))) := g_putE ho T.k_Piece T.n_Piece_syn nd_Piece (by decide) rfl hv q
theorem nw_Piece_syn {A : Hp → Prop} (ho : H a = some (.ins T.C_Piece dx (obj ky_Piece vs))) (hv : vs.length = 2) (q : A (upd H a (.ins T.C_Piece dx (obj ky_Piece (vs ++ [y]))))) : ∃ a' C' dx' fs, V.ref a = .ref a' ∧ H a' = some (.ins C' dx' fs) ∧ Cls K C' ∧ NoAttr K C' "syn" ∧ fs.length < 1000 ∧ A (upd H a' (.ins C' dx' (putF "syn" y fs))) := g_newE ho T.k_Piece T.n_Piece_syn nd_Piece (by decide) (by rw [hv]; rfl) q
theorem fd_Piece_fin {A : V → Prop} (ho : H a = some (.ins T.C_Piece dx (obj ky_Piece vs))) (hv : vs[3]? = some v) (q : A v) : ∃ a' C' dx' fs v', V.ref a = .ref a' ∧ H a' = some (.ins C' dx' fs) ∧ Cls K C' ∧ NoAttr K C' "fin" ∧ fs.lookup ("fin" : Str) = some v' ∧ A v' := g_fldE ho T.k_Piece T.n_Piece_fin nd_Piece rfl hv q
theorem st_Piece_fin {A : Hp → Prop} (ho : H a = some (.ins T.C_Piece dx (obj ky_Piece vs))) (hv : 3 < vs.length) (q : A (upd H a (.ins T.C_Piece dx (obj ky_Piece (vs.set 3 y))))) : ∃ a' C' dx' fs, V.ref a = .ref a' ∧ H a' = some (.ins C' dx' fs) ∧ Cls K C' ∧ NoAttr K C' "fin" ∧ fs.length < 1000 ∧ A (upd H a' (.ins C' dx' (putF "fin" y fs))) := g_putE ho T.k_Piece T.n_Piece_fin nd_Piece (by decide) rfl hv q
theorem nw_Piece_fin {A : Hp → Prop} (ho : H a = some (.ins T.C_Piece dx (obj ky_Piece vs))) (hv : vs.length = 3) (q : A (upd H a (.ins T.C_Piece dx (obj ky_Piece (vs ++ [y]))))) : ∃ a' C' dx' fs, V.ref a = .ref a' ∧ H a' = some (.ins C' dx' fs) ∧ Cls K C' ∧ NoAttr K C' "fin" ∧ fs.length < 1000 ∧ A (upd H a' (.ins C' dx' (putF "fin" y fs))) := g_newE ho T.k_Piece T.n_Piece_fin nd_Piece (by decide) (by rw [hv]; rfl) q
theorem fd_Piece_reset {A : V → Prop} (ho : H a = some (.ins T.C_Piece dx (obj ky_Piece vs))) (hv : vs[4]? = some v) (q : A v) : ∃ a' C' dx' fs v', V.ref a = .ref a' ∧ H a' = some (.ins C' dx' fs) ∧ Cls K C' ∧ NoAttr K C' "reset" ∧ fs.lookup ("reset" : Str) = some v' ∧ A v' := g_fldE ho T.k_Piece T.n_Piece_reset nd_Piece rfl hv q
theorem st_Piece_reset {A : Hp → Prop} (ho : H a = some (.ins T.C_Piece dx (obj ky_Piece vs))) (hv : 4 < vs.length) (q : A (upd H a (.ins T.C_Piece dx (obj ky_Piece (vs.set 4 y))))) : ∃ a' C' dx' fs, V.ref a = .ref a' ∧ H a' = some (.ins C' dx' fs) ∧ Cls K C' ∧ NoAttr K C' "reset" ∧ fs.length < 1000 ∧ A (upd H a' (.ins C' dx' (putF "reset" y fs))) := g_putE ho T.k_Piece T.n_Piece_reset nd_Piece (by decide) rfl hv q
theorem nw_Piece_reset {A : Hp → Prop} (ho : H a = some (.ins T.C_Piece dx (obj ky_Piece vs))) (hv : vs.length = 4) (q : A (upd H a (.ins T.C_Piece dx (obj ky_Piece (vs ++ [y]))))) : ∃ a' C' dx' fs, V.ref a = .ref a' ∧ H a' = some (.ins C' dx' fs) ∧ Cls K C' ∧ NoAttr K C' "reset" ∧ fs.length < 1000 ∧ A (upd H a' (.ins C' dx' (putF "reset" y fs))) := g_newE ho T.k_Piece T.n_Piece_reset nd_Piece (by decide) (by rw [hv]; rfl) q
theorem fd_Piece_ack {A : V → Prop} (ho : H a = some (.ins T.C_Piece dx (obj ky_Piece vs))) (hv : vs[5]? = some v) (q : A v) : ∃ a' C' dx' fs v', V.ref a = .ref a' ∧ H a' = some (.ins C' dx' fs) ∧ Cls K C' ∧ NoAttr K C' "ack" ∧ fs.lookup ("ack" : Str) = some v' ∧ A v' := g_fldE ho T.k_Piece T.n_Piece_ack nd_Piece rfl hv q
theorem st_Piece_ack {A : Hp → Prop} (ho : H a = some (.ins T.C_Piece dx (obj ky_Piece vs))) (hv : 5 < vs.length) (q : A (upd H a (.ins T.C_Piece dx (obj ky_Piece (vs.set 5 y))))) : ∃ a' C' dx' fs, V.ref a = .ref a' ∧ H a' = some (.ins C' dx' fs) ∧ Cls K C' ∧ NoAttr K C' "ack" ∧ fs.length < 1000 ∧ A (upd H a' (.ins C' dx' (putF "ack" y fs))) := g_putE ho T.k_Piece T.n_Piece_ack nd_Piece (by decide) rfl hv q
theorem nw_Piece_ack {A : Hp → Prop} (ho : H a = some (.ins T.C_Piece dx (obj ky_Piece vs))) (hv : vs.length = 5) (q : A (upd H a (.ins T.C_Piece dx (obj ky_Piece (vs ++ [y]))))) : ∃ a' C' dx' fs, V.ref a = .ref a' ∧ H a' = some (.ins C' dx' fs) ∧ Cls K C' ∧ NoAttr K C' "ack" ∧ fs.length < 1000 ∧ A (upd H a' (.ins C' dx' (putF "ack" y fs))) := g_newE ho T.k_Piece T.n_Piece_ack nd_Piece (by decide) (by rw [hv]; rfl) q
theorem fd_Piece_window {A : V → Prop} (ho : H a = some (.ins T.C_Piece dx (obj ky_Piece vs))) (hv : vs[6]? = some v) (q : A v) : ∃ a' C' dx' fs v', V.ref a = .ref a' ∧ H a' = some (.ins C' dx' fs) ∧ Cls K C' ∧ NoAttr K C' "window" ∧ fs.lookup ("window" : Str) = some v' ∧ A v' := g_fldE ho T.k_Piece T.n_Piece_window nd_Piece rfl hv q
theorem st_Piece_window {A : Hp → Prop} (ho : H a = some (.ins T.C_Piece dx (obj ky_Piece vs))) (hv : 6 < vs.length) (q : A (upd H a (.ins T.C_Piece dx (obj ky_Piece (vs.set 6 y))))) : ∃ a' C' dx' fs, V.ref a = .ref a' ∧ H a' = some (.ins C' dx' fs) ∧ Cls K C' ∧ NoAttr K C' "window" ∧ fs.length < 1000 ∧ A (upd H a' (.ins C' dx' (putF "window" y fs))) := g_putE ho T.k_Piece T.n_Piece_window nd_Piece (by decide) rfl hv q
theorem nw_Piece_window {A : Hp → Prop} (ho : H a = some (.ins T.C_Piece dx (obj ky_Piece vs))) (hv : vs.length = 6) (q : A (upd H a (.ins T.C_Piece dx (obj ky_Piece (vs ++ [y]))))) : ∃ a' C' dx' fs, V.ref a = .ref a' ∧ H a' = some (.ins C' dx' fs) ∧ Cls K C' ∧ NoAttr K C' "window" ∧ fs.length < 1000 ∧ A (upd H a' (.ins C' dx' (putF "window" y fs))) := g_newE ho T.k_Piece T.n_Piece_window nd_Piece (by decide) (by rw [hv]; rfl) q
theorem fd_Piece_ranges {A : V → Prop} (ho : H a = some (.ins T.C_Piece dx (obj ky_Piece vs))) (hv : vs[7]? = some v) (q : A v) : ∃ a' C' dx' fs v', V.ref a = .ref a' ∧ H a' = some (.ins C' dx' fs) ∧ Cls K C' ∧ NoAttr K C' "ranges" ∧ fs.lookup ("ranges" : Str) = some v' ∧ A v' := g_fldE ho T.k_Piece T.n_Piece_ranges nd_Piece rfl hv q
theorem st_Piece_ranges {A : Hp → Prop} (ho : H a = some (.ins T.C_Piece dx (obj ky_Piece vs))) (hv : 7 < vs.length) (q : A (upd H a (.ins T.C_Piece dx (obj ky_Piece (vs.set 7 y))))) : ∃ a' C' dx' fs, V.ref a = .ref a' ∧ H a' = some (.ins C' dx' fs) ∧ Cls K C' ∧ NoAttr K C' "ranges" ∧ fs.length < 1000 ∧ A (upd H a' (.ins C' dx' (putF "ranges" y fs))) := g_putE ho T.k_Piece T.n_Piece_ranges nd_Piece (by decide) rfl hv q
theorem nw_Piece_ranges {A : Hp → Prop} (ho : H a = some (.ins T.C_Piece dx (obj ky_Piece vs))) (hv : vs.length = 7) (q : A (upd H a (.ins T.C_Piece dx (obj ky_Piece (vs ++ [y]))))) : ∃ a' C' dx' fs, V.ref a = .ref a' ∧ H a' = some (.ins C' dx' fs) ∧ Cls K C' ∧ NoAttr K C' "ranges" ∧ fs.length < 1000 ∧ A (upd H a' (.ins C' dx' (putF "ranges" y fs))) := g_newE ho T.k_Piece T.n_Piece_ranges nd_Piece (by decide) (by rw [hv]; rfl) q
theorem fd_Piece_marked {A : V → Prop} (ho : H a = some (.ins T.C_Piece dx (obj ky_Piece vs))) (hv : vs[8]? = some v) (q : A v) : ∃ a' C' dx' fs v', V.ref a = .ref a' ∧ H a' = some (.ins C' dx' fs) ∧ Cls K C' ∧ NoAttr K C' "marked" ∧ fs.lookup ("marked" : Str) = some v' ∧ A v' := g_fldE ho T.k_Piece T.n_Piece_marked nd_Piece rfl hv q
theorem st_Piece_marked {A : Hp → Prop} (ho : H a = some (.ins T.C_Piece dx (obj ky_Piece vs))) (hv : 8 < vs.length) (q : A (upd H a (.ins T.C_Piece dx (obj ky_Piece (vs.set 8 y))))) : ∃ a' C' dx' fs, V.ref a = .ref a' ∧ H a' = some (.ins C' dx' fs) ∧ Cls K C' ∧ NoAttr K C' "marked" ∧ fs.length < 1000 ∧ A (upd H a' (.ins C' dx' (putF "marked" y fs))) := g_putE ho T.k_Piece T.n_Piece_marked nd_Piece (by decide) rfl hv q
theorem nw_Piece_marked {A : Hp → Prop} (ho : H a = some (.ins T.C_Piece dx (obj ky_Piece vs))) (hv : vs.length = 8) (q : A (upd H a (.ins T.C_Piece dx (obj ky_Piece (vs ++ [y]))))) : ∃ a' C' dx' fs, V.ref a = .ref a' ∧ H a' = some (.ins C' dx' fs) ∧ Cls K C' ∧ NoAttr K C' "marked" ∧ fs.length < 1000 ∧ A (upd H a' (.ins C' dx' (putF "marked" y fs))) := g_newE ho T.k_Piece T.n_Piece_marked nd_Piece (by decide) (by rw [hv]; rfl) q
theorem fd_Piece_cut {A : V → Prop} (ho : H a = some (.ins T.C_Piece dx (obj ky_Piece vs))) (hv : vs[9]? = some v) (q : A v) : ∃ a' C' dx' fs v', V.ref a = .ref a' ∧ H a' = some (.ins C' dx' fs) ∧ Cls K C' ∧ NoAttr K C' "cut" ∧ fs.lookup ("cut" : Str) = some v' ∧ A v' := g_fldE ho T.k_Piece T.n_Piece_cut nd_Piece rfl hv q
theorem st_Piece_cut {A : Hp → Prop} (ho : H a = some (.ins T.C_Piece dx (obj ky_Piece vs))) (hv : 9 < vs.length) (q : A (upd H a (.ins T.C_Piece dx (obj ky_Piece (vs.set 9 y))))) : ∃ a' C' dx' fs, V.ref a = .ref a' ∧ H a' = some (.ins C' dx' fs) ∧ Cls K C' ∧ NoAttr K C' "cut" ∧ fs.length < 1000 ∧ A (upd H a' (.ins C' dx' (putF "cut" y fs))) := g_putE ho T.k_Piece T.n_Piece_cut nd_Piece (by decide) rfl hv q
theorem nw_Piece_cut {A : Hp → Prop} (ho : H a = some (.ins T.C_Piece dx (obj ky_Piece vs))) (hv : vs.length = 9) (q : A (upd H a (.ins T.C_Piece dx (obj ky_Piece (vs ++ [y]))))) : ∃ a' C' dx' fs, V.ref a = .ref a' ∧ H a' = some (.ins C' dx' fs) ∧ Cls K C' ∧ NoAttr K C' "cut" ∧ fs.length < 1000 ∧ A (upd H a' (.ins C' dx' (putF "cut" y fs))) := g_newE ho T.k_Piece T.n_Piece_cut nd_Piece (by decide) (by rw [hv]; rfl) q
theorem fd_Piece_stamp {A : V → Prop} (ho : H a = some (.ins T.C_Piece dx (obj ky_Piece vs))) (hv : vs[10]? = some v) (q : A v) : ∃ a' C' dx' fs v', V.ref a = .ref a' ∧ H a' = some (.ins C' dx' fs) ∧ Cls K C' ∧ NoAttr K C' "stamp" ∧ fs.lookup ("stamp" : Str) = some v' ∧ A v' := g_fldE ho T.k_Piece T.n_Piece_stamp nd_Piece rfl hv q
theorem st_Piece_stamp {A : Hp → Prop} (ho : H a = some (.ins T.C_Piece dx (obj ky_Piece vs))) (hv : 10 < vs.length) (q : A (upd H a (.ins T.C_Piece dx (obj ky_Piece (vs.set 10 y))))) : ∃ a' C' dx' fs, V.ref a = .ref a' ∧ H a' = some (.ins C' dx' fs) ∧ Cls K C' ∧ NoAttr K C' "stamp" ∧ fs.length < 1000 ∧ A (upd H a' (.ins C' dx' (putF "stamp" y fs))) := g_putE ho T.k_Piece T.n_Piece_stamp nd_Piece (by decide) rfl hv q
theorem nw_Piece_stamp {A : Hp → Prop} (ho : H a = some (.ins T.C_Piece dx (obj ky_Piece vs))) (hv : vs.length = 10) (q : A (upd H a (.ins T.C_Piece dx (obj ky_Piece (vs ++ [y]))))) : ∃ a' C' dx' fs, V.ref a = .ref a' ∧ H a' = some (.ins C' dx' fs) ∧ Cls K C' ∧ NoAttr K C' "stamp" ∧ fs.length < 1000 ∧ A (upd H a' (.ins C' dx' (putF "stamp" y fs))) := g_newE ho T.k_Piece T.n_Piece_stamp nd_Piece (by decide) (by rw [hv]; rfl) q
theorem me_Piece_eq__ {A : Prop} (ho : H a = some (.ins T.C_Piece dx (obj ky_Piece vs))) (q : A) : ∃ a' dx' fs, V.ref a = .ref a' ∧ H a' = some (.ins T.C_Piece dx' fs) ∧ fs.lookup ("__eq__" : Str) = none ∧ A := g_methE ho (by decide +kernel) q
theorem me_Piece_fields {A : Prop} (ho : H a = some (.ins T.C_Piece dx (obj ky_Piece vs))) (q : A) : ∃ a' dx' fs, V.ref a = .ref a' ∧ H a' = some (.ins T.C_Piece dx' fs) ∧ fs.lookup ("_fields" : Str) = none ∧ A := g_methE ho (by decide +kernel) q
end
local macro_rules | `(tactic| walk_at "use") => `(tactic| first | ((with_reducible refine' fd_Piece_start ?ho_ ?hv_ ?_); (case ho_ => first | assumption | exact upd_same); (case hv_ => exact rfl)) | ((with_reducible refine' fd_Piece_data ?ho_ ?hv_ ?_); (case ho_ => first | assumption | exact upd_same); (case hv_ => exact rfl)) | ((with_reducible refine' fd_Piece_syn ?ho_ ?hv_ ?_); (case ho_ => first | assumption | exact upd_same); (case hv_ => exact rfl)) | ((with_reducible refine' fd_Piece_fin ?ho_ ?hv_ ?_); (case ho_ => first | assumption | exact upd_same); (case hv_ => exact rfl)) | ((with_reducible refine' fd_Piece_reset ?ho_ ?hv_ ?_); (case ho_ => first | assumption | exact upd_same); (case hv_ => exact rfl)) | ((with_reducible refine' fd_Piece_ack ?ho_ ?hv_ ?_); (case ho_ => first | assumption | exact upd_same); (case hv_ => exact rfl)) | ((with_reducible refine' fd_Piece_window ?ho_ ?hv_ ?_); (case ho_ => first | assumption | exact upd_same); (case hv_ => exact rfl)) | ((with_reducible refine' fd_Piece_ranges ?ho_ ?hv_ ?_); (case ho_ => first | assumption | exact upd_same); (case hv_ => exact rfl)) | ((with_reducible refine' fd_Piece_marked ?ho_ ?hv_ ?_); (case ho_ => first | assumption | exact upd_same); (case hv_ => exact rfl)) | ((with_reducible refine' fd_Piece_cut ?ho_ ?hv_ ?_); (case ho_ => first | assumption | exact upd_same); (case hv_ => exact rfl)) | ((with_reducible refine' fd_Piece_stamp ?ho_ ?hv_ ?_); (case ho_ => first | assumption | exact upd_same); (case hv_ => exact rfl)) | ((with_reducible refine' nw_Piece_start ?ho_ ?hv_ ?_); (case ho_ => first | assumption | exact upd_same); (case hv_ => exact rfl)) | ((with_reducible refine' nw_Piece_data ?ho_ ?hv_ ?_); (case ho_ => first | assumption | exact upd_same); (case hv_ => exact rfl)) | ((with_reducible refine' nw_Piece_syn ?ho_ ?hv_ ?_); (case ho_ => first | assumption | exact upd_same); (case hv_ => exact rfl)) | ((with_reducible refine' nw_Piece_fin ?ho_ ?hv_ ?_); (case ho_ => first | assumption | exact upd_same); (case hv_ => exact rfl)) | ((with_reducible refine' nw_Piece_reset ?ho_ ?hv_ ?_); (case ho_ => first | assumption | exact upd_same); (case hv_ => exact rfl)) | ((with_reducible refine' nw_Piece_ack ?ho_ ?hv_ ?_); (case ho_ => first | assumption | exact upd_same); (case hv_ => exact rfl)) | ((with_reducible refine' nw_Piece_window ?ho_ ?hv_ ?_); (case ho_ => first | assumption | exact upd_same); (case hv_ => exact rfl)) | ((with_reducible refine' nw_Piece_ranges ?ho_ ?hv_ ?_); (case ho_ => first | assumption | exact upd_same); (case hv_ => exact rfl)) | ((with_reducible refine' nw_Piece_marked ?ho_ ?hv_ ?_); (case ho_ => first | assumption | exact upd_same); (case hv_ => exact rfl)) | ((with_reducible refine' nw_Piece_cut ?ho_ ?hv_ ?_); (case ho_ => first | assumption | exact upd_same); (case hv_ => exact rfl)) | ((with_reducible refine' nw_Piece_stamp ?ho_ ?hv_ ?_); (case ho_ => first | assumption | exact upd_same); (case hv_ => exact rfl)) | ((with_reducible refine' st_Piece_start ?ho_ ?hv_ ?_); (case ho_ => first | assumption | exact upd_same); (case hv_ => exact Nat.le_of_ble_eq_true rfl)) | ((with_reducible refine' st_Piece_data ?ho_ ?hv_ ?_); (case ho_ => first | assumption | exact upd_same); (case hv_ => exact Nat.le_of_ble_eq_true rfl)) | ((with_reducible refine' st_Piece_syn ?ho_ ?hv_ ?_); (case ho_ => first | assumption | exact upd_same); (case hv_ => exact Nat.le_of_ble_eq_true rfl)) | ((with_reducible refine' st_Piece_fin ?ho_ ?hv_ ?_); (case ho_ => first | assumption | exact upd_same); (case hv_ => exact Nat.le_of_ble_eq_true rfl)) | ((with_reducible refine' st_Piece_reset ?ho_ ?hv_ ?_); (case ho_ => first | assumption | exact upd_same); (case hv_ => exact Nat.le_of_ble_eq_true rfl)) | ((with_reducible refine' st_Piece_ack ?ho_ ?hv_ ?_); (case ho_ => first | assumption | exact upd_same); (case hv_ => exact Nat.le_of_ble_eq_true rfl)) | ((with_reducible refine' st_Piece_window ?ho_ ?hv_ ?_); (case ho_ => first | assumption | exact upd_same); (case hv_ => exact Nat.le_of_ble_eq_true rfl)) | ((with_reducible refine' st_Piece_ranges ?ho_ ?hv_ ?_); (case ho_ => first | assumption | exact upd_same); (case hv_ => exact Nat.le_of_ble_eq_true rfl)) | ((with_reducible refine' st_Piece_marked ?ho_ ?hv_ ?_); (case ho_ => first | assumption | exact upd_same); (case hv_ => exact Nat.le_of_ble_eq_true rfl)) | ((with_reducible refine' st_Piece_cut ?ho_ ?hv_ ?_); (case ho_ => first | assumption | exact upd_same); (case hv_ => exact Nat.le_of_ble_eq_true rfl)) | ((with_reducible refine' st_Piece_stamp ?ho_ ?hv_ ?_); (case ho_ => first | assumption | exact upd_same); (case hv_ => exact Nat.le_of_ble_eq_true rfl)) | ((with_reducible refine' me_Piece_eq__ ?ho_ ?_); (case ho_ => first | assumption | exact upd_same)) | ((with_reducible refine' me_Piece_fields ?ho_ ?_); (case ho_ => first | assumption | exact upd_same)))
/-! ### dicts with written texts as keys, by place -/
def dk (ks : List Str) (vs : List V) : List (Key × V) := (obj ks vs).map fun p => (Sum.inr p.1, p.2)
theorem val_map : ∀ {l : List (Str × V)} {k : Str}, valV (l.map fun p => ((Sum.inr p.1 : Key), p.2)) (.inr k) = l.lookup k
  | [], _ => rfl
  | p :: r, k => by
    by_cases e : k = p.1
    · subst e
      rw [List.map_cons, valV_pos (p := ((Sum.inr p.1 : Key), p.2)) rfl, List.lookup_cons_self]
    · rw [List.map_cons, valV_neg (p := ((Sum.inr p.1 : Key), p.2)) (fun z => e (Sum.inr.inj z).symm), List.lookup_cons, beq_eq_false_iff_ne.mpr e]
      exact val_map
theorem g_dgetT {td ty : TE} {σ : St} {H : Hp} {Q : VK} (h : td σ H fun x H1 => ty σ H1 fun y H2 => ∃ a v, x = .ref a ∧ DGet H2 a y (some v) ∧ Q v H2) : tDGet td ty σ H Q := h
theorem g_dputT {td ty tv : TE} {D : Ends} {σ : St} {H : Hp} (h : tv σ H fun v H1 => td σ H1 fun x H2 => ty σ H2 fun y H3 => ∃ a H4, x = .ref a ∧ DPut H3 a y v H4 ∧ D.nx σ H4) : sDPut td ty tv D σ H := h
theorem g_dget {H : Hp} {a : Addr} {ks : List Str} {vs : List V} {i : Nat} {k : Str} {v : V} {A : V → Prop} (ho : H a = some (.dK (dk ks vs))) (nd : ks.Nodup) (hk : ks[i]? = some k) (hv : vs[i]? = some v) (q : A v) : ∃ a' v', V.ref a = .ref a' ∧ DGet H a' (.str k) (some v') ∧ A v' := by
  refine ⟨a, v, rfl, ?_, q⟩
  have z := DGet.k (k := .inr k) ho
  rw [show valV (dk ks vs) (.inr k) = some v by unfold dk; rw [val_map, obj_get nd hk, hv]] at z
  exact z
theorem map_any {l : List (Str × V)} {k : Str} : ((l.map fun p => ((Sum.inr p.1 : Key), p.2)).any fun kv => decide (kv.1 = .inr k)) = (l.lookup k).isSome := by
  rw [valV_any, val_map]
theorem dk_put {ks : List Str} {vs : List V} {i : Nat} {k : Str} {y : V} (nd : ks.Nodup) (hk : ks[i]? = some k) (hv : i < vs.length) : putK (dk ks vs) (.inr k) y = dk ks (vs.set i y) := by
  have e1 : ((dk ks vs).any fun kv => decide (kv.1 = .inr k)) = true := by
    unfold dk
    rw [map_any, obj_get nd hk, List.getElem?_eq_getElem hv]
    rfl
  have e2 : dk ks (vs.set i y) = (putF k y (obj ks vs)).map fun p => ((Sum.inr p.1 : Key), p.2) := by rw [obj_put nd hk hv]; rfl
  rw [e2]
  unfold putK
  rw [if_pos e1]
  clear e1 e2
  unfold dk
  have nk : ((obj ks vs).map (·.1)).Nodup := by
    clear hv hk
    induction ks generalizing vs with
    | nil => exact List.nodup_nil
    | cons k0 ks ih =>
      cases vs with
      | nil => exact List.nodup_nil
      | cons v vs =>
        have nd' := List.nodup_cons.mp nd
        refine List.nodup_cons.mpr ⟨fun z => nd'.1 ?_, ih nd'.2⟩
        clear ih nd nd'
        induction ks generalizing vs with
        | nil => simp [obj] at z
        | cons k1 ks ih2 =>
          cases vs with
          | nil => simp [obj] at z
          | cons v1 vs =>
            rcases List.mem_cons.mp z with e | z
            · rw [show k0 = k1 from e]; exact List.mem_cons_self ..
            · exact List.mem_cons_of_mem _ (ih2 (vs := vs) z)
  have hm : k ∈ (obj ks vs).map (·.1) := by
    have : ((obj ks vs).lookup k).isSome = true := by rw [obj_get nd hk, List.getElem?_eq_getElem hv]; rfl
    clear nk hv hk nd
    generalize obj ks vs = l at this ⊢
    induction l with
    | nil => cases this
    | cons p r ih =>
      by_cases e : k = p.1
      · rw [e]; exact List.mem_cons_self ..
      · rw [List.lookup_cons, beq_eq_false_iff_ne.mpr e] at this
        exact List.mem_cons_of_mem _ (ih this)
  generalize obj ks vs = l at nk hm ⊢
  clear nd hk hv
  induction l with
  | nil => cases hm
  | cons p r ih =>
    obtain ⟨n1, n2⟩ := List.nodup_cons.mp nk
    show _ = (if p.1 = k then (p.1, y) :: r else p :: putF k y r).map _
    by_cases e : p.1 = k
    · rw [if_pos e, List.map_cons, List.map_cons, List.map_cons]
      subst e
      rw [if_pos rfl]
      congr 1
      rw [List.map_map]
      refine List.map_congr_left fun q hq => ?_
      show (if (Sum.inr q.1 : Key) = Sum.inr p.1 then ((Sum.inr q.1 : Key), y) else (Sum.inr q.1, q.2)) = (Sum.inr q.1, q.2)
      rw [if_neg]
      intro z
      have w : p.1 ∈ r.map (·.1) := by
        rw [← Sum.inr.inj z]
        exact List.mem_map_of_mem (f := (·.1)) hq
      exact n1 w
    · rw [if_neg e, List.map_cons, List.map_cons, List.map_cons, if_neg (fun z => e (Sum.inr.inj z))]
      congr 1
      refine ih n2 ?_
      rcases List.mem_cons.mp hm with z | z
      · exact absurd z.symm e
      · exact z
theorem dk_new {ks : List Str} {vs : List V} {k : Str} {y : V} (nd : ks.Nodup) (hk : ks[vs.length]? = some k) : putK (dk ks vs) (.inr k) y = dk ks (vs ++ [y]) := by
  have e0 : (obj ks vs).lookup k = none := by rw [obj_get nd hk, List.getElem?_eq_none (Nat.le_refl _)]
  have e1 : ((dk ks vs).any fun kv => decide (kv.1 = .inr k)) = false := by
    unfold dk
    rw [map_any, e0]
    rfl
  unfold putK
  rw [e1, if_neg (by decide)]
  unfold dk
  have : obj ks (vs ++ [y]) = obj ks vs ++ [(k, y)] := by
    clear e0 e1 nd
    induction ks generalizing vs with
    | nil => cases hk
    | cons k0 ks ih =>
      cases vs with
      | nil =>
        have e : k0 = k := Option.some.inj hk
        subst e
        cases ks <;> rfl
      | cons v vs =>
        show (k0, v) :: obj ks (vs ++ [y]) = (k0, v) :: (obj ks vs ++ [(k, y)])
        rw [ih hk]
  rw [this, List.map_append]
  rfl
theorem dk_len {ks : List Str} {vs : List V} : (dk ks vs).length ≤ ks.length := by
  unfold dk
  rw [List.length_map]
  exact obj_len ks vs
theorem g_dput {H : Hp} {a : Addr} {ks : List Str} {vs : List V} {i : Nat} {k : Str} {v : V} {A : Hp → Prop} (ho : H a = some (.dK (dk ks vs))) (nd : ks.Nodup) (hl : ks.length < 100000) (hk : ks[i]? = some k) (hv : i < vs.length) (q : A (upd H a (.dK (dk ks (vs.set i v))))) : ∃ a' H', V.ref a = .ref a' ∧ DPut H a' (.str k) v H' ∧ A H' := by
  refine ⟨a, _, rfl, DPut.k (k := .inr k) ho (szl (Nat.lt_of_le_of_lt dk_len hl)), ?_⟩
  rw [dk_put nd hk hv]
  exact q
theorem g_dnew {H : Hp} {a : Addr} {ks : List Str} {vs : List V} {k : Str} {v : V} {A : Hp → Prop} (ho : H a = some (.dK (dk ks vs))) (nd : ks.Nodup) (hl : ks.length < 100000) (hk : ks[vs.length]? = some k) (q : A (upd H a (.dK (dk ks (vs ++ [v]))))) : ∃ a' H', V.ref a = .ref a' ∧ DPut H a' (.str k) v H' ∧ A H' := by
  refine ⟨a, _, rfl, DPut.k (k := .inr k) ho (szl (Nat.lt_of_le_of_lt dk_len hl)), ?_⟩
  rw [dk_new nd hk]
  exact q
local macro_rules | `(tactic| walk_at "use") => `(tactic| with_reducible first | refine g_dgetT ?_ | refine g_dputT ?_)

def kd_F : List Str := ["start", "data", "syn", "fin", "reset", "marked", "cut", "ack", "window", "ranges", "stamp"]
theorem ndd_F : kd_F.Nodup := by decide +kernel
section
variable {H : Hp} {a : Addr} {vs : List V} {v y : V}
theorem dg_F_start {A : V → Prop} (ho : H a = some (.dK (dk kd_F vs))) (hv : vs[0]? = some v) (q : A v) : ∃ a' v', V.ref a = .ref a' ∧ DGet H a' (.str "start") (some v') ∧ A v' := g_dget ho ndd_F rfl hv q
theorem dp_F_start {A : Hp → Prop} (ho : H a = some (.dK (dk kd_F vs))) (hv : 0 < vs.length) (q : A (upd H a (.dK (dk kd_F (vs.set 0 y))))) : ∃ a' H', V.ref a = .ref a' ∧ DPut H a' (.str "start") y H' ∧ A H' := g_dput ho ndd_F (by decide) rfl hv q
theorem dn_F_start {A : Hp → Prop} (ho : H a = some (.dK (dk kd_F vs))) (hv : vs.length = 0) (q : A (upd H a (.dK (dk kd_F (vs ++ [y]))))) : ∃ a' H', V.ref a = .ref a' ∧ DPut H a' (.str "start") y H' ∧ A H' := g_dnew ho ndd_F (by decide) (by rw [hv]; rfl) q
theorem dg_F_data {A : V → Prop} (ho : H a = some (.dK (dk kd_F vs))) (hv : vs[1]? = some v) (q : A v) : ∃ a' v', V.ref a = .ref a' ∧ DGet H a' (.str "data") (some v') ∧ A v' := g_dget ho ndd_F rfl hv q
theorem dp_F_data {A : Hp → Prop} (ho : H a = some (.dK (dk kd_F vs))) (hv : 1 < vs.length) (q : A (upd H a (.dK (dk kd_F (vs.set 1 y))))) : ∃ a' H', V.ref a = .ref a' ∧ DPut H a' (.str "data") y H' ∧ A H' := g_dput ho ndd_F (by decide) rfl hv q
theorem dn_F_data {A : Hp → Prop} (ho : H a = some (.dK (dk kd_F vs))) (hv : vs.length = 1) (q : A (upd H a (.dK (dk kd_F (vs ++ [y]))))) : ∃ a' H', V.ref a = .ref a' ∧ DPut H a' (.str "data") y H' ∧ A H' := g_dnew ho ndd_F (by decide) (by rw [hv]; rfl) q
theorem dg_F_syn {A : V → Prop} (ho : H a = some (.dK (dk kd_F vs))) (hv : vs[2]? = some v) (q : A v) : ∃ a' v', V.ref a = .ref a' ∧ DGet H a' (.str "syn") (some v') ∧ A v' := g_dget ho ndd_F rfl hv q
theorem dp_F_syn {A : Hp → Prop} (ho : H a = some (.dK (dk kd_F vs))) (hv : 2 < vs.length) (q : A (upd H a (.dK (dk kd_F (vs.set 2 y))))) : ∃ a' H', V.ref a = .ref a' ∧ DPut H a' (.str "syn") y H' ∧ A H' := g_dput ho ndd_F (by decide) rfl hv q
theorem dn_F_syn {A : Hp → Prop} (ho : H a = some (.dK (dk kd_F vs))) (hv : vs.length = 2) (q : A (upd H a (.dK (dk kd_F (vs ++ [y]))))) : ∃ a' H', V.ref a = .ref a' ∧ DPut H a' (.str "syn") y H' ∧ A H' := g_dnew ho ndd_F (by decide) (by rw [hv]; rfl) q
theorem dg_F_fin {A : V → Prop} (ho : H a = some (.dK (dk kd_F vs))) (hv : vs[3]? = some v) (q : A v) : ∃ a' v', V.ref a = .ref a' ∧ DGet H a' (.str "fin") (some v') ∧ A v' := g_dget ho ndd_F rfl hv q
theorem dp_F_fin {A : Hp → Prop} (ho : H a = some (.dK (dk kd_F vs))) (hv : 3 < vs.length) (q : A (upd H a (.dK (dk kd_F (vs.set 3 y))))) : ∃ a' H', V.ref a = .ref a' ∧ DPut H a' (.str "fin") y H' ∧ A H' := g_dput ho ndd_F (by decide) rfl hv q
theorem dn_F_fin {A : Hp → Prop} (ho : H a = some (.dK (dk kd_F vs))) (hv : vs.length = 3) (q : A (upd H a (.dK (dk kd_F (vs ++ [y]))))) : ∃ a' H', V.ref a = .ref a' ∧ DPut H a' (.str "fin") y H' ∧ A H' := g_dnew ho ndd_F (by decide) (by rw [hv]; rfl) q
theorem dg_F_reset {A : V → Prop} (ho : H a = some (.dK (dk kd_F vs))) (hv : vs[4]? = some v) (q : A v) : ∃ a' v', V.ref a = .ref a' ∧ DGet H a' (.str "reset") (some v') ∧ A v' := g_dget ho ndd_F rfl hv q
theorem dp_F_reset {A : Hp → Prop} (ho : H a = some (.dK (dk kd_F vs))) (hv : 4 < vs.length) (q : A (upd H a (.dK (dk kd_F (vs.set 4 y))))) : ∃ a' H', V.ref a = .ref a' ∧ DPut H a' (.str "reset") y H' ∧ A H' := g_dput ho ndd_F (by decide) rfl hv q
theorem dn_F_reset {A : Hp → Prop} (ho : H a = some (.dK (dk kd_F vs))) (hv : vs.length = 4) (q : A (upd H a (.dK (dk kd_F (vs ++ [y]))))) : ∃ a' H', V.ref a = .ref a' ∧ DPut H a' (.str "reset") y H' ∧ A H' := g_dnew ho ndd_F (by decide) (by rw [hv]; rfl) q
theorem dg_F_marked {A : V → Prop} (ho : H a = some (.dK (dk kd_F vs))) (hv : vs[5]? = some v) (q : A v) : ∃ a' v', V.ref a = .ref a' ∧ DGet H a' (.str "marked") (some v') ∧ A v' := g_dget ho ndd_F rfl hv q
theorem dp_F_marked {A : Hp → Prop} (ho : H a = some (.dK (dk kd_F vs))) (hv : 5 < vs.length) (q : A (upd H a (.dK (dk kd_F (vs.set 5 y))))) : ∃ a' H', V.ref a = .ref a' ∧ DPut H a' (.str "marked") y H' ∧ A H' := g_dput ho ndd_F (by decide) rfl hv q
theorem dn_F_marked {A : Hp → Prop} (ho : H a = some (.dK (dk kd_F vs))) (hv : vs.length = 5) (q : A (upd H a (.dK (dk kd_F (vs ++ [y]))))) : ∃ a' H', V.ref a = .ref a' ∧ DPut H a' (.str "marked") y H' ∧ A H' := g_dnew ho ndd_F (by decide) (by rw [hv]; rfl) q
theorem dg_F_cut {A : V → Prop} (ho : H a = some (.dK (dk kd_F vs))) (hv : vs[6]? = some v) (q : A v) : ∃ a' v', V.ref a = .ref a' ∧ DGet H a' (.str "cut") (some v') ∧ A v' := g_dget ho ndd_F rfl hv q
theorem dp_F_cut {A : Hp → Prop} (ho : H a = some (.dK (dk kd_F vs))) (hv : 6 < vs.length) (q : A (upd H a (.dK (dk kd_F (vs.set 6 y))))) : ∃ a' H', V.ref a = .ref a' ∧ DPut H a' (.str "cut") y H' ∧ A H' := g_dput ho ndd_F (by decide) rfl hv q
theorem dn_F_cut {A : Hp → Prop} (ho : H a = some (.dK (dk kd_F vs))) (hv : vs.length = 6) (q : A (upd H a (.dK (dk kd_F (vs ++ [y]))))) : ∃ a' H', V.ref a = .ref a' ∧ DPut H a' (.str "cut") y H' ∧ A H' := g_dnew ho ndd_F (by decide) (by rw [hv]; rfl) q
theorem dg_F_ack {A : V → Prop} (ho : H a = some (.dK (dk kd_F vs))) (hv : vs[7]? = some v) (q : A v) : ∃ a' v', V.ref a = .ref a' ∧ DGet H a' (.str "ack") (some v') ∧ A v' := g_dget ho ndd_F rfl hv q
theorem dp_F_ack {A : Hp → Prop} (ho : H a = some (.dK (dk kd_F vs))) (hv : 7 < vs.length) (q : A (upd H a (.dK (dk kd_F (vs.set 7 y))))) : ∃ a' H', V.ref a = .ref a' ∧ DPut H a' (.str "ack") y H' ∧ A H' := g_dput ho ndd_F (by decide) rfl hv q
theorem dn_F_ack {A : Hp → Prop} (ho : H a = some (.dK (dk kd_F vs))) (hv : vs.length = 7) (q : A (upd H a (.dK (dk kd_F (vs ++ [y]))))) : ∃ a' H', V.ref a = .ref a' ∧ DPut H a' (.str "ack") y H' ∧ A H' := g_dnew ho ndd_F (by decide) (by rw [hv]; rfl) q
theorem dg_F_window {A : V → Prop} (ho : H a = some (.dK (dk kd_F vs))) (hv : vs[8]? = some v) (q : A v) : ∃ a' v', V.ref a = .ref a' ∧ DGet H a' (.str "window") (some v') ∧ A v' := g_dget ho ndd_F rfl hv q
theorem dp_F_window {A : Hp → Prop} (ho : H a = some (.dK (dk kd_F vs))) (hv : 8 < vs.length) (q : A (upd H a (.dK (dk kd_F (vs.set 8 y))))) : ∃ a' H', V.ref a = .ref a' ∧ DPut H a' (.str "window") y H' ∧ A H' := g_dput ho ndd_F (by decide) rfl hv q
theorem dn_F_window {A : Hp → Prop} (ho : H a = some (.dK (dk kd_F vs))) (hv : vs.length = 8) (q : A (upd H a (.dK (dk kd_F (vs ++ [y]))))) : ∃ a' H', V.ref a = .ref a' ∧ DPut H a' (.str "window") y H' ∧ A H' := g_dnew ho ndd_F (by decide) (by rw [hv]; rfl) q
theorem dg_F_ranges {A : V → Prop} (ho : H a = some (.dK (dk kd_F vs))) (hv : vs[9]? = some v) (q : A v) : ∃ a' v', V.ref a = .ref a' ∧ DGet H a' (.str "ranges") (some v') ∧ A v' := g_dget ho ndd_F rfl hv q
theorem dp_F_ranges {A : Hp → Prop} (ho : H a = some (.dK (dk kd_F vs))) (hv : 9 < vs.length) (q : A (upd H a (.dK (dk kd_F (vs.set 9 y))))) : ∃ a' H', V.ref a = .ref a' ∧ DPut H a' (.str "ranges") y H' ∧ A H' := g_dput ho ndd_F (by decide) rfl hv q
theorem dn_F_ranges {A : Hp → Prop} (ho : H a = some (.dK (dk kd_F vs))) (hv : vs.length = 9) (q : A (upd H a (.dK (dk kd_F (vs ++ [y]))))) : ∃ a' H', V.ref a = .ref a' ∧ DPut H a' (.str "ranges") y H' ∧ A H' := g_dnew ho ndd_F (by decide) (by rw [hv]; rfl) q
theorem dg_F_stamp {A : V → Prop} (ho : H a = some (.dK (dk kd_F vs))) (hv : vs[10]? = some v) (q : A v) : ∃ a' v', V.ref a = .ref a' ∧ DGet H a' (.str "stamp") (some v') ∧ A v' := g_dget ho ndd_F rfl hv q
theorem dp_F_stamp {A : Hp → Prop} (ho : H a = some (.dK (dk kd_F vs))) (hv : 10 < vs.length) (q : A (upd H a (.dK (dk kd_F (vs.set 10 y))))) : ∃ a' H', V.ref a = .ref a' ∧ DPut H a' (.str "stamp") y H' ∧ A H' := g_dput ho ndd_F (by decide) rfl hv q
theorem dn_F_stamp {A : Hp → Prop} (ho : H a = some (.dK (dk kd_F vs))) (hv : vs.length = 10) (q : A (upd H a (.dK (dk kd_F (vs ++ [y]))))) : ∃ a' H', V.ref a = .ref a' ∧ DPut H a' (.str "stamp") y H' ∧ A H' := g_dnew ho ndd_F (by decide) (by rw [hv]; rfl) q
end
local macro_rules | `(tactic| walk_at "use") => `(tactic| first | ((with_reducible refine' dg_F_start ?ho_ ?hv_ ?_); (case ho_ => first | assumption | exact upd_same); (case hv_ => exact rfl)) | ((with_reducible refine' dg_F_data ?ho_ ?hv_ ?_); (case ho_ => first | assumption | exact upd_same); (case hv_ => exact rfl)) | ((with_reducible refine' dg_F_syn ?ho_ ?hv_ ?_); (case ho_ => first | assumption | exact upd_same); (case hv_ => exact rfl)) | ((with_reducible refine' dg_F_fin ?ho_ ?hv_ ?_); (case ho_ => first | assumption | exact upd_same); (case hv_ => exact rfl)) | ((with_reducible refine' dg_F_reset ?ho_ ?hv_ ?_); (case ho_ => first | assumption | exact upd_same); (case hv_ => exact rfl)) | ((with_reducible refine' dg_F_marked ?ho_ ?hv_ ?_); (case ho_ => first | assumption | exact upd_same); (case hv_ => exact rfl)) | ((with_reducible refine' dg_F_cut ?ho_ ?hv_ ?_); (case ho_ => first | assumption | exact upd_same); (case hv_ => exact rfl)) | ((with_reducible refine' dg_F_ack ?ho_ ?hv_ ?_); (case ho_ => first | assumption | exact upd_same); (case hv_ => exact rfl)) | ((with_reducible refine' dg_F_window ?ho_ ?hv_ ?_); (case ho_ => first | assumption | exact upd_same); (case hv_ => exact rfl)) | ((with_reducible refine' dg_F_ranges ?ho_ ?hv_ ?_); (case ho_ => first | assumption | exact upd_same); (case hv_ => exact rfl)) | ((with_reducible refine' dg_F_stamp ?ho_ ?hv_ ?_); (case ho_ => first | assumption | exact upd_same); (case hv_ => exact rfl)) | ((with_reducible refine' dn_F_start ?ho_ ?hv_ ?_); (case ho_ => first | assumption | exact upd_same); (case hv_ => exact rfl)) | ((with_reducible refine' dn_F_data ?ho_ ?hv_ ?_); (case ho_ => first | assumption | exact upd_same); (case hv_ => exact rfl)) | ((with_reducible refine' dn_F_syn ?ho_ ?hv_ ?_); (case ho_ => first | assumption | exact upd_same); (case hv_ => exact rfl)) | ((with_reducible refine' dn_F_fin ?ho_ ?hv_ ?_); (case ho_ => first | assumption | exact upd_same); (case hv_ => exact rfl)) | ((with_reducible refine' dn_F_reset ?ho_ ?hv_ ?_); (case ho_ => first | assumption | exact upd_same); (case hv_ => exact rfl)) | ((with_reducible refine' dn_F_marked ?ho_ ?hv_ ?_); (case ho_ => first | assumption | exact upd_same); (case hv_ => exact rfl)) | ((with_reducible refine' dn_F_cut ?ho_ ?hv_ ?_); (case ho_ => first | assumption | exact upd_same); (case hv_ => exact rfl)) | ((with_reducible refine' dn_F_ack ?ho_ ?hv_ ?_); (case ho_ => first | assumption | exact upd_same); (case hv_ => exact rfl)) | ((with_reducible refine' dn_F_window ?ho_ ?hv_ ?_); (case ho_ => first | assumption | exact upd_same); (case hv_ => exact rfl)) | ((with_reducible refine' dn_F_ranges ?ho_ ?hv_ ?_); (case ho_ => first | assumption | exact upd_same); (case hv_ => exact rfl)) | ((with_reducible refine' dn_F_stamp ?ho_ ?hv_ ?_); (case ho_ => first | assumption | exact upd_same); (case hv_ => exact rfl)) | ((with_reducible refine' dp_F_start ?ho_ ?hv_ ?_); (case ho_ => first | assumption | exact upd_same); (case hv_ => exact Nat.le_of_ble_eq_true rfl)) | ((with_reducible refine' dp_F_data ?ho_ ?hv_ ?_); (case ho_ => first | assumption | exact upd_same); (case hv_ => exact Nat.le_of_ble_eq_true rfl)) | ((with_reducible refine' dp_F_syn ?ho_ ?hv_ ?_); (case ho_ => first | assumption | exact upd_same); (case hv_ => exact Nat.le_of_ble_eq_true rfl)) | ((with_reducible refine' dp_F_fin ?ho_ ?hv_ ?_); (case ho_ => first | assumption | exact upd_same); (case hv_ => exact Nat.le_of_ble_eq_true rfl)) | ((with_reducible refine' dp_F_reset ?ho_ ?hv_ ?_); (case ho_ => first | assumption | exact upd_same); (case hv_ => exact Nat.le_of_ble_eq_true rfl)) | ((with_reducible refine' dp_F_marked ?ho_ ?hv_ ?_); (case ho_ => first | assumption | exact upd_same); (case hv_ => exact Nat.le_of_ble_eq_true rfl)) | ((with_reducible refine' dp_F_cut ?ho_ ?hv_ ?_); (case ho_ => first | assumption | exact upd_same); (case hv_ => exact Nat.le_of_ble_eq_true rfl)) | ((with_reducible refine' dp_F_ack ?ho_ ?hv_ ?_); (case ho_ => first | assumption | exact upd_same); (case hv_ => exact Nat.le_of_ble_eq_true rfl)) | ((with_reducible refine' dp_F_window ?ho_ ?hv_ ?_); (case ho_ => first | assumption | exact upd_same); (case hv_ => exact Nat.le_of_ble_eq_true rfl)) | ((with_reducible refine' dp_F_ranges ?ho_ ?hv_ ?_); (case ho_ => first | assumption | exact upd_same); (case hv_ => exact Nat.le_of_ble_eq_true rfl)) | ((with_reducible refine' dp_F_stamp ?ho_ ?hv_ ?_); (case ho_ => first | assumption | exact upd_same); (case hv_ => exact Nat.le_of_ble_eq_true rfl)))
local macro_rules | `(tactic| walk_at "use") => `(tactic| with_reducible first | refine g_dgetT ?_ | refine g_dputT ?_)
def kd_R : List Str := ["start", "data", "ranges", "ack", "window", "stamp", "syn", "fin", "reset", "marked", "cut"]
theorem ndd_R : kd_R.Nodup := by decide +kernel
section
variable {H : Hp} {a : Addr} {vs : List V} {v y : V}
theorem dg_R_start {A : V → Prop} (ho : H a = some (.dK (dk kd_R vs))) (hv : vs[0]? = some v) (q : A v) : ∃ a' v', V.ref a = .ref a' ∧ DGet H a' (.str "start") (some v') ∧ A v' := g_dget ho ndd_R rfl hv q
theorem dp_R_start {A : Hp → Prop} (ho : H a = some (.dK (dk kd_R vs))) (hv : 0 < vs.length) (q : A (upd H a (.dK (dk kd_R (vs.set 0 y))))) : ∃ a' H', V.ref a = .ref a' ∧ DPut H a' (.str "start") y H' ∧ A H' := g_dput ho ndd_R (by decide) rfl hv q
theorem dn_R_start {A : Hp → Prop} (ho : H a = some (.dK (dk kd_R vs))) (hv : vs.length = 0) (q : A (upd H a (.dK (dk kd_R (vs ++ [y]))))) : ∃ a' H', V.ref a = .ref a' ∧ DPut H a' (.str "start") y H' ∧ A H' := g_dnew ho ndd_R (by decide) (by rw [hv]; rfl) q
theorem dg_R_data {A : V → Prop} (ho : H a = some (.dK (dk kd_R vs))) (hv : vs[1]? = some v) (q : A v) : ∃ a' v', V.ref a = .ref a' ∧ DGet H a' (.str "data") (some v') ∧ A v' := g_dget ho ndd_R rfl hv q
theorem dp_R_data {A : Hp → Prop} (ho : H a = some (.dK (dk kd_R vs))) (hv : 1 < vs.length) (q : A (upd H a (.dK (dk kd_R (vs.set 1 y))))) : ∃ a' H', V.ref a = .ref a' ∧ DPut H a' (.str "data") y H' ∧ A H' := g_dput ho ndd_R (by decide) rfl hv q
theorem dn_R_data {A : Hp → Prop} (ho : H a = some (.dK (dk kd_R vs))) (hv : vs.length = 1) (q : A (upd H a (.dK (dk kd_R (vs ++ [y]))))) : ∃ a' H', V.ref a = .ref a' ∧ DPut H a' (.str "data") y H' ∧ A H' := g_dnew ho ndd_R (by decide) (by rw [hv]; rfl) q
theorem dg_R_ranges {A : V → Prop} (ho : H a = some (.dK (dk kd_R vs))) (hv : vs[2]? = some v) (q : A v) : ∃ a' v', V.ref a = .ref a' ∧ DGet H a' (.str "ranges") (some v') ∧ A v' := g_dget ho ndd_R rfl hv q
theorem dp_R_ranges {A : Hp → Prop} (ho : H a = some (.dK (dk kd_R vs))) (hv : 2 < vs.length) (q : A (upd H a (.dK (dk kd_R (vs.set 2 y))))) : ∃ a' H', V.ref a = .ref a' ∧ DPut H a' (.str "ranges") y H' ∧ A H' := g_dput ho ndd_R (by decide) rfl hv q
theorem dn_R_ranges {A : Hp → Prop} (ho : H a = some (.dK (dk kd_R vs))) (hv : vs.length = 2) (q : A (upd H a (.dK (dk kd_R (vs ++ [y]))))) : ∃ a' H', V.ref a = .ref a' ∧ DPut H a' (.str "ranges") y H' ∧ A H' := g_dnew ho ndd_R (by decide) (by rw [hv]; rfl) q
theorem dg_R_ack {A : V → Prop} (ho : H a = some (.dK (dk kd_R vs))) (hv : vs[3]? = some v) (q : A v) : ∃ a' v', V.ref a = .ref a' ∧ DGet H a' (.str "ack") (some v') ∧ A v' := g_dget ho ndd_R rfl hv q
theorem dp_R_ack {A : Hp → Prop} (ho : H a = some (.dK (dk kd_R vs))) (hv : 3 < vs.length) (q : A (upd H a (.dK (dk kd_R (vs.set 3 y))))) : ∃ a' H', V.ref a = .ref a' ∧ DPut H a' (.str "ack") y H' ∧ A H' := g_dput ho ndd_R (by decide) rfl hv q
theorem dn_R_ack {A : Hp → Prop} (ho : H a = some (.dK (dk kd_R vs))) (hv : vs.length = 3) (q : A (upd H a (.dK (dk kd_R (vs ++ [y]))))) : ∃ a' H', V.ref a = .ref a' ∧ DPut H a' (.str "ack") y H' ∧ A H' := g_dnew ho ndd_R (by decide) (by rw [hv]; rfl) q
theorem dg_R_window {A : V → Prop} (ho : H a = some (.dK (dk kd_R vs))) (hv : vs[4]? = some v) (q : A v) : ∃ a' v', V.ref a = .ref a' ∧ DGet H a' (.str "window") (some v') ∧ A v' := g_dget ho ndd_R rfl hv q
theorem dp_R_window {A : Hp → Prop} (ho : H a = some (.dK (dk kd_R vs))) (hv : 4 < vs.length) (q : A (upd H a (.dK (dk kd_R (vs.set 4 y))))) : ∃ a' H', V.ref a = .ref a' ∧ DPut H a' (.str "window") y H' ∧ A H' := g_dput ho ndd_R (by decide) rfl hv q
theorem dn_R_window {A : Hp → Prop} (ho : H a = some (.dK (dk kd_R vs))) (hv : vs.length = 4) (q : A (upd H a (.dK (dk kd_R (vs ++ [y]))))) : ∃ a' H', V.ref a = .ref a' ∧ DPut H a' (.str "window") y H' ∧ A H' := g_dnew ho ndd_R (by decide) (by rw [hv]; rfl) q
theorem dg_R_stamp {A : V → Prop} (ho : H a = some (.dK (dk kd_R vs))) (hv : vs[5]? = some v) (q : A v) : ∃ a' v', V.ref a = .ref a' ∧ DGet H a' (.str "stamp") (some v') ∧ A v' := g_dget ho ndd_R rfl hv q
theorem dp_R_stamp {A : Hp → Prop} (ho : H a = some (.dK (dk kd_R vs))) (hv : 5 < vs.length) (q : A (upd H a (.dK (dk kd_R (vs.set 5 y))))) : ∃ a' H', V.ref a = .ref a' ∧ DPut H a' (.str "stamp") y H' ∧ A H' := g_dput ho ndd_R (by decide) rfl hv q
theorem dn_R_stamp {A : Hp → Prop} (ho : H a = some (.dK (dk kd_R vs))) (hv : vs.length = 5) (q : A (upd H a (.dK (dk kd_R (vs ++ [y]))))) : ∃ a' H', V.ref a = .ref a' ∧ DPut H a' (.str "stamp") y H' ∧ A H' := g_dnew ho ndd_R (by decide) (by rw [hv]; rfl) q
theorem dg_R_syn {A : V → Prop} (ho : H a = some (.dK (dk kd_R vs))) (hv : vs[6]? = some v) (q : A v) : ∃ a' v', V.ref a = .ref a' ∧ DGet H a' (.str "syn") (some v') ∧ A v' := g_dget ho ndd_R rfl hv q
theorem dp_R_syn {A : Hp → Prop} (ho : H a = some (.dK (dk kd_R vs))) (hv : 6 < vs.length) (q : A (upd H a (.dK (dk kd_R (vs.set 6 y))))) : ∃ a' H', V.ref a = .ref a' ∧ DPut H a' (.str "syn") y H' ∧ A H' := g_dput ho ndd_R (by decide) rfl hv q
theorem dn_R_syn {A : Hp → Prop} (ho : H a = some (.dK (dk kd_R vs))) (hv : vs.length = 6) (q : A (upd H a (.dK (dk kd_R (vs ++ [y]))))) : ∃ a' H', V.ref a = .ref a' ∧ DPut H a' (.str "syn") y H' ∧ A H' := g_dnew ho ndd_R (by decide) (by rw [hv]; rfl) q
theorem dg_R_fin {A : V → Prop} (ho : H a = some (.dK (dk kd_R vs))) (hv : vs[7]? = some v) (q : A v) : ∃ a' v', V.ref a = .ref a' ∧ DGet H a' (.str "fin") (some v') ∧ A v' := g_dget ho ndd_R rfl hv q
theorem dp_R_fin {A : Hp → Prop} (ho : H a = some (.dK (dk kd_R vs))) (hv : 7 < vs.length) (q : A (upd H a (.dK (dk kd_R (vs.set 7 y))))) : ∃ a' H', V.ref a = .ref a' ∧ DPut H a' (.str "fin") y H' ∧ A H' := g_dput ho ndd_R (by decide) rfl hv q
theorem dn_R_fin {A : Hp → Prop} (ho : H a = some (.dK (dk kd_R vs))) (hv : vs.length = 7) (q : A (upd H a (.dK (dk kd_R (vs ++ [y]))))) : ∃ a' H', V.ref a = .ref a' ∧ DPut H a' (.str "fin") y H' ∧ A H' := g_dnew ho ndd_R (by decide) (by rw [hv]; rfl) q
theorem dg_R_reset {A : V → Prop} (ho : H a = some (.dK (dk kd_R vs))) (hv : vs[8]? = some v) (q : A v) : ∃ a' v', V.ref a = .ref a' ∧ DGet H a' (.str "reset") (some v') ∧ A v' := g_dget ho ndd_R rfl hv q
theorem dp_R_reset {A : Hp → Prop} (ho : H a = some (.dK (dk kd_R vs))) (hv : 8 < vs.length) (q : A (upd H a (.dK (dk kd_R (vs.set 8 y))))) : ∃ a' H', V.ref a = .ref a' ∧ DPut H a' (.str "reset") y H' ∧ A H' := g_dput ho ndd_R (by decide) rfl hv q
theorem dn_R_reset {A : Hp → Prop} (ho : H a = some (.dK (dk kd_R vs))) (hv : vs.length = 8) (q : A (upd H a (.dK (dk kd_R (vs ++ [y]))))) : ∃ a' H', V.ref a = .ref a' ∧ DPut H a' (.str "reset") y H' ∧ A H' := g_dnew ho ndd_R (by decide) (by rw [hv]; rfl) q
theorem dg_R_marked {A : V → Prop} (ho : H a = some (.dK (dk kd_R vs))) (hv : vs[9]? = some v) (q : A v) : ∃ a' v', V.ref a = .ref a' ∧ DGet H a' (.str "marked") (some v') ∧ A v' := g_dget ho ndd_R rfl hv q
theorem dp_R_marked {A : Hp → Prop} (ho : H a = some (.dK (dk kd_R vs))) (hv : 9 < vs.length) (q : A (upd H a (.dK (dk kd_R (vs.set 9 y))))) : ∃ a' H', V.ref a = .ref a' ∧ DPut H a' (.str "marked") y H' ∧ A H' := g_dput ho ndd_R (by decide) rfl hv q
theorem dn_R_marked {A : Hp → Prop} (ho : H a = some (.dK (dk kd_R vs))) (hv : vs.length = 9) (q : A (upd H a (.dK (dk kd_R (vs ++ [y]))))) : ∃ a' H', V.ref a = .ref a' ∧ DPut H a' (.str "marked") y H' ∧ A H' := g_dnew ho ndd_R (by decide) (by rw [hv]; rfl) q
theorem dg_R_cut {A : V → Prop} (ho : H a = some (.dK (dk kd_R vs))) (hv : vs[10]? = some v) (q : A v) : ∃ a' v', V.ref a = .ref a' ∧ DGet H a' (.str "cut") (some v') ∧ A v' := g_dget ho ndd_R rfl hv q
theorem dp_R_cut {A : Hp → Prop} (ho : H a = some (.dK (dk kd_R vs))) (hv : 10 < vs.length) (q : A (upd H a (.dK (dk kd_R (vs.set 10 y))))) : ∃ a' H', V.ref a = .ref a' ∧ DPut H a' (.str "cut") y H' ∧ A H' := g_dput ho ndd_R (by decide) rfl hv q
theorem dn_R_cut {A : Hp → Prop} (ho : H a = some (.dK (dk kd_R vs))) (hv : vs.length = 10) (q : A (upd H a (.dK (dk kd_R (vs ++ [y]))))) : ∃ a' H', V.ref a = .ref a' ∧ DPut H a' (.str "cut") y H' ∧ A H' := g_dnew ho ndd_R (by decide) (by rw [hv]; rfl) q
end
local macro_rules | `(tactic| walk_at "use") => `(tactic| first | ((with_reducible refine' dg_R_start ?ho_ ?hv_ ?_); (case ho_ => first | assumption | exact upd_same); (case hv_ => exact rfl)) | ((with_reducible refine' dg_R_data ?ho_ ?hv_ ?_); (case ho_ => first | assumption | exact upd_same); (case hv_ => exact rfl)) | ((with_reducible refine' dg_R_ranges ?ho_ ?hv_ ?_); (case ho_ => first | assumption | exact upd_same); (case hv_ => exact rfl)) | ((with_reducible refine' dg_R_ack ?ho_ ?hv_ ?_); (case ho_ => first | assumption | exact upd_same); (case hv_ => exact rfl)) | ((with_reducible refine' dg_R_window ?ho_ ?hv_ ?_); (case ho_ => first | assumption | exact upd_same); (case hv_ => exact rfl)) | ((with_reducible refine' dg_R_stamp ?ho_ ?hv_ ?_); (case ho_ => first | assumption | exact upd_same); (case hv_ => exact rfl)) | ((with_reducible refine' dg_R_syn ?ho_ ?hv_ ?_); (case ho_ => first | assumption | exact upd_same); (case hv_ => exact rfl)) | ((with_reducible refine' dg_R_fin ?ho_ ?hv_ ?_); (case ho_ => first | assumption | exact upd_same); (case hv_ => exact rfl)) | ((with_reducible refine' dg_R_reset ?ho_ ?hv_ ?_); (case ho_ => first | assumption | exact upd_same); (case hv_ => exact rfl)) | ((with_reducible refine' dg_R_marked ?ho_ ?hv_ ?_); (case ho_ => first | assumption | exact upd_same); (case hv_ => exact rfl)) | ((with_reducible refine' dg_R_cut ?ho_ ?hv_ ?_); (case ho_ => first | assumption | exact upd_same); (case hv_ => exact rfl)) | ((with_reducible refine' dn_R_start ?ho_ ?hv_ ?_); (case ho_ => first | assumption | exact upd_same); (case hv_ => exact rfl)) | ((with_reducible refine' dn_R_data ?ho_ ?hv_ ?_); (case ho_ => first | assumption | exact upd_same); (case hv_ => exact rfl)) | ((with_reducible refine' dn_R_ranges ?ho_ ?hv_ ?_); (case ho_ => first | assumption | exact upd_same); (case hv_ => exact rfl)) | ((with_reducible refine' dn_R_ack ?ho_ ?hv_ ?_); (case ho_ => first | assumption | exact upd_same); (case hv_ => exact rfl)) | ((with_reducible refine' dn_R_window ?ho_ ?hv_ ?_); (case ho_ => first | assumption | exact upd_same); (case hv_ => exact rfl)) | ((with_reducible refine' dn_R_stamp ?ho_ ?hv_ ?_); (case ho_ => first | assumption | exact upd_same); (case hv_ => exact rfl)) | ((with_reducible refine' dn_R_syn ?ho_ ?hv_ ?_); (case ho_ => first | assumption | exact upd_same); (case hv_ => exact rfl)) | ((with_reducible refine' dn_R_fin ?ho_ ?hv_ ?_); (case ho_ => first | assumption | exact upd_same); (case hv_ => exact rfl)) | ((with_reducible refine' dn_R_reset ?ho_ ?hv_ ?_); (case ho_ => first | assumption | exact upd_same); (case hv_ => exact rfl)) | ((with_reducible refine' dn_R_marked ?ho_ ?hv_ ?_); (case ho_ => first | assumption | exact upd_same); (case hv_ => exact rfl)) | ((with_reducible refine' dn_R_cut ?ho_ ?hv_ ?_); (case ho_ => first | assumption | exact upd_same); (case hv_ => exact rfl)) | ((with_reducible refine' dp_R_start ?ho_ ?hv_ ?_); (case ho_ => first | assumption | exact upd_same); (case hv_ => exact Nat.le_of_ble_eq_true rfl)) | ((with_reducible refine' dp_R_data ?ho_ ?hv_ ?_); (case ho_ => first | assumption | exact upd_same); (case hv_ => exact Nat.le_of_ble_eq_true rfl)) | ((with_reducible refine' dp_R_ranges ?ho_ ?hv_ ?_); (case ho_ => first | assumption | exact upd_same); (case hv_ => exact Nat.le_of_ble_eq_true rfl)) | ((with_reducible refine' dp_R_ack ?ho_ ?hv_ ?_); (case ho_ => first | assumption | exact upd_same); (case hv_ => exact Nat.le_of_ble_eq_true rfl)) | ((with_reducible refine' dp_R_window ?ho_ ?hv_ ?_); (case ho_ => first | assumption | exact upd_same); (case hv_ => exact Nat.le_of_ble_eq_true rfl)) | ((with_reducible refine' dp_R_stamp ?ho_ ?hv_ ?_); (case ho_ => first | assumption | exact upd_same); (case hv_ => exact Nat.le_of_ble_eq_true rfl)) | ((with_reducible refine' dp_R_syn ?ho_ ?hv_ ?_); (case ho_ => first | assumption | exact upd_same); (case hv_ => exact Nat.le_of_ble_eq_true rfl)) | ((with_reducible refine' dp_R_fin ?ho_ ?hv_ ?_); (case ho_ => first | assumption | exact upd_same); (case hv_ => exact Nat.le_of_ble_eq_true rfl)) | ((with_reducible refine' dp_R_reset ?ho_ ?hv_ ?_); (case ho_ => first | assumption | exact upd_same); (case hv_ => exact Nat.le_of_ble_eq_true rfl)) | ((with_reducible refine' dp_R_marked ?ho_ ?hv_ ?_); (case ho_ => first | assumption | exact upd_same); (case hv_ => exact Nat.le_of_ble_eq_true rfl)) | ((with_reducible refine' dp_R_cut ?ho_ ?hv_ ?_); (case ho_ => first | assumption | exact upd_same); (case hv_ => exact Nat.le_of_ble_eq_true rfl)))
local macro_rules | `(tactic| walk_at "use") => `(tactic| with_reducible first | refine g_dgetT ?_ | refine g_dputT ?_)
end My
namespace My
open PySem PySem.Spec L2
local macro_rules | `(tactic| walk_at "side") => `(tactic| first | assumption | decide | omega | exact ⟨by decide, by decide⟩ | exact ⟨by decide, by decide, by decide⟩ | decide +kernel | exact cdivW (by decide +kernel) (by decide +kernel) | exact Or.inl ⟨by omega, by omega⟩ | exact Or.inr ⟨by omega, by omega⟩ | (simp only [List.length_map, List.length_cons, List.length_nil, List.length_append]; omega))
local macro_rules | `(tactic| walk_at "fact") => `(tactic| first | assumption | omega | with_reducible rfl)
local macro_rules | `(tactic| walk_at "use") => `(tactic| fail "use")
local macro_rules | `(tactic| walk_at "go1") => `(tactic| with_reducible first | refine g_seq ?_ | refine g_asg ?_ | refine g_ret ?_ | refine g_ifS ?_ | refine g_drop ?_ | refine g_star ?_ | refine g_nx ?_ | refine g_rt ?_ | refine g_bkE ?_ | refine g_ctE ?_ | refine g_next ?_ | refine g_retN ?_ | refine g_brk ?_ | refine g_ct ?_ | refine g_c ?_ | refine g_op ?_ | refine g_un ?_ | refine g_rI0 ?_ | refine g_rU ?_ | refine g_rEqI ?_ | refine g_rNeI ?_ | refine g_isN ?_ | refine g_rIsB ?_ | refine g_rNotB ?_ | refine g_test ?_ | refine g_B ?_ | refine g_bl ?_ | refine g_and ?_ | refine g_or ?_ | refine g_not ?_ | refine g_andV ?_ | refine g_orV ?_ | refine g_notV ?_ | refine g_if ?_ | refine g_chain ?_ | refine g_yes ?_ | refine g_lc ?_ | refine g_revR ?_ | refine g_rng1 ?_ | refine g_iList ?_ | refine g_nil ?_ | refine g_cons ?_ | refine g_tup ?_ | refine g_lst ?_ | refine g_call ?_ | refine g_CB ?_ | refine g_sl ?_ | refine g_noPart ?_ | refine g_part ?_ | refine g_intE ?_ | refine g_ref ?_ | refine g_fld ?_ | refine g_sfld ?_ | refine g_meth ?_ | refine g_make ?_ | refine g_prop ?_  | refine g_ipI ?_ | refine g_int1 ?_ | refine g_int1B ?_ | refine g_one ?_ | refine g_two ?_ | refine g_isiI ?_ | refine g_isiIB ?_ | refine g_isiB ?_ | refine g_BM ?_ | refine g_BM0 ?_ | refine g_sub ?_)
local macro_rules | `(tactic| walk_at "go") => `(tactic| repeat (first | walk_at "go1" | ((with_reducible refine' g_nameE ?sd_ ?_); case sd_ => dsimp only [List.set_cons_succ, List.set_cons_zero]) | ((with_reducible refine' g_var ?sd_ ?_); case sd_ => exact rfl) | ((with_reducible refine' g_aug ?sd_ ?_); case sd_ => exact rfl) | ((with_reducible refine' g_rI ?sd_ ?_); case sd_ => walk_at "side") | ((with_reducible refine' g_dT ?sd_ ?_); case sd_ => walk_at "fact") | ((with_reducible refine' g_dF ?sd_ ?_); case sd_ => walk_at "fact") | ((with_reducible refine' g_nT ?sd_ ?_); case sd_ => walk_at "fact") | ((with_reducible refine' g_nF ?sd_ ?_); case sd_ => walk_at "fact") | (with_reducible refine g_iT rfl ?_) | (with_reducible refine g_iF rfl ?_) | walk_at "use"))
local macro_rules | `(tactic| walk_at "use") => `(tactic| first | ((with_reducible refine' fd_Piece_start ?ho_ ?hv_ ?_); (case ho_ => first | assumption | exact upd_same); (case hv_ => exact rfl)) | ((with_reducible refine' fd_Piece_data ?ho_ ?hv_ ?_); (case ho_ => first | assumption | exact upd_same); (case hv_ => exact rfl)) | ((with_reducible refine' fd_Piece_syn ?ho_ ?hv_ ?_); (case ho_ => first | assumption | exact upd_same); (case hv_ => exact rfl)) | ((with_reducible refine' fd_Piece_fin ?ho_ ?hv_ ?_); (case ho_ => first | assumption | exact upd_same); (case hv_ => exact rfl)) | ((with_reducible refine' fd_Piece_reset ?ho_ ?hv_ ?_); (case ho_ => first | assumption | exact upd_same); (case hv_ => exact rfl)) | ((with_reducible refine' fd_Piece_ack ?ho_ ?hv_ ?_); (case ho_ => first | assumption | exact upd_same); (case hv_ => exact rfl)) | ((with_reducible refine' fd_Piece_window ?ho_ ?hv_ ?_); (case ho_ => first | assumption | exact upd_same); (case hv_ => exact rfl)) | ((with_reducible refine' fd_Piece_ranges ?ho_ ?hv_ ?_); (case ho_ => first | assumption | exact upd_same); (case hv_ => exact rfl)) | ((with_reducible refine' fd_Piece_marked ?ho_ ?hv_ ?_); (case ho_ => first | assumption | exact upd_same); (case hv_ => exact rfl)) | ((with_reducible refine' fd_Piece_cut ?ho_ ?hv_ ?_); (case ho_ => first | assumption | exact upd_same); (case hv_ => exact rfl)) | ((with_reducible refine' fd_Piece_stamp ?ho_ ?hv_ ?_); (case ho_ => first | assumption | exact upd_same); (case hv_ => exact rfl)) | ((with_reducible refine' nw_Piece_start ?ho_ ?hv_ ?_); (case ho_ => first | assumption | exact upd_same); (case hv_ => exact rfl)) | ((with_reducible refine' nw_Piece_data ?ho_ ?hv_ ?_); (case ho_ => first | assumption | exact upd_same); (case hv_ => exact rfl)) | ((with_reducible refine' nw_Piece_syn ?ho_ ?hv_ ?_); (case ho_ => first | assumption | exact upd_same); (case hv_ => exact rfl)) | ((with_reducible refine' nw_Piece_fin ?ho_ ?hv_ ?_); (case ho_ => first | assumption | exact upd_same); (case hv_ => exact rfl)) | ((with_reducible refine' nw_Piece_reset ?ho_ ?hv_ ?_); (case ho_ => first | assumption | exact upd_same); (case hv_ => exact rfl)) | ((with_reducible refine' nw_Piece_ack ?ho_ ?hv_ ?_); (case ho_ => first | assumption | exact upd_same); (case hv_ => exact rfl)) | ((with_reducible refine' nw_Piece_window ?ho_ ?hv_ ?_); (case ho_ => first | assumption | exact upd_same); (case hv_ => exact rfl)) | ((with_reducible refine' nw_Piece_ranges ?ho_ ?hv_ ?_); (case ho_ => first | assumption | exact upd_same); (case hv_ => exact rfl)) | ((with_reducible refine' nw_Piece_marked ?ho_ ?hv_ ?_); (case ho_ => first | assumption | exact upd_same); (case hv_ => exact rfl)) | ((with_reducible refine' nw_Piece_cut ?ho_ ?hv_ ?_); (case ho_ => first | assumption | exact upd_same); (case hv_ => exact rfl)) | ((with_reducible refine' nw_Piece_stamp ?ho_ ?hv_ ?_); (case ho_ => first | assumption | exact upd_same); (case hv_ => exact rfl)) | ((with_reducible refine' st_Piece_start ?ho_ ?hv_ ?_); (case ho_ => first | assumption | exact upd_same); (case hv_ => exact Nat.le_of_ble_eq_true rfl)) | ((with_reducible refine' st_Piece_data ?ho_ ?hv_ ?_); (case ho_ => first | assumption | exact upd_same); (case hv_ => exact Nat.le_of_ble_eq_true rfl)) | ((with_reducible refine' st_Piece_syn ?ho_ ?hv_ ?_); (case ho_ => first | assumption | exact upd_same); (case hv_ => exact Nat.le_of_ble_eq_true rfl)) | ((with_reducible refine' st_Piece_fin ?ho_ ?hv_ ?_); (case ho_ => first | assumption | exact upd_same); (case hv_ => exact Nat.le_of_ble_eq_true rfl)) | ((with_reducible refine' st_Piece_reset ?ho_ ?hv_ ?_); (case ho_ => first | assumption | exact upd_same); (case hv_ => exact Nat.le_of_ble_eq_true rfl)) | ((with_reducible refine' st_Piece_ack ?ho_ ?hv_ ?_); (case ho_ => first | assumption | exact upd_same); (case hv_ => exact Nat.le_of_ble_eq_true rfl)) | ((with_reducible refine' st_Piece_window ?ho_ ?hv_ ?_); (case ho_ => first | assumption | exact upd_same); (case hv_ => exact Nat.le_of_ble_eq_true rfl)) | ((with_reducible refine' st_Piece_ranges ?ho_ ?hv_ ?_); (case ho_ => first | assumption | exact upd_same); (case hv_ => exact Nat.le_of_ble_eq_true rfl)) | ((with_reducible refine' st_Piece_marked ?ho_ ?hv_ ?_); (case ho_ => first | assumption | exact upd_same); (case hv_ => exact Nat.le_of_ble_eq_true rfl)) | ((with_reducible refine' st_Piece_cut ?ho_ ?hv_ ?_); (case ho_ => first | assumption | exact upd_same); (case hv_ => exact Nat.le_of_ble_eq_true rfl)) | ((with_reducible refine' st_Piece_stamp ?ho_ ?hv_ ?_); (case ho_ => first | assumption | exact upd_same); (case hv_ => exact Nat.le_of_ble_eq_true rfl)) | ((with_reducible refine' me_Piece_eq__ ?ho_ ?_); (case ho_ => first | assumption | exact upd_same)) | ((with_reducible refine' me_Piece_fields ?ho_ ?_); (case ho_ => first | assumption | exact upd_same)))
section
variable {P : Program} {w : World} {K : PySem.W.Frag} {mg : Str → Option Value} {base : Heap}
/-! ### lists of pairs in the heap -/
def tupP (p : Int × Int) : HO := .tup [.int p.1, .int p.2]
def Prs (H : Hp) (vs : List V) (ps : List (Int × Int)) : Prop := vs.length = ps.length ∧ ∀ (i : Nat) p, ps[i]? = some p → ∃ t, vs[i]? = some (V.ref t) ∧ H t = some (tupP p)
theorem Prs.nil {H : Hp} : Prs H [] [] := ⟨rfl, fun i p h => by simp at h⟩
theorem Prs.same {H H' : Hp} {vs : List V} {ps : List (Int × Int)} (h : Prs H vs ps) (s : Same H H') : Prs H' vs ps := ⟨h.1, fun i p e => by
  obtain ⟨t, h1, h2⟩ := h.2 i p e
  exact ⟨t, h1, s _ _ h2⟩⟩
theorem Prs.but {H H' : Hp} {vs : List V} {ps : List (Int × Int)} {a : Addr} {xs : List V} (h : Prs H vs ps) (s : But a H H') (e : H a = some (.lst xs)) : Prs H' vs ps := ⟨h.1, fun i p e2 => by
  obtain ⟨t, h1, h2⟩ := h.2 i p e2
  exact ⟨t, h1, s _ _ (fun z => by rw [z, e] at h2; cases h2) h2⟩⟩
theorem Prs.butD {H H' : Hp} {vs : List V} {ps : List (Int × Int)} {a : Addr} {kvs : List (Key × V)} (h : Prs H vs ps) (s : But a H H') (e : H a = some (.dK kvs)) : Prs H' vs ps := ⟨h.1, fun i p e2 => by
  obtain ⟨t, h1, h2⟩ := h.2 i p e2
  exact ⟨t, h1, s _ _ (fun z => by rw [z, e] at h2; cases h2) h2⟩⟩
theorem Prs.drop {H : Hp} {vs : List V} {ps : List (Int × Int)} (h : Prs H vs ps) (k : Nat) : Prs H (vs.drop k) (ps.drop k) := ⟨by rw [List.length_drop, List.length_drop, h.1], fun i p e => by
  rw [List.getElem?_drop] at e ⊢
  exact h.2 _ p e⟩
theorem Prs.take {H : Hp} {vs : List V} {ps : List (Int × Int)} (h : Prs H vs ps) (k : Nat) : Prs H (vs.take k) (ps.take k) := ⟨by rw [List.length_take, List.length_take, h.1], fun i p e => by
  rw [List.getElem?_take] at e ⊢
  split at e
  · rw [if_pos (by assumption)]
    exact h.2 _ p e
  · cases e⟩
theorem Prs.app {H : Hp} {vs us : List V} {ps qs : List (Int × Int)} (h : Prs H vs ps) (h' : Prs H us qs) : Prs H (vs ++ us) (ps ++ qs) := ⟨by rw [List.length_append, List.length_append, h.1, h'.1], fun i p e => by
  by_cases hi : i < ps.length
  · rw [List.getElem?_append_left hi] at e
    rw [List.getElem?_append_left (by rw [h.1]; exact hi)]
    exact h.2 i p e
  · rw [List.getElem?_append_right (by omega)] at e
    rw [List.getElem?_append_right (by rw [h.1]; omega), h.1]
    exact h'.2 _ p e⟩
theorem Prs.one {H : Hp} {t : Addr} {p : Int × Int} (h : H t = some (tupP p)) : Prs H [V.ref t] [p] := ⟨rfl, fun i q e => by
  match i, e with
  | 0, e => exact ⟨t, rfl, by rw [← Option.some.inj e]; exact h⟩⟩
theorem Prs.cons {H : Hp} {t : Addr} {p : Int × Int} {vs : List V} {ps : List (Int × Int)} (h : H t = some (tupP p)) (h' : Prs H vs ps) : Prs H (V.ref t :: vs) (p :: ps) := (Prs.one h).app h'
theorem Prs.set {H : Hp} {t : Addr} {p : Int × Int} {vs : List V} {ps : List (Int × Int)} (h' : Prs H vs ps) (j : Nat) (h : H t = some (tupP p)) : Prs H (vs.set j (V.ref t)) (ps.set j p) := ⟨by rw [List.length_set, List.length_set, h'.1], fun i q e => by
  by_cases hij : j = i
  · subst hij
    have hl : j < ps.length := by
      obtain ⟨z, _⟩ := List.getElem?_eq_some_iff.mp e
      rw [List.length_set] at z
      exact z
    rw [List.getElem?_set_self hl] at e
    rw [List.getElem?_set_self (by rw [h'.1]; exact hl)]
    exact ⟨t, rfl, by rw [← Option.some.inj e]; exact h⟩
  · rw [List.getElem?_set_ne hij] at e ⊢
    exact h'.2 i q e⟩
theorem cut_nat {xs : List V} {a b : Nat} (hab : a ≤ b) (hb : b ≤ xs.length) : cutV xs (some (a : Int)) (some (b : Int)) = (xs.drop a).take (b - a) := by
  unfold cutV
  rw [HT.sIx_nat, HT.sIx_nat, Nat.min_eq_left (a := a) (by omega), Nat.min_eq_left hb]
theorem cut_to {xs : List V} {b : Nat} (hb : b ≤ xs.length) : cutV xs none (some (b : Int)) = xs.take b := by
  unfold cutV
  rw [HT.sIx_none, HT.sIx_nat, Nat.min_eq_left hb, List.drop_zero, Nat.sub_zero]
theorem cut_from {xs : List V} {a : Nat} (ha : a ≤ xs.length) : cutV xs (some (a : Int)) none = xs.drop a := by
  unfold cutV
  rw [HT.sIx_nat, HT.sIx_none, Nat.min_eq_left ha]
  exact List.take_of_length_le (by rw [List.length_drop]; omega)
/-! == of lists of pairs -/
section
variable {K : PySem.W.Frag} {H : Hp}
def datP (p : Int × Int) : PyData := .tuple [.int p.1, .int p.2]
theorem dp_pair {t : Addr} {p : Int × Int} (h : H t = some (tupP p)) : Dp K H (.ref t) (datP p) := .tup (st h) (.cons (.int _) (.cons (.int _) .nil))
theorem dpAll_pairs : ∀ {vs : List V} {ps : List (Int × Int)}, Prs H vs ps → DpAll K H vs (ps.map datP)
  | [], [], _ => .nil
  | [], _ :: _, h => by have := h.1; simp at this
  | _ :: _, [], h => by have := h.1; simp at this
  | v :: vs, p :: ps, h => by
    obtain ⟨t, h1, h2⟩ := h.2 0 p rfl
    have e : v = V.ref t := Option.some.inj h1
    subst e
    exact .cons (dp_pair h2) (dpAll_pairs (h.drop 1))
theorem lay_pairs : ∀ {ps : List (Int × Int)}, PyData.canLayAll0 (ps.map datP) = true
  | [] => rfl
  | p :: ps => by
    show ((true && (true && true)) && PyData.canLayAll0 (ps.map datP)) = true
    rw [lay_pairs]; rfl
theorem depth_pairs : ∀ {ps : List (Int × Int)}, PyData.depthAll (ps.map datP) ≤ 1
  | [] => by show 0 ≤ 1; decide
  | p :: ps => by
    show max (max 0 (max 0 0) + 1) (PyData.depthAll (ps.map datP)) ≤ 1
    have := depth_pairs (ps := ps)
    omega
theorem shaped_pairs {ps : List (Int × Int)} : SeqAt.shaped (.list (ps.map datP)) = true := by
  show (PyData.canLayAll0 (ps.map datP) && decide (PyData.depthAll (ps.map datP) + 1 ≤ 64)) = true
  have := depth_pairs (ps := ps)
  rw [lay_pairs, decide_eq_true (by omega)]; rfl
theorem eqv_pair {p q : Int × Int} : PyData.eqv (datP p) (datP q) = decide (p = q) := by
  show ((p.1 == q.1) && ((p.2 == q.2) && true)) = decide (p = q)
  rw [Bool.eq_iff_iff]
  simp [Prod.ext_iff]
theorem eqvAll_pairs : ∀ {ps qs : List (Int × Int)}, PyData.eqvAll (ps.map datP) (qs.map datP) = decide (ps = qs)
  | [], [] => rfl
  | [], _ :: _ => rfl
  | _ :: _, [] => rfl
  | p :: ps, q :: qs => by
    show (PyData.eqv (datP p) (datP q) && PyData.eqvAll (ps.map datP) (qs.map datP)) = decide (p :: ps = q :: qs)
    rw [eqvAll_pairs, eqv_pair, Bool.eq_iff_iff]
    simp
theorem g_nePL {Q : VK} {a b : Addr} {vs us : List V} {ps qs : List (Int × Int)} (h1 : SqL K H a vs) (p1 : Prs H vs ps) (h2 : SqL K H b us) (p2 : Prs H us qs) (q : Q (.bl (!decide (ps = qs))) H) : rNeD K (.ref a) (.ref b) H Q :=
  ⟨.list (ps.map datP), .list (qs.map datP), .lst h1 (dpAll_pairs p1), .lst h2 (dpAll_pairs p2), shaped_pairs, shaped_pairs, by rw [show PyData.eqv (.list (ps.map datP)) (.list (qs.map datP)) = decide (ps = qs) from eqvAll_pairs]; exact q⟩
theorem g_eqPL {Q : VK} {a b : Addr} {vs us : List V} {ps qs : List (Int × Int)} (h1 : SqL K H a vs) (p1 : Prs H vs ps) (h2 : SqL K H b us) (p2 : Prs H us qs) (q : Q (.bl (decide (ps = qs))) H) : rEqD K (.ref a) (.ref b) H Q :=
  ⟨.list (ps.map datP), .list (qs.map datP), .lst h1 (dpAll_pairs p1), .lst h2 (dpAll_pairs p2), shaped_pairs, shaped_pairs, by rw [show PyData.eqv (.list (ps.map datP)) (.list (qs.map datP)) = decide (ps = qs) from eqvAll_pairs]; exact q⟩
theorem g_neP {Q : VK} {a b : Addr} {p r : Int × Int} (h1 : H a = some (tupP p)) (h2 : H b = some (tupP r)) (q : Q (.bl (!decide (p = r))) H) : rNeD K (.ref a) (.ref b) H Q :=
  ⟨datP p, datP r, dp_pair h1, dp_pair h2, rfl, rfl, by rw [eqv_pair]; exact q⟩
end

/-- None or an int -/
def oV : Option Int → V
  | none => .non
  | some i => .int i
/-- None or a pair -/
def StV (H : Hp) : V → Option (Int × Int) → Prop
  | v, none => v = .non
  | v, some p => ∃ t, v = .ref t ∧ H t = some (tupP p)
theorem StV.same {H H' : Hp} {v : V} {o : Option (Int × Int)} (h : StV H v o) (s : Same H H') : StV H' v o := by
  cases o with
  | none => exact h
  | some p =>
    obtain ⟨t, e, h⟩ := h
    exact ⟨t, e, s _ _ h⟩
theorem StV.butD {H H' : Hp} {v : V} {o : Option (Int × Int)} {a : Addr} {kvs : List (Key × V)} (h : StV H v o) (s : But a H H') (e : H a = some (.dK kvs)) : StV H' v o := by
  cases o with
  | none => exact h
  | some p =>
    obtain ⟨t, e1, h⟩ := h
    exact ⟨t, e1, s _ _ (fun z => by rw [z, e] at h; cases h) h⟩

theorem but_or {K : PySem.W.Frag} {p : Addr} {H H' : Hp} {a : Addr} {xs : List V} (e : But p H H') (n : a ≠ p) (h : SqL K H a xs ∨ SqT K H a xs) : SqL K H' a xs ∨ SqT K H' a xs := by
  rcases h with h | h
  · exact .inl (but_sq e n h)
  · refine .inr ?_
    rcases h with h | h
    · rcases h with h | h
      · exact .inl (.inl (e _ _ n h))
      · obtain ⟨o, h⟩ := h
        exact .inl (.inr ⟨o, e _ _ n h⟩)
    · exact .inr h
theorem But.free {p r : Addr} {H H' : Hp} (b : But p H H') (n : r ≠ p) (h : H' r = none) : H r = none := by
  cases e : H r with
  | none => rfl
  | some o =>
    have z := b r o n e
    rw [h] at z
    cases z
theorem upd_upd {H : Hp} {p : Addr} {o o' : HO} : upd (upd H p o) p o' = upd H p o' := by
  funext b
  by_cases e : b = p
  · rw [e, upd_same, upd_same]
  · rw [upd_ne e, upd_ne e, upd_ne e]

/-! ### pieces -/
structure Pc where
  start : Int
  ds : List Int
  syn : Bool
  fin : Bool
  reset : Bool
  ack : Option Int
  window : Int
  rs : List (Int × Int)
  marked : Bool
  cut : Bool
  stamp : Option (Int × Int)
def PcP (H : Hp) (g : Pc) (da ra : Addr) (sv : V) : Prop := H da = some (.lst (g.ds.map V.int)) ∧ (∃ vs, H ra = some (.lst vs) ∧ Prs H vs g.rs) ∧ StV H sv g.stamp
theorem PcP.same {H H' : Hp} {g : Pc} {da ra : Addr} {sv : V} (h : PcP H g da ra sv) (s : Same H H') : PcP H' g da ra sv := by
  obtain ⟨h1, ⟨vs, h2, h3⟩, h4⟩ := h
  exact ⟨s _ _ h1, ⟨vs, s _ _ h2, h3.same s⟩, h4.same s⟩
theorem PcP.butD {H H' : Hp} {g : Pc} {da ra a : Addr} {sv : V} {kvs : List (Key × V)} (h : PcP H g da ra sv) (s : But a H H') (e : H a = some (.dK kvs)) : PcP H' g da ra sv := by
  obtain ⟨h1, ⟨vs, h2, h3⟩, h4⟩ := h
  exact ⟨s _ _ (fun z => by rw [z, e] at h1; cases h1) h1, ⟨vs, s _ _ (fun z => by rw [z, e] at h2; cases h2) h2, h3.butD s e⟩, h4.butD s e⟩
def pcVs (g : Pc) (da ra : Addr) (sv : V) : List V := [.int g.start, .ref da, .bl g.syn, .bl g.fin, .bl g.reset, oV g.ack, .int g.window, .ref ra, .bl g.marked, .bl g.cut, sv]
def PcO (C : Addr) (H : Hp) (p : Addr) (g : Pc) (da ra : Addr) : Prop := ∃ dx sv, H p = some (.ins C dx (obj ky_Piece (pcVs g da ra sv))) ∧ PcP H g da ra sv
theorem PcO.same {C : Addr} {H H' : Hp} {p da ra : Addr} {g : Pc} (h : PcO C H p g da ra) (s : Same H H') : PcO C H' p g da ra := by
  obtain ⟨dx, sv, h1, h2⟩ := h
  exact ⟨dx, sv, s _ _ h1, h2.same s⟩
def fVs (g : Pc) (da ra : Addr) (sv : V) : List V := [.int g.start, .ref da, .bl g.syn, .bl g.fin, .bl g.reset, .bl g.marked, .bl g.cut, oV g.ack, .int g.window, .ref ra, sv]
def rVs (g : Pc) (da ra : Addr) (sv : V) : List V := [.int g.start, .ref da, .ref ra, oV g.ack, .int g.window, sv, .bl g.syn, .bl g.fin, .bl g.reset, .bl g.marked, .bl g.cut]
/-- the dict of the piece stands at p -/
def PcD (H : Hp) (p : Addr) (g : Pc) (da ra : Addr) : Prop := ∃ sv, H p = some (.dK (dk kd_F (fVs g da ra sv))) ∧ PcP H g da ra sv
theorem PcD.same {H H' : Hp} {p da ra : Addr} {g : Pc} (h : PcD H p g da ra) (s : Same H H') : PcD H' p g da ra := by
  obtain ⟨sv, h1, h2⟩ := h
  exact ⟨sv, s _ _ h1, h2.same s⟩
/-- by its look-ups alone -/
structure PcK (kvs : List (Key × V)) (g : Pc) (da ra : Addr) (sv : V) : Prop where
  start : valV kvs (.inr "start") = some (.int g.start)
  data : valV kvs (.inr "data") = some (.ref da)
  syn : valV kvs (.inr "syn") = some (.bl g.syn)
  fin : valV kvs (.inr "fin") = some (.bl g.fin)
  reset : valV kvs (.inr "reset") = some (.bl g.reset)
  ack : valV kvs (.inr "ack") = some (oV g.ack)
  window : valV kvs (.inr "window") = some (.int g.window)
  ranges : valV kvs (.inr "ranges") = some (.ref ra)
  marked : valV kvs (.inr "marked") = some (.bl g.marked)
  cut : valV kvs (.inr "cut") = some (.bl g.cut)
  stamp : valV kvs (.inr "stamp") = some sv
theorem dk_val {ks : List Str} {vs : List V} {i : Nat} {k : Str} (nd : ks.Nodup) (h : ks[i]? = some k) : valV (dk ks vs) (.inr k) = vs[i]? := by
  unfold dk
  rw [val_map, obj_get nd h]
def PcL (H : Hp) (p : Addr) (g : Pc) (da ra : Addr) : Prop := ∃ kvs sv, H p = some (.dK kvs) ∧ PcK kvs g da ra sv ∧ PcP H g da ra sv
theorem PcD.look {H : Hp} {p da ra : Addr} {g : Pc} (h : PcD H p g da ra) : PcL H p g da ra := by
  obtain ⟨sv, e, hp⟩ := h
  exact ⟨_, sv, e, ⟨dk_val (i := 0) ndd_F rfl, dk_val (i := 1) ndd_F rfl, dk_val (i := 2) ndd_F rfl, dk_val (i := 3) ndd_F rfl, dk_val (i := 4) ndd_F rfl, dk_val (i := 7) ndd_F rfl, dk_val (i := 8) ndd_F rfl, dk_val (i := 9) ndd_F rfl, dk_val (i := 5) ndd_F rfl, dk_val (i := 6) ndd_F rfl, dk_val (i := 10) ndd_F rfl⟩, hp⟩
theorem look_R {H : Hp} {p da ra : Addr} {sv : V} {g : Pc} (e : H p = some (.dK (dk kd_R (rVs g da ra sv)))) (hp : PcP H g da ra sv) : PcL H p g da ra :=
  ⟨_, sv, e, ⟨dk_val (i := 0) ndd_R rfl, dk_val (i := 1) ndd_R rfl, dk_val (i := 6) ndd_R rfl, dk_val (i := 7) ndd_R rfl, dk_val (i := 8) ndd_R rfl, dk_val (i := 3) ndd_R rfl, dk_val (i := 4) ndd_R rfl, dk_val (i := 2) ndd_R rfl, dk_val (i := 9) ndd_R rfl, dk_val (i := 10) ndd_R rfl, dk_val (i := 5) ndd_R rfl⟩, hp⟩
def sp_Piece_init__ (C : Addr) (K : PySem.W.Frag) : Sp := fun vs H Q _ => ∃ (p dx da ra : Addr) (start syn fin reset ack window marked cut stamp : V) (ds rs : List V), vs = [.ref p, start, .ref da, syn, fin, reset, ack, window, .ref ra, marked, cut, stamp] ∧
  H p = some (.ins C dx (obj ky_Piece [])) ∧ (∀ H', But p H H' → SqL K H' da ds ∨ SqT K H' da ds) ∧ (∀ H', But p H H' → SqL K H' ra rs ∨ SqT K H' ra rs) ∧
  ∀ d r H', d ≠ p → r ≠ p → d ≠ r → H d = none → H r = none → But p H H' → H' d = some (.lst ds) → H' r = some (.lst rs) → H' p = some (.ins C dx (obj ky_Piece [start, .ref d, syn, fin, reset, ack, window, .ref r, marked, cut, stamp])) → Q .non H'
theorem ok_Piece_init__ (T : Txt K mg) : FnOk P w K mg base CX0 1 T.f_Piece_init__ T.d_Piece_init__ ["self", "start", "data", "syn", "fin", "reset", "ack", "window", "ranges", "marked", "cut", "stamp"] (sp_Piece_init__ T.C_Piece K) := by
  refine T.F_Piece_init__.ok sc_Piece_init__ (fun vs H Q E h => ?_) (fun cdv A outer s H vs Q E hr h => ?_)
  · obtain ⟨p, dx, da, ra, start, syn, fin, reset, ack, window, marked, cut, stamp, ds, rs, rfl, ho, hd, hr2, q⟩ := h
    rfl
  · obtain ⟨p, dx, da, ra, start, syn, fin, reset, ack, window, marked, cut, stamp, ds, rs, rfl, ho, hd, hr2, q⟩ := h
    have hu := hu_of hr
    refine ⟨_, (pss_cons (ps_fld (pv 0) (pv 1) rfl)
        (pss_cons (ps_fld (pv 0) (pe_callTy call_list_of (by rfl) T.n_list (by decide +kernel) (pa_cons (pv 2) pa_nil)) rfl)
        (pss_cons (ps_fld (pv 0) (pv 3) rfl)
        (pss_cons (ps_fld (pv 0) (pv 4) rfl)
        (pss_cons (ps_fld (pv 0) (pv 5) rfl)
        (pss_cons (ps_fld (pv 0) (pv 6) rfl)
        (pss_cons (ps_fld (pv 0) (pv 7) rfl)
        (pss_cons (ps_fld (pv 0) (pe_callTy call_list_of (by rfl) T.n_list (by decide +kernel) (pa_cons (pv 8) pa_nil)) rfl)
        (pss_cons (ps_fld (pv 0) (pv 9) rfl)
        (pss_cons (ps_fld (pv 0) (pv 10) rfl)
        (pss_one (ps_fld (pv 0) (pv 11) rfl)))))))))))), ?_⟩
    dsimp only [cxOf, Cx.nox, Cx.wish, L2.start, List.map, List.cons_append, List.nil_append, List.length_cons, List.length_nil, Nat.reduceAdd, Nat.reduceSub, Nat.zero_add, List.replicate_succ, List.replicate_zero]
    walk_at "go"
    simp only [upd_upd, List.nil_append, List.cons_append]
    generalize z1 : upd H p _ = H1
    have b1 : But p H H1 := by rw [← z1]; exact But.refl.upd
    have e1 : H1 p = some (.ins T.C_Piece dx (obj ky_Piece [start])) := (congrFun z1 p).symm.trans upd_same
    clear z1
    refine g_len (hd _ b1) fun d nd => ?_
    generalize z1 : upd H1 d _ = H2
    have s2 : Same H1 H2 := by rw [← z1]; exact same_upd nd
    have kd : H2 d = some (.lst ds) := (congrFun z1 d).symm.trans upd_same
    clear z1
    have ndp : d ≠ p := fun z => by rw [z, e1] at nd; cases nd
    have e2 := s2 _ _ e1
    have b2 := b1.trans (But.of s2)
    have fd := b1.free ndp nd
    walk_at "go"
    simp only [upd_upd, List.nil_append, List.cons_append]
    generalize z1 : upd H2 p _ = H3
    have b23 : But p H2 H3 := by rw [← z1]; exact But.refl.upd
    have e3 : H3 p = some (.ins T.C_Piece dx (obj ky_Piece [start, .ref d, syn, fin, reset, ack, window])) := (congrFun z1 p).symm.trans upd_same
    clear z1
    have b3 := b2.trans b23
    refine g_len (hr2 _ b3) fun r nr => ?_
    generalize z1 : upd H3 r _ = H4
    have s4 : Same H3 H4 := by rw [← z1]; exact same_upd nr
    have kr : H4 r = some (.lst rs) := (congrFun z1 r).symm.trans upd_same
    clear z1
    have nrp : r ≠ p := fun z => by rw [z, e3] at nr; cases nr
    have kd3 := b23 _ _ ndp kd
    have ndr : d ≠ r := fun z => by rw [z] at kd3; rw [kd3] at nr; cases nr
    have e4 := s4 _ _ e3
    have fr := b3.free nrp nr
    walk_at "go"
    simp only [upd_upd, List.nil_append, List.cons_append]
    refine q d r _ ndp nrp ndr fd fr (b3.trans (But.of s4)).upd ?_ ?_ upd_same
    · rw [upd_ne ndp]; exact s4 _ _ kd3
    · rw [upd_ne nrp]; exact kr
theorem g_makeK {C : Addr} {n m : Nat} {sp : Sp} {gV : List V → List V → List V} {E : XK} {t tk : TA} {σ : St} {H : Hp} {Q : VK} (h : t σ H fun vs H1 => tk σ H1 fun zs H2 => vs.length = n ∧ zs.length = m ∧
  ∀ x dx, H2 x = none → H2 dx = none → dx ≠ x → sp (gV (.ref x :: vs) zs) (upd (upd H2 dx (.own x)) x (.ins C dx [])) (fun v H3 => v = .non ∧ Q (.ref x) H3) E) : tMakeK C n m sp gV E t tk σ H Q := h
local macro_rules | `(tactic| walk_at "use") => `(tactic| with_reducible refine g_makeK ?_)
def szI (g : Pc) : Int := (g.ds.length : Int) + (if g.syn = true then 1 else 0) + (if g.fin = true then 1 else 0)
def sp_Piece_size (C : Addr) : Sp := fun vs H Q _ => ∃ (p d r : Addr) (g : Pc), vs = [.ref p] ∧ PcO C H p g d r ∧ Q (.int (szI g)) H
theorem ok_Piece_size (T : Txt K mg) : FnOk P w K mg base CX0 1 T.f_Piece_size T.d_Piece_size ["self"] (sp_Piece_size T.C_Piece) := by
  refine T.F_Piece_size.ok sc_Piece_size (fun vs H Q E h => ?_) (fun cdv A outer s H vs Q E hr h => ?_)
  · obtain ⟨p, d, r, g, rfl, ⟨dx, sv, e, hd, hr3, hsv⟩, q⟩ := h
    rfl
  · obtain ⟨p, d, r, g, rfl, ⟨dx, sv, e, hd, hr3, hsv⟩, q⟩ := h
    have hu := hu_of hr
    refine ⟨_, (pss_one (ps_ret (pe_op op_add (pe_op op_add (pe_callB call_len_seq (by rfl) T.n_len (by decide +kernel) (pa_cons (pe_fld (pv 0) rfl) pa_nil)) (pe_callTy call_int1 (by rfl) T.n_int (by decide +kernel) (pa_cons (pe_fld (pv 0) rfl) pa_nil))) (pe_callTy call_int1 (by rfl) T.n_int (by decide +kernel) (pa_cons (pe_fld (pv 0) rfl) pa_nil))))), ?_⟩
    dsimp only [cxOf, Cx.nox, Cx.wish, L2.start, List.map, List.cons_append, List.nil_append, List.length_cons, List.length_nil, Nat.reduceAdd, Nat.reduceSub, Nat.zero_add, List.replicate_succ, List.replicate_zero]
    unfold pcVs at e
    walk_at "go"
    refine g_len (.inl (sl hd)) ?_
    walk_at "go"
    rw [List.length_map]
    exact q
def sp_Piece_stop (C : Addr) : Sp := fun vs H Q _ => ∃ (p d r : Addr) (g : Pc), vs = [.ref p] ∧ PcO C H p g d r ∧ Q (.int (g.start + szI g)) H
theorem ok_Piece_stop (T : Txt K mg) : FnOk P w K mg base CX0 3 T.f_Piece_stop T.d_Piece_stop ["self"] (sp_Piece_stop T.C_Piece) := by
  refine T.F_Piece_stop.ok sc_Piece_stop (fun vs H Q E h => ?_) (fun cdv A outer s H vs Q E hr h => ?_)
  · obtain ⟨p, d, r, g, rfl, hO, q⟩ := h
    rfl
  · obtain ⟨p, d, r, g, rfl, hO, q⟩ := h
    have hu := hu_of hr
    refine ⟨_, (pss_one (ps_ret (pe_op op_add (pe_fld (pv 0) rfl) (pe_prop (pv 0) T.k_Piece T.p_Piece_size (ok_Piece_size T) (hr.mono (by decide)) T.b_Piece_size .nil pass0 (by rfl))))), ?_⟩
    dsimp only [cxOf, Cx.nox, Cx.wish, L2.start, List.map, List.cons_append, List.nil_append, List.length_cons, List.length_nil, Nat.reduceAdd, Nat.reduceSub, Nat.zero_add, List.replicate_succ, List.replicate_zero]
    obtain ⟨dx, sv, e, hP⟩ := id hO
    unfold pcVs at e
    walk_at "go"
    refine ⟨p, dx, _, rfl, e, p, d, r, g, rfl, hO, ?_⟩
    walk_at "go"
    exact q
def sp_Piece_first_octet (C : Addr) : Sp := fun vs H Q _ => ∃ (p d r : Addr) (g : Pc), vs = [.ref p] ∧ PcO C H p g d r ∧ Q (.int (g.start + if g.syn = true then 1 else 0)) H
theorem ok_Piece_first_octet (T : Txt K mg) : FnOk P w K mg base CX0 1 T.f_Piece_first_octet T.d_Piece_first_octet ["self"] (sp_Piece_first_octet T.C_Piece) := by
  refine T.F_Piece_first_octet.ok sc_Piece_first_octet (fun vs H Q E h => ?_) (fun cdv A outer s H vs Q E hr h => ?_)
  · obtain ⟨p, d, r, g, rfl, ⟨dx, sv, e, hP⟩, q⟩ := h
    rfl
  · obtain ⟨p, d, r, g, rfl, ⟨dx, sv, e, hP⟩, q⟩ := h
    have hu := hu_of hr
    refine ⟨_, (pss_one (ps_ret (pe_op op_add (pe_fld (pv 0) rfl) (pe_callTy call_int1 (by rfl) T.n_int (by decide +kernel) (pa_cons (pe_fld (pv 0) rfl) pa_nil))))), ?_⟩
    dsimp only [cxOf, Cx.nox, Cx.wish, L2.start, List.map, List.cons_append, List.nil_append, List.length_cons, List.length_nil, Nat.reduceAdd, Nat.reduceSub, Nat.zero_add, List.replicate_succ, List.replicate_zero]
    unfold pcVs at e
    walk_at "go"
    exact q
/-! equality -/
def oD : Option Int → PyData
  | none => .none
  | some i => .int i
def stD : Option (Int × Int) → PyData
  | none => .none
  | some p => datP p
theorem dp_o {K : PySem.W.Frag} {H : Hp} : ∀ {o : Option Int}, Dp K H (oV o) (oD o)
  | none => .non
  | some i => .int i
theorem dp_st {K : PySem.W.Frag} {H : Hp} {v : V} : ∀ {o : Option (Int × Int)}, StV H v o → Dp K H v (stD o)
  | none, h => by
    have e : v = .non := h
    subst e
    exact .non
  | some p, ⟨t, e, h⟩ => by
    subst e
    exact dp_pair h
theorem eqv_o {a b : Option Int} : PyData.eqv (oD a) (oD b) = decide (a = b) := by
  cases a with
  | none => cases b <;> rfl
  | some i =>
    cases b with
    | none => rfl
    | some j =>
      show (i == j) = decide (some i = some j)
      rw [Bool.eq_iff_iff]
      simp
theorem eqv_st {a b : Option (Int × Int)} : PyData.eqv (stD a) (stD b) = decide (a = b) := by
  cases a with
  | none => cases b <;> rfl
  | some p =>
    cases b with
    | none => rfl
    | some q =>
      show PyData.eqv (datP p) (datP q) = decide (some p = some q)
      rw [eqv_pair, Bool.eq_iff_iff]
      simp
def pcD (g : Pc) : List PyData := [.int g.start, .list (g.ds.map .int), .bool g.syn, .bool g.fin, oD g.ack, .int g.window, .list (g.rs.map datP), .bool g.marked, .bool g.cut, stD g.stamp]
theorem lay_o : ∀ {o : Option Int}, PyData.canLay0 (oD o) = true
  | none => rfl
  | some _ => rfl
theorem lay_st : ∀ {o : Option (Int × Int)}, PyData.canLay0 (stD o) = true
  | none => rfl
  | some _ => rfl
theorem dep_o : ∀ {o : Option Int}, PyData.depth (oD o) = 0
  | none => rfl
  | some _ => rfl
theorem dep_st : ∀ {o : Option (Int × Int)}, PyData.depth (stD o) ≤ 1
  | none => by show 0 ≤ 1; decide
  | some _ => by show max 0 (max 0 0) + 1 ≤ 1; decide
theorem sh_pc {g : Pc} : SeqAt.shaped (.tuple (pcD g)) = true := by
  show (PyData.canLayAll0 (pcD g) && decide (PyData.depthAll (pcD g) + 1 ≤ 64)) = true
  have h1 : PyData.canLayAll0 (pcD g) = true := by
    show (true && (PyData.canLayAll0 (g.ds.map PyData.int) && (true && (true && (PyData.canLay0 (oD g.ack) && (true && (PyData.canLayAll0 (g.rs.map datP) && (true && (true && (PyData.canLay0 (stD g.stamp) && true)))))))))) = true
    rw [lay_ints, lay_pairs, lay_o, lay_st]
    rfl
  have h2 : PyData.depthAll (pcD g) ≤ 10 := by
    show max 0 (max (PyData.depthAll (g.ds.map PyData.int) + 1) (max 0 (max 0 (max (PyData.depth (oD g.ack)) (max 0 (max (PyData.depthAll (g.rs.map datP) + 1) (max 0 (max 0 (max (PyData.depth (stD g.stamp)) 0))))))))) ≤ 10
    have a := depth_pairs (ps := g.rs)
    have b := dep_st (o := g.stamp)
    rw [depth_ints, dep_o]
    omega
  rw [h1, decide_eq_true (show PyData.depthAll (pcD g) + 1 ≤ 64 by omega)]
  rfl
def eqP (g h : Pc) : Bool := decide (g.start = h.start) && (decide (g.ds = h.ds) && ((g.syn == h.syn) && ((g.fin == h.fin) && ((g.reset == h.reset) && (decide (g.ack = h.ack) && (decide (g.window = h.window) && (decide (g.rs = h.rs) && ((g.marked == h.marked) && ((g.cut == h.cut) && (decide (g.stamp = h.stamp) && true))))))))))
theorem beq_int {a b : Int} : (a == b) = decide (a = b) := by
  rw [Bool.eq_iff_iff]
  simp
def eqP0 (g h : Pc) : Bool := decide (g.start = h.start) && (decide (g.ds = h.ds) && ((g.syn == h.syn) && ((g.fin == h.fin) && (decide (g.ack = h.ack) && (decide (g.window = h.window) && (decide (g.rs = h.rs) && ((g.marked == h.marked) && ((g.cut == h.cut) && (decide (g.stamp = h.stamp) && true)))))))))
theorem eqP_split {g h : Pc} : eqP g h = ((g.reset == h.reset) && eqP0 g h) := by
  unfold eqP eqP0
  generalize (g.reset == h.reset) = b
  cases b <;> simp
theorem eqv_pc {g h : Pc} : PyData.eqv (.tuple (pcD g)) (.tuple (pcD h)) = eqP0 g h := by
  show ((g.start == h.start) && (PyData.eqvAll (g.ds.map PyData.int) (h.ds.map PyData.int) && ((g.syn == h.syn) && ((g.fin == h.fin) && (PyData.eqv (oD g.ack) (oD h.ack) && ((g.window == h.window) && (PyData.eqvAll (g.rs.map datP) (h.rs.map datP) && ((g.marked == h.marked) && ((g.cut == h.cut) && (PyData.eqv (stD g.stamp) (stD h.stamp) && true)))))))))) = _
  rw [eqvAll_ints, eqvAll_pairs, eqv_o, eqv_st, beq_int, beq_int]
  rfl
theorem eqP_self {g : Pc} : eqP g g = true := by
  unfold eqP
  simp
def sp_Piece_fields (C : Addr) : Sp := fun vs H Q _ => ∃ (p d r : Addr) (g : Pc), vs = [.ref p] ∧ PcO C H p g d r ∧ ∀ (t : Addr) H' xs, Same H H' → H' t = some (.tup xs) → (∀ K H2, Same H' H2 → DpAll K H2 xs (pcD g)) → Q (.ref t) H'
theorem ok_Piece_fields (T : Txt K mg) : FnOk P w K mg base CX0 1 T.f_Piece_fields T.d_Piece_fields ["self"] (sp_Piece_fields T.C_Piece) := by
  refine T.F_Piece_fields.ok sc_Piece_fields (fun vs H Q E h => ?_) (fun cdv A outer s H vs Q E hr h => ?_)
  · obtain ⟨p, d, r, g, rfl, ⟨dx, sv, e, hd, ⟨us, hr3, hP⟩, hsv⟩, q⟩ := h
    rfl
  · obtain ⟨p, d, r, g, rfl, ⟨dx, sv, e, hd, ⟨us, hr3, hP⟩, hsv⟩, q⟩ := h
    have hu := hu_of hr
    refine ⟨_, (pss_one (ps_ret (pe_tup (pa_cons (pe_fld (pv 0) rfl) (pa_cons (pe_fld (pv 0) rfl) (pa_cons (pe_fld (pv 0) rfl) (pa_cons (pe_fld (pv 0) rfl) (pa_cons (pe_fld (pv 0) rfl) (pa_cons (pe_fld (pv 0) rfl) (pa_cons (pe_fld (pv 0) rfl) (pa_cons (pe_fld (pv 0) rfl) (pa_cons (pe_fld (pv 0) rfl) (pa_cons (pe_fld (pv 0) rfl) pa_nil))))))))))))), ?_⟩
    dsimp only [cxOf, Cx.nox, Cx.wish, L2.start, List.map, List.cons_append, List.nil_append, List.length_cons, List.length_nil, Nat.reduceAdd, Nat.reduceSub, Nat.zero_add, List.replicate_succ, List.replicate_zero]
    unfold pcVs at e
    walk_at "go"
    refine ⟨by show 10 ≤ sizeLine; decide, fun t ht => ?_⟩
    have s1 := same_upd (o := .tup [V.int g.start, V.ref d, V.bl g.syn, V.bl g.fin, oV g.ack, V.int g.window, V.ref r, V.bl g.marked, V.bl g.cut, sv]) ht
    exact q t _ _ s1 upd_same fun K H2 s2 => .cons (.int _) (.cons (.lst (sl (s2 _ _ (s1 _ _ hd))) dpAll_ints) (.cons (.bl _) (.cons (.bl _) (.cons dp_o (.cons (.int _) (.cons (.lst (sl (s2 _ _ (s1 _ _ hr3))) (dpAll_pairs ((hP.same s1).same s2))) (.cons (.bl _) (.cons (.bl _) (.cons (dp_st ((hsv.same s1).same s2)) .nil)))))))))
def sp_Piece_eq__ (C : Addr) : Sp := fun vs H Q _ => ∃ (p : Addr) (y : V), vs = [.ref p, y] ∧ ((∃ (d r p' d' r' : Addr) (g h : Pc), y = .ref p' ∧ PcO C H p g d r ∧ PcO C H p' h d' r' ∧ ∀ H', Same H H' → Q (.bl (eqP g h)) H') ∨ ∃ i : Int, y = .int i ∧ Q (.bl false) H)
theorem u_fields {C p d r : Addr} {g : Pc} {H Q E} (h : PcO C H p g d r) (q : ∀ (t : Addr) H' xs, Same H H' → H' t = some (.tup xs) → (∀ K H2, Same H' H2 → DpAll K H2 xs (pcD g)) → Q (.ref t) H') : sp_Piece_fields C [.ref p] H Q E := ⟨p, d, r, g, rfl, h, q⟩
theorem ok_Piece_eq__ (T : Txt K mg) : FnOk P w K mg base CX0 2 T.f_Piece_eq__ T.d_Piece_eq__ ["self", "other"] (sp_Piece_eq__ T.C_Piece) := by
  refine T.F_Piece_eq__.ok sc_Piece_eq__ (fun vs H Q E h => ?_) (fun cdv A outer s H vs Q E hr h => ?_)
  · obtain ⟨p, y, rfl, h⟩ := h
    rfl
  · obtain ⟨p, y, rfl, h⟩ := h
    have hu := hu_of hr
    refine ⟨_, (pss_cons (ps_if (pt_not (pt_val (pe_callB call_isi (by rfl) T.n_isinstance (by decide +kernel) (pa_cons (pv 1) (pa_cons (pe_glob (v := .ref T.C_Piece) (by rfl) T.c_Piece rfl) pa_nil))))) (pss_one (ps_ret pe_bl)) pss_nil)
        (pss_one (ps_ret (pe_and (pe_cmpR op_eq (pe_fld (pv 0) rfl) (pe_fld (pv 1) rfl) (nomark _)) (pe_one (pe_cmpR (op_eqD hr.units) (pe_meth0 (pv 0) T.k_Piece T.a_Piece_fields (ok_Piece_fields T) (hr.mono (by decide)) T.b_Piece_fields .nil pass0) (pe_meth0 (pv 1) T.k_Piece T.a_Piece_fields (ok_Piece_fields T) (hr.mono (by decide)) T.b_Piece_fields .nil pass0) (nomark _))))))), ?_⟩
    dsimp only [cxOf, Cx.nox, Cx.wish, L2.start, List.map, List.cons_append, List.nil_append, List.length_cons, List.length_nil, Nat.reduceAdd, Nat.reduceSub, Nat.zero_add, List.replicate_succ, List.replicate_zero]
    rcases h with ⟨d, r, p', d', r', g, h, rfl, hO, hO', q⟩ | ⟨i, rfl, q⟩
    · obtain ⟨dx, sv, e, hP⟩ := id hO
      obtain ⟨dx', sv', e', hP'⟩ := id hO'
      unfold pcVs at e e'
      walk_at "go"
      refine g_isi (.own _) (.base (T.i_Piece e')) (if_pos (beq_self_eq_true _)) ?_
      walk_at "go"
      refine g_rEq rfl ?_
      walk_at "go"
      rw [eqP_split] at q
      refine g_ite (fun er => ?_) (fun er => ?_)
      case refine_2 =>
        walk_at "go"
        rw [beq_false_of_ne (fun z => er (by rw [z]))] at q
        exact q _ (fun _ _ z => z)
      injection er with er
      rw [er, beq_self_eq_true, Bool.true_and] at q
      walk_at "go"
      refine ⟨p, d, r, g, rfl, hO, fun t H1 xs s1 et dt => ?_⟩
      have e1' := s1 _ _ e'
      walk_at "go"
      refine ⟨p', d', r', h, rfl, hO'.same s1, fun t' H2 xs' s2 et' dt' => ?_⟩
      walk_at "go"
      refine ⟨_, _, .tup (st (s2 _ _ et)) (dt K H2 s2), .tup (st et') (dt' K H2 (fun _ _ z => z)), sh_pc, sh_pc, ?_⟩
      rw [eqv_pc]
      exact q _ (s1.trans s2)
    · walk_at "go"
      refine g_isi (.own _) (.base (.int i)) T.ki_Piece ?_
      walk_at "go"
      exact q

end
end My
namespace My
open PySem PySem.Spec L2
local macro_rules | `(tactic| walk_at "side") => `(tactic| first | assumption | decide | omega | exact ⟨by decide, by decide⟩ | exact ⟨by decide, by decide, by decide⟩ | decide +kernel | exact cdivW (by decide +kernel) (by decide +kernel) | exact Or.inl ⟨by omega, by omega⟩ | exact Or.inr ⟨by omega, by omega⟩ | (simp only [List.length_map, List.length_cons, List.length_nil, List.length_append]; omega))
local macro_rules | `(tactic| walk_at "fact") => `(tactic| first | assumption | omega | with_reducible rfl)
local macro_rules | `(tactic| walk_at "use") => `(tactic| fail "use")
local macro_rules | `(tactic| walk_at "go1") => `(tactic| with_reducible first | refine g_seq ?_ | refine g_asg ?_ | refine g_ret ?_ | refine g_ifS ?_ | refine g_drop ?_ | refine g_star ?_ | refine g_nx ?_ | refine g_rt ?_ | refine g_bkE ?_ | refine g_ctE ?_ | refine g_next ?_ | refine g_retN ?_ | refine g_brk ?_ | refine g_ct ?_ | refine g_c ?_ | refine g_op ?_ | refine g_un ?_ | refine g_rI0 ?_ | refine g_rU ?_ | refine g_rEqI ?_ | refine g_rNeI ?_ | refine g_isN ?_ | refine g_rIsB ?_ | refine g_rNotB ?_ | refine g_test ?_ | refine g_B ?_ | refine g_bl ?_ | refine g_and ?_ | refine g_or ?_ | refine g_not ?_ | refine g_andV ?_ | refine g_orV ?_ | refine g_notV ?_ | refine g_if ?_ | refine g_chain ?_ | refine g_yes ?_ | refine g_lc ?_ | refine g_revR ?_ | refine g_rng1 ?_ | refine g_iList ?_ | refine g_nil ?_ | refine g_cons ?_ | refine g_tup ?_ | refine g_lst ?_ | refine g_call ?_ | refine g_CB ?_ | refine g_sl ?_ | refine g_noPart ?_ | refine g_part ?_ | refine g_intE ?_ | refine g_ref ?_ | refine g_fld ?_ | refine g_sfld ?_ | refine g_meth ?_ | refine g_make ?_ | refine g_prop ?_  | refine g_ipI ?_ | refine g_int1 ?_ | refine g_int1B ?_ | refine g_one ?_ | refine g_two ?_ | refine g_isiI ?_ | refine g_isiIB ?_ | refine g_isiB ?_ | refine g_BM ?_ | refine g_BM0 ?_ | refine g_sub ?_)
local macro_rules | `(tactic| walk_at "go") => `(tactic| repeat (first | walk_at "go1" | ((with_reducible refine' g_nameE ?sd_ ?_); case sd_ => dsimp only [List.set_cons_succ, List.set_cons_zero]) | ((with_reducible refine' g_var ?sd_ ?_); case sd_ => exact rfl) | ((with_reducible refine' g_aug ?sd_ ?_); case sd_ => exact rfl) | ((with_reducible refine' g_rI ?sd_ ?_); case sd_ => walk_at "side") | ((with_reducible refine' g_dT ?sd_ ?_); case sd_ => walk_at "fact") | ((with_reducible refine' g_dF ?sd_ ?_); case sd_ => walk_at "fact") | ((with_reducible refine' g_nT ?sd_ ?_); case sd_ => walk_at "fact") | ((with_reducible refine' g_nF ?sd_ ?_); case sd_ => walk_at "fact") | (with_reducible refine g_iT rfl ?_) | (with_reducible refine g_iF rfl ?_) | walk_at "use"))
local macro_rules | `(tactic| walk_at "use") => `(tactic| first | ((with_reducible refine' fd_Piece_start ?ho_ ?hv_ ?_); (case ho_ => first | assumption | exact upd_same); (case hv_ => exact rfl)) | ((with_reducible refine' fd_Piece_data ?ho_ ?hv_ ?_); (case ho_ => first | assumption | exact upd_same); (case hv_ => exact rfl)) | ((with_reducible refine' fd_Piece_syn ?ho_ ?hv_ ?_); (case ho_ => first | assumption | exact upd_same); (case hv_ => exact rfl)) | ((with_reducible refine' fd_Piece_fin ?ho_ ?hv_ ?_); (case ho_ => first | assumption | exact upd_same); (case hv_ => exact rfl)) | ((with_reducible refine' fd_Piece_reset ?ho_ ?hv_ ?_); (case ho_ => first | assumption | exact upd_same); (case hv_ => exact rfl)) | ((with_reducible refine' fd_Piece_ack ?ho_ ?hv_ ?_); (case ho_ => first | assumption | exact upd_same); (case hv_ => exact rfl)) | ((with_reducible refine' fd_Piece_window ?ho_ ?hv_ ?_); (case ho_ => first | assumption | exact upd_same); (case hv_ => exact rfl)) | ((with_reducible refine' fd_Piece_ranges ?ho_ ?hv_ ?_); (case ho_ => first | assumption | exact upd_same); (case hv_ => exact rfl)) | ((with_reducible refine' fd_Piece_marked ?ho_ ?hv_ ?_); (case ho_ => first | assumption | exact upd_same); (case hv_ => exact rfl)) | ((with_reducible refine' fd_Piece_cut ?ho_ ?hv_ ?_); (case ho_ => first | assumption | exact upd_same); (case hv_ => exact rfl)) | ((with_reducible refine' fd_Piece_stamp ?ho_ ?hv_ ?_); (case ho_ => first | assumption | exact upd_same); (case hv_ => exact rfl)) | ((with_reducible refine' nw_Piece_start ?ho_ ?hv_ ?_); (case ho_ => first | assumption | exact upd_same); (case hv_ => exact rfl)) | ((with_reducible refine' nw_Piece_data ?ho_ ?hv_ ?_); (case ho_ => first | assumption | exact upd_same); (case hv_ => exact rfl)) | ((with_reducible refine' nw_Piece_syn ?ho_ ?hv_ ?_); (case ho_ => first | assumption | exact upd_same); (case hv_ => exact rfl)) | ((with_reducible refine' nw_Piece_fin ?ho_ ?hv_ ?_); (case ho_ => first | assumption | exact upd_same); (case hv_ => exact rfl)) | ((with_reducible refine' nw_Piece_reset ?ho_ ?hv_ ?_); (case ho_ => first | assumption | exact upd_same); (case hv_ => exact rfl)) | ((with_reducible refine' nw_Piece_ack ?ho_ ?hv_ ?_); (case ho_ => first | assumption | exact upd_same); (case hv_ => exact rfl)) | ((with_reducible refine' nw_Piece_window ?ho_ ?hv_ ?_); (case ho_ => first | assumption | exact upd_same); (case hv_ => exact rfl)) | ((with_reducible refine' nw_Piece_ranges ?ho_ ?hv_ ?_); (case ho_ => first | assumption | exact upd_same); (case hv_ => exact rfl)) | ((with_reducible refine' nw_Piece_marked ?ho_ ?hv_ ?_); (case ho_ => first | assumption | exact upd_same); (case hv_ => exact rfl)) | ((with_reducible refine' nw_Piece_cut ?ho_ ?hv_ ?_); (case ho_ => first | assumption | exact upd_same); (case hv_ => exact rfl)) | ((with_reducible refine' nw_Piece_stamp ?ho_ ?hv_ ?_); (case ho_ => first | assumption | exact upd_same); (case hv_ => exact rfl)) | ((with_reducible refine' st_Piece_start ?ho_ ?hv_ ?_); (case ho_ => first | assumption | exact upd_same); (case hv_ => exact Nat.le_of_ble_eq_true rfl)) | ((with_reducible refine' st_Piece_data ?ho_ ?hv_ ?_); (case ho_ => first | assumption | exact upd_same); (case hv_ => exact Nat.le_of_ble_eq_true rfl)) | ((with_reducible refine' st_Piece_syn ?ho_ ?hv_ ?_); (case ho_ => first | assumption | exact upd_same); (case hv_ => exact Nat.le_of_ble_eq_true rfl)) | ((with_reducible refine' st_Piece_fin ?ho_ ?hv_ ?_); (case ho_ => first | assumption | exact upd_same); (case hv_ => exact Nat.le_of_ble_eq_true rfl)) | ((with_reducible refine' st_Piece_reset ?ho_ ?hv_ ?_); (case ho_ => first | assumption | exact upd_same); (case hv_ => exact Nat.le_of_ble_eq_true rfl)) | ((with_reducible refine' st_Piece_ack ?ho_ ?hv_ ?_); (case ho_ => first | assumption | exact upd_same); (case hv_ => exact Nat.le_of_ble_eq_true rfl)) | ((with_reducible refine' st_Piece_window ?ho_ ?hv_ ?_); (case ho_ => first | assumption | exact upd_same); (case hv_ => exact Nat.le_of_ble_eq_true rfl)) | ((with_reducible refine' st_Piece_ranges ?ho_ ?hv_ ?_); (case ho_ => first | assumption | exact upd_same); (case hv_ => exact Nat.le_of_ble_eq_true rfl)) | ((with_reducible refine' st_Piece_marked ?ho_ ?hv_ ?_); (case ho_ => first | assumption | exact upd_same); (case hv_ => exact Nat.le_of_ble_eq_true rfl)) | ((with_reducible refine' st_Piece_cut ?ho_ ?hv_ ?_); (case ho_ => first | assumption | exact upd_same); (case hv_ => exact Nat.le_of_ble_eq_true rfl)) | ((with_reducible refine' st_Piece_stamp ?ho_ ?hv_ ?_); (case ho_ => first | assumption | exact upd_same); (case hv_ => exact Nat.le_of_ble_eq_true rfl)) | ((with_reducible refine' me_Piece_eq__ ?ho_ ?_); (case ho_ => first | assumption | exact upd_same)) | ((with_reducible refine' me_Piece_fields ?ho_ ?_); (case ho_ => first | assumption | exact upd_same)))
local macro_rules | `(tactic| walk_at "use") => `(tactic| first | ((with_reducible refine' dg_F_start ?ho_ ?hv_ ?_); (case ho_ => first | assumption | exact upd_same); (case hv_ => exact rfl)) | ((with_reducible refine' dg_F_data ?ho_ ?hv_ ?_); (case ho_ => first | assumption | exact upd_same); (case hv_ => exact rfl)) | ((with_reducible refine' dg_F_syn ?ho_ ?hv_ ?_); (case ho_ => first | assumption | exact upd_same); (case hv_ => exact rfl)) | ((with_reducible refine' dg_F_fin ?ho_ ?hv_ ?_); (case ho_ => first | assumption | exact upd_same); (case hv_ => exact rfl)) | ((with_reducible refine' dg_F_reset ?ho_ ?hv_ ?_); (case ho_ => first | assumption | exact upd_same); (case hv_ => exact rfl)) | ((with_reducible refine' dg_F_marked ?ho_ ?hv_ ?_); (case ho_ => first | assumption | exact upd_same); (case hv_ => exact rfl)) | ((with_reducible refine' dg_F_cut ?ho_ ?hv_ ?_); (case ho_ => first | assumption | exact upd_same); (case hv_ => exact rfl)) | ((with_reducible refine' dg_F_ack ?ho_ ?hv_ ?_); (case ho_ => first | assumption | exact upd_same); (case hv_ => exact rfl)) | ((with_reducible refine' dg_F_window ?ho_ ?hv_ ?_); (case ho_ => first | assumption | exact upd_same); (case hv_ => exact rfl)) | ((with_reducible refine' dg_F_ranges ?ho_ ?hv_ ?_); (case ho_ => first | assumption | exact upd_same); (case hv_ => exact rfl)) | ((with_reducible refine' dg_F_stamp ?ho_ ?hv_ ?_); (case ho_ => first | assumption | exact upd_same); (case hv_ => exact rfl)) | ((with_reducible refine' dn_F_start ?ho_ ?hv_ ?_); (case ho_ => first | assumption | exact upd_same); (case hv_ => exact rfl)) | ((with_reducible refine' dn_F_data ?ho_ ?hv_ ?_); (case ho_ => first | assumption | exact upd_same); (case hv_ => exact rfl)) | ((with_reducible refine' dn_F_syn ?ho_ ?hv_ ?_); (case ho_ => first | assumption | exact upd_same); (case hv_ => exact rfl)) | ((with_reducible refine' dn_F_fin ?ho_ ?hv_ ?_); (case ho_ => first | assumption | exact upd_same); (case hv_ => exact rfl)) | ((with_reducible refine' dn_F_reset ?ho_ ?hv_ ?_); (case ho_ => first | assumption | exact upd_same); (case hv_ => exact rfl)) | ((with_reducible refine' dn_F_marked ?ho_ ?hv_ ?_); (case ho_ => first | assumption | exact upd_same); (case hv_ => exact rfl)) | ((with_reducible refine' dn_F_cut ?ho_ ?hv_ ?_); (case ho_ => first | assumption | exact upd_same); (case hv_ => exact rfl)) | ((with_reducible refine' dn_F_ack ?ho_ ?hv_ ?_); (case ho_ => first | assumption | exact upd_same); (case hv_ => exact rfl)) | ((with_reducible refine' dn_F_window ?ho_ ?hv_ ?_); (case ho_ => first | assumption | exact upd_same); (case hv_ => exact rfl)) | ((with_reducible refine' dn_F_ranges ?ho_ ?hv_ ?_); (case ho_ => first | assumption | exact upd_same); (case hv_ => exact rfl)) | ((with_reducible refine' dn_F_stamp ?ho_ ?hv_ ?_); (case ho_ => first | assumption | exact upd_same); (case hv_ => exact rfl)) | ((with_reducible refine' dp_F_start ?ho_ ?hv_ ?_); (case ho_ => first | assumption | exact upd_same); (case hv_ => exact Nat.le_of_ble_eq_true rfl)) | ((with_reducible refine' dp_F_data ?ho_ ?hv_ ?_); (case ho_ => first | assumption | exact upd_same); (case hv_ => exact Nat.le_of_ble_eq_true rfl)) | ((with_reducible refine' dp_F_syn ?ho_ ?hv_ ?_); (case ho_ => first | assumption | exact upd_same); (case hv_ => exact Nat.le_of_ble_eq_true rfl)) | ((with_reducible refine' dp_F_fin ?ho_ ?hv_ ?_); (case ho_ => first | assumption | exact upd_same); (case hv_ => exact Nat.le_of_ble_eq_true rfl)) | ((with_reducible refine' dp_F_reset ?ho_ ?hv_ ?_); (case ho_ => first | assumption | exact upd_same); (case hv_ => exact Nat.le_of_ble_eq_true rfl)) | ((with_reducible refine' dp_F_marked ?ho_ ?hv_ ?_); (case ho_ => first | assumption | exact upd_same); (case hv_ => exact Nat.le_of_ble_eq_true rfl)) | ((with_reducible refine' dp_F_cut ?ho_ ?hv_ ?_); (case ho_ => first | assumption | exact upd_same); (case hv_ => exact Nat.le_of_ble_eq_true rfl)) | ((with_reducible refine' dp_F_ack ?ho_ ?hv_ ?_); (case ho_ => first | assumption | exact upd_same); (case hv_ => exact Nat.le_of_ble_eq_true rfl)) | ((with_reducible refine' dp_F_window ?ho_ ?hv_ ?_); (case ho_ => first | assumption | exact upd_same); (case hv_ => exact Nat.le_of_ble_eq_true rfl)) | ((with_reducible refine' dp_F_ranges ?ho_ ?hv_ ?_); (case ho_ => first | assumption | exact upd_same); (case hv_ => exact Nat.le_of_ble_eq_true rfl)) | ((with_reducible refine' dp_F_stamp ?ho_ ?hv_ ?_); (case ho_ => first | assumption | exact upd_same); (case hv_ => exact Nat.le_of_ble_eq_true rfl)))
local macro_rules | `(tactic| walk_at "use") => `(tactic| with_reducible first | refine g_dgetT ?_ | refine g_dputT ?_)
section
variable {P : Program} {w : World} {K : PySem.W.Frag} {mg : Str → Option Value} {base : Heap}
def sp_l_is_integer (K : PySem.W.Frag) : Sp := fun vs H Q _ => ∃ (n : Int), vs = [.int n] ∧ Q (.bl true) H
theorem u_isint {n : Int} {H Q E} (q : Q (.bl true) H) : sp_l_is_integer K ([.int n] ++ []) H Q E := ⟨n, rfl, q⟩
theorem ok_l_is_integer (T : Txt K mg) : FnOk P w K mg base CX0 1 T.f_l_is_integer T.d_l_is_integer ["actual"] (sp_l_is_integer K) := by
  refine T.F_l_is_integer.ok sc_l_is_integer (fun vs H Q E h => ?_) (fun cdv A outer s H vs Q E hr h => ?_)
  · obtain ⟨n, rfl, q⟩ := h
    rfl
  · obtain ⟨n, rfl, q⟩ := h
    have hu := hu_of hr
    refine ⟨_, (pss_one (ps_ret (pe_and (pe_callB call_isi (by rfl) T.n_isinstance (by decide +kernel) (pa_cons (pv 0) (pa_cons (pe_bltn (v := .ty "int") (by rfl) T.n_int (by decide +kernel) rfl) pa_nil))) (pe_one (pe_not (pe_callB call_isi (by rfl) T.n_isinstance (by decide +kernel) (pa_cons (pv 0) (pa_cons (pe_bltn (v := .ty "bool") (by rfl) T.n_bool (by decide +kernel) rfl) pa_nil)))))))), ?_⟩
    dsimp only [cxOf, Cx.nox, Cx.wish, L2.start, List.map, List.cons_append, List.nil_append, List.length_cons, List.length_nil, Nat.reduceAdd, Nat.reduceSub, Nat.zero_add, List.replicate_succ, List.replicate_zero]
    walk_at "go"
    exact q
local macro_rules | `(tactic| walk_at "use") => `(tactic| with_reducible refine u_isint ?_)

def sp_l_octets (K : PySem.W.Frag) : Sp := fun vs H Q _ => ∃ (a b : Addr) (ns : List Int), vs = [.ref a, .ref b] ∧ H a = some (.lst (ns.map V.int)) ∧ SqL K H b (ns.map V.int) ∧ ns.length ≤ 1000 ∧ Q (.bl true) H
theorem u_octets {a b : Addr} {ns : List Int} {H Q E} (h1 : H a = some (.lst (ns.map V.int))) (h2 : SqL K H b (ns.map V.int)) (h3 : ns.length ≤ 1000) (q : Q (.bl true) H) : sp_l_octets K ([.ref a, .ref b] ++ []) H Q E := ⟨a, b, ns, rfl, h1, h2, h3, q⟩
theorem ok_l_octets (T : Txt K mg) : FnOk P w K mg base CX0 2 T.f_l_octets T.d_l_octets ["actual", "expected"] (sp_l_octets K) := by
  refine T.F_l_octets.ok sc_l_octets (fun vs H Q E h => ?_) (fun cdv A outer s H vs Q E hr h => ?_)
  · obtain ⟨a, b, ns, rfl, h1, h2, h3, q⟩ := h
    rfl
  · obtain ⟨a, b, ns, rfl, h1, h2, h3, q⟩ := h
    have hu := hu_of hr
    refine ⟨_, (pss_cons (ps_if (PW.pt (pw_or (pt_not (pt_val (pe_callB call_isi (by rfl) T.n_isinstance (by decide +kernel) (pa_cons (pv 0) (pa_cons (pe_bltn (v := .ty "list") (by rfl) T.n_list (by decide +kernel) rfl) pa_nil))))) (pw_or1 (pt_cmpR op_ne (pe_callB call_len_seq (by rfl) T.n_len (by decide +kernel) (pa_cons (pv 0) pa_nil)) (pe_callB call_len_seq (by rfl) T.n_len (by decide +kernel) (pa_cons (pv 1) pa_nil)) (nomark _))))) (pss_one (ps_ret pe_bl)) pss_nil)
        (pss_cons (ps_for PassesOwn.never rfl (pi_range1 (by rfl) T.n_range (pa_cons (pe_callB call_len_seq (by rfl) T.n_len (by decide +kernel) (pa_cons (pv 1) pa_nil)) pa_nil)) (pg_name (i := 2) sc_l_octets.nd rfl (Or.inl rfl)) (pss_one (ps_if (PW.pt (pw_or (pt_not (pt_val (pe_call (ok_l_is_integer T) (hr.mono (by decide)) rfl T.m_l_is_integer T.F_l_is_integer.kp T.b_l_is_integer .nil pass0 (pa_cons (pe_ix ix_list (pv 0) (pv 2) (fun _ _ => rfl)) pa_nil)))) (pw_or1 (pt_cmpR op_ne (pe_ix ix_list (pv 0) (pv 2) (fun _ _ => rfl)) (pe_ix ix_list (pv 1) (pv 2) (fun _ _ => rfl)) (nomark _))))) (pss_one (ps_ret pe_bl)) pss_nil)))
        (pss_one (ps_ret pe_bl)))), ?_⟩
    dsimp only [cxOf, Cx.nox, Cx.wish, L2.start, List.map, List.cons_append, List.nil_append, List.length_cons, List.length_nil, Nat.reduceAdd, Nat.reduceSub, Nat.zero_add, List.replicate_succ, List.replicate_zero]
    walk_at "go"
    refine g_isiL h1 ?_
    walk_at "go"
    refine g_len (.inl (sl h1)) ?_
    walk_at "go"
    refine g_len (.inl h2) ?_
    walk_at "go"
    refine for_r (n := (ns.length : Int)) ns.length (by omega) (by omega) (by omega) (fun i σ H' => H' = H ∧ ∃ v, σ = [some (.ref a), some (.ref b), v]) ⟨rfl, none, rfl⟩ ?turn ?done ?ev
    case ev =>
      intro R r
      walk_at "go"
      refine g_len (.inl h2) ?_
      walk_at "go"
      rw [List.length_map]
      exact r
    case done =>
      rintro σ H' ⟨rfl, v, rfl⟩
      walk_at "go"
      exact q
    case turn =>
      rintro i σ H' hi ⟨rfl, v, rfl⟩
      obtain ⟨n, e, _⟩ := atI_ints (xs := ns) (i := (i : Int)) (by omega) (by omega)
      walk_at "go"
      refine g_ixL (sl h1) e ?_
      walk_at "go"
      refine g_ixL (sl h1) e ?_
      walk_at "go"
      refine g_ixL h2 e ?_
      walk_at "go"
      exact ⟨rfl, _, rfl⟩

def sp_l_number (K : PySem.W.Frag) : Sp := fun vs H Q _ => ∃ o : Option Int, vs = [oV o, oV o] ∧ Q (.bl true) H
theorem u_numO {o : Option Int} {H Q E} (q : Q (.bl true) H) : sp_l_number K ([oV o, oV o] ++ []) H Q E := ⟨o, rfl, q⟩
theorem u_numI {i : Int} {H Q E} (q : Q (.bl true) H) : sp_l_number K ([.int i, .int i] ++ []) H Q E := ⟨some i, rfl, q⟩
theorem ok_l_number (T : Txt K mg) : FnOk P w K mg base CX0 2 T.f_l_number T.d_l_number ["actual", "expected"] (sp_l_number K) := by
  refine T.F_l_number.ok sc_l_number (fun vs H Q E h => ?_) (fun cdv A outer s H vs Q E hr h => ?_)
  · obtain ⟨o, rfl, q⟩ := h
    rfl
  · obtain ⟨o, rfl, q⟩ := h
    have hu := hu_of hr
    refine ⟨_, (pss_cons (ps_if (pt_cmpR op_isN (pv 1) pe_non (nomark _)) (pss_one (ps_ret (pe_cmpR op_isN (pv 0) pe_non (nomark _)))) pss_nil)
        (pss_one (ps_ret (pe_and (pe_call (ok_l_is_integer T) (hr.mono (by decide)) rfl T.m_l_is_integer T.F_l_is_integer.kp T.b_l_is_integer .nil pass0 (pa_cons (pv 0) pa_nil)) (pe_one (pe_cmpR op_eq (pv 0) (pv 1) (nomark _))))))), ?_⟩
    dsimp only [cxOf, Cx.nox, Cx.wish, L2.start, List.map, List.cons_append, List.nil_append, List.length_cons, List.length_nil, Nat.reduceAdd, Nat.reduceSub, Nat.zero_add, List.replicate_succ, List.replicate_zero]
    cases o with
    | none =>
      simp only [oV]
      walk_at "go"
      exact q
    | some i =>
      simp only [oV]
      walk_at "go"
      rw [decide_eq_true rfl]
      exact q
def sp_l_flag (K : PySem.W.Frag) : Sp := fun vs H Q _ => ∃ b : Bool, vs = [.bl b, .bl b] ∧ Q (.bl true) H
theorem u_flag {b : Bool} {H Q E} (q : Q (.bl true) H) : sp_l_flag K ([.bl b, .bl b] ++ []) H Q E := ⟨b, rfl, q⟩
theorem ok_l_flag (T : Txt K mg) : FnOk P w K mg base CX0 1 T.f_l_flag T.d_l_flag ["actual", "expected"] (sp_l_flag K) := by
  refine T.F_l_flag.ok sc_l_flag (fun vs H Q E h => ?_) (fun cdv A outer s H vs Q E hr h => ?_)
  · obtain ⟨b, rfl, q⟩ := h
    rfl
  · obtain ⟨b, rfl, q⟩ := h
    have hu := hu_of hr
    refine ⟨_, (pss_cons (ps_if (pt_val (pv 1)) (pss_one (ps_ret (pe_cmpR op_isBl (pv 0) pe_bl (nomark _)))) pss_nil)
        (pss_one (ps_ret (pe_cmpR op_isBl (pv 0) pe_bl (nomark _))))), ?_⟩
    dsimp only [cxOf, Cx.nox, Cx.wish, L2.start, List.map, List.cons_append, List.nil_append, List.length_cons, List.length_nil, Nat.reduceAdd, Nat.reduceSub, Nat.zero_add, List.replicate_succ, List.replicate_zero]
    cases b with
    | true =>
      walk_at "go"
      exact q
    | false =>
      walk_at "go"
      exact q
def sp_l_pair (K : PySem.W.Frag) : Sp := fun vs H Q _ => ∃ (v v' : V) (o : Option (Int × Int)), vs = [v, v'] ∧ StV H v o ∧ StV H v' o ∧ Q (.bl true) H
theorem u_pair {v v' : V} {o : Option (Int × Int)} {H Q E} (h : StV H v o) (h' : StV H v' o) (q : Q (.bl true) H) : sp_l_pair K ([v, v'] ++ []) H Q E := ⟨v, v', o, rfl, h, h', q⟩
local macro_rules | `(tactic| walk_at "use") => `(tactic| with_reducible first | refine u_numO ?_ | refine u_numI ?_ | refine u_flag ?_)
theorem ok_l_pair (T : Txt K mg) : FnOk P w K mg base CX0 3 T.f_l_pair T.d_l_pair ["actual", "expected"] (sp_l_pair K) := by
  refine T.F_l_pair.ok sc_l_pair (fun vs H Q E h => ?_) (fun cdv A outer s H vs Q E hr h => ?_)
  · obtain ⟨v, v', o, rfl, h, h', q⟩ := h
    rfl
  · obtain ⟨v, v', o, rfl, h, h', q⟩ := h
    have hu := hu_of hr
    refine ⟨_, (pss_cons (ps_if (pt_cmpR op_isN (pv 1) pe_non (nomark _)) (pss_one (ps_ret (pe_cmpR op_isN (pv 0) pe_non (nomark _)))) pss_nil)
        (pss_cons (ps_if (PW.pt (pw_or (pt_not (pt_val (pe_callB call_isi (by rfl) T.n_isinstance (by decide +kernel) (pa_cons (pv 0) (pa_cons (pe_bltn (v := .ty "tuple") (by rfl) T.n_tuple (by decide +kernel) rfl) pa_nil))))) (pw_or1 (pt_cmpR op_ne (pe_callB call_len_seq (by rfl) T.n_len (by decide +kernel) (pa_cons (pv 0) pa_nil)) pe_int (nomark _))))) (pss_one (ps_ret pe_bl)) pss_nil)
        (pss_one (ps_ret (pe_and (pe_call (ok_l_number T) (hr.mono (by decide)) rfl T.m_l_number T.F_l_number.kp T.b_l_number .nil pass0 (pa_cons (pe_ix ix_tup (pv 0) pe_int (fun _ _ => rfl)) (pa_cons (pe_ix ix_tup (pv 1) pe_int (fun _ _ => rfl)) pa_nil))) (pe_one (pe_call (ok_l_number T) (hr.mono (by decide)) rfl T.m_l_number T.F_l_number.kp T.b_l_number .nil pass0 (pa_cons (pe_ix ix_tup (pv 0) pe_int (fun _ _ => rfl)) (pa_cons (pe_ix ix_tup (pv 1) pe_int (fun _ _ => rfl)) pa_nil))))))))), ?_⟩
    dsimp only [cxOf, Cx.nox, Cx.wish, L2.start, List.map, List.cons_append, List.nil_append, List.length_cons, List.length_nil, Nat.reduceAdd, Nat.reduceSub, Nat.zero_add, List.replicate_succ, List.replicate_zero]
    cases o with
    | none =>
      have e : v = .non := h
      have e' : v' = .non := h'
      subst e
      subst e'
      walk_at "go"
      exact q
    | some p =>
      obtain ⟨t, rfl, ht⟩ := h
      obtain ⟨t', rfl, ht'⟩ := h'
      walk_at "go"
      refine g_isiU ht ?_
      walk_at "go"
      refine g_len (.inr (st ht)) ?_
      walk_at "go"
      refine g_ixT (st ht) (at_of (j := 0) rfl rfl) ?_
      walk_at "go"
      refine g_ixT (st ht') (at_of (j := 0) rfl rfl) ?_
      walk_at "go"
      refine g_ixT (st ht) (at_of (j := 1) rfl rfl) ?_
      walk_at "go"
      refine g_ixT (st ht') (at_of (j := 1) rfl rfl) ?_
      walk_at "go"
      exact q
def sp_l_all_pairs (K : PySem.W.Frag) : Sp := fun vs H Q _ => ∃ (a b : Addr) (us ws : List V) (ps : List (Int × Int)), vs = [.ref a, .ref b] ∧ H a = some (.lst us) ∧ Prs H us ps ∧ H b = some (.lst ws) ∧ Prs H ws ps ∧ ps.length ≤ 1000 ∧ Q (.bl true) H
theorem u_allp {a b : Addr} {us ws : List V} {ps : List (Int × Int)} {H Q E} (h1 : H a = some (.lst us)) (h2 : Prs H us ps) (h3 : H b = some (.lst ws)) (h4 : Prs H ws ps) (hl : ps.length ≤ 1000) (q : Q (.bl true) H) : sp_l_all_pairs K ([.ref a, .ref b] ++ []) H Q E := ⟨a, b, us, ws, ps, rfl, h1, h2, h3, h4, hl, q⟩
theorem ok_l_all_pairs (T : Txt K mg) : FnOk P w K mg base CX0 4 T.f_l_all_pairs T.d_l_all_pairs ["actual", "expected"] (sp_l_all_pairs K) := by
  refine T.F_l_all_pairs.ok sc_l_all_pairs (fun vs H Q E h => ?_) (fun cdv A outer s H vs Q E hr h => ?_)
  · obtain ⟨a, b, us, ws, ps, rfl, h1, h2, h3, h4, hl, q⟩ := h
    rfl
  · obtain ⟨a, b, us, ws, ps, rfl, h1, h2, h3, h4, hl, q⟩ := h
    have hu := hu_of hr
    refine ⟨_, (pss_cons (ps_if (PW.pt (pw_or (pt_not (pt_val (pe_callB call_isi (by rfl) T.n_isinstance (by decide +kernel) (pa_cons (pv 0) (pa_cons (pe_bltn (v := .ty "list") (by rfl) T.n_list (by decide +kernel) rfl) pa_nil))))) (pw_or1 (pt_cmpR op_ne (pe_callB call_len_seq (by rfl) T.n_len (by decide +kernel) (pa_cons (pv 0) pa_nil)) (pe_callB call_len_seq (by rfl) T.n_len (by decide +kernel) (pa_cons (pv 1) pa_nil)) (nomark _))))) (pss_one (ps_ret pe_bl)) pss_nil)
        (pss_cons (ps_for PassesOwn.never rfl (pi_range1 (by rfl) T.n_range (pa_cons (pe_callB call_len_seq (by rfl) T.n_len (by decide +kernel) (pa_cons (pv 1) pa_nil)) pa_nil)) (pg_name (i := 2) sc_l_all_pairs.nd rfl (Or.inl rfl)) (pss_one (ps_if (pt_not (pt_val (pe_call (ok_l_pair T) (hr.mono (by decide)) rfl T.m_l_pair T.F_l_pair.kp T.b_l_pair .nil pass0 (pa_cons (pe_ix ix_list (pv 0) (pv 2) (fun _ _ => rfl)) (pa_cons (pe_ix ix_list (pv 1) (pv 2) (fun _ _ => rfl)) pa_nil))))) (pss_one (ps_ret pe_bl)) pss_nil)))
        (pss_one (ps_ret pe_bl)))), ?_⟩
    dsimp only [cxOf, Cx.nox, Cx.wish, L2.start, List.map, List.cons_append, List.nil_append, List.length_cons, List.length_nil, Nat.reduceAdd, Nat.reduceSub, Nat.zero_add, List.replicate_succ, List.replicate_zero]
    have l1 := h2.1
    have l2 := h4.1
    walk_at "go"
    refine g_isiL h1 ?_
    walk_at "go"
    refine g_len (.inl (sl h1)) ?_
    walk_at "go"
    refine g_len (.inl (sl h3)) ?_
    walk_at "go"
    refine for_r (n := (ws.length : Int)) ps.length (by omega) (by omega) (by omega) (fun i σ H' => H' = H ∧ ∃ v, σ = [some (.ref a), some (.ref b), v]) ⟨rfl, none, rfl⟩ ?turn ?done ?ev
    case ev =>
      intro R r
      walk_at "go"
      refine g_len (.inl (sl h3)) ?_
      walk_at "go"
      exact r
    case done =>
      rintro σ H' ⟨rfl, v, rfl⟩
      walk_at "go"
      exact q
    case turn =>
      rintro i σ H' hi ⟨rfl, v, rfl⟩
      obtain ⟨p, hp⟩ : ∃ p, ps[i]? = some p := ⟨ps[i]'hi, List.getElem?_eq_getElem _⟩
      obtain ⟨t, ht1, ht2⟩ := h2.2 i p hp
      obtain ⟨t', ht1', ht2'⟩ := h4.2 i p hp
      walk_at "go"
      refine g_ixL (sl h1) (at_of rfl ht1) ?_
      walk_at "go"
      refine g_ixL (sl h3) (at_of rfl ht1') ?_
      walk_at "go"
      refine u_pair (o := some p) ⟨t, rfl, ht2⟩ ⟨t', rfl, ht2'⟩ ?_
      walk_at "go"
      exact ⟨rfl, _, rfl⟩

theorem g_dgetV {H : Hp} {a : Addr} {kvs : List (Key × V)} {k : Str} {v : V} {A : V → Prop} (ho : H a = some (.dK kvs)) (hv : valV kvs (.inr k) = some v) (q : A v) : ∃ a' v', V.ref a = .ref a' ∧ DGet H a' (.str k) (some v') ∧ A v' := by
  have z := DGet.k (k := .inr k) ho
  rw [hv] at z
  exact ⟨a, v, rfl, z, q⟩
local macro_rules | `(tactic| walk_at "use") => `(tactic| with_reducible first | refine g_dgetT ?_ | refine g_dgetV (by assumption) (by assumption) ?_)
def sp_l_right (C : Addr) (K : PySem.W.Frag) : Sp := fun vs H Q _ => ∃ (p a d r da ra : Addr) (g : Pc), vs = [.ref p, .ref a] ∧ PcO C H p g d r ∧ PcL H a g da ra ∧ g.rs.length ≤ 1000 ∧ g.ds.length ≤ 1000 ∧ Q (.bl true) H
theorem u_right {C p a d r da ra : Addr} {g : Pc} {H Q E} (h1 : PcO C H p g d r) (h2 : PcL H a g da ra) (l1 : g.rs.length ≤ 1000) (l2 : g.ds.length ≤ 1000) (q : Q (.bl true) H) : sp_l_right C K ([.ref p, .ref a] ++ []) H Q E := ⟨p, a, d, r, da, ra, g, rfl, h1, h2, l1, l2, q⟩
theorem ok_l_right (T : Txt K mg) : FnOk P w K mg base CX0 5 T.f_l_right T.d_l_right ["piece", "fields"] (sp_l_right T.C_Piece K) := by
  refine T.F_l_right.ok sc_l_right (fun vs H Q E h => ?_) (fun cdv A outer s H vs Q E hr h => ?_)
  · obtain ⟨p, a, d, r, da, ra, g, rfl, hO, ⟨kvs, sv2, hdk, hk, hda, ⟨ws, hra, hP2⟩, hs2⟩, l1, l2, q⟩ := h
    rfl
  · obtain ⟨p, a, d, r, da, ra, g, rfl, hO, ⟨kvs, sv2, hdk, hk, hda, ⟨ws, hra, hP2⟩, hs2⟩, l1, l2, q⟩ := h
    have hu := hu_of hr
    refine ⟨_, (pss_cons (ps_if (PW.pt (pw_or (pt_not (pt_val (pe_callB call_isi (by rfl) T.n_isinstance (by decide +kernel) (pa_cons (pv 0) (pa_cons (pe_glob (v := .ref T.C_Piece) (by rfl) T.c_Piece rfl) pa_nil))))) (pw_or1 (pt_not (pt_val (pe_call (ok_l_number T) (hr.mono (by decide)) rfl T.m_l_number T.F_l_number.kp T.b_l_number .nil pass0 (pa_cons (pe_fld (pv 0) rfl) (pa_cons (pe_dget hu (pv 1) pe_str (fun _ _ => rfl)) pa_nil)))))))) (pss_one (ps_ret pe_bl)) pss_nil)
        (pss_cons (ps_if (PW.pt (pw_or (pt_not (pt_val (pe_call (ok_l_flag T) (hr.mono (by decide)) rfl T.m_l_flag T.F_l_flag.kp T.b_l_flag .nil pass0 (pa_cons (pe_fld (pv 0) rfl) (pa_cons (pe_dget hu (pv 1) pe_str (fun _ _ => rfl)) pa_nil))))) (pw_or1 (pt_not (pt_val (pe_call (ok_l_flag T) (hr.mono (by decide)) rfl T.m_l_flag T.F_l_flag.kp T.b_l_flag .nil pass0 (pa_cons (pe_fld (pv 0) rfl) (pa_cons (pe_dget hu (pv 1) pe_str (fun _ _ => rfl)) pa_nil)))))))) (pss_one (ps_ret pe_bl)) pss_nil)
        (pss_cons (ps_if (PW.pt (pw_or (pt_not (pt_val (pe_call (ok_l_flag T) (hr.mono (by decide)) rfl T.m_l_flag T.F_l_flag.kp T.b_l_flag .nil pass0 (pa_cons (pe_fld (pv 0) rfl) (pa_cons (pe_dget hu (pv 1) pe_str (fun _ _ => rfl)) pa_nil))))) (pw_or1 (pt_not (pt_val (pe_call (ok_l_flag T) (hr.mono (by decide)) rfl T.m_l_flag T.F_l_flag.kp T.b_l_flag .nil pass0 (pa_cons (pe_fld (pv 0) rfl) (pa_cons (pe_dget hu (pv 1) pe_str (fun _ _ => rfl)) pa_nil)))))))) (pss_one (ps_ret pe_bl)) pss_nil)
        (pss_cons (ps_if (PW.pt (pw_or (pt_not (pt_val (pe_call (ok_l_flag T) (hr.mono (by decide)) rfl T.m_l_flag T.F_l_flag.kp T.b_l_flag .nil pass0 (pa_cons (pe_fld (pv 0) rfl) (pa_cons (pe_dget hu (pv 1) pe_str (fun _ _ => rfl)) pa_nil))))) (pw_or1 (pt_not (pt_val (pe_call (ok_l_number T) (hr.mono (by decide)) rfl T.m_l_number T.F_l_number.kp T.b_l_number .nil pass0 (pa_cons (pe_fld (pv 0) rfl) (pa_cons (pe_dget hu (pv 1) pe_str (fun _ _ => rfl)) pa_nil)))))))) (pss_one (ps_ret pe_bl)) pss_nil)
        (pss_cons (ps_if (PW.pt (pw_or (pt_not (pt_val (pe_call (ok_l_number T) (hr.mono (by decide)) rfl T.m_l_number T.F_l_number.kp T.b_l_number .nil pass0 (pa_cons (pe_fld (pv 0) rfl) (pa_cons (pe_dget hu (pv 1) pe_str (fun _ _ => rfl)) pa_nil))))) (pw_or1 (pt_not (pt_val (pe_call (ok_l_pair T) (hr.mono (by decide)) rfl T.m_l_pair T.F_l_pair.kp T.b_l_pair .nil pass0 (pa_cons (pe_fld (pv 0) rfl) (pa_cons (pe_dget hu (pv 1) pe_str (fun _ _ => rfl)) pa_nil)))))))) (pss_one (ps_ret pe_bl)) pss_nil)
        (pss_cons (ps_if (PW.pt (pw_or (pt_not (pt_val (pe_call (ok_l_all_pairs T) (hr.mono (by decide)) rfl T.m_l_all_pairs T.F_l_all_pairs.kp T.b_l_all_pairs .nil pass0 (pa_cons (pe_fld (pv 0) rfl) (pa_cons (pe_dget hu (pv 1) pe_str (fun _ _ => rfl)) pa_nil))))) (pw_or1 (pt_not (pt_val (pe_call (ok_l_octets T) (hr.mono (by decide)) rfl T.m_l_octets T.F_l_octets.kp T.b_l_octets .nil pass0 (pa_cons (pe_fld (pv 0) rfl) (pa_cons (pe_dget hu (pv 1) pe_str (fun _ _ => rfl)) pa_nil)))))))) (pss_one (ps_ret pe_bl)) pss_nil)
        (pss_cons (ps_set (i := 2) sc_l_right.nd rfl (Or.inl rfl) (pe_op op_add (pe_op op_add (pe_callB call_len_seq (by rfl) T.n_len (by decide +kernel) (pa_cons (pe_dget hu (pv 1) pe_str (fun _ _ => rfl)) pa_nil)) (pe_callTy call_int1 (by rfl) T.n_int (by decide +kernel) (pa_cons (pe_dget hu (pv 1) pe_str (fun _ _ => rfl)) pa_nil))) (pe_callTy call_int1 (by rfl) T.n_int (by decide +kernel) (pa_cons (pe_dget hu (pv 1) pe_str (fun _ _ => rfl)) pa_nil))))
        (pss_cons (ps_if (PW.pt (pw_or (pt_not (pt_val (pe_call (ok_l_number T) (hr.mono (by decide)) rfl T.m_l_number T.F_l_number.kp T.b_l_number .nil pass0 (pa_cons (pe_prop (pv 0) T.k_Piece T.p_Piece_size (ok_Piece_size T) (hr.mono (by decide)) T.b_Piece_size .nil pass0 (by rfl)) (pa_cons (pv 2) pa_nil))))) (pw_or1 (pt_not (pt_val (pe_call (ok_l_number T) (hr.mono (by decide)) rfl T.m_l_number T.F_l_number.kp T.b_l_number .nil pass0 (pa_cons (pe_prop (pv 0) T.k_Piece T.p_Piece_stop (ok_Piece_stop T) (hr.mono (by decide)) T.b_Piece_stop .nil pass0 (by rfl)) (pa_cons (pe_op op_add (pe_dget hu (pv 1) pe_str (fun _ _ => rfl)) (pv 2)) pa_nil)))))))) (pss_one (ps_ret pe_bl)) pss_nil)
        (pss_one (ps_ret (pe_call (ok_l_number T) (hr.mono (by decide)) rfl T.m_l_number T.F_l_number.kp T.b_l_number .nil pass0 (pa_cons (pe_prop (pv 0) T.k_Piece T.p_Piece_first_octet (ok_Piece_first_octet T) (hr.mono (by decide)) T.b_Piece_first_octet .nil pass0 (by rfl)) (pa_cons (pe_op op_add (pe_dget hu (pv 1) pe_str (fun _ _ => rfl)) (pe_callTy call_int1 (by rfl) T.n_int (by decide +kernel) (pa_cons (pe_dget hu (pv 1) pe_str (fun _ _ => rfl)) pa_nil))) pa_nil))))))))))))), ?_⟩
    dsimp only [cxOf, Cx.nox, Cx.wish, L2.start, List.map, List.cons_append, List.nil_append, List.length_cons, List.length_nil, Nat.reduceAdd, Nat.reduceSub, Nat.zero_add, List.replicate_succ, List.replicate_zero]
    obtain ⟨dx, sv, ho, hd, ⟨us, hr1, hP1⟩, hs1⟩ := id hO
    obtain ⟨k1, k2, k3, k4, k5, k6, k7, k8, k9, k10, k11⟩ := hk
    unfold pcVs at ho
    have hda' : SqL K H da (g.ds.map V.int) := sl hda
    walk_at "go"
    refine g_isi (.own _) (.base (T.i_Piece ho)) (if_pos (beq_self_eq_true _)) ?_
    walk_at "go"
    refine u_pair hs1 hs2 ?_
    walk_at "go"
    refine u_allp hr1 hP1 hra hP2 l1 ?_
    walk_at "go"
    refine u_octets hd hda' l2 ?_
    walk_at "go"
    refine g_len (.inl hda') ?_
    walk_at "go"
    rw [List.length_map]
    refine ⟨p, dx, _, rfl, ho, p, d, r, g, rfl, hO, ?_⟩
    walk_at "go"
    refine u_numI (i := szI g) ?_
    walk_at "go"
    refine ⟨p, dx, _, rfl, ho, p, d, r, g, rfl, hO, ?_⟩
    walk_at "go"
    refine u_numI (i := g.start + szI g) ?_
    walk_at "go"
    refine ⟨p, dx, _, rfl, ho, p, d, r, g, rfl, hO, ?_⟩
    walk_at "go"
    exact q

end
end My
namespace My
open PySem PySem.Spec L2
local macro_rules | `(tactic| walk_at "side") => `(tactic| first | assumption | decide | omega | exact ⟨by decide, by decide⟩ | exact ⟨by decide, by decide, by decide⟩ | decide +kernel | exact cdivW (by decide +kernel) (by decide +kernel) | exact Or.inl ⟨by omega, by omega⟩ | exact Or.inr ⟨by omega, by omega⟩ | (simp only [List.length_map, List.length_cons, List.length_nil, List.length_append]; omega))
local macro_rules | `(tactic| walk_at "fact") => `(tactic| first | assumption | omega | with_reducible rfl)
local macro_rules | `(tactic| walk_at "use") => `(tactic| fail "use")
local macro_rules | `(tactic| walk_at "go1") => `(tactic| with_reducible first | refine g_seq ?_ | refine g_asg ?_ | refine g_ret ?_ | refine g_ifS ?_ | refine g_drop ?_ | refine g_star ?_ | refine g_nx ?_ | refine g_rt ?_ | refine g_bkE ?_ | refine g_ctE ?_ | refine g_next ?_ | refine g_retN ?_ | refine g_brk ?_ | refine g_ct ?_ | refine g_c ?_ | refine g_op ?_ | refine g_un ?_ | refine g_rI0 ?_ | refine g_rU ?_ | refine g_rEqI ?_ | refine g_rNeI ?_ | refine g_isN ?_ | refine g_rIsB ?_ | refine g_rNotB ?_ | refine g_test ?_ | refine g_B ?_ | refine g_bl ?_ | refine g_and ?_ | refine g_or ?_ | refine g_not ?_ | refine g_andV ?_ | refine g_orV ?_ | refine g_notV ?_ | refine g_if ?_ | refine g_chain ?_ | refine g_yes ?_ | refine g_lc ?_ | refine g_revR ?_ | refine g_rng1 ?_ | refine g_iList ?_ | refine g_nil ?_ | refine g_cons ?_ | refine g_tup ?_ | refine g_lst ?_ | refine g_call ?_ | refine g_CB ?_ | refine g_sl ?_ | refine g_noPart ?_ | refine g_part ?_ | refine g_intE ?_ | refine g_ref ?_ | refine g_fld ?_ | refine g_sfld ?_ | refine g_meth ?_ | refine g_make ?_ | refine g_prop ?_  | refine g_ipI ?_ | refine g_int1 ?_ | refine g_int1B ?_ | refine g_one ?_ | refine g_two ?_ | refine g_isiI ?_ | refine g_isiIB ?_ | refine g_isiB ?_ | refine g_BM ?_ | refine g_BM0 ?_ | refine g_sub ?_)
local macro_rules | `(tactic| walk_at "go") => `(tactic| repeat (first | walk_at "go1" | ((with_reducible refine' g_nameE ?sd_ ?_); case sd_ => dsimp only [List.set_cons_succ, List.set_cons_zero]) | ((with_reducible refine' g_var ?sd_ ?_); case sd_ => exact rfl) | ((with_reducible refine' g_aug ?sd_ ?_); case sd_ => exact rfl) | ((with_reducible refine' g_rI ?sd_ ?_); case sd_ => walk_at "side") | ((with_reducible refine' g_dT ?sd_ ?_); case sd_ => walk_at "fact") | ((with_reducible refine' g_dF ?sd_ ?_); case sd_ => walk_at "fact") | ((with_reducible refine' g_nT ?sd_ ?_); case sd_ => walk_at "fact") | ((with_reducible refine' g_nF ?sd_ ?_); case sd_ => walk_at "fact") | (with_reducible refine g_iT rfl ?_) | (with_reducible refine g_iF rfl ?_) | walk_at "use"))
local macro_rules | `(tactic| walk_at "use") => `(tactic| first | ((with_reducible refine' fd_Piece_start ?ho_ ?hv_ ?_); (case ho_ => first | assumption | exact upd_same); (case hv_ => exact rfl)) | ((with_reducible refine' fd_Piece_data ?ho_ ?hv_ ?_); (case ho_ => first | assumption | exact upd_same); (case hv_ => exact rfl)) | ((with_reducible refine' fd_Piece_syn ?ho_ ?hv_ ?_); (case ho_ => first | assumption | exact upd_same); (case hv_ => exact rfl)) | ((with_reducible refine' fd_Piece_fin ?ho_ ?hv_ ?_); (case ho_ => first | assumption | exact upd_same); (case hv_ => exact rfl)) | ((with_reducible refine' fd_Piece_reset ?ho_ ?hv_ ?_); (case ho_ => first | assumption | exact upd_same); (case hv_ => exact rfl)) | ((with_reducible refine' fd_Piece_ack ?ho_ ?hv_ ?_); (case ho_ => first | assumption | exact upd_same); (case hv_ => exact rfl)) | ((with_reducible refine' fd_Piece_window ?ho_ ?hv_ ?_); (case ho_ => first | assumption | exact upd_same); (case hv_ => exact rfl)) | ((with_reducible refine' fd_Piece_ranges ?ho_ ?hv_ ?_); (case ho_ => first | assumption | exact upd_same); (case hv_ => exact rfl)) | ((with_reducible refine' fd_Piece_marked ?ho_ ?hv_ ?_); (case ho_ => first | assumption | exact upd_same); (case hv_ => exact rfl)) | ((with_reducible refine' fd_Piece_cut ?ho_ ?hv_ ?_); (case ho_ => first | assumption | exact upd_same); (case hv_ => exact rfl)) | ((with_reducible refine' fd_Piece_stamp ?ho_ ?hv_ ?_); (case ho_ => first | assumption | exact upd_same); (case hv_ => exact rfl)) | ((with_reducible refine' nw_Piece_start ?ho_ ?hv_ ?_); (case ho_ => first | assumption | exact upd_same); (case hv_ => exact rfl)) | ((with_reducible refine' nw_Piece_data ?ho_ ?hv_ ?_); (case ho_ => first | assumption | exact upd_same); (case hv_ => exact rfl)) | ((with_reducible refine' nw_Piece_syn ?ho_ ?hv_ ?_); (case ho_ => first | assumption | exact upd_same); (case hv_ => exact rfl)) | ((with_reducible refine' nw_Piece_fin ?ho_ ?hv_ ?_); (case ho_ => first | assumption | exact upd_same); (case hv_ => exact rfl)) | ((with_reducible refine' nw_Piece_reset ?ho_ ?hv_ ?_); (case ho_ => first | assumption | exact upd_same); (case hv_ => exact rfl)) | ((with_reducible refine' nw_Piece_ack ?ho_ ?hv_ ?_); (case ho_ => first | assumption | exact upd_same); (case hv_ => exact rfl)) | ((with_reducible refine' nw_Piece_window ?ho_ ?hv_ ?_); (case ho_ => first | assumption | exact upd_same); (case hv_ => exact rfl)) | ((with_reducible refine' nw_Piece_ranges ?ho_ ?hv_ ?_); (case ho_ => first | assumption | exact upd_same); (case hv_ => exact rfl)) | ((with_reducible refine' nw_Piece_marked ?ho_ ?hv_ ?_); (case ho_ => first | assumption | exact upd_same); (case hv_ => exact rfl)) | ((with_reducible refine' nw_Piece_cut ?ho_ ?hv_ ?_); (case ho_ => first | assumption | exact upd_same); (case hv_ => exact rfl)) | ((with_reducible refine' nw_Piece_stamp ?ho_ ?hv_ ?_); (case ho_ => first | assumption | exact upd_same); (case hv_ => exact rfl)) | ((with_reducible refine' st_Piece_start ?ho_ ?hv_ ?_); (case ho_ => first | assumption | exact upd_same); (case hv_ => exact Nat.le_of_ble_eq_true rfl)) | ((with_reducible refine' st_Piece_data ?ho_ ?hv_ ?_); (case ho_ => first | assumption | exact upd_same); (case hv_ => exact Nat.le_of_ble_eq_true rfl)) | ((with_reducible refine' st_Piece_syn ?ho_ ?hv_ ?_); (case ho_ => first | assumption | exact upd_same); (case hv_ => exact Nat.le_of_ble_eq_true rfl)) | ((with_reducible refine' st_Piece_fin ?ho_ ?hv_ ?_); (case ho_ => first | assumption | exact upd_same); (case hv_ => exact Nat.le_of_ble_eq_true rfl)) | ((with_reducible refine' st_Piece_reset ?ho_ ?hv_ ?_); (case ho_ => first | assumption | exact upd_same); (case hv_ => exact Nat.le_of_ble_eq_true rfl)) | ((with_reducible refine' st_Piece_ack ?ho_ ?hv_ ?_); (case ho_ => first | assumption | exact upd_same); (case hv_ => exact Nat.le_of_ble_eq_true rfl)) | ((with_reducible refine' st_Piece_window ?ho_ ?hv_ ?_); (case ho_ => first | assumption | exact upd_same); (case hv_ => exact Nat.le_of_ble_eq_true rfl)) | ((with_reducible refine' st_Piece_ranges ?ho_ ?hv_ ?_); (case ho_ => first | assumption | exact upd_same); (case hv_ => exact Nat.le_of_ble_eq_true rfl)) | ((with_reducible refine' st_Piece_marked ?ho_ ?hv_ ?_); (case ho_ => first | assumption | exact upd_same); (case hv_ => exact Nat.le_of_ble_eq_true rfl)) | ((with_reducible refine' st_Piece_cut ?ho_ ?hv_ ?_); (case ho_ => first | assumption | exact upd_same); (case hv_ => exact Nat.le_of_ble_eq_true rfl)) | ((with_reducible refine' st_Piece_stamp ?ho_ ?hv_ ?_); (case ho_ => first | assumption | exact upd_same); (case hv_ => exact Nat.le_of_ble_eq_true rfl)) | ((with_reducible refine' me_Piece_eq__ ?ho_ ?_); (case ho_ => first | assumption | exact upd_same)) | ((with_reducible refine' me_Piece_fields ?ho_ ?_); (case ho_ => first | assumption | exact upd_same)))
local macro_rules | `(tactic| walk_at "use") => `(tactic| first | ((with_reducible refine' dg_F_start ?ho_ ?hv_ ?_); (case ho_ => first | assumption | exact upd_same); (case hv_ => exact rfl)) | ((with_reducible refine' dg_F_data ?ho_ ?hv_ ?_); (case ho_ => first | assumption | exact upd_same); (case hv_ => exact rfl)) | ((with_reducible refine' dg_F_syn ?ho_ ?hv_ ?_); (case ho_ => first | assumption | exact upd_same); (case hv_ => exact rfl)) | ((with_reducible refine' dg_F_fin ?ho_ ?hv_ ?_); (case ho_ => first | assumption | exact upd_same); (case hv_ => exact rfl)) | ((with_reducible refine' dg_F_reset ?ho_ ?hv_ ?_); (case ho_ => first | assumption | exact upd_same); (case hv_ => exact rfl)) | ((with_reducible refine' dg_F_marked ?ho_ ?hv_ ?_); (case ho_ => first | assumption | exact upd_same); (case hv_ => exact rfl)) | ((with_reducible refine' dg_F_cut ?ho_ ?hv_ ?_); (case ho_ => first | assumption | exact upd_same); (case hv_ => exact rfl)) | ((with_reducible refine' dg_F_ack ?ho_ ?hv_ ?_); (case ho_ => first | assumption | exact upd_same); (case hv_ => exact rfl)) | ((with_reducible refine' dg_F_window ?ho_ ?hv_ ?_); (case ho_ => first | assumption | exact upd_same); (case hv_ => exact rfl)) | ((with_reducible refine' dg_F_ranges ?ho_ ?hv_ ?_); (case ho_ => first | assumption | exact upd_same); (case hv_ => exact rfl)) | ((with_reducible refine' dg_F_stamp ?ho_ ?hv_ ?_); (case ho_ => first | assumption | exact upd_same); (case hv_ => exact rfl)) | ((with_reducible refine' dn_F_start ?ho_ ?hv_ ?_); (case ho_ => first | assumption | exact upd_same); (case hv_ => exact rfl)) | ((with_reducible refine' dn_F_data ?ho_ ?hv_ ?_); (case ho_ => first | assumption | exact upd_same); (case hv_ => exact rfl)) | ((with_reducible refine' dn_F_syn ?ho_ ?hv_ ?_); (case ho_ => first | assumption | exact upd_same); (case hv_ => exact rfl)) | ((with_reducible refine' dn_F_fin ?ho_ ?hv_ ?_); (case ho_ => first | assumption | exact upd_same); (case hv_ => exact rfl)) | ((with_reducible refine' dn_F_reset ?ho_ ?hv_ ?_); (case ho_ => first | assumption | exact upd_same); (case hv_ => exact rfl)) | ((with_reducible refine' dn_F_marked ?ho_ ?hv_ ?_); (case ho_ => first | assumption | exact upd_same); (case hv_ => exact rfl)) | ((with_reducible refine' dn_F_cut ?ho_ ?hv_ ?_); (case ho_ => first | assumption | exact upd_same); (case hv_ => exact rfl)) | ((with_reducible refine' dn_F_ack ?ho_ ?hv_ ?_); (case ho_ => first | assumption | exact upd_same); (case hv_ => exact rfl)) | ((with_reducible refine' dn_F_window ?ho_ ?hv_ ?_); (case ho_ => first | assumption | exact upd_same); (case hv_ => exact rfl)) | ((with_reducible refine' dn_F_ranges ?ho_ ?hv_ ?_); (case ho_ => first | assumption | exact upd_same); (case hv_ => exact rfl)) | ((with_reducible refine' dn_F_stamp ?ho_ ?hv_ ?_); (case ho_ => first | assumption | exact upd_same); (case hv_ => exact rfl)) | ((with_reducible refine' dp_F_start ?ho_ ?hv_ ?_); (case ho_ => first | assumption | exact upd_same); (case hv_ => exact Nat.le_of_ble_eq_true rfl)) | ((with_reducible refine' dp_F_data ?ho_ ?hv_ ?_); (case ho_ => first | assumption | exact upd_same); (case hv_ => exact Nat.le_of_ble_eq_true rfl)) | ((with_reducible refine' dp_F_syn ?ho_ ?hv_ ?_); (case ho_ => first | assumption | exact upd_same); (case hv_ => exact Nat.le_of_ble_eq_true rfl)) | ((with_reducible refine' dp_F_fin ?ho_ ?hv_ ?_); (case ho_ => first | assumption | exact upd_same); (case hv_ => exact Nat.le_of_ble_eq_true rfl)) | ((with_reducible refine' dp_F_reset ?ho_ ?hv_ ?_); (case ho_ => first | assumption | exact upd_same); (case hv_ => exact Nat.le_of_ble_eq_true rfl)) | ((with_reducible refine' dp_F_marked ?ho_ ?hv_ ?_); (case ho_ => first | assumption | exact upd_same); (case hv_ => exact Nat.le_of_ble_eq_true rfl)) | ((with_reducible refine' dp_F_cut ?ho_ ?hv_ ?_); (case ho_ => first | assumption | exact upd_same); (case hv_ => exact Nat.le_of_ble_eq_true rfl)) | ((with_reducible refine' dp_F_ack ?ho_ ?hv_ ?_); (case ho_ => first | assumption | exact upd_same); (case hv_ => exact Nat.le_of_ble_eq_true rfl)) | ((with_reducible refine' dp_F_window ?ho_ ?hv_ ?_); (case ho_ => first | assumption | exact upd_same); (case hv_ => exact Nat.le_of_ble_eq_true rfl)) | ((with_reducible refine' dp_F_ranges ?ho_ ?hv_ ?_); (case ho_ => first | assumption | exact upd_same); (case hv_ => exact Nat.le_of_ble_eq_true rfl)) | ((with_reducible refine' dp_F_stamp ?ho_ ?hv_ ?_); (case ho_ => first | assumption | exact upd_same); (case hv_ => exact Nat.le_of_ble_eq_true rfl)))
local macro_rules | `(tactic| walk_at "use") => `(tactic| with_reducible first | refine g_dgetT ?_ | refine g_dputT ?_)
section
variable {P : Program} {w : World} {K : PySem.W.Frag} {mg : Str → Option Value} {base : Heap}
def sp_l_cell (K : PySem.W.Frag) : Sp := fun vs H Q _ => ∃ (a : Addr) (ns : List Int) (k : Int), vs = [.ref a, .int k] ∧ SqL K H a (ns.map V.int) ∧ 0 ≤ k ∧ Q (.int (cell ns k)) H
theorem u_cell {a : Addr} {ns : List Int} {k : Int} {H Q E} (h : SqL K H a (ns.map V.int)) (h0 : 0 ≤ k) (q : Q (.int (cell ns k)) H) : sp_l_cell K ([.ref a, .int k] ++ []) H Q E := ⟨a, ns, k, rfl, h, h0, q⟩
theorem ok_l_cell (T : Txt K mg) : FnOk P w K mg base CX0 1 T.f_l_cell T.d_l_cell ["script", "k"] (sp_l_cell K) := by
  refine T.F_l_cell.ok sc_l_cell (fun vs H Q E h => ?_) (fun cdv A outer s H vs Q E hr h => ?_)
  · obtain ⟨a, ns, k, rfl, hS, h0, q⟩ := h
    rfl
  · obtain ⟨a, ns, k, rfl, hS, h0, q⟩ := h
    have hu := hu_of hr
    refine ⟨_, (pss_cons (ps_if (pt_cmpR op_lt (pv 1) (pe_callB call_len_seq (by rfl) T.n_len (by decide +kernel) (pa_cons (pv 0) pa_nil)) (nomark _)) (pss_one (ps_ret (pe_ix ix_list (pv 0) (pv 1) (fun _ _ => rfl)))) pss_nil)
        (pss_one (ps_ret pe_int))), ?_⟩
    dsimp only [cxOf, Cx.nox, Cx.wish, L2.start, List.map, List.cons_append, List.nil_append, List.length_cons, List.length_nil, Nat.reduceAdd, Nat.reduceSub, Nat.zero_add, List.replicate_succ, List.replicate_zero]
    walk_at "go"
    refine g_len (.inl hS) ?_
    walk_at "go"
    rw [List.length_map]
    refine g_ite (fun h => ?_) (fun h => ?_)
    · walk_at "go"
      refine g_ixL hS (atI_map h0 h) ?_
      exact q
    · walk_at "go"
      rw [cell_out h] at q
      exact q
local macro_rules | `(tactic| walk_at "use") => `(tactic| with_reducible refine u_cell (by assumption) (by decide) ?_)

def sp_l_row (K : PySem.W.Frag) : Sp := fun vs H Q _ => ∃ (c n b : Int), vs = [.int c, .int n, .int b] ∧ (0 ≤ n ∧ n ≤ 1000 ∧ 0 < b ∧ b ≤ 2 ^ 64) ∧
  ∀ (p : Addr) (row : List Int) H', (row.length : Int) = n → (∀ x ∈ row, 0 ≤ x ∧ x < b) → H p = none → Same H H' → H' p = some (.lst (row.map V.int)) → Q (.ref p) H'
theorem u_row {c n b : Int} {H Q E} (h0 : 0 ≤ n ∧ n ≤ 1000 ∧ 0 < b ∧ b ≤ 2 ^ 64)
    (q : ∀ (p : Addr) (row : List Int) H', (row.length : Int) = n → (∀ x ∈ row, 0 ≤ x ∧ x < b) → H p = none → Same H H' → H' p = some (.lst (row.map V.int)) → Q (.ref p) H') : sp_l_row K ([.int c, .int n, .int b] ++ []) H Q E := ⟨c, n, b, rfl, h0, q⟩
theorem ok_l_row (T : Txt K mg) : FnOk P w K mg base CX0 1 T.f_l_row T.d_l_row ["cell", "size", "base"] (sp_l_row K) := by
  refine T.F_l_row.ok sc_l_row (fun vs H Q E h => ?_) (fun cdv A outer s H vs Q E hr h => ?_)
  · obtain ⟨c, n, b, rfl, h0, q⟩ := h
    rfl
  · obtain ⟨c, n, b, rfl, h0, q⟩ := h
    have hu := hu_of hr
    refine ⟨_, (pss_cons (ps_set (i := 3) sc_l_row.nd rfl (Or.inl rfl) (pe_lst pa_nil))
        (pss_cons (ps_set (i := 4) sc_l_row.nd rfl (Or.inl rfl) (pv 0))
        (pss_cons (ps_for PassesOwn.never rfl (pi_range1 (by rfl) T.n_range (pa_cons (pv 1) pa_nil)) (pg_name (i := 5) sc_l_row.nd rfl (Or.inl rfl)) (pss_one (ps_if (pt_cmpR op_ge (pv 0) (pe_op op_pow pe_int pe_int) (nomark _)) (pss_cons (ps_expr (pe_bm PySem.F.plainAttrs_list PySem.F.slot_list_append PySem.F.type_list_append mt_append (pv 3) (pa_cons (pe_op op_mod (pe_callTy call_int1 (by rfl) T.n_int (by decide +kernel) (pa_cons (pv 4) pa_nil)) (pv 2)) pa_nil)))
        (pss_one (ps_set (i := 4) sc_l_row.nd rfl (Or.inl rfl) (pe_op op_fdivW (pv 4) (pv 2))))) (pss_cons (ps_set (i := 6) sc_l_row.nd rfl (Or.inl rfl) (pe_op op_mod (pe_op op_add (pe_op op_mul (pe_op op_mod (pe_callTy call_int1 (by rfl) T.n_int (by decide +kernel) (pa_cons (pv 0) pa_nil)) pe_int) pe_int) (pe_op op_mul (pv 5) pe_int)) pe_int))
        (pss_cons (ps_set (i := 6) sc_l_row.nd rfl (Or.inl rfl) (pe_op op_mod (pe_op op_add (pe_op op_add (pe_op op_mul (pv 6) pe_int) (pe_op op_mul (pv 5) pe_int)) pe_int) pe_int))
        (pss_one (ps_expr (pe_bm PySem.F.plainAttrs_list PySem.F.slot_list_append PySem.F.type_list_append mt_append (pv 3) (pa_cons (pe_op op_mod (pe_op op_fdiv (pv 6) pe_int) (pv 2)) pa_nil)))))))))
        (pss_one (ps_ret (pv 3)))))), ?_⟩
    dsimp only [cxOf, Cx.nox, Cx.wish, L2.start, List.map, List.cons_append, List.nil_append, List.length_cons, List.length_nil, Nat.reduceAdd, Nat.reduceSub, Nat.zero_add, List.replicate_succ, List.replicate_zero]
    walk_at "go"
    refine ⟨by decide, fun p hp => ?_⟩
    walk_at "go"
    refine for_r (n := n) n.toNat rfl (by omega) (by omega) (fun i σ H' => ∃ (row : List Int) (num : Int) (v5 v6 : Option V), σ = [some (.int c), some (.int n), some (.int b), some (.ref p), some (.int num), v5, v6] ∧ row.length = i ∧ (∀ x ∈ row, 0 ≤ x ∧ x < b) ∧ But p H H' ∧ H' p = some (.lst (row.map V.int)))
      ⟨[], c, none, none, rfl, rfl, (fun x h => by cases h), But.refl.upd, upd_same⟩ ?turn ?done ?ev
    case ev =>
      intro R r
      walk_at "go"
      exact r
    case done =>
      rintro σ H' ⟨row, num, v5, v6, rfl, hl, hb, bu, e⟩
      walk_at "go"
      exact q p row H' (by omega) hb hp (bu.same hp) e
    case turn =>
      rintro i σ H' hi ⟨row, num, v5, v6, rfl, hl, hb, bu, e⟩
      have hlen : (row.map V.int).length < sizeLine := by
        rw [List.length_map]
        exact szl (by omega)
      walk_at "go"
      refine g_ite (fun h => ?_) (fun h => ?_)
      · walk_at "go"
        refine ⟨ty_l e, ?_⟩
        walk_at "go"
        refine g_append e hlen ?_
        walk_at "go"
        refine g_rI (cdivW (by omega) (Int.lt_of_le_of_lt h0.2.2.2 (by decide +kernel))) ?_
        walk_at "go"
        refine ⟨row ++ [num % b], num / b, _, _, rfl, by rw [List.length_append, hl]; rfl, fun x hx => ?_, bu.upd, by rw [upd_same, List.map_append]; rfl⟩
        rcases List.mem_append.mp hx with hx | hx
        · exact hb x hx
        · rw [List.mem_singleton.mp hx]
          exact ⟨Int.emod_nonneg _ (by omega), Int.emod_lt_of_pos _ (by omega)⟩
      · walk_at "go"
        refine ⟨ty_l e, ?_⟩
        walk_at "go"
        refine g_append e hlen ?_
        walk_at "go"
        refine ⟨row ++ [_ % b], num, _, _, rfl, by rw [List.length_append, hl]; rfl, fun x hx => ?_, bu.upd, by rw [upd_same, List.map_append]; rfl⟩
        rcases List.mem_append.mp hx with hx | hx
        · exact hb x hx
        · rw [List.mem_singleton.mp hx]
          exact ⟨Int.emod_nonneg _ (by omega), Int.emod_lt_of_pos _ (by omega)⟩

/-- a comprehension of pairs, under way -/
def LcPP (H1 : Hp) (D : Addr) (ps : List (Int × Int)) (i : Nat) (H : Hp) : Prop := Same H1 H ∧ ∃ us, H D = some (.lst us) ∧ Prs H us (ps.take i)
theorem lc_pair {H1 H3 : Hp} {D t : Addr} {ps : List (Int × Int)} {i : Nat} {p : Int × Int} (hD : H1 D = none) (h : LcPP H1 D ps i H3) (ht : H3 t = none) (hp : ps[i]? = some p) (hz : ps.length ≤ 100000) :
    ∃ acc, (upd H3 t (.tup [V.int p.1, V.int p.2])) D = some (.lst acc) ∧ acc.length < sizeLine ∧ LcPP H1 D ps (i + 1) (upd (upd H3 t (.tup [V.int p.1, V.int p.2])) D (.lst (acc ++ [V.ref t]))) := by
  obtain ⟨sm, us, e, hP⟩ := h
  have ntD : t ≠ D := fun z => by rw [z, e] at ht; cases ht
  have bu : But D H3 (upd (upd H3 t (.tup [V.int p.1, V.int p.2])) D (.lst (us ++ [V.ref t]))) := (But.of (same_upd ht)).upd
  have et : (upd (upd H3 t (.tup [V.int p.1, V.int p.2])) D (.lst (us ++ [V.ref t]))) t = some (tupP p) := by rw [upd_ne ntD, upd_same]; rfl
  refine ⟨us, upd_keep ht e, ?_, ?_, us ++ [V.ref t], upd_same, ?_⟩
  · rw [hP.1, List.length_take]
    obtain ⟨h, _⟩ := List.getElem?_eq_some_iff.mp hp
    exact szl (by omega)
  · exact ((But.of sm).trans bu).same hD
  · rw [List.take_add_one, hp]
    exact (hP.but bu e).app (Prs.one et)

theorem g_disp {trs : List (TE × TE)} {σ : St} {H : Hp} {Q : VK} (h : ∀ p, H p = none → tPairs trs σ (upd H p (.dK [])) fun ps H2 => H2 p = some (.dK []) ∧ ∃ kvs : List (Key × V), ps = kvs.map (fun kv => (kV kv.1, kv.2)) ∧ kvs.length ≤ 15 ∧ Q (.ref p) (upd H2 p (.dK (mergeK [] kvs)))) : tDisp trs σ H Q := h
theorem g_pcons {tk tv : TE} {r : List (TE × TE)} {σ : St} {H : Hp} {Q : List (V × V) → Hp → Prop} (h : tk σ H fun x H1 => tv σ H1 fun y H2 => tPairs r σ H2 fun ps H3 => Q ((x, y) :: ps) H3) : tPairs ((tk, tv) :: r) σ H Q := h
theorem g_pnil {σ : St} {H : Hp} {Q : List (V × V) → Hp → Prop} (q : Q [] H) : tPairs [] σ H Q := q
local macro_rules | `(tactic| walk_at "use") => `(tactic| with_reducible first | refine g_disp ?_ | refine g_pcons ?_ | refine g_pnil ?_)
local macro_rules | `(tactic| walk_at "use") => `(tactic| with_reducible refine u_cell (by assumption) (by omega) ?_)

def sp_l_fields (K : PySem.W.Frag) : Sp := fun vs H Q _ => ∃ (a : Addr) (ns : List Int), vs = [.ref a] ∧ SqL K H a (ns.map V.int) ∧ ∀ p da ra g H', g.ds.length ≤ 30 → g.rs.length ≤ 10 → H p = none → H da = none → H ra = none → da ≠ ra → Same H H' → PcD H' p g da ra → Q (.ref p) H'
theorem u_lfields {a : Addr} {ns : List Int} {H Q E} (h : SqL K H a (ns.map V.int)) (q : ∀ p da ra g H', g.ds.length ≤ 30 → g.rs.length ≤ 10 → H p = none → H da = none → H ra = none → da ≠ ra → Same H H' → PcD H' p g da ra → Q (.ref p) H') : sp_l_fields K ([.ref a] ++ []) H Q E := ⟨a, ns, rfl, h, q⟩
theorem ok_l_fields (T : Txt K mg) : FnOk P w K mg base CX0 2 T.f_l_fields T.d_l_fields ["script"] (sp_l_fields K) := by
  refine T.F_l_fields.ok sc_l_fields (fun vs H Q E h => ?_) (fun cdv A outer s H vs Q E hr h => ?_)
  · obtain ⟨a, ns, rfl, hS, q⟩ := h
    rfl
  · obtain ⟨a, ns, rfl, hS, q⟩ := h
    have hu := hu_of hr
    refine ⟨_, (pss_cons (ps_setLc (i := 1) (own := [("k", 4)]) (g := gName 4) (tt := tYes) rfl sc_l_fields.nd rfl rfl (sw_true rfl rfl rfl (by decide +kernel)) (pi_range1 (by rfl) T.n_range (pa_cons pe_int pa_nil)) (blkOk_by (N := ["script", "cells", "fields", "row", "k"]) (sc := defScope s_l_fields) (by decide +kernel)) (fun _ _ _ _ _ => (pg_name (i := 4) sc_l_fields.nd rfl (Or.inl rfl))) (fun _ _ _ _ _ => pts_nil) (fun _ _ _ _ _ => (pe_call (ok_l_cell T) (hr.mono (by decide)) rfl T.m_l_cell T.F_l_cell.kp T.b_l_cell .nil pass0 (pa_cons (pv 0) (pa_cons (pv 4) pa_nil)))))
        (pss_cons (ps_set (i := 2) sc_l_fields.nd rfl (Or.inl rfl) (pe_disp (pps_cons pe_str (pe_op op_mod (pe_callTy call_int1 (by rfl) T.n_int (by decide +kernel) (pa_cons (pe_ix ix_list (pv 1) pe_int (fun _ _ => rfl)) pa_nil)) (pe_op op_add (pe_op op_pow pe_int pe_int) pe_int)) (pps_cons pe_str (pe_call (ok_l_row T) (hr.mono (by decide)) rfl T.m_l_row T.F_l_row.kp T.b_l_row .nil pass0 (pa_cons (pe_ix ix_list (pv 1) pe_int (fun _ _ => rfl)) (pa_cons (pe_op op_mod (pe_callTy call_int1 (by rfl) T.n_int (by decide +kernel) (pa_cons (pe_ix ix_list (pv 1) pe_int (fun _ _ => rfl)) pa_nil)) pe_int) (pa_cons pe_int pa_nil)))) pps_nil)) (by rfl) (by rfl) (fun z => by cases z) (by decide)))
        (pss_cons (ps_dput hu (pv 2) pe_str (pe_cmpR op_eq (pe_op op_mod (pe_callTy call_int1 (by rfl) T.n_int (by decide +kernel) (pa_cons (pe_ix ix_list (pv 1) pe_int (fun _ _ => rfl)) pa_nil)) pe_int) pe_int (nomark _)) rfl)
        (pss_cons (ps_dput hu (pv 2) pe_str (pe_cmpR op_eq (pe_op op_mod (pe_op op_fdiv (pe_callTy call_int1 (by rfl) T.n_int (by decide +kernel) (pa_cons (pe_ix ix_list (pv 1) pe_int (fun _ _ => rfl)) pa_nil)) pe_int) pe_int) pe_int (nomark _)) rfl)
        (pss_cons (ps_dput hu (pv 2) pe_str (pe_cmpR op_eq (pe_op op_mod (pe_op op_fdiv (pe_callTy call_int1 (by rfl) T.n_int (by decide +kernel) (pa_cons (pe_ix ix_list (pv 1) pe_int (fun _ _ => rfl)) pa_nil)) pe_int) pe_int) pe_int (nomark _)) rfl)
        (pss_cons (ps_dput hu (pv 2) pe_str (pe_cmpR op_eq (pe_op op_mod (pe_op op_fdiv (pe_callTy call_int1 (by rfl) T.n_int (by decide +kernel) (pa_cons (pe_ix ix_list (pv 1) pe_int (fun _ _ => rfl)) pa_nil)) pe_int) pe_int) pe_int (nomark _)) rfl)
        (pss_cons (ps_dput hu (pv 2) pe_str (pe_cmpR op_eq (pe_op op_mod (pe_op op_fdiv (pe_callTy call_int1 (by rfl) T.n_int (by decide +kernel) (pa_cons (pe_ix ix_list (pv 1) pe_int (fun _ _ => rfl)) pa_nil)) pe_int) pe_int) pe_int (nomark _)) rfl)
        (pss_cons (ps_dput hu (pv 2) pe_str (pe_op op_mod (pe_op op_fdiv (pe_callTy call_int1 (by rfl) T.n_int (by decide +kernel) (pa_cons (pe_ix ix_list (pv 1) pe_int (fun _ _ => rfl)) pa_nil)) pe_int) (pe_op op_pow pe_int pe_int)) rfl)
        (C8.pss_cut (ps_if (pt_cmpR op_eq (pe_op op_mod (pe_callTy call_int1 (by rfl) T.n_int (by decide +kernel) (pa_cons (pe_ix ix_list (pv 1) pe_int (fun _ _ => rfl)) pa_nil)) pe_int) pe_int (nomark _)) (pss_one (ps_dput hu (pv 2) pe_str pe_non rfl)) pss_nil)
        (pss_cons (ps_dput hu (pv 2) pe_str (pe_op op_mod (pe_op op_fdiv (pe_callTy call_int1 (by rfl) T.n_int (by decide +kernel) (pa_cons (pe_ix ix_list (pv 1) pe_int (fun _ _ => rfl)) pa_nil)) pe_int) pe_int) rfl)
        (pss_cons (ps_set (i := 3) sc_l_fields.nd rfl (Or.inr rfl) (pe_call (ok_l_row T) (hr.mono (by decide)) rfl T.m_l_row T.F_l_row.kp T.b_l_row .nil pass0 (pa_cons (pe_ix ix_list (pv 1) pe_int (fun _ _ => rfl)) (pa_cons (pe_op op_mul pe_int (pe_op op_mod (pe_callTy call_int1 (by rfl) T.n_int (by decide +kernel) (pa_cons (pe_ix ix_list (pv 1) pe_int (fun _ _ => rfl)) pa_nil)) pe_int)) (pa_cons (pe_op op_pow pe_int pe_int) pa_nil)))))
        (pss_cons (ps_dput hu (pv 2) pe_str (pe_lc (own := [("k", 4)]) (g := gName 4) (tt := tYes) rfl sc_l_fields.nd (pi_range1 (by rfl) T.n_range (pa_cons (pe_op op_fdiv (pe_callB call_len_seq (by rfl) T.n_len (by decide +kernel) (pa_cons (pv 3) pa_nil)) pe_int) pa_nil)) (blkOk_by (N := ["script", "cells", "fields", "row", "k"]) (sc := defScope s_l_fields) (by decide +kernel)) (fun _ _ _ _ _ => (pg_name (i := 4) sc_l_fields.nd rfl (Or.inl rfl))) (fun _ _ _ _ _ => pts_nil) (fun _ _ _ _ _ => (pe_tup (pa_cons (pe_ix (r := rIxL K) ix_list (pv 3) (pe_op op_mul pe_int (pv 4)) (fun _ _ => rfl)) (pa_cons (pe_ix (r := rIxL K) ix_list (pv 3) (pe_op op_add (pe_op op_mul pe_int (pv 4)) pe_int) (fun _ _ => rfl)) pa_nil))))) rfl)
        (pss_cons (ps_dput hu (pv 2) pe_str (pe_tup (pa_cons (pe_op op_mod (pe_op op_fdiv (pe_callTy call_int1 (by rfl) T.n_int (by decide +kernel) (pa_cons (pe_ix ix_list (pv 1) pe_int (fun _ _ => rfl)) pa_nil)) pe_int) pe_int) (pa_cons (pe_op op_mod (pe_op op_fdiv (pe_callTy call_int1 (by rfl) T.n_int (by decide +kernel) (pa_cons (pe_ix ix_list (pv 1) pe_int (fun _ _ => rfl)) pa_nil)) pe_int) pe_int) pa_nil))) rfl)
        (C8.pss_cut (ps_if (pt_cmpR op_eq (pe_op op_mod (pe_callTy call_int1 (by rfl) T.n_int (by decide +kernel) (pa_cons (pe_ix ix_list (pv 1) pe_int (fun _ _ => rfl)) pa_nil)) pe_int) pe_int (nomark _)) (pss_one (ps_dput hu (pv 2) pe_str pe_non rfl)) pss_nil)
        (pss_one (ps_ret (pv 2))))))))))))))))), ?_⟩
    dsimp only [cxOf, Cx.nox, Cx.wish, L2.start, List.map, List.cons_append, List.nil_append, List.length_cons, List.length_nil, Nat.reduceAdd, Nat.reduceSub, Nat.zero_add, List.replicate_succ, List.replicate_zero]
    walk_at "go"
    refine ⟨by decide, by decide, fun D hD => ?_⟩
    refine lc_vals walk_range ((List.range 9).map fun k : Nat => V.int (cell ns (k : Int))) hD rfl (fun _ _ => trivial) ?turn0 ?done0
    case turn0 =>
      rintro i x H1 H2 hi2 pp ⟨rfl, rfl⟩
      have hS1 := pp.1.seq hS
      refine ⟨rfl, ?_⟩
      walk_at "go"
      refine lc_next hD pp (by rw [List.length_map, List.length_range]; decide) ?_
      have hi3 : i < 9 := hi2
      rw [List.getElem?_map, List.getElem?_range hi3]
      show some (V.int (cell ns (i : Int))) = some (V.int (cell ns (0 + (i : Int))))
      rw [Int.zero_add]
    case done0 =>
    intro H3 s3 e3
    walk_at "go"
    intro p hp
    have npC : D ≠ p := fun z => by rw [← z, e3] at hp; cases hp
    have hC : SqL K H3 D ((List.range 9).map fun k : Nat => V.int (cell ns (k : Int))) := sl e3
    clear e3
    generalize hcs : (List.range 9).map (fun k : Nat => V.int (cell ns (k : Int))) = cs at hC
    have g0 : ∀ k : Nat, k < 9 → cs[k]? = some (V.int (cell ns (k : Int))) := fun k hk => by
      rw [← hcs, List.getElem?_map, List.getElem?_range hk]; rfl
    clear hcs
    walk_at "go"
    refine g_ixL (but_sq (p := p) ?b npC hC) (at_of (j := 0) rfl (g0 0 (by decide))) ?_
    case b => repeat (first | exact But.refl | refine But.upd ?_)
    walk_at "go"
    refine g_ixL (but_sq (p := p) ?b npC hC) (at_of (j := 1) rfl (g0 1 (by decide))) ?_
    case b => repeat (first | exact But.refl | refine But.upd ?_)
    walk_at "go"
    refine g_ixL (but_sq (p := p) ?b npC hC) (at_of (j := 2) rfl (g0 2 (by decide))) ?_
    case b => repeat (first | exact But.refl | refine But.upd ?_)
    walk_at "go"
    generalize z1 : upd H3 p _ = H4
    have b4 : But p H3 H4 := by rw [← z1]; exact But.refl.upd
    have e4 : H4 p = some (.dK []) := (congrFun z1 p).symm.trans upd_same
    clear z1
    refine u_row ⟨by omega, by omega, by decide, by decide⟩ fun da ds H5 lds bds nda s5 eda => ?_
    walk_at "go"
    have mk : mergeK [] [((Sum.inr "start" : Key), V.int (cell ns ((0 : Nat) : Int) % (10 ^ Int.toNat 40 + 1))), (.inr "data", V.ref da)] = dk kd_F [V.int (cell ns ((0 : Nat) : Int) % (10 ^ Int.toNat 40 + 1)), V.ref da] := by
      show putK (putK (dk kd_F []) (.inr "start") _) (.inr "data") _ = _
      rw [dk_new ndd_F rfl, dk_new ndd_F rfl]
      rfl
    refine ⟨s5 _ _ e4, [((Sum.inr "start" : Key), V.int (cell ns ((0 : Nat) : Int) % (10 ^ Int.toNat 40 + 1))), (.inr "data", V.ref da)], rfl, (by show 2 ≤ 15; decide), ?_⟩
    rw [mk]
    clear mk
    generalize cell ns ((0 : Nat) : Int) % (10 ^ Int.toNat 40 + 1) = x0
    have ndp : da ≠ p := fun z => by rw [z, e4] at nda; cases nda
    have fda : H3 da = none := b4.free ndp nda
    generalize z1 : upd H5 p _ = H6
    have b56 : But p H5 H6 := by rw [← z1]; exact But.refl.upd
    have e6 : H6 p = some (.dK (dk kd_F [V.int x0, V.ref da])) := (congrFun z1 p).symm.trans upd_same
    clear z1
    have b6 : But p H3 H6 := (b4.trans (But.of s5)).trans b56
    have eda6 := b56 _ _ ndp eda
    have hC6 := but_sq b6 npC hC
    clear e4 b4 s5 b56 eda
    walk_at "go"
    refine g_ixL (but_sq (p := p) ?b npC hC6) (at_of (j := 3) rfl (g0 3 (by decide))) ?_
    case b => repeat (first | exact But.refl | refine But.upd ?_)
    walk_at "go"
    refine g_ixL (but_sq (p := p) ?b npC hC6) (at_of (j := 3) rfl (g0 3 (by decide))) ?_
    case b => repeat (first | exact But.refl | refine But.upd ?_)
    walk_at "go"
    refine g_ixL (but_sq (p := p) ?b npC hC6) (at_of (j := 3) rfl (g0 3 (by decide))) ?_
    case b => repeat (first | exact But.refl | refine But.upd ?_)
    walk_at "go"
    refine g_ixL (but_sq (p := p) ?b npC hC6) (at_of (j := 3) rfl (g0 3 (by decide))) ?_
    case b => repeat (first | exact But.refl | refine But.upd ?_)
    walk_at "go"
    refine g_ixL (but_sq (p := p) ?b npC hC6) (at_of (j := 3) rfl (g0 3 (by decide))) ?_
    case b => repeat (first | exact But.refl | refine But.upd ?_)
    walk_at "go"
    simp only [upd_upd, List.nil_append, List.cons_append]
    refine g_ixL (but_sq (p := p) ?b npC hC6) (at_of (j := 4) rfl (g0 4 (by decide))) ?_
    case b => repeat (first | exact But.refl | refine But.upd ?_)
    walk_at "go"
    simp only [upd_upd, List.nil_append, List.cons_append]
    generalize z1 : upd H6 p _ = H7
    have b67 : But p H6 H7 := by rw [← z1]; exact But.refl.upd
    obtain ⟨b0, b1, b2, b3, b4, i0, e7⟩ : ∃ (b0 b1 b2 b3 b4 : Bool) (i0 : Int), H7 p = some (.dK (dk kd_F [V.int x0, V.ref da, V.bl b0, V.bl b1, V.bl b2, V.bl b3, V.bl b4, V.int i0])) := ⟨_, _, _, _, _, _, (congrFun z1 p).symm.trans upd_same⟩
    clear z1
    have hC7 := but_sq b67 npC hC6
    refine g_cut (fun σ' H' => ∃ o : Option Int, σ' = [some (.ref a), some (.ref D), some (.ref p), none, none] ∧ But p H7 H' ∧ H' p = some (.dK (dk kd_F [V.int x0, V.ref da, V.bl b0, V.bl b1, V.bl b2, V.bl b3, V.bl b4, oV o]))) ?_ ?_
    · walk_at "go"
      refine g_ixL (but_sq (p := p) ?b npC hC7) (at_of (j := 4) rfl (g0 4 (by decide))) ?_
      case b => repeat (first | exact But.refl | refine But.upd ?_)
      walk_at "go"
      refine g_ite (fun c => ?_) (fun c => ?_)
      · walk_at "go"
        exact ⟨none, rfl, But.refl.upd, upd_same⟩
      · walk_at "go"
        exact ⟨some i0, rfl, But.refl, e7⟩
    rintro σ' H8 ⟨oa, rfl, b78, e8⟩
    have hC8 := but_sq b78 npC hC7
    have b8 := (b6.trans b67).trans b78
    have eda8 := b78 _ _ ndp (b67 _ _ ndp eda6)
    clear e7 hC7 hC6 eda6 e6
    walk_at "go"
    refine g_ixL (but_sq (p := p) ?b npC hC8) (at_of (j := 5) rfl (g0 5 (by decide))) ?_
    case b => repeat (first | exact But.refl | refine But.upd ?_)
    walk_at "go"
    simp only [upd_upd, List.nil_append, List.cons_append]
    generalize z1 : upd H8 p _ = H9
    have b89 : But p H8 H9 := by rw [← z1]; exact But.refl.upd
    obtain ⟨w0, e9⟩ : ∃ (w0 : Int), H9 p = some (.dK (dk kd_F [V.int x0, V.ref da, V.bl b0, V.bl b1, V.bl b2, V.bl b3, V.bl b4, oV oa, V.int w0])) := ⟨_, (congrFun z1 p).symm.trans upd_same⟩
    clear z1 e8
    have hC9 := but_sq b89 npC hC8
    refine g_ixL (but_sq (p := p) ?b npC hC9) (at_of (j := 6) rfl (g0 6 (by decide))) ?_
    case b => repeat (first | exact But.refl | refine But.upd ?_)
    walk_at "go"
    refine g_ixL (but_sq (p := p) ?b npC hC9) (at_of (j := 7) rfl (g0 7 (by decide))) ?_
    case b => repeat (first | exact But.refl | refine But.upd ?_)
    walk_at "go"
    refine u_row ⟨by omega, by omega, by decide, by decide⟩ fun rd row H10 lrow brow nrd s10 erd => ?_
    have e10 := s10 _ _ e9
    have b10 := (b8.trans b89).trans (But.of s10)
    have eda10 := s10 _ _ (b89 _ _ ndp eda8)
    have hC10 := s10.seq hC9
    clear e9 eda8 hC9 hC8
    walk_at "go"
    refine g_len (.inl (sl erd)) ?_
    walk_at "go"
    rw [List.length_map]
    refine ⟨by omega, by omega, fun D2 hD2 => ?_⟩
    obtain ⟨N, hN, hN5⟩ : ∃ N : Nat, cell ns ((7 : Nat) : Int) % 5 = (N : Int) ∧ N ≤ 5 := ⟨(cell ns ((7 : Nat) : Int) % 5).toNat, by omega, by omega⟩
    have lr2 : row.length = 2 * N := by omega
    have get : ∀ k : Nat, k < 2 * N → row[k]? = some (row.getD k 0) := fun k hk => by
      rw [List.getD_eq_getElem?_getD, List.getElem?_eq_getElem (by omega)]
      rfl
    obtain ⟨ps, hps, lps⟩ : ∃ ps : List (Int × Int), (∀ k : Nat, k < N → ps[k]? = some (row.getD (2 * k) 0, row.getD (2 * k + 1) 0)) ∧ ps.length = N := ⟨(List.range N).map fun k => (row.getD (2 * k) 0, row.getD (2 * k + 1) 0), fun k hk => by
      rw [List.getElem?_map, List.getElem?_range hk]
      rfl, by rw [List.length_map, List.length_range]⟩
    have eN : (((row.length : Int) / 2).toNat) = N := by omega
    refine lc_it walk_range (LcPP H10 D2 ps) ⟨same_upd hD2, [], upd_same, Prs.nil⟩ (fun _ _ _ _ => trivial) ?turn ?done
    case turn =>
      rintro i x H1 H2 hi pp ⟨rfl, rfl⟩
      rw [eN] at hi
      refine ⟨rfl, ?_⟩
      walk_at "go"
      refine g_ixL (pp.1.seq (sl erd)) (at_of (j := 2 * i) (by omega) (by rw [List.getElem?_map, get (2 * i) (by omega)]; rfl)) ?_
      walk_at "go"
      refine g_ixL (pp.1.seq (sl erd)) (at_of (j := 2 * i + 1) (by omega) (by rw [List.getElem?_map, get (2 * i + 1) (by omega)]; rfl)) ?_
      walk_at "go"
      refine ⟨sz (by show 2 ≤ 100000; decide), fun t ht => ?_⟩
      exact lc_pair hD2 pp ht (hps i hi) (by omega)
    case done =>
      rintro H11 ⟨sm, us, eus, hP⟩
      rw [eN, List.take_of_length_le (by omega)] at hP
      have e11 := sm _ _ e10
      have eda11 := sm _ _ eda10
      have hC11 := sm.seq hC10
      have b11 := b10.trans (But.of sm)
      have nDp : D2 ≠ p := fun z => by rw [z, e11] at eus; cases eus
      have fra : H3 D2 = none := b10.free nDp hD2
      have ndD : da ≠ D2 := fun z => by rw [z] at eda10; rw [eda10] at hD2; cases hD2
      clear e10 eda10 hC10
      walk_at "go"
      simp only [upd_upd, List.nil_append, List.cons_append]
      generalize z1 : upd H11 p _ = H12
      have b12 : But p H11 H12 := by rw [← z1]; exact But.refl.upd
      have e12 : H12 p = some (.dK (dk kd_F [V.int x0, V.ref da, V.bl b0, V.bl b1, V.bl b2, V.bl b3, V.bl b4, oV oa, V.int w0, V.ref D2])) := (congrFun z1 p).symm.trans upd_same
      clear z1
      have hC12 := but_sq b12 npC hC11
      have eus12 := b12 _ _ nDp eus
      have hP12 := hP.butD b12 e11
      have eda12 := b12 _ _ ndp eda11
      clear eus hP eda11 e11
      refine g_ixL (but_sq (p := p) ?b npC hC12) (at_of (j := 8) rfl (g0 8 (by decide))) ?_
      case b => repeat (first | exact But.refl | refine But.upd ?_)
      walk_at "go"
      refine g_ixL (but_sq (p := p) ?b npC hC12) (at_of (j := 8) rfl (g0 8 (by decide))) ?_
      case b => repeat (first | exact But.refl | refine But.upd ?_)
      walk_at "go"
      refine ⟨by show 2 ≤ sizeLine; decide, fun t ht => ?_⟩
      generalize z1 : upd H12 t _ = H13
      have s13 : Same H12 H13 := by rw [← z1]; exact same_upd ht
      obtain ⟨y1, y2, et⟩ : ∃ y1 y2 : Int, H13 t = some (.tup [V.int y1, V.int y2]) := ⟨_, _, (congrFun z1 t).symm.trans upd_same⟩
      clear z1
      have e13 := s13 _ _ e12
      have ntp : t ≠ p := fun z => by rw [z, e13] at et; cases et
      walk_at "go"
      simp only [upd_upd, List.nil_append, List.cons_append]
      generalize z1 : upd H13 p _ = H14
      have b14 : But p H13 H14 := by rw [← z1]; exact But.refl.upd
      have e14 : H14 p = some (.dK (dk kd_F [V.int x0, V.ref da, V.bl b0, V.bl b1, V.bl b2, V.bl b3, V.bl b4, oV oa, V.int w0, V.ref D2, V.ref t])) := (congrFun z1 p).symm.trans upd_same
      clear z1
      have hC14 := but_sq b14 npC (s13.seq hC12)
      have b1214 : But p H12 H14 := (But.of s13).trans b14
      refine g_cut (fun σ' H' => ∃ (sv : V) (o : Option (Int × Int)) (v4 : Option V), σ' = [some (.ref a), some (.ref D), some (.ref p), v4, none] ∧ But p H14 H' ∧ H' p = some (.dK (dk kd_F [V.int x0, V.ref da, V.bl b0, V.bl b1, V.bl b2, V.bl b3, V.bl b4, oV oa, V.int w0, V.ref D2, sv])) ∧ StV H' sv o) ?_ ?_
      · walk_at "go"
        refine g_ixL (but_sq (p := p) ?b npC hC14) (at_of (j := 8) rfl (g0 8 (by decide))) ?_
        case b => repeat (first | exact But.refl | refine But.upd ?_)
        walk_at "go"
        refine g_ite (fun c => ?_) (fun c => ?_)
        · walk_at "go"
          exact ⟨.non, none, _, rfl, But.refl.upd, upd_same, rfl⟩
        · walk_at "go"
          exact ⟨.ref t, some (y1, y2), _, rfl, But.refl, e14, t, rfl, b14 _ _ ntp et⟩
      rintro σ' H15 ⟨sv, o, v4, rfl, b15, e15, hsv⟩
      have b1215 := b1214.trans b15
      walk_at "go"
      have bb := (b11.trans b12).trans b1215
      exact q p da D2 ⟨x0, ds, b0, b1, b2, oa, w0, ps, b3, b4, o⟩ H15 (by show ds.length ≤ 30; omega) (by show ps.length ≤ 10; omega) (s3.free hp) (s3.free fda) (s3.free fra) ndD (s3.trans (bb.same hp)) ⟨sv, e15, b1215 _ _ ndp eda12, ⟨us, b1215 _ _ nDp eus12, hP12.butD b1215 e12⟩, hsv⟩

end
end My
namespace My
open PySem PySem.Spec L2
local macro_rules | `(tactic| walk_at "side") => `(tactic| first | assumption | decide | omega | exact ⟨by decide, by decide⟩ | exact ⟨by decide, by decide, by decide⟩ | decide +kernel | exact cdivW (by decide +kernel) (by decide +kernel) | exact Or.inl ⟨by omega, by omega⟩ | exact Or.inr ⟨by omega, by omega⟩ | (simp only [List.length_map, List.length_cons, List.length_nil, List.length_append]; omega))
local macro_rules | `(tactic| walk_at "fact") => `(tactic| first | assumption | omega | with_reducible rfl)
local macro_rules | `(tactic| walk_at "use") => `(tactic| fail "use")
local macro_rules | `(tactic| walk_at "go1") => `(tactic| with_reducible first | refine g_seq ?_ | refine g_asg ?_ | refine g_ret ?_ | refine g_ifS ?_ | refine g_drop ?_ | refine g_star ?_ | refine g_nx ?_ | refine g_rt ?_ | refine g_bkE ?_ | refine g_ctE ?_ | refine g_next ?_ | refine g_retN ?_ | refine g_brk ?_ | refine g_ct ?_ | refine g_c ?_ | refine g_op ?_ | refine g_un ?_ | refine g_rI0 ?_ | refine g_rU ?_ | refine g_rEqI ?_ | refine g_rNeI ?_ | refine g_isN ?_ | refine g_rIsB ?_ | refine g_rNotB ?_ | refine g_test ?_ | refine g_B ?_ | refine g_bl ?_ | refine g_and ?_ | refine g_or ?_ | refine g_not ?_ | refine g_andV ?_ | refine g_orV ?_ | refine g_notV ?_ | refine g_if ?_ | refine g_chain ?_ | refine g_yes ?_ | refine g_lc ?_ | refine g_revR ?_ | refine g_rng1 ?_ | refine g_iList ?_ | refine g_nil ?_ | refine g_cons ?_ | refine g_tup ?_ | refine g_lst ?_ | refine g_call ?_ | refine g_CB ?_ | refine g_sl ?_ | refine g_noPart ?_ | refine g_part ?_ | refine g_intE ?_ | refine g_ref ?_ | refine g_fld ?_ | refine g_sfld ?_ | refine g_meth ?_ | refine g_make ?_ | refine g_prop ?_  | refine g_ipI ?_ | refine g_int1 ?_ | refine g_int1B ?_ | refine g_one ?_ | refine g_two ?_ | refine g_isiI ?_ | refine g_isiIB ?_ | refine g_isiB ?_ | refine g_BM ?_ | refine g_BM0 ?_ | refine g_sub ?_)
local macro_rules | `(tactic| walk_at "go") => `(tactic| repeat (first | walk_at "go1" | ((with_reducible refine' g_nameE ?sd_ ?_); case sd_ => dsimp only [List.set_cons_succ, List.set_cons_zero]) | ((with_reducible refine' g_var ?sd_ ?_); case sd_ => exact rfl) | ((with_reducible refine' g_aug ?sd_ ?_); case sd_ => exact rfl) | ((with_reducible refine' g_rI ?sd_ ?_); case sd_ => walk_at "side") | ((with_reducible refine' g_dT ?sd_ ?_); case sd_ => walk_at "fact") | ((with_reducible refine' g_dF ?sd_ ?_); case sd_ => walk_at "fact") | ((with_reducible refine' g_nT ?sd_ ?_); case sd_ => walk_at "fact") | ((with_reducible refine' g_nF ?sd_ ?_); case sd_ => walk_at "fact") | (with_reducible refine g_iT rfl ?_) | (with_reducible refine g_iF rfl ?_) | walk_at "use"))
local macro_rules | `(tactic| walk_at "use") => `(tactic| first | ((with_reducible refine' fd_Piece_start ?ho_ ?hv_ ?_); (case ho_ => first | assumption | exact upd_same); (case hv_ => exact rfl)) | ((with_reducible refine' fd_Piece_data ?ho_ ?hv_ ?_); (case ho_ => first | assumption | exact upd_same); (case hv_ => exact rfl)) | ((with_reducible refine' fd_Piece_syn ?ho_ ?hv_ ?_); (case ho_ => first | assumption | exact upd_same); (case hv_ => exact rfl)) | ((with_reducible refine' fd_Piece_fin ?ho_ ?hv_ ?_); (case ho_ => first | assumption | exact upd_same); (case hv_ => exact rfl)) | ((with_reducible refine' fd_Piece_reset ?ho_ ?hv_ ?_); (case ho_ => first | assumption | exact upd_same); (case hv_ => exact rfl)) | ((with_reducible refine' fd_Piece_ack ?ho_ ?hv_ ?_); (case ho_ => first | assumption | exact upd_same); (case hv_ => exact rfl)) | ((with_reducible refine' fd_Piece_window ?ho_ ?hv_ ?_); (case ho_ => first | assumption | exact upd_same); (case hv_ => exact rfl)) | ((with_reducible refine' fd_Piece_ranges ?ho_ ?hv_ ?_); (case ho_ => first | assumption | exact upd_same); (case hv_ => exact rfl)) | ((with_reducible refine' fd_Piece_marked ?ho_ ?hv_ ?_); (case ho_ => first | assumption | exact upd_same); (case hv_ => exact rfl)) | ((with_reducible refine' fd_Piece_cut ?ho_ ?hv_ ?_); (case ho_ => first | assumption | exact upd_same); (case hv_ => exact rfl)) | ((with_reducible refine' fd_Piece_stamp ?ho_ ?hv_ ?_); (case ho_ => first | assumption | exact upd_same); (case hv_ => exact rfl)) | ((with_reducible refine' nw_Piece_start ?ho_ ?hv_ ?_); (case ho_ => first | assumption | exact upd_same); (case hv_ => exact rfl)) | ((with_reducible refine' nw_Piece_data ?ho_ ?hv_ ?_); (case ho_ => first | assumption | exact upd_same); (case hv_ => exact rfl)) | ((with_reducible refine' nw_Piece_syn ?ho_ ?hv_ ?_); (case ho_ => first | assumption | exact upd_same); (case hv_ => exact rfl)) | ((with_reducible refine' nw_Piece_fin ?ho_ ?hv_ ?_); (case ho_ => first | assumption | exact upd_same); (case hv_ => exact rfl)) | ((with_reducible refine' nw_Piece_reset ?ho_ ?hv_ ?_); (case ho_ => first | assumption | exact upd_same); (case hv_ => exact rfl)) | ((with_reducible refine' nw_Piece_ack ?ho_ ?hv_ ?_); (case ho_ => first | assumption | exact upd_same); (case hv_ => exact rfl)) | ((with_reducible refine' nw_Piece_window ?ho_ ?hv_ ?_); (case ho_ => first | assumption | exact upd_same); (case hv_ => exact rfl)) | ((with_reducible refine' nw_Piece_ranges ?ho_ ?hv_ ?_); (case ho_ => first | assumption | exact upd_same); (case hv_ => exact rfl)) | ((with_reducible refine' nw_Piece_marked ?ho_ ?hv_ ?_); (case ho_ => first | assumption | exact upd_same); (case hv_ => exact rfl)) | ((with_reducible refine' nw_Piece_cut ?ho_ ?hv_ ?_); (case ho_ => first | assumption | exact upd_same); (case hv_ => exact rfl)) | ((with_reducible refine' nw_Piece_stamp ?ho_ ?hv_ ?_); (case ho_ => first | assumption | exact upd_same); (case hv_ => exact rfl)) | ((with_reducible refine' st_Piece_start ?ho_ ?hv_ ?_); (case ho_ => first | assumption | exact upd_same); (case hv_ => exact Nat.le_of_ble_eq_true rfl)) | ((with_reducible refine' st_Piece_data ?ho_ ?hv_ ?_); (case ho_ => first | assumption | exact upd_same); (case hv_ => exact Nat.le_of_ble_eq_true rfl)) | ((with_reducible refine' st_Piece_syn ?ho_ ?hv_ ?_); (case ho_ => first | assumption | exact upd_same); (case hv_ => exact Nat.le_of_ble_eq_true rfl)) | ((with_reducible refine' st_Piece_fin ?ho_ ?hv_ ?_); (case ho_ => first | assumption | exact upd_same); (case hv_ => exact Nat.le_of_ble_eq_true rfl)) | ((with_reducible refine' st_Piece_reset ?ho_ ?hv_ ?_); (case ho_ => first | assumption | exact upd_same); (case hv_ => exact Nat.le_of_ble_eq_true rfl)) | ((with_reducible refine' st_Piece_ack ?ho_ ?hv_ ?_); (case ho_ => first | assumption | exact upd_same); (case hv_ => exact Nat.le_of_ble_eq_true rfl)) | ((with_reducible refine' st_Piece_window ?ho_ ?hv_ ?_); (case ho_ => first | assumption | exact upd_same); (case hv_ => exact Nat.le_of_ble_eq_true rfl)) | ((with_reducible refine' st_Piece_ranges ?ho_ ?hv_ ?_); (case ho_ => first | assumption | exact upd_same); (case hv_ => exact Nat.le_of_ble_eq_true rfl)) | ((with_reducible refine' st_Piece_marked ?ho_ ?hv_ ?_); (case ho_ => first | assumption | exact upd_same); (case hv_ => exact Nat.le_of_ble_eq_true rfl)) | ((with_reducible refine' st_Piece_cut ?ho_ ?hv_ ?_); (case ho_ => first | assumption | exact upd_same); (case hv_ => exact Nat.le_of_ble_eq_true rfl)) | ((with_reducible refine' st_Piece_stamp ?ho_ ?hv_ ?_); (case ho_ => first | assumption | exact upd_same); (case hv_ => exact Nat.le_of_ble_eq_true rfl)) | ((with_reducible refine' me_Piece_eq__ ?ho_ ?_); (case ho_ => first | assumption | exact upd_same)) | ((with_reducible refine' me_Piece_fields ?ho_ ?_); (case ho_ => first | assumption | exact upd_same)))
local macro_rules | `(tactic| walk_at "use") => `(tactic| first | ((with_reducible refine' dg_F_start ?ho_ ?hv_ ?_); (case ho_ => first | assumption | exact upd_same); (case hv_ => exact rfl)) | ((with_reducible refine' dg_F_data ?ho_ ?hv_ ?_); (case ho_ => first | assumption | exact upd_same); (case hv_ => exact rfl)) | ((with_reducible refine' dg_F_syn ?ho_ ?hv_ ?_); (case ho_ => first | assumption | exact upd_same); (case hv_ => exact rfl)) | ((with_reducible refine' dg_F_fin ?ho_ ?hv_ ?_); (case ho_ => first | assumption | exact upd_same); (case hv_ => exact rfl)) | ((with_reducible refine' dg_F_reset ?ho_ ?hv_ ?_); (case ho_ => first | assumption | exact upd_same); (case hv_ => exact rfl)) | ((with_reducible refine' dg_F_marked ?ho_ ?hv_ ?_); (case ho_ => first | assumption | exact upd_same); (case hv_ => exact rfl)) | ((with_reducible refine' dg_F_cut ?ho_ ?hv_ ?_); (case ho_ => first | assumption | exact upd_same); (case hv_ => exact rfl)) | ((with_reducible refine' dg_F_ack ?ho_ ?hv_ ?_); (case ho_ => first | assumption | exact upd_same); (case hv_ => exact rfl)) | ((with_reducible refine' dg_F_window ?ho_ ?hv_ ?_); (case ho_ => first | assumption | exact upd_same); (case hv_ => exact rfl)) | ((with_reducible refine' dg_F_ranges ?ho_ ?hv_ ?_); (case ho_ => first | assumption | exact upd_same); (case hv_ => exact rfl)) | ((with_reducible refine' dg_F_stamp ?ho_ ?hv_ ?_); (case ho_ => first | assumption | exact upd_same); (case hv_ => exact rfl)) | ((with_reducible refine' dn_F_start ?ho_ ?hv_ ?_); (case ho_ => first | assumption | exact upd_same); (case hv_ => exact rfl)) | ((with_reducible refine' dn_F_data ?ho_ ?hv_ ?_); (case ho_ => first | assumption | exact upd_same); (case hv_ => exact rfl)) | ((with_reducible refine' dn_F_syn ?ho_ ?hv_ ?_); (case ho_ => first | assumption | exact upd_same); (case hv_ => exact rfl)) | ((with_reducible refine' dn_F_fin ?ho_ ?hv_ ?_); (case ho_ => first | assumption | exact upd_same); (case hv_ => exact rfl)) | ((with_reducible refine' dn_F_reset ?ho_ ?hv_ ?_); (case ho_ => first | assumption | exact upd_same); (case hv_ => exact rfl)) | ((with_reducible refine' dn_F_marked ?ho_ ?hv_ ?_); (case ho_ => first | assumption | exact upd_same); (case hv_ => exact rfl)) | ((with_reducible refine' dn_F_cut ?ho_ ?hv_ ?_); (case ho_ => first | assumption | exact upd_same); (case hv_ => exact rfl)) | ((with_reducible refine' dn_F_ack ?ho_ ?hv_ ?_); (case ho_ => first | assumption | exact upd_same); (case hv_ => exact rfl)) | ((with_reducible refine' dn_F_window ?ho_ ?hv_ ?_); (case ho_ => first | assumption | exact upd_same); (case hv_ => exact rfl)) | ((with_reducible refine' dn_F_ranges ?ho_ ?hv_ ?_); (case ho_ => first | assumption | exact upd_same); (case hv_ => exact rfl)) | ((with_reducible refine' dn_F_stamp ?ho_ ?hv_ ?_); (case ho_ => first | assumption | exact upd_same); (case hv_ => exact rfl)) | ((with_reducible refine' dp_F_start ?ho_ ?hv_ ?_); (case ho_ => first | assumption | exact upd_same); (case hv_ => exact Nat.le_of_ble_eq_true rfl)) | ((with_reducible refine' dp_F_data ?ho_ ?hv_ ?_); (case ho_ => first | assumption | exact upd_same); (case hv_ => exact Nat.le_of_ble_eq_true rfl)) | ((with_reducible refine' dp_F_syn ?ho_ ?hv_ ?_); (case ho_ => first | assumption | exact upd_same); (case hv_ => exact Nat.le_of_ble_eq_true rfl)) | ((with_reducible refine' dp_F_fin ?ho_ ?hv_ ?_); (case ho_ => first | assumption | exact upd_same); (case hv_ => exact Nat.le_of_ble_eq_true rfl)) | ((with_reducible refine' dp_F_reset ?ho_ ?hv_ ?_); (case ho_ => first | assumption | exact upd_same); (case hv_ => exact Nat.le_of_ble_eq_true rfl)) | ((with_reducible refine' dp_F_marked ?ho_ ?hv_ ?_); (case ho_ => first | assumption | exact upd_same); (case hv_ => exact Nat.le_of_ble_eq_true rfl)) | ((with_reducible refine' dp_F_cut ?ho_ ?hv_ ?_); (case ho_ => first | assumption | exact upd_same); (case hv_ => exact Nat.le_of_ble_eq_true rfl)) | ((with_reducible refine' dp_F_ack ?ho_ ?hv_ ?_); (case ho_ => first | assumption | exact upd_same); (case hv_ => exact Nat.le_of_ble_eq_true rfl)) | ((with_reducible refine' dp_F_window ?ho_ ?hv_ ?_); (case ho_ => first | assumption | exact upd_same); (case hv_ => exact Nat.le_of_ble_eq_true rfl)) | ((with_reducible refine' dp_F_ranges ?ho_ ?hv_ ?_); (case ho_ => first | assumption | exact upd_same); (case hv_ => exact Nat.le_of_ble_eq_true rfl)) | ((with_reducible refine' dp_F_stamp ?ho_ ?hv_ ?_); (case ho_ => first | assumption | exact upd_same); (case hv_ => exact Nat.le_of_ble_eq_true rfl)))
local macro_rules | `(tactic| walk_at "use") => `(tactic| with_reducible first | refine g_dgetT ?_ | refine g_dputT ?_)
section
variable {P : Program} {w : World} {K : PySem.W.Frag} {mg : Str → Option Value} {base : Heap}
local macro_rules | `(tactic| walk_at "use") => `(tactic| with_reducible first | refine g_dgetT ?_ | refine g_dputT ?_ | refine g_makeK ?_)
def sp_l_made (C : Addr) : Sp := fun vs H Q _ => ∃ (p da ra : Addr) (g : Pc), vs = [.ref p] ∧ PcD H p g da ra ∧ ∀ x d r H', H x = none → H d = none → H r = none → d ≠ x → r ≠ x → d ≠ r → Same H H' → PcO C H' x g d r → Q (.ref x) H'
theorem u_made {C p da ra : Addr} {g : Pc} {H Q E} (h : PcD H p g da ra) (q : ∀ x d r H', H x = none → H d = none → H r = none → d ≠ x → r ≠ x → d ≠ r → Same H H' → PcO C H' x g d r → Q (.ref x) H') : sp_l_made C ([.ref p] ++ []) H Q E := ⟨p, da, ra, g, rfl, h, q⟩
theorem kbt_0 {K : PySem.W.Frag} {mg : Str → Option Value} (T : Txt K mg) : ∃ g, KBn K T.d_Piece_init__ ["self", "start", "data", "syn", "fin", "reset", "ack", "window", "ranges", "marked", "cut", "stamp"] 2 ["data", "syn", "fin", "reset", "ack", "window", "ranges", "marked", "cut", "stamp"] g (fun vs zs => vs ++ ((zs.drop 0).take 1 ++ ((zs.drop 1).take 1 ++ ((zs.drop 2).take 1 ++ ((zs.drop 3).take 1 ++ ((zs.drop 4).take 1 ++ ((zs.drop 5).take 1 ++ ((zs.drop 6).take 1 ++ ((zs.drop 7).take 1 ++ ((zs.drop 8).take 1 ++ ((zs.drop 9).take 1))))))))))) := by
  obtain ⟨mv, h⟩ := T.F_Piece_init__.kbinds0 (ps := ["self", "start", "data", "syn", "fin", "reset", "ack", "window", "ranges", "marked", "cut", "stamp"]) 2 ["data", "syn", "fin", "reset", "ack", "window", "ranges", "marked", "cut", "stamp"] [] (fun vs mz zs => vs ++ ((zs.drop 0).take 1 ++ ((zs.drop 1).take 1 ++ ((zs.drop 2).take 1 ++ ((zs.drop 3).take 1 ++ ((zs.drop 4).take 1 ++ ((zs.drop 5).take 1 ++ ((zs.drop 6).take 1 ++ ((zs.drop 7).take 1 ++ ((zs.drop 8).take 1 ++ ((zs.drop 9).take 1))))))))))) (by intro h; cases h) (fun q hq => List.Sublist.mem hq (.cons _ (.cons _ (.cons _ (.cons _ (.cons _ (.cons _ (.cons _ (.cons _ (.cons _ (.cons _ (.slnil)))))))))))) (fun r1 r2 r3 => r1.append (((r3.drop 0).take 1).append (((r3.drop 1).take 1).append (((r3.drop 2).take 1).append (((r3.drop 3).take 1).append (((r3.drop 4).take 1).append (((r3.drop 5).take 1).append (((r3.drop 6).take 1).append (((r3.drop 7).take 1).append (((r3.drop 8).take 1).append ((r3.drop 9).take 1))))))))))) (fun D doc pm an cdv ct us mv ws l1 l2 l3 => match us, l1, mv, l2, ws, l3 with | [_, _], _, [], _, [_, _, _, _, _, _, _, _, _, _], _ => (by show _ = _; kernel_rfl))
  exact ⟨_, h⟩
theorem ok_l_made (T : Txt K mg) : FnOk P w K mg base CX0 3 T.f_l_made T.d_l_made ["fields"] (sp_l_made T.C_Piece) := by
  refine T.F_l_made.ok sc_l_made (fun vs H Q E h => ?_) (fun cdv A outer s H vs Q E hr h => ?_)
  · obtain ⟨p, da, ra, g, rfl, ⟨sv, hd, hda, ⟨vs, hra, hP⟩, hsv⟩, q⟩ := h
    rfl
  · obtain ⟨p, da, ra, g, rfl, ⟨sv, hd, hda, ⟨vs, hra, hP⟩, hsv⟩, q⟩ := h
    have hu := hu_of hr
    obtain ⟨gk_0, kb_0⟩ := kbt_0 T
    refine ⟨_, (pss_one (ps_ret (pe_makeK T.mk_Piece (ok_Piece_init__ T) (hr.mono (by decide)) rfl T.c_Piece kb_0 pass0 (pa_cons (pe_dget hu (pv 0) pe_str (fun _ _ => rfl)) pa_nil) (pk_cons (pe_callTy call_list_of (by rfl) T.n_list (by decide +kernel) (pa_cons (pe_dget hu (pv 0) pe_str (fun _ _ => rfl)) pa_nil)) (pk_cons (pe_dget hu (pv 0) pe_str (fun _ _ => rfl)) (pk_cons (pe_dget hu (pv 0) pe_str (fun _ _ => rfl)) (pk_cons (pe_dget hu (pv 0) pe_str (fun _ _ => rfl)) (pk_cons (pe_dget hu (pv 0) pe_str (fun _ _ => rfl)) (pk_cons (pe_dget hu (pv 0) pe_str (fun _ _ => rfl)) (pk_cons (pe_callTy call_list_of (by rfl) T.n_list (by decide +kernel) (pa_cons (pe_dget hu (pv 0) pe_str (fun _ _ => rfl)) pa_nil)) (pk_cons (pe_dget hu (pv 0) pe_str (fun _ _ => rfl)) (pk_cons (pe_dget hu (pv 0) pe_str (fun _ _ => rfl)) (pk_cons (pe_dget hu (pv 0) pe_str (fun _ _ => rfl)) pk_nil))))))))))))), ?_⟩
    dsimp only [cxOf, Cx.nox, Cx.wish, L2.start, List.map, List.cons_append, List.nil_append, List.length_cons, List.length_nil, Nat.reduceAdd, Nat.reduceSub, Nat.zero_add, List.replicate_succ, List.replicate_zero]
    unfold fVs at hd
    walk_at "go"
    refine g_len (.inl (sl hda)) fun l1 nl1 => ?_
    generalize z1 : upd H l1 _ = H1
    have s1 : Same H H1 := by rw [← z1]; exact same_upd nl1
    have k1 : H1 l1 = some (.lst (g.ds.map V.int)) := (congrFun z1 l1).symm.trans upd_same
    clear z1
    have hd1 := s1 _ _ hd
    have hra1 := s1 _ _ hra
    clear hd
    walk_at "go"
    refine g_len (.inl (sl hra1)) fun l2 nl2 => ?_
    generalize z1 : upd H1 l2 _ = H2
    have s2 : Same H1 H2 := by rw [← z1]; exact same_upd nl2
    have k2 : H2 l2 = some (.lst vs) := (congrFun z1 l2).symm.trans upd_same
    clear z1
    have k12 := s2 _ _ k1
    have s12 := s1.trans s2
    have hd2 := s2 _ _ hd1
    clear hd1
    walk_at "go"
    refine ⟨rfl, rfl, fun x dx nx ndx nxd => ?_⟩
    have bx : But x H2 (upd (upd H2 dx (.own x)) x (.ins T.C_Piece dx [])) := ((But.of (same_upd (o := .own x) ndx))).upd
    have n1x : l1 ≠ x := fun z => by rw [← z, k12] at nx; cases nx
    have n2x : l2 ≠ x := fun z => by rw [← z, k2] at nx; cases nx
    refine ⟨x, dx, l1, l2, _, _, _, _, _, _, _, _, _, _, _, rfl, upd_same, (fun H' b => but_or b n1x (.inl (sl (bx _ _ n1x k12)))), (fun H' b => but_or b n2x (.inl (sl (bx _ _ n2x k2)))), fun d r H' ndx' nrx ndr fd fr b ed er e => ⟨rfl, ?_⟩⟩
    have sm : Same H H' := s12.trans ((bx.trans b).same nx)
    have fx := s12.free nx
    have fr' := s12.free ((bx.same nx).free fr)
    have fd' := s12.free ((bx.same nx).free fd)
    exact q x d r H' fx fd' fr' ndx' nrx ndr sm ⟨dx, sv, e, ed, ⟨vs, er, hP.same sm⟩, hsv.same sm⟩

def nmF : List Str := ["start", "data", "syn", "fin", "reset", "marked", "cut", "ack", "window", "ranges", "stamp"]
def sp_l_changed (K : PySem.W.Frag) : Sp := fun vs H Q _ => ∃ (p da ra : Addr) (g : Pc) (k : Int), vs = [.ref p, .int k] ∧ PcD H p g da ra ∧ (0 ≤ k ∧ k ≤ 10) ∧ g.ds.length ≤ 30 ∧ g.rs.length ≤ 10 ∧ ∀ p' da' ra' g' H', eqP g g' = false → Same H H' → PcD H' p' g' da' ra' → Q (.ref p') H'
theorem u_changed {p da ra : Addr} {g : Pc} {k : Int} {H Q E} (h : PcD H p g da ra) (hk : 0 ≤ k ∧ k ≤ 10) (l1 : g.ds.length ≤ 30) (l2 : g.rs.length ≤ 10) (q : ∀ p' da' ra' g' H', eqP g g' = false → Same H H' → PcD H' p' g' da' ra' → Q (.ref p') H') : sp_l_changed K ([.ref p, .int k] ++ []) H Q E := ⟨p, da, ra, g, k, rfl, h, hk, l1, l2, q⟩
theorem inV_int {i : Int} : ∀ {ws : List Int}, inV (.int i) (ws.map V.int) = decide (i ∈ ws)
  | [] => (decide_eq_false (by simp)).symm
  | t :: ws => by
    show ((t == i) || inV (.int i) (ws.map V.int)) = _
    rw [inV_int, Bool.eq_iff_iff]
    simp only [Bool.or_eq_true, beq_iff_eq, decide_eq_true_eq, List.mem_cons]
    exact ⟨fun h => h.imp Eq.symm id, fun h => h.imp Eq.symm id⟩
theorem flat_ints : ∀ {ws : List Int}, (ws.map V.int).all flatV = true
  | [] => rfl
  | _ :: ws => flat_ints (ws := ws)
theorem g_inI {K : PySem.W.Frag} {H : Hp} {Q : VK} {p : Addr} {ws : List Int} {s : Int} (h : SqT K H p (ws.map V.int)) (q : Q (.bl (decide (s ∈ ws))) H) : rIn K false (.int s) (.ref p) H Q :=
  ⟨p, _, rfl, .inr h, rfl, flat_ints, by rw [if_neg (by decide), inV_int]; exact q⟩
theorem ok_l_changed (T : Txt K mg) : FnOk P w K mg base CX0 1 T.f_l_changed T.d_l_changed ["fields", "choice"] (sp_l_changed K) := by
  refine T.F_l_changed.ok sc_l_changed (fun vs H Q E h => ?_) (fun cdv A outer s H vs Q E hr h => ?_)
  · obtain ⟨p, da, ra, g, k, rfl, hD, hk, l1, l2, q⟩ := h
    rfl
  · obtain ⟨p, da, ra, g, k, rfl, hD, hk, l1, l2, q⟩ := h
    have hu := hu_of hr
    refine ⟨_, (pss_cons (ps_set (i := 2) sc_l_changed.nd rfl (Or.inl rfl) (pe_lst (pa_cons pe_str (pa_cons pe_str (pa_cons pe_str (pa_cons pe_str (pa_cons pe_str (pa_cons pe_str (pa_cons pe_str (pa_cons pe_str (pa_cons pe_str (pa_cons pe_str (pa_cons pe_str pa_nil)))))))))))))
        (pss_cons (ps_set (i := 3) sc_l_changed.nd rfl (Or.inl rfl) pe_dnewK)
        (pss_cons (ps_for PassesOwn.never rfl (pi_list (pv 2)) (pg_name (i := 4) sc_l_changed.nd rfl (Or.inl rfl)) (pss_one (ps_dput hu (pv 3) (pv 4) (pe_dget hu (pv 0) (pv 4) (fun _ _ => rfl)) rfl)))
        (pss_cons (ps_set (i := 4) sc_l_changed.nd rfl (Or.inl rfl) (pe_ix ix_list (pv 2) (pv 1) (fun _ _ => rfl)))
        (pss_cons (ps_if (pt_cmpR op_in_seq (pv 1) (pe_tup (pa_cons pe_int (pa_cons pe_int pa_nil))) (by with_unfolding_all rfl)) (pss_one (ps_dput hu (pv 3) (pv 4) (pe_op op_add (pe_dget hu (pv 0) (pv 4) (fun _ _ => rfl)) pe_int) rfl)) (pss_one (ps_if (pt_cmpR op_eq (pv 1) pe_int (nomark _)) (pss_one (ps_dput hu (pv 3) (pv 4) (pe_op op_cat (pe_dget hu (pv 0) (pv 4) (fun _ _ => rfl)) (pe_lst (pa_cons pe_int pa_nil))) rfl)) (pss_one (ps_if (pt_cmpR op_in_seq (pv 1) (pe_tup (pa_cons pe_int (pa_cons pe_int (pa_cons pe_int (pa_cons pe_int (pa_cons pe_int pa_nil)))))) (by with_unfolding_all rfl)) (pss_one (ps_dput hu (pv 3) (pv 4) (pe_not (pe_dget hu (pv 0) (pv 4) (fun _ _ => rfl))) rfl)) (pss_one (ps_if (PW.pt (pw_and (pt_cmpR op_eq (pv 1) pe_int (nomark _)) (pw_and1 (pt_cmpR op_isN (pe_dget hu (pv 0) (pv 4) (fun _ _ => rfl)) pe_non (nomark _))))) (pss_one (ps_dput hu (pv 3) (pv 4) pe_int rfl)) (pss_one (ps_if (pt_cmpR op_eq (pv 1) pe_int (nomark _)) (pss_one (ps_dput hu (pv 3) (pv 4) (pe_ix ix_list (pe_lst (pa_cons pe_non (pa_cons (pe_op op_add (pe_dget hu (pv 0) (pv 4) (fun _ _ => rfl)) pe_int) pa_nil))) (pe_op op_mod (pe_callTy call_int1 (by rfl) T.n_int (by decide +kernel) (pa_cons (pe_dget hu (pv 0) pe_str (fun _ _ => rfl)) pa_nil)) pe_int) (fun _ _ => rfl)) rfl)) (pss_one (ps_if (pt_cmpR op_eq (pv 1) pe_int (nomark _)) (pss_one (ps_dput hu (pv 3) (pv 4) (pe_op op_cat (pe_dget hu (pv 0) (pv 4) (fun _ _ => rfl)) (pe_lst (pa_cons (pe_tup (pa_cons pe_int (pa_cons pe_int pa_nil))) pa_nil))) rfl)) (pss_one (ps_if (pt_cmpR op_isN (pe_dget hu (pv 0) (pv 4) (fun _ _ => rfl)) pe_non (nomark _)) (pss_one (ps_dput hu (pv 3) (pv 4) (pe_tup (pa_cons pe_int (pa_cons pe_int pa_nil))) rfl)) (pss_one (ps_dput hu (pv 3) (pv 4) (pe_ix ix_list (pe_lst (pa_cons pe_non (pa_cons (pe_tup (pa_cons (pe_ix ix_tup (pe_dget hu (pv 0) (pv 4) (fun _ _ => rfl)) pe_int (fun _ _ => rfl)) (pa_cons (pe_op op_add (pe_ix ix_tup (pe_dget hu (pv 0) (pv 4) (fun _ _ => rfl)) pe_int (fun _ _ => rfl)) pe_int) pa_nil))) pa_nil))) (pe_op op_mod (pe_callTy call_int1 (by rfl) T.n_int (by decide +kernel) (pa_cons (pe_dget hu (pv 0) pe_str (fun _ _ => rfl)) pa_nil)) pe_int) (fun _ _ => rfl)) rfl)))))))))))))))
        (pss_one (ps_ret (pv 3)))))))), ?_⟩
    dsimp only [cxOf, Cx.nox, Cx.wish, L2.start, List.map, List.cons_append, List.nil_append, List.length_cons, List.length_nil, Nat.reduceAdd, Nat.reduceSub, Nat.zero_add, List.replicate_succ, List.replicate_zero]
    obtain ⟨sv, hd, hda, ⟨vs, hra, hP⟩, hsv⟩ := id hD
    unfold fVs at hd
    walk_at "go"
    refine ⟨by show 11 ≤ sizeLine; decide, fun nl hnl => ?_⟩
    generalize z1 : upd H nl _ = H1
    have s1 : Same H H1 := by rw [← z1]; exact same_upd hnl
    have kn : H1 nl = some (.lst (nmF.map V.str)) := (congrFun z1 nl).symm.trans upd_same
    clear z1
    have hd1 := s1 _ _ hd
    walk_at "go"
    intro c hc
    generalize z1 : upd H1 c _ = H2
    have s2 : Same H1 H2 := by rw [← z1]; exact same_upd hc
    have ec : H2 c = some (.dK (dk kd_F [])) := (congrFun z1 c).symm.trans upd_same
    clear z1
    have kn2 := s2 _ _ kn
    have hd2 := s2 _ _ hd1
    have npc : p ≠ c := fun z => by rw [z, ec] at hd2; cases hd2
    have nnc : nl ≠ c := fun z => by rw [z, ec] at kn2; cases kn2
    generalize hVS : [V.int g.start, V.ref da, V.bl g.syn, V.bl g.fin, V.bl g.reset, V.bl g.marked, V.bl g.cut, oV g.ack, V.int g.window, V.ref ra, sv] = VS at hd2
    have hn2 : VS.length = 11 := by rw [← hVS]; rfl
    walk_at "go"
    refine for_l (xs := nmF.map V.str) (fun i σ H' => ∃ v, σ = [some (.ref p), some (.int k), some (.ref nl), some (.ref c), v] ∧ But c H2 H' ∧ H' c = some (.dK (dk kd_F (VS.take i)))) (sl kn2) ⟨none, rfl, But.refl, ec⟩ (fun i σ H' _ ⟨_, _, b, _⟩ => sl (b _ _ nnc kn2)) ?turn ?done ?ev
    case ev =>
      intro R r
      walk_at "go"
      exact r
    case turn =>
      rintro i x σ H' hx ⟨v, rfl, b, e⟩
      obtain ⟨nm, hnm, rfl⟩ := map_get hx
      have hks : kd_F[i]? = some nm := hnm
      obtain ⟨hi, _⟩ := List.getElem?_eq_some_iff.mp hnm
      have hi11 : i < 11 := hi
      obtain ⟨vv, hvs⟩ : ∃ vv, VS[i]? = some vv := ⟨VS[i]'(by omega), List.getElem?_eq_getElem _⟩
      walk_at "go"
      refine ⟨p, vv, rfl, .inl ⟨_, .inr nm, .inl (b _ _ npc hd2), rfl, (by unfold dk; rw [val_map, obj_get ndd_F hks, hvs])⟩, ?_⟩
      walk_at "go"
      refine ⟨c, _, rfl, DPut.k (k := .inr nm) e (szl (Nat.lt_of_le_of_lt dk_len (by decide))), ?_⟩
      rw [dk_new ndd_F (by rw [List.length_take, Nat.min_eq_left (by omega)]; exact hks)]
      walk_at "go"
      refine ⟨_, rfl, b.upd, ?_⟩
      rw [upd_same, List.take_add_one, hvs]
      rfl
    case done =>
      rintro σ H3 ⟨v, rfl, b, e⟩
      rw [List.take_of_length_le (by rw [hn2]; show 11 ≤ 11; decide)] at e
      subst hVS
      have hd3 := b _ _ npc hd2
      have kn3 := b _ _ nnc kn2
      have s03 : Same H H3 := s1.trans ((But.of s2).trans b |>.same hc)
      have hP3 : PcP H3 g da ra sv := PcP.same ⟨hda, ⟨vs, hra, hP⟩, hsv⟩ s03
      clear hd hd1 hd2 kn kn2 ec hda hra hP hsv
      walk_at "go"
      have hk11 : k = 0 ∨ k = 1 ∨ k = 2 ∨ k = 3 ∨ k = 4 ∨ k = 5 ∨ k = 6 ∨ k = 7 ∨ k = 8 ∨ k = 9 ∨ k = 10 := by omega
      clear hk
      rcases hk11 with rfl | rfl | rfl | rfl | rfl | rfl | rfl | rfl | rfl | rfl | rfl
      · refine g_ixL (sl kn3) (at_of (j := 0) rfl rfl) ?_
        walk_at "go"
        refine ⟨by show 2 ≤ sizeLine; decide, fun tH4 htH4 => ?_⟩
        generalize z1 : upd H3 tH4 _ = H4
        have sH4 : Same H3 H4 := by rw [← z1]; exact same_upd htH4
        have kH4 := (congrFun z1 tH4).symm.trans upd_same
        clear z1
        refine g_inI (ws := [0, 8]) (st kH4) ?_
        have hd4 := sH4 _ _ hd3
        have e4 := sH4 _ _ e
        have hP4 := hP3.same sH4
        have s04 := s03.trans sH4
        clear hd3 e hP3 kn3
        walk_at "go"
        generalize z1 : upd H4 c _ = HF
        have bF : But c H4 HF := by rw [← z1]; exact But.refl.upd
        have eF := (congrFun z1 c).symm.trans upd_same
        clear z1
        have sF : Same H HF := ((But.of s04).trans bF).same (s1.free hc)
        exact q c da ra { g with start := g.start + 1 } HF (by unfold eqP; rw [show decide (g.start = g.start + 1) = false from decide_eq_false (by omega)]; simp) sF ⟨sv, eF, hP4.butD bF e4⟩
      · refine g_ixL (sl kn3) (at_of (j := 1) rfl rfl) ?_
        walk_at "go"
        refine ⟨by show 2 ≤ sizeLine; decide, fun tH4 htH4 => ?_⟩
        generalize z1 : upd H3 tH4 _ = H4
        have sH4 : Same H3 H4 := by rw [← z1]; exact same_upd htH4
        have kH4 := (congrFun z1 tH4).symm.trans upd_same
        clear z1
        refine g_inI (ws := [0, 8]) (st kH4) ?_
        have hd4 := sH4 _ _ hd3
        have e4 := sH4 _ _ e
        have hP4 := hP3.same sH4
        have s04 := s03.trans sH4
        clear hd3 e hP3 kn3
        walk_at "go"
        refine ⟨by show 1 ≤ sizeLine; decide, fun tH5 htH5 => ?_⟩
        generalize z1 : upd H4 tH5 _ = H5
        have sH5 : Same H4 H5 := by rw [← z1]; exact same_upd htH5
        have kH5 := (congrFun z1 tH5).symm.trans upd_same
        clear z1
        have hd5 := sH5 _ _ hd4
        have e5 := sH5 _ _ e4
        have hP5 := hP4.same sH5
        have s05 := s04.trans sH5
        clear hd4 e4 hP4
        refine g_cat hP5.1 (ys := [7].map V.int) kH5 (by rw [List.length_map, List.length_map]; exact sz (by show _ + 1 ≤ _; omega)) fun l6 h6 => ?_
        generalize z1 : upd H5 l6 _ = H6
        have s6 : Same H5 H6 := by rw [← z1]; exact same_upd h6
        have k6 : H6 l6 = some (.lst ((g.ds ++ [7]).map V.int)) := (congrFun z1 l6).symm.trans (upd_same.trans (by rw [List.map_append]))
        clear z1
        have e6 := s6 _ _ e5
        have hP6 := hP5.same s6
        have s06 := s05.trans s6
        walk_at "go"
        generalize z1 : upd H6 c _ = HF
        have bF : But c H6 HF := by rw [← z1]; exact But.refl.upd
        have eF := (congrFun z1 c).symm.trans upd_same
        clear z1
        have sF : Same H HF := ((But.of s06).trans bF).same (s1.free hc)
        exact q c l6 ra { g with ds := g.ds ++ [7] } HF (by unfold eqP; simp) sF ⟨sv, eF, PcP.butD (g := { g with ds := g.ds ++ [7] }) ⟨k6, hP6.2.1, hP6.2.2⟩ bF e6⟩
      · refine g_ixL (sl kn3) (at_of (j := 2) rfl rfl) ?_
        walk_at "go"
        refine ⟨by show 2 ≤ sizeLine; decide, fun tH4 htH4 => ?_⟩
        generalize z1 : upd H3 tH4 _ = H4
        have sH4 : Same H3 H4 := by rw [← z1]; exact same_upd htH4
        have kH4 := (congrFun z1 tH4).symm.trans upd_same
        clear z1
        refine g_inI (ws := [0, 8]) (st kH4) ?_
        have hd4 := sH4 _ _ hd3
        have e4 := sH4 _ _ e
        have hP4 := hP3.same sH4
        have s04 := s03.trans sH4
        clear hd3 e hP3 kn3
        walk_at "go"
        refine ⟨by show 5 ≤ sizeLine; decide, fun tH5 htH5 => ?_⟩
        generalize z1 : upd H4 tH5 _ = H5
        have sH5 : Same H4 H5 := by rw [← z1]; exact same_upd htH5
        have kH5 := (congrFun z1 tH5).symm.trans upd_same
        clear z1
        refine g_inI (ws := [2, 3, 4, 5, 6]) (st kH5) ?_
        have hd5 := sH5 _ _ hd4
        have e5 := sH5 _ _ e4
        have hP5 := hP4.same sH5
        have s05 := s04.trans sH5
        clear hd4 e4 hP4
        walk_at "go"
        generalize z1 : upd H5 c _ = HF
        have bF : But c H5 HF := by rw [← z1]; exact But.refl.upd
        have eF := (congrFun z1 c).symm.trans upd_same
        clear z1
        have sF : Same H HF := ((But.of s05).trans bF).same (s1.free hc)
        exact q c da ra { g with syn := !g.syn } HF (by unfold eqP; cases g.syn <;> simp) sF ⟨sv, eF, hP5.butD bF e5⟩
      · refine g_ixL (sl kn3) (at_of (j := 3) rfl rfl) ?_
        walk_at "go"
        refine ⟨by show 2 ≤ sizeLine; decide, fun tH4 htH4 => ?_⟩
        generalize z1 : upd H3 tH4 _ = H4
        have sH4 : Same H3 H4 := by rw [← z1]; exact same_upd htH4
        have kH4 := (congrFun z1 tH4).symm.trans upd_same
        clear z1
        refine g_inI (ws := [0, 8]) (st kH4) ?_
        have hd4 := sH4 _ _ hd3
        have e4 := sH4 _ _ e
        have hP4 := hP3.same sH4
        have s04 := s03.trans sH4
        clear hd3 e hP3 kn3
        walk_at "go"
        refine ⟨by show 5 ≤ sizeLine; decide, fun tH5 htH5 => ?_⟩
        generalize z1 : upd H4 tH5 _ = H5
        have sH5 : Same H4 H5 := by rw [← z1]; exact same_upd htH5
        have kH5 := (congrFun z1 tH5).symm.trans upd_same
        clear z1
        refine g_inI (ws := [2, 3, 4, 5, 6]) (st kH5) ?_
        have hd5 := sH5 _ _ hd4
        have e5 := sH5 _ _ e4
        have hP5 := hP4.same sH5
        have s05 := s04.trans sH5
        clear hd4 e4 hP4
        walk_at "go"
        generalize z1 : upd H5 c _ = HF
        have bF : But c H5 HF := by rw [← z1]; exact But.refl.upd
        have eF := (congrFun z1 c).symm.trans upd_same
        clear z1
        have sF : Same H HF := ((But.of s05).trans bF).same (s1.free hc)
        exact q c da ra { g with fin := !g.fin } HF (by unfold eqP; cases g.fin <;> simp) sF ⟨sv, eF, hP5.butD bF e5⟩
      · refine g_ixL (sl kn3) (at_of (j := 4) rfl rfl) ?_
        walk_at "go"
        refine ⟨by show 2 ≤ sizeLine; decide, fun tH4 htH4 => ?_⟩
        generalize z1 : upd H3 tH4 _ = H4
        have sH4 : Same H3 H4 := by rw [← z1]; exact same_upd htH4
        have kH4 := (congrFun z1 tH4).symm.trans upd_same
        clear z1
        refine g_inI (ws := [0, 8]) (st kH4) ?_
        have hd4 := sH4 _ _ hd3
        have e4 := sH4 _ _ e
        have hP4 := hP3.same sH4
        have s04 := s03.trans sH4
        clear hd3 e hP3 kn3
        walk_at "go"
        refine ⟨by show 5 ≤ sizeLine; decide, fun tH5 htH5 => ?_⟩
        generalize z1 : upd H4 tH5 _ = H5
        have sH5 : Same H4 H5 := by rw [← z1]; exact same_upd htH5
        have kH5 := (congrFun z1 tH5).symm.trans upd_same
        clear z1
        refine g_inI (ws := [2, 3, 4, 5, 6]) (st kH5) ?_
        have hd5 := sH5 _ _ hd4
        have e5 := sH5 _ _ e4
        have hP5 := hP4.same sH5
        have s05 := s04.trans sH5
        clear hd4 e4 hP4
        walk_at "go"
        generalize z1 : upd H5 c _ = HF
        have bF : But c H5 HF := by rw [← z1]; exact But.refl.upd
        have eF := (congrFun z1 c).symm.trans upd_same
        clear z1
        have sF : Same H HF := ((But.of s05).trans bF).same (s1.free hc)
        exact q c da ra { g with reset := !g.reset } HF (by unfold eqP; cases g.reset <;> simp) sF ⟨sv, eF, hP5.butD bF e5⟩
      · refine g_ixL (sl kn3) (at_of (j := 5) rfl rfl) ?_
        walk_at "go"
        refine ⟨by show 2 ≤ sizeLine; decide, fun tH4 htH4 => ?_⟩
        generalize z1 : upd H3 tH4 _ = H4
        have sH4 : Same H3 H4 := by rw [← z1]; exact same_upd htH4
        have kH4 := (congrFun z1 tH4).symm.trans upd_same
        clear z1
        refine g_inI (ws := [0, 8]) (st kH4) ?_
        have hd4 := sH4 _ _ hd3
        have e4 := sH4 _ _ e
        have hP4 := hP3.same sH4
        have s04 := s03.trans sH4
        clear hd3 e hP3 kn3
        walk_at "go"
        refine ⟨by show 5 ≤ sizeLine; decide, fun tH5 htH5 => ?_⟩
        generalize z1 : upd H4 tH5 _ = H5
        have sH5 : Same H4 H5 := by rw [← z1]; exact same_upd htH5
        have kH5 := (congrFun z1 tH5).symm.trans upd_same
        clear z1
        refine g_inI (ws := [2, 3, 4, 5, 6]) (st kH5) ?_
        have hd5 := sH5 _ _ hd4
        have e5 := sH5 _ _ e4
        have hP5 := hP4.same sH5
        have s05 := s04.trans sH5
        clear hd4 e4 hP4
        walk_at "go"
        generalize z1 : upd H5 c _ = HF
        have bF : But c H5 HF := by rw [← z1]; exact But.refl.upd
        have eF := (congrFun z1 c).symm.trans upd_same
        clear z1
        have sF : Same H HF := ((But.of s05).trans bF).same (s1.free hc)
        exact q c da ra { g with marked := !g.marked } HF (by unfold eqP; cases g.marked <;> simp) sF ⟨sv, eF, hP5.butD bF e5⟩
      · refine g_ixL (sl kn3) (at_of (j := 6) rfl rfl) ?_
        walk_at "go"
        refine ⟨by show 2 ≤ sizeLine; decide, fun tH4 htH4 => ?_⟩
        generalize z1 : upd H3 tH4 _ = H4
        have sH4 : Same H3 H4 := by rw [← z1]; exact same_upd htH4
        have kH4 := (congrFun z1 tH4).symm.trans upd_same
        clear z1
        refine g_inI (ws := [0, 8]) (st kH4) ?_
        have hd4 := sH4 _ _ hd3
        have e4 := sH4 _ _ e
        have hP4 := hP3.same sH4
        have s04 := s03.trans sH4
        clear hd3 e hP3 kn3
        walk_at "go"
        refine ⟨by show 5 ≤ sizeLine; decide, fun tH5 htH5 => ?_⟩
        generalize z1 : upd H4 tH5 _ = H5
        have sH5 : Same H4 H5 := by rw [← z1]; exact same_upd htH5
        have kH5 := (congrFun z1 tH5).symm.trans upd_same
        clear z1
        refine g_inI (ws := [2, 3, 4, 5, 6]) (st kH5) ?_
        have hd5 := sH5 _ _ hd4
        have e5 := sH5 _ _ e4
        have hP5 := hP4.same sH5
        have s05 := s04.trans sH5
        clear hd4 e4 hP4
        walk_at "go"
        generalize z1 : upd H5 c _ = HF
        have bF : But c H5 HF := by rw [← z1]; exact But.refl.upd
        have eF := (congrFun z1 c).symm.trans upd_same
        clear z1
        have sF : Same H HF := ((But.of s05).trans bF).same (s1.free hc)
        exact q c da ra { g with cut := !g.cut } HF (by unfold eqP; cases g.cut <;> simp) sF ⟨sv, eF, hP5.butD bF e5⟩
      · refine g_ixL (sl kn3) (at_of (j := 7) rfl rfl) ?_
        walk_at "go"
        refine ⟨by show 2 ≤ sizeLine; decide, fun tH4 htH4 => ?_⟩
        generalize z1 : upd H3 tH4 _ = H4
        have sH4 : Same H3 H4 := by rw [← z1]; exact same_upd htH4
        have kH4 := (congrFun z1 tH4).symm.trans upd_same
        clear z1
        refine g_inI (ws := [0, 8]) (st kH4) ?_
        have hd4 := sH4 _ _ hd3
        have e4 := sH4 _ _ e
        have hP4 := hP3.same sH4
        have s04 := s03.trans sH4
        clear hd3 e hP3 kn3
        walk_at "go"
        refine ⟨by show 5 ≤ sizeLine; decide, fun tH5 htH5 => ?_⟩
        generalize z1 : upd H4 tH5 _ = H5
        have sH5 : Same H4 H5 := by rw [← z1]; exact same_upd htH5
        have kH5 := (congrFun z1 tH5).symm.trans upd_same
        clear z1
        refine g_inI (ws := [2, 3, 4, 5, 6]) (st kH5) ?_
        have hd5 := sH5 _ _ hd4
        have e5 := sH5 _ _ e4
        have hP5 := hP4.same sH5
        have s05 := s04.trans sH5
        clear hd4 e4 hP4
        walk_at "go"
        cases ha : g.ack with
        | none =>
          rw [ha] at hd5 e5
          simp only [oV] at hd5 e5 ⊢
          walk_at "go"
          generalize z1 : upd H5 c _ = HF
          have bF : But c H5 HF := by rw [← z1]; exact But.refl.upd
          have eF := (congrFun z1 c).symm.trans upd_same
          clear z1
          have sF : Same H HF := ((But.of s05).trans bF).same (s1.free hc)
          exact q c da ra { g with ack := some 0 } HF (by unfold eqP; rw [ha]; simp) sF ⟨sv, eF, hP5.butD bF e5⟩
        | some i =>
          rw [ha] at hd5 e5
          simp only [oV] at hd5 e5 ⊢
          refine g_dF (fun z => nomatch z) ?_
          walk_at "go"
          refine ⟨by show 2 ≤ sizeLine; decide, fun l6 hl6 => ?_⟩
          generalize z1 : upd H5 l6 _ = H6
          have sH6 : Same H5 H6 := by rw [← z1]; exact same_upd hl6
          have kH6 := (congrFun z1 l6).symm.trans upd_same
          clear z1
          have hd6 := sH6 _ _ hd5
          have e6 := sH6 _ _ e5
          have hP6 := hP5.same sH6
          have s06 := s05.trans sH6
          clear hd5 e5 hP5
          walk_at "go"
          have hw : g.window % 2 = 0 ∨ g.window % 2 = 1 := by omega
          rcases hw with hw | hw
          · rw [hw]
            refine g_ixL (sl kH6) (at_of (j := 0) rfl rfl) ?_
            walk_at "go"
            generalize z1 : upd H6 c _ = HF
            have bF : But c H6 HF := by rw [← z1]; exact But.refl.upd
            have eF := (congrFun z1 c).symm.trans upd_same
            clear z1
            have sF : Same H HF := ((But.of s06).trans bF).same (s1.free hc)
            exact q c da ra { g with ack := none } HF (by unfold eqP; rw [ha]; simp) sF ⟨sv, eF, hP6.butD bF e6⟩
          · rw [hw]
            refine g_ixL (sl kH6) (at_of (j := 1) rfl rfl) ?_
            walk_at "go"
            generalize z1 : upd H6 c _ = HF
            have bF : But c H6 HF := by rw [← z1]; exact But.refl.upd
            have eF := (congrFun z1 c).symm.trans upd_same
            clear z1
            have sF : Same H HF := ((But.of s06).trans bF).same (s1.free hc)
            exact q c da ra { g with ack := some (i + 1) } HF (by unfold eqP; rw [ha, show decide (some i = some (i + 1)) = false from decide_eq_false (fun z => by have := Option.some.inj z; omega)]; simp) sF ⟨sv, eF, hP6.butD bF e6⟩
      · refine g_ixL (sl kn3) (at_of (j := 8) rfl rfl) ?_
        walk_at "go"
        refine ⟨by show 2 ≤ sizeLine; decide, fun tH4 htH4 => ?_⟩
        generalize z1 : upd H3 tH4 _ = H4
        have sH4 : Same H3 H4 := by rw [← z1]; exact same_upd htH4
        have kH4 := (congrFun z1 tH4).symm.trans upd_same
        clear z1
        refine g_inI (ws := [0, 8]) (st kH4) ?_
        have hd4 := sH4 _ _ hd3
        have e4 := sH4 _ _ e
        have hP4 := hP3.same sH4
        have s04 := s03.trans sH4
        clear hd3 e hP3 kn3
        walk_at "go"
        generalize z1 : upd H4 c _ = HF
        have bF : But c H4 HF := by rw [← z1]; exact But.refl.upd
        have eF := (congrFun z1 c).symm.trans upd_same
        clear z1
        have sF : Same H HF := ((But.of s04).trans bF).same (s1.free hc)
        exact q c da ra { g with window := g.window + 1 } HF (by unfold eqP; rw [show decide (g.window = g.window + 1) = false from decide_eq_false (by omega)]; simp) sF ⟨sv, eF, hP4.butD bF e4⟩
      · refine g_ixL (sl kn3) (at_of (j := 9) rfl rfl) ?_
        walk_at "go"
        refine ⟨by show 2 ≤ sizeLine; decide, fun tH4 htH4 => ?_⟩
        generalize z1 : upd H3 tH4 _ = H4
        have sH4 : Same H3 H4 := by rw [← z1]; exact same_upd htH4
        have kH4 := (congrFun z1 tH4).symm.trans upd_same
        clear z1
        refine g_inI (ws := [0, 8]) (st kH4) ?_
        have hd4 := sH4 _ _ hd3
        have e4 := sH4 _ _ e
        have hP4 := hP3.same sH4
        have s04 := s03.trans sH4
        clear hd3 e hP3 kn3
        walk_at "go"
        refine ⟨by show 5 ≤ sizeLine; decide, fun tH5 htH5 => ?_⟩
        generalize z1 : upd H4 tH5 _ = H5
        have sH5 : Same H4 H5 := by rw [← z1]; exact same_upd htH5
        have kH5 := (congrFun z1 tH5).symm.trans upd_same
        clear z1
        refine g_inI (ws := [2, 3, 4, 5, 6]) (st kH5) ?_
        have hd5 := sH5 _ _ hd4
        have e5 := sH5 _ _ e4
        have hP5 := hP4.same sH5
        have s05 := s04.trans sH5
        clear hd4 e4 hP4
        walk_at "go"
        refine ⟨by show 2 ≤ sizeLine; decide, fun t6 ht6 => ?_⟩
        generalize z1 : upd H5 t6 _ = H6
        have sH6 : Same H5 H6 := by rw [← z1]; exact same_upd ht6
        have kH6 := (congrFun z1 t6).symm.trans upd_same
        clear z1
        have hd6 := sH6 _ _ hd5
        have e6 := sH6 _ _ e5
        have hP6 := hP5.same sH6
        have s06 := s05.trans sH6
        clear hd5 e5 hP5
        walk_at "go"
        refine ⟨by show 1 ≤ sizeLine; decide, fun l7 hl7 => ?_⟩
        generalize z1 : upd H6 l7 _ = H7
        have sH7 : Same H6 H7 := by rw [← z1]; exact same_upd hl7
        have kH7 := (congrFun z1 l7).symm.trans upd_same
        clear z1
        have hd7 := sH7 _ _ hd6
        have e7 := sH7 _ _ e6
        have hP7 := hP6.same sH7
        have s07 := s06.trans sH7
        clear hd6 e6 hP6
        obtain ⟨hda7, ⟨vs7, hra7, hPr7⟩, hsv7⟩ := id hP7
        have lv := hPr7.1
        refine g_cat hra7 kH7 (by rw [lv]; exact sz (by show g.rs.length + 1 ≤ _; omega)) fun l8 h8 => ?_
        generalize z1 : upd H7 l8 _ = H8
        have sH8 : Same H7 H8 := by rw [← z1]; exact same_upd h8
        have k8 : H8 l8 = some (.lst (vs7 ++ [V.ref t6])) := (congrFun z1 l8).symm.trans upd_same
        clear z1
        have t8 := sH8 _ _ (sH7 _ _ kH6)
        have hd8 := sH8 _ _ hd7
        have e8 := sH8 _ _ e7
        have hP8 := hP7.same sH8
        have s08 := s07.trans sH8
        clear hd7 e7 hP7
        walk_at "go"
        generalize z1 : upd H8 c _ = HF
        have bF : But c H8 HF := by rw [← z1]; exact But.refl.upd
        have eF := (congrFun z1 c).symm.trans upd_same
        clear z1
        have sF : Same H HF := ((But.of s08).trans bF).same (s1.free hc)
        exact q c da l8 { g with rs := g.rs ++ [(1, 2)] } HF (by unfold eqP; simp) sF ⟨sv, eF, PcP.butD (g := { g with rs := g.rs ++ [(1, 2)] }) ⟨hP8.1, ⟨_, k8, (hPr7.same sH8).app (Prs.one t8)⟩, hP8.2.2⟩ bF e8⟩
      · refine g_ixL (sl kn3) (at_of (j := 10) rfl rfl) ?_
        walk_at "go"
        refine ⟨by show 2 ≤ sizeLine; decide, fun tH4 htH4 => ?_⟩
        generalize z1 : upd H3 tH4 _ = H4
        have sH4 : Same H3 H4 := by rw [← z1]; exact same_upd htH4
        have kH4 := (congrFun z1 tH4).symm.trans upd_same
        clear z1
        refine g_inI (ws := [0, 8]) (st kH4) ?_
        have hd4 := sH4 _ _ hd3
        have e4 := sH4 _ _ e
        have hP4 := hP3.same sH4
        have s04 := s03.trans sH4
        clear hd3 e hP3 kn3
        walk_at "go"
        refine ⟨by show 5 ≤ sizeLine; decide, fun tH5 htH5 => ?_⟩
        generalize z1 : upd H4 tH5 _ = H5
        have sH5 : Same H4 H5 := by rw [← z1]; exact same_upd htH5
        have kH5 := (congrFun z1 tH5).symm.trans upd_same
        clear z1
        refine g_inI (ws := [2, 3, 4, 5, 6]) (st kH5) ?_
        have hd5 := sH5 _ _ hd4
        have e5 := sH5 _ _ e4
        have hP5 := hP4.same sH5
        have s05 := s04.trans sH5
        clear hd4 e4 hP4
        walk_at "go"
        obtain ⟨hda5, hrr5, hsv5⟩ := id hP5
        cases hs : g.stamp with
        | none =>
          rw [hs] at hsv5
          have hsv5 : sv = .non := hsv5
          subst hsv5
          walk_at "go"
          refine ⟨by show 2 ≤ sizeLine; decide, fun t6 ht6 => ?_⟩
          generalize z1 : upd H5 t6 _ = H6
          have sH6 : Same H5 H6 := by rw [← z1]; exact same_upd ht6
          have kH6 := (congrFun z1 t6).symm.trans upd_same
          clear z1
          have hd6 := sH6 _ _ hd5
          have e6 := sH6 _ _ e5
          have hP6 := hP5.same sH6
          have s06 := s05.trans sH6
          clear hd5 e5 hP5
          walk_at "go"
          generalize z1 : upd H6 c _ = HF
          have bF : But c H6 HF := by rw [← z1]; exact But.refl.upd
          have eF := (congrFun z1 c).symm.trans upd_same
          clear z1
          have sF : Same H HF := ((But.of s06).trans bF).same (s1.free hc)
          exact q c da ra { g with stamp := some (0, 0) } HF (by unfold eqP; rw [hs]; simp) sF ⟨.ref t6, eF, PcP.butD (g := { g with stamp := some (0, 0) }) ⟨hP6.1, hP6.2.1, t6, rfl, kH6⟩ bF e6⟩
        | some p0 =>
          rw [hs] at hsv5
          obtain ⟨t0, rfl, ht0⟩ := hsv5
          refine g_dF (fun z => nomatch z) ?_
          walk_at "go"
          refine g_ixT (st ht0) (at_of (j := 0) rfl rfl) ?_
          walk_at "go"
          refine g_ixT (st ht0) (at_of (j := 1) rfl rfl) ?_
          walk_at "go"
          refine ⟨by show 2 ≤ sizeLine; decide, fun t6 ht6 => ?_⟩
          generalize z1 : upd H5 t6 _ = H6
          have sH6 : Same H5 H6 := by rw [← z1]; exact same_upd ht6
          have kH6 := (congrFun z1 t6).symm.trans upd_same
          clear z1
          have hd6 := sH6 _ _ hd5
          have e6 := sH6 _ _ e5
          have hP6 := hP5.same sH6
          have s06 := s05.trans sH6
          clear hd5 e5 hP5
          walk_at "go"
          refine ⟨by show 2 ≤ sizeLine; decide, fun l7 hl7 => ?_⟩
          generalize z1 : upd H6 l7 _ = H7
          have sH7 : Same H6 H7 := by rw [← z1]; exact same_upd hl7
          have kH7 := (congrFun z1 l7).symm.trans upd_same
          clear z1
          have hd7 := sH7 _ _ hd6
          have e7 := sH7 _ _ e6
          have hP7 := hP6.same sH7
          have s07 := s06.trans sH7
          clear hd6 e6 hP6
          have t7 := sH7 _ _ kH6
          walk_at "go"
          have hw : g.window % 2 = 0 ∨ g.window % 2 = 1 := by omega
          rcases hw with hw | hw
          · rw [hw]
            refine g_ixL (sl kH7) (at_of (j := 0) rfl rfl) ?_
            walk_at "go"
            generalize z1 : upd H7 c _ = HF
            have bF : But c H7 HF := by rw [← z1]; exact But.refl.upd
            have eF := (congrFun z1 c).symm.trans upd_same
            clear z1
            have sF : Same H HF := ((But.of s07).trans bF).same (s1.free hc)
            exact q c da ra { g with stamp := none } HF (by unfold eqP; rw [hs]; simp) sF ⟨.non, eF, PcP.butD (g := { g with stamp := none }) ⟨hP7.1, hP7.2.1, rfl⟩ bF e7⟩
          · rw [hw]
            refine g_ixL (sl kH7) (at_of (j := 1) rfl rfl) ?_
            walk_at "go"
            generalize z1 : upd H7 c _ = HF
            have bF : But c H7 HF := by rw [← z1]; exact But.refl.upd
            have eF := (congrFun z1 c).symm.trans upd_same
            clear z1
            have sF : Same H HF := ((But.of s07).trans bF).same (s1.free hc)
            exact q c da ra { g with stamp := some (p0.1, p0.2 + 1) } HF (by unfold eqP; rw [hs, show decide (some p0 = some (p0.1, p0.2 + 1)) = false from decide_eq_false (fun z => by have := congrArg Prod.snd (Option.some.inj z); simp at this; omega)]; simp) sF ⟨.ref t6, eF, PcP.butD (g := { g with stamp := some (p0.1, p0.2 + 1) }) ⟨hP7.1, hP7.2.1, t6, rfl, t7⟩ bF e7⟩

end
end My
namespace My
open PySem PySem.Spec L2
local macro_rules | `(tactic| walk_at "side") => `(tactic| first | assumption | decide | omega | exact ⟨by decide, by decide⟩ | exact ⟨by decide, by decide, by decide⟩ | decide +kernel | exact cdivW (by decide +kernel) (by decide +kernel) | exact Or.inl ⟨by omega, by omega⟩ | exact Or.inr ⟨by omega, by omega⟩ | (simp only [List.length_map, List.length_cons, List.length_nil, List.length_append]; omega))
local macro_rules | `(tactic| walk_at "fact") => `(tactic| first | assumption | omega | with_reducible rfl)
local macro_rules | `(tactic| walk_at "use") => `(tactic| fail "use")
local macro_rules | `(tactic| walk_at "go1") => `(tactic| with_reducible first | refine g_seq ?_ | refine g_asg ?_ | refine g_ret ?_ | refine g_ifS ?_ | refine g_drop ?_ | refine g_star ?_ | refine g_nx ?_ | refine g_rt ?_ | refine g_bkE ?_ | refine g_ctE ?_ | refine g_next ?_ | refine g_retN ?_ | refine g_brk ?_ | refine g_ct ?_ | refine g_c ?_ | refine g_op ?_ | refine g_un ?_ | refine g_rI0 ?_ | refine g_rU ?_ | refine g_rEqI ?_ | refine g_rNeI ?_ | refine g_isN ?_ | refine g_rIsB ?_ | refine g_rNotB ?_ | refine g_test ?_ | refine g_B ?_ | refine g_bl ?_ | refine g_and ?_ | refine g_or ?_ | refine g_not ?_ | refine g_andV ?_ | refine g_orV ?_ | refine g_notV ?_ | refine g_if ?_ | refine g_chain ?_ | refine g_yes ?_ | refine g_lc ?_ | refine g_revR ?_ | refine g_rng1 ?_ | refine g_iList ?_ | refine g_nil ?_ | refine g_cons ?_ | refine g_tup ?_ | refine g_lst ?_ | refine g_call ?_ | refine g_CB ?_ | refine g_sl ?_ | refine g_noPart ?_ | refine g_part ?_ | refine g_intE ?_ | refine g_ref ?_ | refine g_fld ?_ | refine g_sfld ?_ | refine g_meth ?_ | refine g_make ?_ | refine g_prop ?_  | refine g_ipI ?_ | refine g_int1 ?_ | refine g_int1B ?_ | refine g_one ?_ | refine g_two ?_ | refine g_isiI ?_ | refine g_isiIB ?_ | refine g_isiB ?_ | refine g_BM ?_ | refine g_BM0 ?_ | refine g_sub ?_)
local macro_rules | `(tactic| walk_at "go") => `(tactic| repeat (first | walk_at "go1" | ((with_reducible refine' g_nameE ?sd_ ?_); case sd_ => dsimp only [List.set_cons_succ, List.set_cons_zero]) | ((with_reducible refine' g_var ?sd_ ?_); case sd_ => exact rfl) | ((with_reducible refine' g_aug ?sd_ ?_); case sd_ => exact rfl) | ((with_reducible refine' g_rI ?sd_ ?_); case sd_ => walk_at "side") | ((with_reducible refine' g_dT ?sd_ ?_); case sd_ => walk_at "fact") | ((with_reducible refine' g_dF ?sd_ ?_); case sd_ => walk_at "fact") | ((with_reducible refine' g_nT ?sd_ ?_); case sd_ => walk_at "fact") | ((with_reducible refine' g_nF ?sd_ ?_); case sd_ => walk_at "fact") | (with_reducible refine g_iT rfl ?_) | (with_reducible refine g_iF rfl ?_) | walk_at "use"))
local macro_rules | `(tactic| walk_at "use") => `(tactic| first | ((with_reducible refine' fd_Piece_start ?ho_ ?hv_ ?_); (case ho_ => first | assumption | exact upd_same); (case hv_ => exact rfl)) | ((with_reducible refine' fd_Piece_data ?ho_ ?hv_ ?_); (case ho_ => first | assumption | exact upd_same); (case hv_ => exact rfl)) | ((with_reducible refine' fd_Piece_syn ?ho_ ?hv_ ?_); (case ho_ => first | assumption | exact upd_same); (case hv_ => exact rfl)) | ((with_reducible refine' fd_Piece_fin ?ho_ ?hv_ ?_); (case ho_ => first | assumption | exact upd_same); (case hv_ => exact rfl)) | ((with_reducible refine' fd_Piece_reset ?ho_ ?hv_ ?_); (case ho_ => first | assumption | exact upd_same); (case hv_ => exact rfl)) | ((with_reducible refine' fd_Piece_ack ?ho_ ?hv_ ?_); (case ho_ => first | assumption | exact upd_same); (case hv_ => exact rfl)) | ((with_reducible refine' fd_Piece_window ?ho_ ?hv_ ?_); (case ho_ => first | assumption | exact upd_same); (case hv_ => exact rfl)) | ((with_reducible refine' fd_Piece_ranges ?ho_ ?hv_ ?_); (case ho_ => first | assumption | exact upd_same); (case hv_ => exact rfl)) | ((with_reducible refine' fd_Piece_marked ?ho_ ?hv_ ?_); (case ho_ => first | assumption | exact upd_same); (case hv_ => exact rfl)) | ((with_reducible refine' fd_Piece_cut ?ho_ ?hv_ ?_); (case ho_ => first | assumption | exact upd_same); (case hv_ => exact rfl)) | ((with_reducible refine' fd_Piece_stamp ?ho_ ?hv_ ?_); (case ho_ => first | assumption | exact upd_same); (case hv_ => exact rfl)) | ((with_reducible refine' nw_Piece_start ?ho_ ?hv_ ?_); (case ho_ => first | assumption | exact upd_same); (case hv_ => exact rfl)) | ((with_reducible refine' nw_Piece_data ?ho_ ?hv_ ?_); (case ho_ => first | assumption | exact upd_same); (case hv_ => exact rfl)) | ((with_reducible refine' nw_Piece_syn ?ho_ ?hv_ ?_); (case ho_ => first | assumption | exact upd_same); (case hv_ => exact rfl)) | ((with_reducible refine' nw_Piece_fin ?ho_ ?hv_ ?_); (case ho_ => first | assumption | exact upd_same); (case hv_ => exact rfl)) | ((with_reducible refine' nw_Piece_reset ?ho_ ?hv_ ?_); (case ho_ => first | assumption | exact upd_same); (case hv_ => exact rfl)) | ((with_reducible refine' nw_Piece_ack ?ho_ ?hv_ ?_); (case ho_ => first | assumption | exact upd_same); (case hv_ => exact rfl)) | ((with_reducible refine' nw_Piece_window ?ho_ ?hv_ ?_); (case ho_ => first | assumption | exact upd_same); (case hv_ => exact rfl)) | ((with_reducible refine' nw_Piece_ranges ?ho_ ?hv_ ?_); (case ho_ => first | assumption | exact upd_same); (case hv_ => exact rfl)) | ((with_reducible refine' nw_Piece_marked ?ho_ ?hv_ ?_); (case ho_ => first | assumption | exact upd_same); (case hv_ => exact rfl)) | ((with_reducible refine' nw_Piece_cut ?ho_ ?hv_ ?_); (case ho_ => first | assumption | exact upd_same); (case hv_ => exact rfl)) | ((with_reducible refine' nw_Piece_stamp ?ho_ ?hv_ ?_); (case ho_ => first | assumption | exact upd_same); (case hv_ => exact rfl)) | ((with_reducible refine' st_Piece_start ?ho_ ?hv_ ?_); (case ho_ => first | assumption | exact upd_same); (case hv_ => exact Nat.le_of_ble_eq_true rfl)) | ((with_reducible refine' st_Piece_data ?ho_ ?hv_ ?_); (case ho_ => first | assumption | exact upd_same); (case hv_ => exact Nat.le_of_ble_eq_true rfl)) | ((with_reducible refine' st_Piece_syn ?ho_ ?hv_ ?_); (case ho_ => first | assumption | exact upd_same); (case hv_ => exact Nat.le_of_ble_eq_true rfl)) | ((with_reducible refine' st_Piece_fin ?ho_ ?hv_ ?_); (case ho_ => first | assumption | exact upd_same); (case hv_ => exact Nat.le_of_ble_eq_true rfl)) | ((with_reducible refine' st_Piece_reset ?ho_ ?hv_ ?_); (case ho_ => first | assumption | exact upd_same); (case hv_ => exact Nat.le_of_ble_eq_true rfl)) | ((with_reducible refine' st_Piece_ack ?ho_ ?hv_ ?_); (case ho_ => first | assumption | exact upd_same); (case hv_ => exact Nat.le_of_ble_eq_true rfl)) | ((with_reducible refine' st_Piece_window ?ho_ ?hv_ ?_); (case ho_ => first | assumption | exact upd_same); (case hv_ => exact Nat.le_of_ble_eq_true rfl)) | ((with_reducible refine' st_Piece_ranges ?ho_ ?hv_ ?_); (case ho_ => first | assumption | exact upd_same); (case hv_ => exact Nat.le_of_ble_eq_true rfl)) | ((with_reducible refine' st_Piece_marked ?ho_ ?hv_ ?_); (case ho_ => first | assumption | exact upd_same); (case hv_ => exact Nat.le_of_ble_eq_true rfl)) | ((with_reducible refine' st_Piece_cut ?ho_ ?hv_ ?_); (case ho_ => first | assumption | exact upd_same); (case hv_ => exact Nat.le_of_ble_eq_true rfl)) | ((with_reducible refine' st_Piece_stamp ?ho_ ?hv_ ?_); (case ho_ => first | assumption | exact upd_same); (case hv_ => exact Nat.le_of_ble_eq_true rfl)) | ((with_reducible refine' me_Piece_eq__ ?ho_ ?_); (case ho_ => first | assumption | exact upd_same)) | ((with_reducible refine' me_Piece_fields ?ho_ ?_); (case ho_ => first | assumption | exact upd_same)))
local macro_rules | `(tactic| walk_at "use") => `(tactic| first | ((with_reducible refine' dg_F_start ?ho_ ?hv_ ?_); (case ho_ => first | assumption | exact upd_same); (case hv_ => exact rfl)) | ((with_reducible refine' dg_F_data ?ho_ ?hv_ ?_); (case ho_ => first | assumption | exact upd_same); (case hv_ => exact rfl)) | ((with_reducible refine' dg_F_syn ?ho_ ?hv_ ?_); (case ho_ => first | assumption | exact upd_same); (case hv_ => exact rfl)) | ((with_reducible refine' dg_F_fin ?ho_ ?hv_ ?_); (case ho_ => first | assumption | exact upd_same); (case hv_ => exact rfl)) | ((with_reducible refine' dg_F_reset ?ho_ ?hv_ ?_); (case ho_ => first | assumption | exact upd_same); (case hv_ => exact rfl)) | ((with_reducible refine' dg_F_marked ?ho_ ?hv_ ?_); (case ho_ => first | assumption | exact upd_same); (case hv_ => exact rfl)) | ((with_reducible refine' dg_F_cut ?ho_ ?hv_ ?_); (case ho_ => first | assumption | exact upd_same); (case hv_ => exact rfl)) | ((with_reducible refine' dg_F_ack ?ho_ ?hv_ ?_); (case ho_ => first | assumption | exact upd_same); (case hv_ => exact rfl)) | ((with_reducible refine' dg_F_window ?ho_ ?hv_ ?_); (case ho_ => first | assumption | exact upd_same); (case hv_ => exact rfl)) | ((with_reducible refine' dg_F_ranges ?ho_ ?hv_ ?_); (case ho_ => first | assumption | exact upd_same); (case hv_ => exact rfl)) | ((with_reducible refine' dg_F_stamp ?ho_ ?hv_ ?_); (case ho_ => first | assumption | exact upd_same); (case hv_ => exact rfl)) | ((with_reducible refine' dn_F_start ?ho_ ?hv_ ?_); (case ho_ => first | assumption | exact upd_same); (case hv_ => exact rfl)) | ((with_reducible refine' dn_F_data ?ho_ ?hv_ ?_); (case ho_ => first | assumption | exact upd_same); (case hv_ => exact rfl)) | ((with_reducible refine' dn_F_syn ?ho_ ?hv_ ?_); (case ho_ => first | assumption | exact upd_same); (case hv_ => exact rfl)) | ((with_reducible refine' dn_F_fin ?ho_ ?hv_ ?_); (case ho_ => first | assumption | exact upd_same); (case hv_ => exact rfl)) | ((with_reducible refine' dn_F_reset ?ho_ ?hv_ ?_); (case ho_ => first | assumption | exact upd_same); (case hv_ => exact rfl)) | ((with_reducible refine' dn_F_marked ?ho_ ?hv_ ?_); (case ho_ => first | assumption | exact upd_same); (case hv_ => exact rfl)) | ((with_reducible refine' dn_F_cut ?ho_ ?hv_ ?_); (case ho_ => first | assumption | exact upd_same); (case hv_ => exact rfl)) | ((with_reducible refine' dn_F_ack ?ho_ ?hv_ ?_); (case ho_ => first | assumption | exact upd_same); (case hv_ => exact rfl)) | ((with_reducible refine' dn_F_window ?ho_ ?hv_ ?_); (case ho_ => first | assumption | exact upd_same); (case hv_ => exact rfl)) | ((with_reducible refine' dn_F_ranges ?ho_ ?hv_ ?_); (case ho_ => first | assumption | exact upd_same); (case hv_ => exact rfl)) | ((with_reducible refine' dn_F_stamp ?ho_ ?hv_ ?_); (case ho_ => first | assumption | exact upd_same); (case hv_ => exact rfl)) | ((with_reducible refine' dp_F_start ?ho_ ?hv_ ?_); (case ho_ => first | assumption | exact upd_same); (case hv_ => exact Nat.le_of_ble_eq_true rfl)) | ((with_reducible refine' dp_F_data ?ho_ ?hv_ ?_); (case ho_ => first | assumption | exact upd_same); (case hv_ => exact Nat.le_of_ble_eq_true rfl)) | ((with_reducible refine' dp_F_syn ?ho_ ?hv_ ?_); (case ho_ => first | assumption | exact upd_same); (case hv_ => exact Nat.le_of_ble_eq_true rfl)) | ((with_reducible refine' dp_F_fin ?ho_ ?hv_ ?_); (case ho_ => first | assumption | exact upd_same); (case hv_ => exact Nat.le_of_ble_eq_true rfl)) | ((with_reducible refine' dp_F_reset ?ho_ ?hv_ ?_); (case ho_ => first | assumption | exact upd_same); (case hv_ => exact Nat.le_of_ble_eq_true rfl)) | ((with_reducible refine' dp_F_marked ?ho_ ?hv_ ?_); (case ho_ => first | assumption | exact upd_same); (case hv_ => exact Nat.le_of_ble_eq_true rfl)) | ((with_reducible refine' dp_F_cut ?ho_ ?hv_ ?_); (case ho_ => first | assumption | exact upd_same); (case hv_ => exact Nat.le_of_ble_eq_true rfl)) | ((with_reducible refine' dp_F_ack ?ho_ ?hv_ ?_); (case ho_ => first | assumption | exact upd_same); (case hv_ => exact Nat.le_of_ble_eq_true rfl)) | ((with_reducible refine' dp_F_window ?ho_ ?hv_ ?_); (case ho_ => first | assumption | exact upd_same); (case hv_ => exact Nat.le_of_ble_eq_true rfl)) | ((with_reducible refine' dp_F_ranges ?ho_ ?hv_ ?_); (case ho_ => first | assumption | exact upd_same); (case hv_ => exact Nat.le_of_ble_eq_true rfl)) | ((with_reducible refine' dp_F_stamp ?ho_ ?hv_ ?_); (case ho_ => first | assumption | exact upd_same); (case hv_ => exact Nat.le_of_ble_eq_true rfl)))
local macro_rules | `(tactic| walk_at "use") => `(tactic| with_reducible first | refine g_dgetT ?_ | refine g_dputT ?_)
local macro_rules | `(tactic| walk_at "use") => `(tactic| first | ((with_reducible refine' dg_R_start ?ho_ ?hv_ ?_); (case ho_ => first | assumption | exact upd_same); (case hv_ => exact rfl)) | ((with_reducible refine' dg_R_data ?ho_ ?hv_ ?_); (case ho_ => first | assumption | exact upd_same); (case hv_ => exact rfl)) | ((with_reducible refine' dg_R_ranges ?ho_ ?hv_ ?_); (case ho_ => first | assumption | exact upd_same); (case hv_ => exact rfl)) | ((with_reducible refine' dg_R_ack ?ho_ ?hv_ ?_); (case ho_ => first | assumption | exact upd_same); (case hv_ => exact rfl)) | ((with_reducible refine' dg_R_window ?ho_ ?hv_ ?_); (case ho_ => first | assumption | exact upd_same); (case hv_ => exact rfl)) | ((with_reducible refine' dg_R_stamp ?ho_ ?hv_ ?_); (case ho_ => first | assumption | exact upd_same); (case hv_ => exact rfl)) | ((with_reducible refine' dg_R_syn ?ho_ ?hv_ ?_); (case ho_ => first | assumption | exact upd_same); (case hv_ => exact rfl)) | ((with_reducible refine' dg_R_fin ?ho_ ?hv_ ?_); (case ho_ => first | assumption | exact upd_same); (case hv_ => exact rfl)) | ((with_reducible refine' dg_R_reset ?ho_ ?hv_ ?_); (case ho_ => first | assumption | exact upd_same); (case hv_ => exact rfl)) | ((with_reducible refine' dg_R_marked ?ho_ ?hv_ ?_); (case ho_ => first | assumption | exact upd_same); (case hv_ => exact rfl)) | ((with_reducible refine' dg_R_cut ?ho_ ?hv_ ?_); (case ho_ => first | assumption | exact upd_same); (case hv_ => exact rfl)) | ((with_reducible refine' dn_R_start ?ho_ ?hv_ ?_); (case ho_ => first | assumption | exact upd_same); (case hv_ => exact rfl)) | ((with_reducible refine' dn_R_data ?ho_ ?hv_ ?_); (case ho_ => first | assumption | exact upd_same); (case hv_ => exact rfl)) | ((with_reducible refine' dn_R_ranges ?ho_ ?hv_ ?_); (case ho_ => first | assumption | exact upd_same); (case hv_ => exact rfl)) | ((with_reducible refine' dn_R_ack ?ho_ ?hv_ ?_); (case ho_ => first | assumption | exact upd_same); (case hv_ => exact rfl)) | ((with_reducible refine' dn_R_window ?ho_ ?hv_ ?_); (case ho_ => first | assumption | exact upd_same); (case hv_ => exact rfl)) | ((with_reducible refine' dn_R_stamp ?ho_ ?hv_ ?_); (case ho_ => first | assumption | exact upd_same); (case hv_ => exact rfl)) | ((with_reducible refine' dn_R_syn ?ho_ ?hv_ ?_); (case ho_ => first | assumption | exact upd_same); (case hv_ => exact rfl)) | ((with_reducible refine' dn_R_fin ?ho_ ?hv_ ?_); (case ho_ => first | assumption | exact upd_same); (case hv_ => exact rfl)) | ((with_reducible refine' dn_R_reset ?ho_ ?hv_ ?_); (case ho_ => first | assumption | exact upd_same); (case hv_ => exact rfl)) | ((with_reducible refine' dn_R_marked ?ho_ ?hv_ ?_); (case ho_ => first | assumption | exact upd_same); (case hv_ => exact rfl)) | ((with_reducible refine' dn_R_cut ?ho_ ?hv_ ?_); (case ho_ => first | assumption | exact upd_same); (case hv_ => exact rfl)) | ((with_reducible refine' dp_R_start ?ho_ ?hv_ ?_); (case ho_ => first | assumption | exact upd_same); (case hv_ => exact Nat.le_of_ble_eq_true rfl)) | ((with_reducible refine' dp_R_data ?ho_ ?hv_ ?_); (case ho_ => first | assumption | exact upd_same); (case hv_ => exact Nat.le_of_ble_eq_true rfl)) | ((with_reducible refine' dp_R_ranges ?ho_ ?hv_ ?_); (case ho_ => first | assumption | exact upd_same); (case hv_ => exact Nat.le_of_ble_eq_true rfl)) | ((with_reducible refine' dp_R_ack ?ho_ ?hv_ ?_); (case ho_ => first | assumption | exact upd_same); (case hv_ => exact Nat.le_of_ble_eq_true rfl)) | ((with_reducible refine' dp_R_window ?ho_ ?hv_ ?_); (case ho_ => first | assumption | exact upd_same); (case hv_ => exact Nat.le_of_ble_eq_true rfl)) | ((with_reducible refine' dp_R_stamp ?ho_ ?hv_ ?_); (case ho_ => first | assumption | exact upd_same); (case hv_ => exact Nat.le_of_ble_eq_true rfl)) | ((with_reducible refine' dp_R_syn ?ho_ ?hv_ ?_); (case ho_ => first | assumption | exact upd_same); (case hv_ => exact Nat.le_of_ble_eq_true rfl)) | ((with_reducible refine' dp_R_fin ?ho_ ?hv_ ?_); (case ho_ => first | assumption | exact upd_same); (case hv_ => exact Nat.le_of_ble_eq_true rfl)) | ((with_reducible refine' dp_R_reset ?ho_ ?hv_ ?_); (case ho_ => first | assumption | exact upd_same); (case hv_ => exact Nat.le_of_ble_eq_true rfl)) | ((with_reducible refine' dp_R_marked ?ho_ ?hv_ ?_); (case ho_ => first | assumption | exact upd_same); (case hv_ => exact Nat.le_of_ble_eq_true rfl)) | ((with_reducible refine' dp_R_cut ?ho_ ?hv_ ?_); (case ho_ => first | assumption | exact upd_same); (case hv_ => exact Nat.le_of_ble_eq_true rfl)))
local macro_rules | `(tactic| walk_at "use") => `(tactic| with_reducible first | refine g_dgetT ?_ | refine g_dputT ?_)
section
variable {P : Program} {w : World} {K : PySem.W.Frag} {mg : Str → Option Value} {base : Heap}
local macro_rules | `(tactic| walk_at "use") => `(tactic| with_reducible first | refine g_disp ?_ | refine g_pcons ?_ | refine g_pnil ?_)
local macro_rules | `(tactic| walk_at "use") => `(tactic| with_reducible first | refine g_dgetT ?_ | refine g_dputT ?_ | refine g_makeK ?_ | refine u_cell (by assumption) (by decide) ?_)
/-! ### x == y by an own __eq__, whatever it answers -/
def rEqO (C : Addr) (OK : V → Hp → Prop) (sp : Sp) (E : XK) : R2 := fun x y H Q => ∃ a dx fs, x = .ref a ∧ H a = some (.ins C dx fs) ∧ OK y H ∧ sp [x, y] H (fun v H' => ∃ b, v = .bl b ∧ Q (.bl b) H') E
/-- what may stand on the right: an instance of the class, or an int -/
def EqR (C : Addr) : V → Hp → Prop := fun y H => (∃ b dy gs, y = .ref b ∧ H b = some (.ins C dy gs)) ∨ ∃ i, y = .int i
theorem op_eqO {X : Cx} {CX : CXT} {n : Nat} {C f : Addr} {fd : FuncData} {ps : List Str} {sp : Sp} {E : XK} (F : FnOk X.prog X.w X.K X.mg X.base CX n f fd ps sp) (hr : Room n X.A)
    (hm : Meth X.K C "__eq__" f) (hi : PySem.W.subIn X.K (.type "int") (.ref C) = some false) (hb : Binds X.K fd ps []) (hx : Passes CX X E) : OpR X (compareOp .Eq) (rEqO C (EqR C) sp E) := by
  obtain ⟨hs, hf, _⟩ := hm
  intro pins s σ H x y v u Q I rx ry hq
  obtain ⟨a, dx, fs, rfl, ha, hy, hsp⟩ := hq
  cases rx
  show wpAny (model X.prog X.w) X.A (richCompare .Eq (.ref a) u) (EP X pins σ Q) X.xe s
  obtain ⟨mA, J, _⟩ := ins_get I.hok ha
  obtain ⟨od, J, _⟩ := J.look
  obtain ⟨m, hF⟩ := I.fr
  have hl := F.len _ _ _ _ hsp
  have r2 : Vals [V.ref a, y] [Value.ref a, u] := .cons rfl (.cons ry .nil)
  have main : wpAny (model X.prog X.w) X.A (call (.ref f) [.ref a, u]) (PySem.W.CmpBack (EP X pins σ Q)) X.xe s := by
    refine wpAny_call (codeAny_mono (F.run X.A X.stack s H ⟨[.ref a, u], []⟩ [.ref a, u] [.ref a, y] _ E hr I.env0 (by
      have := hb s [.ref a, u] I.kIn (by simpa using hl)
      simpa using this) r2 hsp) fun r s' hq => ?_)
    cases r with
    | error e => exact hx pins σ H s e s' I hq
    | ok fl =>
      cases fl with
      | ret w =>
        obtain ⟨z, H', I', rz, b, ez, q⟩ := I.after hq
        subst ez
        cases rz
        exact ⟨.bl b, H', I', rfl, q⟩
      | next => exact False.elim hq
      | brk => exact False.elim hq
      | cont => exact False.elim hq
  rcases hy with ⟨b, dy, gs, rfl, hb'⟩ | ⟨i, rfl⟩
  · cases ry
    obtain ⟨mB, J', _⟩ := ins_get I.hok hb'
    obtain ⟨od', J', _⟩ := J'.look
    exact PySem.W.cmp_K (op := .Eq) (tb := .ref C) hr.units0 hF I.ok.mod.kin J J'.type (by simp [PySem.W.notFirst]) hs hf main
  · obtain ⟨t, rfl⟩ := ry
    exact PySem.W.cmp_K (op := .Eq) (tb := .type "int") hr.units0 hF I.ok.mod.kin J (PySem.W.Looks.of_pure rfl) (by unfold PySem.W.notFirst; rw [hi]; rfl) hs hf main
theorem kit_own {K : PySem.W.Frag} {T : String} {C : Addr} (a : PySem.W.isClsIn K C = true) (b : PySem.W.typeIn K (.ref C) = some (.type "type")) (c : PySem.W.subIn K (.type T) (.ref C) = some false) : PySem.W.kitOne K (.type T) (.ref C) = some false := by
  unfold PySem.W.isClsIn at a
  unfold PySem.W.kitOne
  rw [if_neg (by show ¬ (Value.type T == Value.ref C) = true; exact fun h => by cases (beq_iff_eq.mp h))]
  show (if ((PySem.W.clsIn K C).isSome && PySem.W.typeIn K (.ref C) == some (.type "type")) = true then PySem.W.subIn K (.type T) (.ref C) else none) = some false
  rw [a, b, if_pos (by rw [Bool.true_and]; exact beq_self_eq_true _)]
  exact c

theorem StV.butL {H H' : Hp} {v : V} {o : Option (Int × Int)} {a : Addr} {xs : List V} (h : StV H v o) (s : But a H H') (e : H a = some (.lst xs)) : StV H' v o := by
  cases o with
  | none => exact h
  | some p =>
    obtain ⟨t, e1, h⟩ := h
    exact ⟨t, e1, s _ _ (fun z => by rw [z, e] at h; cases h) h⟩
theorem PcO.butL {C : Addr} {H H' : Hp} {p da ra a : Addr} {g : Pc} {xs : List V} (h : PcO C H p g da ra) (s : But a H H') (e : H a = some (.lst xs)) (n1 : da ≠ a) (n2 : ra ≠ a) : PcO C H' p g da ra := by
  obtain ⟨dx, sv, h1, h2, ⟨vs, h3, h4⟩, h5⟩ := h
  exact ⟨dx, sv, s _ _ (fun z => by rw [z, e] at h1; cases h1) h1, s _ _ n1 h2, ⟨vs, s _ _ n2 h3, h4.but s e⟩, h5.butL s e⟩
def nm5 : List Str := ["syn", "fin", "reset", "marked", "cut"]
theorem nm5_at {i : Nat} {nm : Str} (h : nm5[i]? = some nm) : kd_R[6 + i]? = some nm := by
  have e : kd_R.drop 6 = nm5 := rfl
  rw [← e, List.getElem?_drop] at h
  exact h
def sp_law (K : PySem.W.Frag) : Sp := fun vs H Q _ => ∃ (a : Addr) (ns : List Int), vs = [.ref a] ∧ SqL K H a (ns.map V.int) ∧ ns.length ≤ 63 ∧ ∀ H', Q (.bl true) H'

theorem kbt_1 {K : PySem.W.Frag} {mg : Str → Option Value} (T : Txt K mg) : ∃ ds, Vals [(.ref T.e_Piece_init___data : V), (.bl false : V), (.bl false : V), (.bl false : V), (.non : V), (.int 0 : V), (.ref T.e_Piece_init___ranges : V), (.bl false : V), (.bl false : V), (.non : V)] ds ∧ Binds K T.d_Piece_init__ ["self", "start", "data", "syn", "fin", "reset", "ack", "window", "ranges", "marked", "cut", "stamp"] ds :=
  T.F_Piece_init__.binds0 (ps := ["self", "start", "data", "syn", "fin", "reset", "ack", "window", "ranges", "marked", "cut", "stamp"]) 2 (by intro h; cases h) rfl fun D doc pm an cdv ct us ks l1 l2 => match us, l1, ks, l2 with | [_, _], _, [_, _, _, _, _, _, _, _, _, _], _ => ⟨_, _, _, _, _, _, rfl, rfl, _, _, _, _, _, _, rfl, rfl, _, _, _, _, _, _, rfl, rfl, _, _, _, _, _, _, rfl, rfl, _, _, _, _, _, _, rfl, rfl, _, _, _, _, _, _, rfl, rfl, _, _, _, _, _, _, rfl, rfl, _, _, _, _, _, _, rfl, rfl, _, _, _, _, _, _, rfl, rfl, _, _, _, _, _, _, rfl, rfl, rfl⟩
theorem kbt_2 {K : PySem.W.Frag} {mg : Str → Option Value} (T : Txt K mg) : ∃ g, KBn K T.d_Piece_init__ ["self", "start", "data", "syn", "fin", "reset", "ack", "window", "ranges", "marked", "cut", "stamp"] 2 ["data", "ranges"] g (fun vs zs => vs ++ ((zs.drop 0).take 1 ++ ((([.bl false, .bl false, .bl false, .non, .int 0, .bl false, .bl false, .non] : List V).drop 0).take 1 ++ ((([.bl false, .bl false, .bl false, .non, .int 0, .bl false, .bl false, .non] : List V).drop 1).take 1 ++ ((([.bl false, .bl false, .bl false, .non, .int 0, .bl false, .bl false, .non] : List V).drop 2).take 1 ++ ((([.bl false, .bl false, .bl false, .non, .int 0, .bl false, .bl false, .non] : List V).drop 3).take 1 ++ ((([.bl false, .bl false, .bl false, .non, .int 0, .bl false, .bl false, .non] : List V).drop 4).take 1 ++ ((zs.drop 1).take 1 ++ ((([.bl false, .bl false, .bl false, .non, .int 0, .bl false, .bl false, .non] : List V).drop 5).take 1 ++ ((([.bl false, .bl false, .bl false, .non, .int 0, .bl false, .bl false, .non] : List V).drop 6).take 1 ++ ((([.bl false, .bl false, .bl false, .non, .int 0, .bl false, .bl false, .non] : List V).drop 7).take 1))))))))))) := by
  obtain ⟨mv, h⟩ := T.F_Piece_init__.kbinds0 (ps := ["self", "start", "data", "syn", "fin", "reset", "ack", "window", "ranges", "marked", "cut", "stamp"]) 2 ["data", "ranges"] [("syn", .bl false), ("fin", .bl false), ("reset", .bl false), ("ack", .non), ("window", .int 0), ("marked", .bl false), ("cut", .bl false), ("stamp", .non)] (fun vs mz zs => vs ++ ((zs.drop 0).take 1 ++ ((mz.drop 0).take 1 ++ ((mz.drop 1).take 1 ++ ((mz.drop 2).take 1 ++ ((mz.drop 3).take 1 ++ ((mz.drop 4).take 1 ++ ((zs.drop 1).take 1 ++ ((mz.drop 5).take 1 ++ ((mz.drop 6).take 1 ++ ((mz.drop 7).take 1))))))))))) (by intro h; cases h) (fun q hq => List.Sublist.mem hq (.cons _ (.cons₂ _ (.cons₂ _ (.cons₂ _ (.cons₂ _ (.cons₂ _ (.cons _ (.cons₂ _ (.cons₂ _ (.cons₂ _ (.slnil)))))))))))) (fun r1 r2 r3 => r1.append (((r3.drop 0).take 1).append (((r2.drop 0).take 1).append (((r2.drop 1).take 1).append (((r2.drop 2).take 1).append (((r2.drop 3).take 1).append (((r2.drop 4).take 1).append (((r3.drop 1).take 1).append (((r2.drop 5).take 1).append (((r2.drop 6).take 1).append ((r2.drop 7).take 1))))))))))) (fun D doc pm an cdv ct us mv ws l1 l2 l3 => match us, l1, mv, l2, ws, l3 with | [_, _], _, [_, _, _, _, _, _, _, _], _, [_, _], _ => ⟨_, _, _, _, _, _, rfl, rfl, _, _, _, _, _, _, rfl, rfl, _, _, _, _, _, _, rfl, rfl, _, _, _, _, _, _, rfl, rfl, _, _, _, _, _, _, rfl, rfl, _, _, _, _, _, _, rfl, rfl, _, _, _, _, _, _, rfl, rfl, _, _, _, _, _, _, rfl, rfl, rfl⟩)
  exact ⟨_, h⟩
theorem ok_law (T : Txt K mg) : FnOk P w K mg base CX0 6 T.f_law T.d_law ["script"] (sp_law K) := by
  refine T.F_law.ok sc_law (fun vs H Q E h => ?_) (fun cdv A outer s H vs Q E hr h => ?_)
  · obtain ⟨a, ns, rfl, hS, hlen, q⟩ := h
    rfl
  · obtain ⟨a, ns, rfl, hS, hlen, q⟩ := h
    have hu := hu_of hr
    obtain ⟨ds_1, kv_1, kb_1⟩ := kbt_1 T
    obtain ⟨gk_2, kb_2⟩ := kbt_2 T
    refine ⟨_, (pss_cons (ps_set (i := 1) sc_law.nd rfl (Or.inl rfl) (pe_call (ok_l_fields T) (hr.mono (by decide)) rfl T.m_l_fields T.F_l_fields.kp T.b_l_fields .nil pass0 (pa_cons (pv 0) pa_nil)))
        (pss_cons (ps_set (i := 2) sc_law.nd rfl (Or.inl rfl) (pe_call (ok_l_made T) (hr.mono (by decide)) rfl T.m_l_made T.F_l_made.kp T.b_l_made .nil pass0 (pa_cons (pv 1) pa_nil)))
        (pss_cons (ps_if (pt_not (pt_val (pe_call (ok_l_right T) (hr.mono (by decide)) rfl T.m_l_right T.F_l_right.kp T.b_l_right .nil pass0 (pa_cons (pv 2) (pa_cons (pv 1) pa_nil))))) (pss_one (ps_ret pe_bl)) pss_nil)
        (pss_cons (ps_set (i := 3) sc_law.nd rfl (Or.inl rfl) (pe_callTy call_list_of (by rfl) T.n_list (by decide +kernel) (pa_cons (pe_dget hu (pv 1) pe_str (fun _ _ => rfl)) pa_nil)))
        (pss_cons (ps_set (i := 4) sc_law.nd rfl (Or.inl rfl) (pe_callTy call_list_of (by rfl) T.n_list (by decide +kernel) (pa_cons (pe_dget hu (pv 1) pe_str (fun _ _ => rfl)) pa_nil)))
        (pss_cons (ps_set (i := 5) sc_law.nd rfl (Or.inl rfl) (pe_makeK T.mk_Piece (ok_Piece_init__ T) (hr.mono (by decide)) rfl T.c_Piece kb_2 pass0 (pa_cons (pe_dget hu (pv 1) pe_str (fun _ _ => rfl)) pa_nil) (pk_cons (pv 3) (pk_cons (pv 4) pk_nil))))
        (pss_cons (ps_expr (pe_bm PySem.F.plainAttrs_list PySem.F.slot_list_append PySem.F.type_list_append mt_append (pv 3) (pa_cons pe_int pa_nil)))
        (pss_cons (ps_expr (pe_bm PySem.F.plainAttrs_list PySem.F.slot_list_append PySem.F.type_list_append mt_append (pv 4) (pa_cons (pe_tup (pa_cons pe_int (pa_cons pe_int pa_nil))) pa_nil)))
        (pss_cons (ps_set (i := 6) sc_law.nd rfl (Or.inl rfl) (pe_disp (pps_cons pe_str (pe_dget hu (pv 1) pe_str (fun _ _ => rfl)) (pps_cons pe_str (pe_dget hu (pv 1) pe_str (fun _ _ => rfl)) (pps_cons pe_str (pe_dget hu (pv 1) pe_str (fun _ _ => rfl)) (pps_cons pe_str pe_non (pps_cons pe_str pe_int pps_nil))))) (by rfl) (by rfl) (fun z => by cases z) (by decide)))
        (pss_cons (ps_dput hu (pv 6) pe_str pe_non rfl)
        (pss_cons (ps_for PassesOwn.never rfl (pi_list (pe_lst (pa_cons pe_str (pa_cons pe_str (pa_cons pe_str (pa_cons pe_str (pa_cons pe_str pa_nil))))))) (pg_name (i := 7) sc_law.nd rfl (Or.inl rfl)) (pss_one (ps_dput hu (pv 6) (pv 7) pe_bl rfl)))
        (pss_cons (ps_if (pt_not (pt_val (pe_call (ok_l_right T) (hr.mono (by decide)) rfl T.m_l_right T.F_l_right.kp T.b_l_right .nil pass0 (pa_cons (pv 5) (pa_cons (pv 6) pa_nil))))) (pss_one (ps_ret pe_bl)) pss_nil)
        (pss_cons (ps_dput hu (pv 6) pe_str (pe_lst pa_nil) rfl)
        (pss_cons (ps_dput hu (pv 6) pe_str (pe_lst pa_nil) rfl)
        (pss_cons (ps_if (pt_not (pt_val (pe_call (ok_l_right T) (hr.mono (by decide)) rfl T.m_l_right T.F_l_right.kp T.b_l_right .nil pass0 (pa_cons (pe_make T.mk_Piece (ok_Piece_init__ T) (hr.mono (by decide)) rfl T.c_Piece kb_1 kv_1 pass0 (pa_cons (pe_dget hu (pv 1) pe_str (fun _ _ => rfl)) pa_nil)) (pa_cons (pv 6) pa_nil))))) (pss_one (ps_ret pe_bl)) pss_nil)
        (pss_cons (ps_set (i := 8) sc_law.nd rfl (Or.inl rfl) (pe_call (ok_l_changed T) (hr.mono (by decide)) rfl T.m_l_changed T.F_l_changed.kp T.b_l_changed .nil pass0 (pa_cons (pv 1) (pa_cons (pe_op op_mod (pe_callTy call_int1 (by rfl) T.n_int (by decide +kernel) (pa_cons (pe_call (ok_l_cell T) (hr.mono (by decide)) rfl T.m_l_cell T.F_l_cell.kp T.b_l_cell .nil pass0 (pa_cons (pv 0) (pa_cons pe_int pa_nil))) pa_nil)) pe_int) pa_nil))))
        (pss_cons (ps_if (PW.pt (pw_or (pt_cmpR op_notBl (pe_cmpR (op_eqO (ok_Piece_eq__ T) (hr.mono (by decide)) T.a_Piece_eq__ T.q_Piece T.b_Piece_eq__ pass0) (pv 2) (pe_call (ok_l_made T) (hr.mono (by decide)) rfl T.m_l_made T.F_l_made.kp T.b_l_made .nil pass0 (pa_cons (pv 1) pa_nil)) (nomark _)) pe_bl (nomark _)) (pw_or1 (pt_cmpR op_notBl (pe_cmpR (op_eqO (ok_Piece_eq__ T) (hr.mono (by decide)) T.a_Piece_eq__ T.q_Piece T.b_Piece_eq__ pass0) (pv 2) (pe_call (ok_l_made T) (hr.mono (by decide)) rfl T.m_l_made T.F_l_made.kp T.b_l_made .nil pass0 (pa_cons (pv 8) pa_nil)) (nomark _)) pe_bl (nomark _))))) (pss_one (ps_ret pe_bl)) pss_nil)
        (pss_one (ps_ret (pe_and (pe_cmpR op_isBl (pe_cmpR (op_eqO (ok_Piece_eq__ T) (hr.mono (by decide)) T.a_Piece_eq__ T.q_Piece T.b_Piece_eq__ pass0) (pv 2) (pe_dget hu (pv 1) pe_str (fun _ _ => rfl)) (nomark _)) pe_bl (nomark _)) (pe_one (pe_call (ok_l_right T) (hr.mono (by decide)) rfl T.m_l_right T.F_l_right.kp T.b_l_right .nil pass0 (pa_cons (pv 2) (pa_cons (pv 1) pa_nil)))))))))))))))))))))))), ?_⟩
    dsimp only [cxOf, Cx.nox, Cx.wish, L2.start, List.map, List.cons_append, List.nil_append, List.length_cons, List.length_nil, Nat.reduceAdd, Nat.reduceSub, Nat.zero_add, List.replicate_succ, List.replicate_zero]
    walk_at "go"
    refine u_lfields hS fun p da ra g H1 lds lrs np nda nra ndr s1 hD => ?_
    walk_at "go"
    refine u_made hD fun x d r H2 nx nd nr ndx nrx ndr2 s2 hO => ?_
    have hD2 := hD.same s2
    walk_at "go"
    refine u_right hO hD2.look (by omega) (by omega) ?_
    obtain ⟨sv, e2, hda2, ⟨vs, hra2, hP2⟩, hsv2⟩ := id hD2
    unfold fVs at e2
    walk_at "go"
    refine g_len (.inl (sl hda2)) fun o1 no1 => ?_
    generalize z1 : upd H2 o1 _ = H3
    have s3 : Same H2 H3 := by rw [← z1]; exact same_upd no1
    have k1 : H3 o1 = some (.lst (g.ds.map V.int)) := (congrFun z1 o1).symm.trans upd_same
    clear z1
    have e3 := s3 _ _ e2
    clear e2
    walk_at "go"
    refine g_len (.inl (sl (s3 _ _ hra2))) fun o2 no2 => ?_
    generalize z1 : upd H3 o2 _ = H4
    have s4 : Same H3 H4 := by rw [← z1]; exact same_upd no2
    have k2 : H4 o2 = some (.lst vs) := (congrFun z1 o2).symm.trans upd_same
    clear z1
    have e4 := s4 _ _ e3
    clear e3
    have k14 := s4 _ _ k1
    have n12 : o1 ≠ o2 := fun z => by rw [z] at k1; rw [k1] at no2; cases no2
    have s24 := s3.trans s4
    have fo2 : H2 o2 = none := s3.free no2
    walk_at "go"
    refine ⟨rfl, rfl, fun y dy ny ndy nyd => ?_⟩
    have bx : But y H4 (upd (upd H4 dy (.own y)) y (.ins T.C_Piece dy [])) := ((But.of (same_upd (o := .own y) ndy))).upd
    have n1y : o1 ≠ y := fun z => by rw [← z, k14] at ny; cases ny
    have n2y : o2 ≠ y := fun z => by rw [← z, k2] at ny; cases ny
    refine ⟨y, dy, o1, o2, _, _, _, _, _, _, _, _, _, _, _, rfl, upd_same, (fun H' b => but_or b n1y (.inl (sl (bx _ _ n1y k14)))), (fun H' b => but_or b n2y (.inl (sl (bx _ _ n2y k2)))), fun d3 r3 H5 nd3 nr3 ndr3 fd3 fr3 b5 ed3 er3 ey => ⟨rfl, ?_⟩⟩
    have s45 : Same H4 H5 := (bx.trans b5).same ny
    have fd3' : H4 d3 = none := (bx.same ny).free fd3
    have fr3' : H4 r3 = none := (bx.same ny).free fr3
    have hOwn : PcO T.C_Piece H5 y ⟨g.start, g.ds, false, false, false, none, 0, g.rs, false, false, none⟩ d3 r3 := ⟨dy, .non, ey, ed3, ⟨vs, er3, hP2.same (s24.trans s45)⟩, rfl⟩
    have k15 := s45 _ _ k14
    have k25 := s45 _ _ k2
    have nd31 : d3 ≠ o1 := fun z => by rw [z, k14] at fd3'; cases fd3'
    have nr31 : r3 ≠ o1 := fun z => by rw [z, k14] at fr3'; cases fr3'
    have nd32 : d3 ≠ o2 := fun z => by rw [z, k2] at fd3'; cases fd3'
    have nr32 : r3 ≠ o2 := fun z => by rw [z, k2] at fr3'; cases fr3'
    clear ey ed3 er3 e4
    walk_at "go"
    refine ⟨ty_l k15, ?_⟩
    walk_at "go"
    refine g_append k15 (by rw [List.length_map]; exact szl (by omega)) ?_
    generalize z1 : upd H5 o1 _ = H6
    have b6 : But o1 H5 H6 := by rw [← z1]; exact But.refl.upd
    clear z1
    have hOwn6 := hOwn.butL b6 k15 nd31 nr31
    have k26 := b6 _ _ n12.symm k25
    have s26 : Same H2 H6 := ((But.of (s24.trans s45)).trans b6).same no1
    walk_at "go"
    refine ⟨ty_l k26, ?_⟩
    walk_at "go"
    refine ⟨by show 2 ≤ sizeLine; decide, fun t ht => ?_⟩
    generalize z1 : upd H6 t _ = H7
    have s7 : Same H6 H7 := by rw [← z1]; exact same_upd ht
    clear z1
    have lvs := hP2.1
    walk_at "go"
    refine g_append (s7 _ _ k26) (by rw [lvs]; exact szl (by omega)) ?_
    generalize z1 : upd H7 o2 _ = H8
    have b8 : But o2 H7 H8 := by rw [← z1]; exact But.refl.upd
    clear z1
    have hOwn8 := (hOwn6.same s7).butL b8 (s7 _ _ k26) nd32 nr32
    have s28 : Same H2 H8 := ((But.of (s26.trans s7)).trans b8).same fo2
    have hO8 := hO.same s28
    have hD8 := hD2.same s28
    clear hOwn hOwn6 k14 k15 k25 k26 k1 k2 hda2 hra2 hsv2 hP2 bx b5 b6 b8 s7 s26 s45 s24 s3 s4
    obtain ⟨sv8, e8, hP8⟩ := id hD8
    unfold fVs at e8
    walk_at "go"
    intro pl hpl
    generalize z1 : upd H8 pl _ = H9
    have s9 : Same H8 H9 := by rw [← z1]; exact same_upd hpl
    have ep9 : H9 pl = some (.dK []) := (congrFun z1 pl).symm.trans upd_same
    clear z1
    have e9 := s9 _ _ e8
    walk_at "go"
    have mk : mergeK [] [((Sum.inr "start" : Key), V.int g.start), (.inr "data", V.ref da), (.inr "ranges", V.ref ra), (.inr "ack", V.non), (.inr "window", V.int 0)] = dk kd_R [V.int g.start, V.ref da, V.ref ra, V.non, V.int 0] := by
      show putK (putK (putK (putK (putK (dk kd_R []) (.inr "start") _) (.inr "data") _) (.inr "ranges") _) (.inr "ack") _) (.inr "window") _ = _
      rw [dk_new ndd_R rfl, dk_new ndd_R rfl, dk_new ndd_R rfl, dk_new ndd_R rfl, dk_new ndd_R rfl]
      rfl
    refine ⟨ep9, [((Sum.inr "start" : Key), V.int g.start), (.inr "data", V.ref da), (.inr "ranges", V.ref ra), (.inr "ack", V.non), (.inr "window", V.int 0)], rfl, (by show 5 ≤ 15; decide), ?_⟩
    rw [mk]
    clear mk
    generalize z1 : upd H9 pl _ = H10
    have b10 : But pl H9 H10 := by rw [← z1]; exact But.refl.upd
    have e10 : H10 pl = some (.dK (dk kd_R [V.int g.start, V.ref da, V.ref ra, V.non, V.int 0])) := (congrFun z1 pl).symm.trans upd_same
    clear z1 ep9 e9
    walk_at "go"
    simp only [List.nil_append, List.cons_append]
    generalize z1 : upd H10 pl _ = H11
    have b11 : But pl H10 H11 := by rw [← z1]; exact But.refl.upd
    have e11 : H11 pl = some (.dK (dk kd_R [V.int g.start, V.ref da, V.ref ra, V.non, V.int 0, V.non])) := (congrFun z1 pl).symm.trans upd_same
    clear z1 e10
    refine g_for ?_
    walk_at "go"
    refine ⟨by show 5 ≤ sizeLine; decide, fun nl hnl => ?_⟩
    generalize z1 : upd H11 nl _ = H12
    have s12 : Same H11 H12 := by rw [← z1]; exact same_upd hnl
    have kn : H12 nl = some (.lst (nm5.map V.str)) := (congrFun z1 nl).symm.trans upd_same
    clear z1
    have e12 := s12 _ _ e11
    have nnl : nl ≠ pl := fun z => by rw [z, e12] at kn; cases kn
    walk_at "go"
    refine ⟨⟨_, sl kn⟩, ?_⟩
    refine for_list (xs := nm5.map V.str) (fun i σ H' => ∃ v7 : Option V, σ = [some (.ref a), some (.ref p), some (.ref x), some (.ref o1), some (.ref o2), some (.ref y), some (.ref pl), v7, none] ∧ But pl H12 H' ∧ H' pl = some (.dK (dk kd_R ([V.int g.start, V.ref da, V.ref ra, V.non, V.int 0, V.non] ++ List.replicate i (.bl false))))) ⟨none, rfl, But.refl, e12⟩ (fun i σ H' _ ⟨_, _, b, _⟩ => sl (b _ _ nnl kn)) ?turn ?done
    case turn =>
      rintro i x0 σ H' hx ⟨v7, rfl, b, e⟩
      obtain ⟨nm, hnm, rfl⟩ := map_get hx
      walk_at "go"
      refine ⟨pl, _, rfl, DPut.k (k := .inr nm) e (szl (Nat.lt_of_le_of_lt dk_len (by decide))), ?_⟩
      rw [dk_new ndd_R (by rw [List.length_append, List.length_replicate]; exact nm5_at hnm)]
      walk_at "go"
      refine ⟨_, rfl, b.upd, ?_⟩
      rw [upd_same, List.replicate_succ', List.append_assoc]
    case done =>
      rintro σ H13 ⟨v7, rfl, b, e⟩
      have e13 : H13 pl = some (.dK (dk kd_R (rVs ⟨g.start, g.ds, false, false, false, none, 0, g.rs, false, false, none⟩ da ra .non))) := e
      have bpl : But pl H8 H13 := ((((But.of s9).trans b10).trans b11).trans (But.of s12)).trans b
      have s813 : Same H8 H13 := bpl.same hpl
      have hP13 := hP8.same s813
      clear e e12 e11 kn
      walk_at "go"
      refine u_right (hOwn8.same s813) (look_R e13 ⟨hP13.1, hP13.2.1, rfl⟩) (by show g.rs.length ≤ 1000; omega) (by show g.ds.length ≤ 1000; omega) ?_
      unfold rVs at e13
      walk_at "go"
      refine ⟨by decide, fun w1 hw1 => ?_⟩
      generalize z1 : upd H13 w1 _ = H14
      have s14 : Same H13 H14 := by rw [← z1]; exact same_upd hw1
      have kw1 : H14 w1 = some (.lst (([] : List Int).map V.int)) := (congrFun z1 w1).symm.trans upd_same
      clear z1
      have e14 := s14 _ _ e13
      have nw1 : w1 ≠ pl := fun z => by rw [z, e14] at kw1; cases kw1
      clear e13
      walk_at "go"
      generalize z1 : upd H14 pl _ = H15
      have b15 : But pl H14 H15 := by rw [← z1]; exact But.refl.upd
      have e15 := (congrFun z1 pl).symm.trans upd_same
      clear z1 e14
      have kw15 := b15 _ _ nw1 kw1
      simp only [List.set_cons_succ, List.set_cons_zero] at e15
      walk_at "go"
      refine ⟨by decide, fun w2 hw2 => ?_⟩
      generalize z1 : upd H15 w2 _ = H16
      have s16 : Same H15 H16 := by rw [← z1]; exact same_upd hw2
      have kw2 : H16 w2 = some (.lst []) := (congrFun z1 w2).symm.trans upd_same
      clear z1
      have e16 := s16 _ _ e15
      have nw2 : w2 ≠ pl := fun z => by rw [z, e16] at kw2; cases kw2
      clear e15
      walk_at "go"
      generalize z1 : upd H16 pl _ = H17
      have b17 : But pl H16 H17 := by rw [← z1]; exact But.refl.upd
      have e17 := (congrFun z1 pl).symm.trans upd_same
      clear z1 e16
      simp only [List.set_cons_succ, List.set_cons_zero] at e17
      have kw17 := b17 _ _ nw1 (s16 _ _ kw15)
      have kw27 := b17 _ _ nw2 kw2
      have bpl17 : But pl H8 H17 := (((bpl.trans (But.of s14)).trans b15).trans (But.of s16)).trans b17
      have s817 : Same H8 H17 := bpl17.same hpl
      have hD17 := hD8.same s817
      obtain ⟨sv17, ef17, hP17⟩ := id hD17
      unfold fVs at ef17
      walk_at "go"
      intro y2 dy2 ny2 ndy2 nyd2
      have bx2 : But y2 H17 (upd (upd H17 dy2 (.own y2)) y2 (.ins T.C_Piece dy2 [])) := ((But.of (same_upd (o := .own y2) ndy2))).upd
      refine ⟨y2, dy2, _, _, _, _, _, _, _, _, _, _, _, [], [], rfl, upd_same, fun H' _ => .inr (T.es_Piece_init___data H'), fun H' _ => .inr (T.es_Piece_init___ranges H'), fun d4 r4 H18 nd4 nr4 ndr4 fd4 fr4 b18 ed4 er4 ey4 => ⟨rfl, ?_⟩⟩
      have s18 : Same H17 H18 := (bx2.trans b18).same ny2
      have hO2 : PcO T.C_Piece H18 y2 ⟨g.start, [], false, false, false, none, 0, [], false, false, none⟩ d4 r4 := ⟨dy2, .non, ey4, ed4, ⟨[], er4, Prs.nil⟩, rfl⟩
      have e18 : H18 pl = some (.dK (dk kd_R (rVs ⟨g.start, [], false, false, false, none, 0, [], false, false, none⟩ w1 w2 .non))) := s18 _ _ e17
      clear e17 ef17
      walk_at "go"
      refine u_right hO2 (look_R e18 ⟨s18 _ _ kw17, ⟨[], s18 _ _ kw27, Prs.nil⟩, rfl⟩) (by show 0 ≤ 1000; decide) (by show 0 ≤ 1000; decide) ?_
      have s818 := s817.trans s18
      have hS18 : SqL K H18 a (ns.map V.int) := (s1.trans (s2.trans (s28.trans s818))).seq hS
      walk_at "go"
      refine u_changed (hD8.same s818) ?hk lds lrs fun p' da' ra' g' H19 hne s19 hD19 => ?_
      case hk => omega
      have s819 := s818.trans s19
      have hD819 := hD8.same s819
      walk_at "go"
      refine u_made hD819 fun x2 d5 r5 H20 nx5 nd5 nr5 _ _ _ s20 hO5 => ?_
      have hO20 := hO8.same (s819.trans s20)
      obtain ⟨dx20, sv20, ex20, hPx20⟩ := id hO20
      obtain ⟨dx5, sv5, ex5, hPx5⟩ := id hO5
      walk_at "go"
      refine ⟨x, dx20, _, rfl, ex20, .inl ⟨x2, _, _, rfl, ex5⟩, x, .ref x2, rfl, .inl ⟨d, r, x2, d5, r5, g, g, rfl, hO20, hO5, fun H21 s21 => ⟨_, rfl, ?_⟩⟩⟩
      rw [eqP_self]
      walk_at "go"
      refine u_made (hD19.same (s20.trans s21)) fun x3 d6 r6 H22 nx6 nd6 nr6 _ _ _ s22 hO6 => ?_
      have hO22 := hO20.same (s21.trans s22)
      obtain ⟨dx22, sv22, ex22, hPx22⟩ := id hO22
      obtain ⟨dx6, sv6, ex6, hPx6⟩ := id hO6
      walk_at "go"
      refine ⟨x, dx22, _, rfl, ex22, .inl ⟨x3, _, _, rfl, ex6⟩, x, .ref x3, rfl, .inl ⟨d, r, x3, d6, r6, g, g', rfl, hO22, hO6, fun H23 s23 => ⟨_, rfl, ?_⟩⟩⟩
      rw [hne]
      walk_at "go"
      have s823 := s819.trans (s20.trans (s21.trans (s22.trans s23)))
      have hO23 := hO8.same s823
      have hD23 := hD8.same s823
      obtain ⟨dx23, sv23, ex23, hPx23⟩ := id hO23
      obtain ⟨svf, ef23, hPf23⟩ := id hD23
      unfold fVs at ef23
      walk_at "go"
      refine ⟨x, dx23, _, rfl, ex23, .inr ⟨_, rfl⟩, x, _, rfl, .inr ⟨_, rfl, _, rfl, ?_⟩⟩
      walk_at "go"
      refine u_right hO23 hD23.look (by omega) (by omega) ?_
      exact q _

end
end My
namespace My
open PySem PySem.Spec L2
local macro_rules | `(tactic| walk_at "side") => `(tactic| first | assumption | decide | omega | exact ⟨by decide, by decide⟩ | exact ⟨by decide, by decide, by decide⟩ | decide +kernel | exact cdivW (by decide +kernel) (by decide +kernel) | exact Or.inl ⟨by omega, by omega⟩ | exact Or.inr ⟨by omega, by omega⟩ | (simp only [List.length_map, List.length_cons, List.length_nil, List.length_append]; omega))
local macro_rules | `(tactic| walk_at "fact") => `(tactic| first | assumption | omega | with_reducible rfl)
local macro_rules | `(tactic| walk_at "use") => `(tactic| fail "use")
local macro_rules | `(tactic| walk_at "go1") => `(tactic| with_reducible first | refine g_seq ?_ | refine g_asg ?_ | refine g_ret ?_ | refine g_ifS ?_ | refine g_drop ?_ | refine g_star ?_ | refine g_nx ?_ | refine g_rt ?_ | refine g_bkE ?_ | refine g_ctE ?_ | refine g_next ?_ | refine g_retN ?_ | refine g_brk ?_ | refine g_ct ?_ | refine g_c ?_ | refine g_op ?_ | refine g_un ?_ | refine g_rI0 ?_ | refine g_rU ?_ | refine g_rEqI ?_ | refine g_rNeI ?_ | refine g_isN ?_ | refine g_rIsB ?_ | refine g_rNotB ?_ | refine g_test ?_ | refine g_B ?_ | refine g_bl ?_ | refine g_and ?_ | refine g_or ?_ | refine g_not ?_ | refine g_andV ?_ | refine g_orV ?_ | refine g_notV ?_ | refine g_if ?_ | refine g_chain ?_ | refine g_yes ?_ | refine g_lc ?_ | refine g_revR ?_ | refine g_rng1 ?_ | refine g_iList ?_ | refine g_nil ?_ | refine g_cons ?_ | refine g_tup ?_ | refine g_lst ?_ | refine g_call ?_ | refine g_CB ?_ | refine g_sl ?_ | refine g_noPart ?_ | refine g_part ?_ | refine g_intE ?_ | refine g_ref ?_ | refine g_fld ?_ | refine g_sfld ?_ | refine g_meth ?_ | refine g_make ?_ | refine g_prop ?_  | refine g_ipI ?_ | refine g_int1 ?_ | refine g_int1B ?_ | refine g_one ?_ | refine g_two ?_ | refine g_isiI ?_ | refine g_isiIB ?_ | refine g_isiB ?_ | refine g_BM ?_ | refine g_BM0 ?_ | refine g_sub ?_)
local macro_rules | `(tactic| walk_at "go") => `(tactic| repeat (first | walk_at "go1" | ((with_reducible refine' g_nameE ?sd_ ?_); case sd_ => dsimp only [List.set_cons_succ, List.set_cons_zero]) | ((with_reducible refine' g_var ?sd_ ?_); case sd_ => exact rfl) | ((with_reducible refine' g_aug ?sd_ ?_); case sd_ => exact rfl) | ((with_reducible refine' g_rI ?sd_ ?_); case sd_ => walk_at "side") | ((with_reducible refine' g_dT ?sd_ ?_); case sd_ => walk_at "fact") | ((with_reducible refine' g_dF ?sd_ ?_); case sd_ => walk_at "fact") | ((with_reducible refine' g_nT ?sd_ ?_); case sd_ => walk_at "fact") | ((with_reducible refine' g_nF ?sd_ ?_); case sd_ => walk_at "fact") | (with_reducible refine g_iT rfl ?_) | (with_reducible refine g_iF rfl ?_) | walk_at "use"))
theorem all_mk {l : PySem.W.OpenLaw} {w : World} {K : PySem.W.Frag} {h : Heap} {mg : Str → Option Value} {fa : Addr} (X : K.In h) (G : h.Ns mainGlobals mg) (hfa : mg "law" = some (.ref fa))
    {C_Piece : Addr} {f_Piece_init__ : Addr} {od_Piece_init__ an_Piece_init__ : Option Addr} {sl_Piece_init__ : Array (Option Value)} {oc_Piece_init__ dc_Piece_init__ pm_Piece_init__ cd_Piece_init__ ct_Piece_init__ : Value} {kd_Piece_init__ : Addr} {e_Piece_init___data : Addr} {eo_Piece_init___data : Option Addr} {en_Piece_init___data : Nat} {el_Piece_init___data : Array (Option Value)} {tk_Piece_init___window : Tok} {e_Piece_init___ranges : Addr} {eo_Piece_init___ranges : Option Addr} {en_Piece_init___ranges : Nat} {el_Piece_init___ranges : Array (Option Value)} {f_Piece_size : Addr} {od_Piece_size an_Piece_size : Option Addr} {sl_Piece_size : Array (Option Value)} {oc_Piece_size kV_Piece_size dc_Piece_size pm_Piece_size cd_Piece_size ct_Piece_size : Value} {p0_Piece_size : Addr} {pr_Piece_size : List Value} {f_Piece_stop : Addr} {od_Piece_stop an_Piece_stop : Option Addr} {sl_Piece_stop : Array (Option Value)} {oc_Piece_stop kV_Piece_stop dc_Piece_stop pm_Piece_stop cd_Piece_stop ct_Piece_stop : Value} {p0_Piece_stop : Addr} {pr_Piece_stop : List Value} {f_Piece_first_octet : Addr} {od_Piece_first_octet an_Piece_first_octet : Option Addr} {sl_Piece_first_octet : Array (Option Value)} {oc_Piece_first_octet kV_Piece_first_octet dc_Piece_first_octet pm_Piece_first_octet cd_Piece_first_octet ct_Piece_first_octet : Value} {p0_Piece_first_octet : Addr} {pr_Piece_first_octet : List Value} {f_Piece_eq__ : Addr} {od_Piece_eq__ an_Piece_eq__ : Option Addr} {sl_Piece_eq__ : Array (Option Value)} {oc_Piece_eq__ kV_Piece_eq__ dc_Piece_eq__ pm_Piece_eq__ cd_Piece_eq__ ct_Piece_eq__ : Value} {f_Piece_fields : Addr} {od_Piece_fields an_Piece_fields : Option Addr} {sl_Piece_fields : Array (Option Value)} {oc_Piece_fields kV_Piece_fields dc_Piece_fields pm_Piece_fields cd_Piece_fields ct_Piece_fields : Value} {f_l_is_integer : Addr} {od_l_is_integer an_l_is_integer : Option Addr} {sl_l_is_integer : Array (Option Value)} {oc_l_is_integer kV_l_is_integer dc_l_is_integer pm_l_is_integer cd_l_is_integer ct_l_is_integer : Value} {f_l_cell : Addr} {od_l_cell an_l_cell : Option Addr} {sl_l_cell : Array (Option Value)} {oc_l_cell kV_l_cell dc_l_cell pm_l_cell cd_l_cell ct_l_cell : Value} {f_l_row : Addr} {od_l_row an_l_row : Option Addr} {sl_l_row : Array (Option Value)} {oc_l_row kV_l_row dc_l_row pm_l_row cd_l_row ct_l_row : Value} {f_l_octets : Addr} {od_l_octets an_l_octets : Option Addr} {sl_l_octets : Array (Option Value)} {oc_l_octets kV_l_octets dc_l_octets pm_l_octets cd_l_octets ct_l_octets : Value} {f_l_number : Addr} {od_l_number an_l_number : Option Addr} {sl_l_number : Array (Option Value)} {oc_l_number kV_l_number dc_l_number pm_l_number cd_l_number ct_l_number : Value} {f_l_pair : Addr} {od_l_pair an_l_pair : Option Addr} {sl_l_pair : Array (Option Value)} {oc_l_pair kV_l_pair dc_l_pair pm_l_pair cd_l_pair ct_l_pair : Value} {f_l_all_pairs : Addr} {od_l_all_pairs an_l_all_pairs : Option Addr} {sl_l_all_pairs : Array (Option Value)} {oc_l_all_pairs kV_l_all_pairs dc_l_all_pairs pm_l_all_pairs cd_l_all_pairs ct_l_all_pairs : Value} {f_l_flag : Addr} {od_l_flag an_l_flag : Option Addr} {sl_l_flag : Array (Option Value)} {oc_l_flag kV_l_flag dc_l_flag pm_l_flag cd_l_flag ct_l_flag : Value} {f_l_fields : Addr} {od_l_fields an_l_fields : Option Addr} {sl_l_fields : Array (Option Value)} {oc_l_fields kV_l_fields dc_l_fields pm_l_fields cd_l_fields ct_l_fields : Value} {f_l_made : Addr} {od_l_made an_l_made : Option Addr} {sl_l_made : Array (Option Value)} {oc_l_made kV_l_made dc_l_made pm_l_made cd_l_made ct_l_made : Value} {f_l_right : Addr} {od_l_right an_l_right : Option Addr} {sl_l_right : Array (Option Value)} {oc_l_right kV_l_right dc_l_right pm_l_right cd_l_right ct_l_right : Value} {f_l_changed : Addr} {od_l_changed an_l_changed : Option Addr} {sl_l_changed : Array (Option Value)} {oc_l_changed kV_l_changed dc_l_changed pm_l_changed cd_l_changed ct_l_changed : Value} {f_law : Addr} {od_law an_law : Option Addr} {sl_law : Array (Option Value)} {oc_law kV_law dc_law pm_law cd_law ct_law : Value}
    (c_Piece : PySem.W.nsIn K mainGlobals "Piece" = some (some (.ref C_Piece)))
    (pg_Piece : PySem.W.plainGet K C_Piece Str.empty = true)
    (hd_Piece : PySem.W.hasDictIn K C_Piece = true)
    (po_Piece : PySem.W.plainOver K C_Piece = true)
    (sa_Piece : PySem.W.findIn K (.ref C_Piece) "__setattr__" = some (some (.builtin "object.__setattr__")))
    (mk0_Piece : PySem.W.makesIn K C_Piece = true)
    (kc_Piece : PySem.W.keepIn K (.ref C_Piece) = true)
    (ha_Piece : PySem.W.findIn K (.ref C_Piece) "__class__" = some (some (.builtin "object.__class__")))
    (hm_Piece : PySem.W.mroIn K C_Piece (.type "object") = some true)
    (hn_all : PySem.W.specialIn K (.builtin "object.__class__") "__get__" = some (some (.builtin "getset_descriptor.__get__")))
    (ht_all : PySem.W.takesIn K (.builtin "object.__class__") = some true)
    (q_Piece : PySem.W.subIn K (.type "int") (.ref C_Piece) = some false)
    (ic_Piece : PySem.W.isClsIn K C_Piece = true)
    (tc_Piece : PySem.W.typeIn K (.ref C_Piece) = some (.type "type"))
    (n_Piece_start : PySem.W.findIn K (.ref C_Piece) "start" = some none)
    (n_Piece_data : PySem.W.findIn K (.ref C_Piece) "data" = some none)
    (n_Piece_syn : PySem.W.findIn K (.ref C_Piece) "syn" = some none)
    (n_Piece_fin : PySem.W.findIn K (.ref C_Piece) "fin" = some none)
    (n_Piece_reset : PySem.W.findIn K (.ref C_Piece) "reset" = some none)
    (n_Piece_ack : PySem.W.findIn K (.ref C_Piece) "ack" = some none)
    (n_Piece_window : PySem.W.findIn K (.ref C_Piece) "window" = some none)
    (n_Piece_ranges : PySem.W.findIn K (.ref C_Piece) "ranges" = some none)
    (n_Piece_marked : PySem.W.findIn K (.ref C_Piece) "marked" = some none)
    (n_Piece_cut : PySem.W.findIn K (.ref C_Piece) "cut" = some none)
    (n_Piece_stamp : PySem.W.findIn K (.ref C_Piece) "stamp" = some none)
    (a_Piece_init__ : PySem.W.findIn K (.ref C_Piece) "__init__" = some (some (.ref f_Piece_init__)))
    (i_Piece_init__ : PySem.W.isFn K (.ref f_Piece_init__) = true)
    (l_Piece_init__ : K.lookup f_Piece_init__ = some ⟨oc_Piece_init__, od_Piece_init__, .func (PySem.W.fnOf "__init__" "Piece.__init__" (defArgs s_Piece_init__) (defBody s_Piece_init__) (defScope s_Piece_init__) .none (.ref kd_Piece_init__) dc_Piece_init__ pm_Piece_init__ an_Piece_init__ cd_Piece_init__ ct_Piece_init__), sl_Piece_init__⟩)
    (kw_Piece_init___data : PySem.W.nsIn K kd_Piece_init__ "data" = some (some (.ref e_Piece_init___data)))
    (el0_Piece_init___data : K.lookup e_Piece_init___data = some ⟨.type "tuple", eo_Piece_init___data, .seq #[] en_Piece_init___data, el_Piece_init___data⟩)
    (kw_Piece_init___syn : PySem.W.nsIn K kd_Piece_init__ "syn" = some (some (.bool false)))
    (kw_Piece_init___fin : PySem.W.nsIn K kd_Piece_init__ "fin" = some (some (.bool false)))
    (kw_Piece_init___reset : PySem.W.nsIn K kd_Piece_init__ "reset" = some (some (.bool false)))
    (kw_Piece_init___ack : PySem.W.nsIn K kd_Piece_init__ "ack" = some (some .none))
    (kw_Piece_init___window : PySem.W.nsIn K kd_Piece_init__ "window" = some (some (.int 0 tk_Piece_init___window)))
    (kw_Piece_init___ranges : PySem.W.nsIn K kd_Piece_init__ "ranges" = some (some (.ref e_Piece_init___ranges)))
    (el0_Piece_init___ranges : K.lookup e_Piece_init___ranges = some ⟨.type "tuple", eo_Piece_init___ranges, .seq #[] en_Piece_init___ranges, el_Piece_init___ranges⟩)
    (kw_Piece_init___marked : PySem.W.nsIn K kd_Piece_init__ "marked" = some (some (.bool false)))
    (kw_Piece_init___cut : PySem.W.nsIn K kd_Piece_init__ "cut" = some (some (.bool false)))
    (kw_Piece_init___stamp : PySem.W.nsIn K kd_Piece_init__ "stamp" = some (some .none))
    (cc_Piece_init__ : PySem.W.codeIn K cd_Piece_init__ "Piece.__init__" = true)
    (kk_Piece_init__ : PySem.W.keepIn K (.ref f_Piece_init__) = true)
    (a_Piece_size : PySem.W.findIn K (.ref C_Piece) "size" = some (some (.ref p0_Piece_size)))
    (pget_Piece_size : PySem.W.specialIn K (.ref p0_Piece_size) "__get__" = some (some (.builtin "property.__get__")))
    (ptak_Piece_size : PySem.W.takesIn K (.ref p0_Piece_size) = some true)
    (prec_Piece_size : PySem.W.recIn K p0_Piece_size "property" = some (.ref f_Piece_size :: pr_Piece_size))
    (l_Piece_size : K.lookup f_Piece_size = some ⟨oc_Piece_size, od_Piece_size, .func (PySem.W.fnOf "size" "Piece.size" (defArgs s_Piece_size) (defBody s_Piece_size) (defScope s_Piece_size) .none kV_Piece_size dc_Piece_size pm_Piece_size an_Piece_size cd_Piece_size ct_Piece_size), sl_Piece_size⟩)
    (cc_Piece_size : PySem.W.codeIn K cd_Piece_size "Piece.size" = true)
    (kk_Piece_size : PySem.W.keepIn K (.ref f_Piece_size) = true)
    (a_Piece_stop : PySem.W.findIn K (.ref C_Piece) "stop" = some (some (.ref p0_Piece_stop)))
    (pget_Piece_stop : PySem.W.specialIn K (.ref p0_Piece_stop) "__get__" = some (some (.builtin "property.__get__")))
    (ptak_Piece_stop : PySem.W.takesIn K (.ref p0_Piece_stop) = some true)
    (prec_Piece_stop : PySem.W.recIn K p0_Piece_stop "property" = some (.ref f_Piece_stop :: pr_Piece_stop))
    (l_Piece_stop : K.lookup f_Piece_stop = some ⟨oc_Piece_stop, od_Piece_stop, .func (PySem.W.fnOf "stop" "Piece.stop" (defArgs s_Piece_stop) (defBody s_Piece_stop) (defScope s_Piece_stop) .none kV_Piece_stop dc_Piece_stop pm_Piece_stop an_Piece_stop cd_Piece_stop ct_Piece_stop), sl_Piece_stop⟩)
    (cc_Piece_stop : PySem.W.codeIn K cd_Piece_stop "Piece.stop" = true)
    (kk_Piece_stop : PySem.W.keepIn K (.ref f_Piece_stop) = true)
    (a_Piece_first_octet : PySem.W.findIn K (.ref C_Piece) "first_octet" = some (some (.ref p0_Piece_first_octet)))
    (pget_Piece_first_octet : PySem.W.specialIn K (.ref p0_Piece_first_octet) "__get__" = some (some (.builtin "property.__get__")))
    (ptak_Piece_first_octet : PySem.W.takesIn K (.ref p0_Piece_first_octet) = some true)
    (prec_Piece_first_octet : PySem.W.recIn K p0_Piece_first_octet "property" = some (.ref f_Piece_first_octet :: pr_Piece_first_octet))
    (l_Piece_first_octet : K.lookup f_Piece_first_octet = some ⟨oc_Piece_first_octet, od_Piece_first_octet, .func (PySem.W.fnOf "first_octet" "Piece.first_octet" (defArgs s_Piece_first_octet) (defBody s_Piece_first_octet) (defScope s_Piece_first_octet) .none kV_Piece_first_octet dc_Piece_first_octet pm_Piece_first_octet an_Piece_first_octet cd_Piece_first_octet ct_Piece_first_octet), sl_Piece_first_octet⟩)
    (cc_Piece_first_octet : PySem.W.codeIn K cd_Piece_first_octet "Piece.first_octet" = true)
    (kk_Piece_first_octet : PySem.W.keepIn K (.ref f_Piece_first_octet) = true)
    (a_Piece_eq__ : PySem.W.findIn K (.ref C_Piece) "__eq__" = some (some (.ref f_Piece_eq__)))
    (i_Piece_eq__ : PySem.W.isFn K (.ref f_Piece_eq__) = true)
    (l_Piece_eq__ : K.lookup f_Piece_eq__ = some ⟨oc_Piece_eq__, od_Piece_eq__, .func (PySem.W.fnOf "__eq__" "Piece.__eq__" (defArgs s_Piece_eq__) (defBody s_Piece_eq__) (defScope s_Piece_eq__) .none kV_Piece_eq__ dc_Piece_eq__ pm_Piece_eq__ an_Piece_eq__ cd_Piece_eq__ ct_Piece_eq__), sl_Piece_eq__⟩)
    (cc_Piece_eq__ : PySem.W.codeIn K cd_Piece_eq__ "Piece.__eq__" = true)
    (kk_Piece_eq__ : PySem.W.keepIn K (.ref f_Piece_eq__) = true)
    (a_Piece_fields : PySem.W.findIn K (.ref C_Piece) "_fields" = some (some (.ref f_Piece_fields)))
    (i_Piece_fields : PySem.W.isFn K (.ref f_Piece_fields) = true)
    (l_Piece_fields : K.lookup f_Piece_fields = some ⟨oc_Piece_fields, od_Piece_fields, .func (PySem.W.fnOf "_fields" "Piece._fields" (defArgs s_Piece_fields) (defBody s_Piece_fields) (defScope s_Piece_fields) .none kV_Piece_fields dc_Piece_fields pm_Piece_fields an_Piece_fields cd_Piece_fields ct_Piece_fields), sl_Piece_fields⟩)
    (cc_Piece_fields : PySem.W.codeIn K cd_Piece_fields "Piece._fields" = true)
    (kk_Piece_fields : PySem.W.keepIn K (.ref f_Piece_fields) = true)
    (a_l_is_integer : PySem.W.nsIn K mainGlobals "_law_is_integer" = some (some (.ref f_l_is_integer)))
    (l_l_is_integer : K.lookup f_l_is_integer = some ⟨oc_l_is_integer, od_l_is_integer, .func (PySem.W.fnOf "_law_is_integer" "_law_is_integer" (defArgs s_l_is_integer) (defBody s_l_is_integer) (defScope s_l_is_integer) .none kV_l_is_integer dc_l_is_integer pm_l_is_integer an_l_is_integer cd_l_is_integer ct_l_is_integer), sl_l_is_integer⟩)
    (cc_l_is_integer : PySem.W.codeIn K cd_l_is_integer "_law_is_integer" = true)
    (kk_l_is_integer : PySem.W.keepIn K (.ref f_l_is_integer) = true)
    (a_l_cell : PySem.W.nsIn K mainGlobals "_law_cell" = some (some (.ref f_l_cell)))
    (l_l_cell : K.lookup f_l_cell = some ⟨oc_l_cell, od_l_cell, .func (PySem.W.fnOf "_law_cell" "_law_cell" (defArgs s_l_cell) (defBody s_l_cell) (defScope s_l_cell) .none kV_l_cell dc_l_cell pm_l_cell an_l_cell cd_l_cell ct_l_cell), sl_l_cell⟩)
    (cc_l_cell : PySem.W.codeIn K cd_l_cell "_law_cell" = true)
    (kk_l_cell : PySem.W.keepIn K (.ref f_l_cell) = true)
    (a_l_row : PySem.W.nsIn K mainGlobals "_law_row" = some (some (.ref f_l_row)))
    (l_l_row : K.lookup f_l_row = some ⟨oc_l_row, od_l_row, .func (PySem.W.fnOf "_law_row" "_law_row" (defArgs s_l_row) (defBody s_l_row) (defScope s_l_row) .none kV_l_row dc_l_row pm_l_row an_l_row cd_l_row ct_l_row), sl_l_row⟩)
    (cc_l_row : PySem.W.codeIn K cd_l_row "_law_row" = true)
    (kk_l_row : PySem.W.keepIn K (.ref f_l_row) = true)
    (a_l_octets : PySem.W.nsIn K mainGlobals "_law_octets" = some (some (.ref f_l_octets)))
    (l_l_octets : K.lookup f_l_octets = some ⟨oc_l_octets, od_l_octets, .func (PySem.W.fnOf "_law_octets" "_law_octets" (defArgs s_l_octets) (defBody s_l_octets) (defScope s_l_octets) .none kV_l_octets dc_l_octets pm_l_octets an_l_octets cd_l_octets ct_l_octets), sl_l_octets⟩)
    (cc_l_octets : PySem.W.codeIn K cd_l_octets "_law_octets" = true)
    (kk_l_octets : PySem.W.keepIn K (.ref f_l_octets) = true)
    (a_l_number : PySem.W.nsIn K mainGlobals "_law_number" = some (some (.ref f_l_number)))
    (l_l_number : K.lookup f_l_number = some ⟨oc_l_number, od_l_number, .func (PySem.W.fnOf "_law_number" "_law_number" (defArgs s_l_number) (defBody s_l_number) (defScope s_l_number) .none kV_l_number dc_l_number pm_l_number an_l_number cd_l_number ct_l_number), sl_l_number⟩)
    (cc_l_number : PySem.W.codeIn K cd_l_number "_law_number" = true)
    (kk_l_number : PySem.W.keepIn K (.ref f_l_number) = true)
    (a_l_pair : PySem.W.nsIn K mainGlobals "_law_pair" = some (some (.ref f_l_pair)))
    (l_l_pair : K.lookup f_l_pair = some ⟨oc_l_pair, od_l_pair, .func (PySem.W.fnOf "_law_pair" "_law_pair" (defArgs s_l_pair) (defBody s_l_pair) (defScope s_l_pair) .none kV_l_pair dc_l_pair pm_l_pair an_l_pair cd_l_pair ct_l_pair), sl_l_pair⟩)
    (cc_l_pair : PySem.W.codeIn K cd_l_pair "_law_pair" = true)
    (kk_l_pair : PySem.W.keepIn K (.ref f_l_pair) = true)
    (a_l_all_pairs : PySem.W.nsIn K mainGlobals "_law_all_pairs" = some (some (.ref f_l_all_pairs)))
    (l_l_all_pairs : K.lookup f_l_all_pairs = some ⟨oc_l_all_pairs, od_l_all_pairs, .func (PySem.W.fnOf "_law_all_pairs" "_law_all_pairs" (defArgs s_l_all_pairs) (defBody s_l_all_pairs) (defScope s_l_all_pairs) .none kV_l_all_pairs dc_l_all_pairs pm_l_all_pairs an_l_all_pairs cd_l_all_pairs ct_l_all_pairs), sl_l_all_pairs⟩)
    (cc_l_all_pairs : PySem.W.codeIn K cd_l_all_pairs "_law_all_pairs" = true)
    (kk_l_all_pairs : PySem.W.keepIn K (.ref f_l_all_pairs) = true)
    (a_l_flag : PySem.W.nsIn K mainGlobals "_law_flag" = some (some (.ref f_l_flag)))
    (l_l_flag : K.lookup f_l_flag = some ⟨oc_l_flag, od_l_flag, .func (PySem.W.fnOf "_law_flag" "_law_flag" (defArgs s_l_flag) (defBody s_l_flag) (defScope s_l_flag) .none kV_l_flag dc_l_flag pm_l_flag an_l_flag cd_l_flag ct_l_flag), sl_l_flag⟩)
    (cc_l_flag : PySem.W.codeIn K cd_l_flag "_law_flag" = true)
    (kk_l_flag : PySem.W.keepIn K (.ref f_l_flag) = true)
    (a_l_fields : PySem.W.nsIn K mainGlobals "_law_fields" = some (some (.ref f_l_fields)))
    (l_l_fields : K.lookup f_l_fields = some ⟨oc_l_fields, od_l_fields, .func (PySem.W.fnOf "_law_fields" "_law_fields" (defArgs s_l_fields) (defBody s_l_fields) (defScope s_l_fields) .none kV_l_fields dc_l_fields pm_l_fields an_l_fields cd_l_fields ct_l_fields), sl_l_fields⟩)
    (cc_l_fields : PySem.W.codeIn K cd_l_fields "_law_fields" = true)
    (kk_l_fields : PySem.W.keepIn K (.ref f_l_fields) = true)
    (a_l_made : PySem.W.nsIn K mainGlobals "_law_made" = some (some (.ref f_l_made)))
    (l_l_made : K.lookup f_l_made = some ⟨oc_l_made, od_l_made, .func (PySem.W.fnOf "_law_made" "_law_made" (defArgs s_l_made) (defBody s_l_made) (defScope s_l_made) .none kV_l_made dc_l_made pm_l_made an_l_made cd_l_made ct_l_made), sl_l_made⟩)
    (cc_l_made : PySem.W.codeIn K cd_l_made "_law_made" = true)
    (kk_l_made : PySem.W.keepIn K (.ref f_l_made) = true)
    (a_l_right : PySem.W.nsIn K mainGlobals "_law_right" = some (some (.ref f_l_right)))
    (l_l_right : K.lookup f_l_right = some ⟨oc_l_right, od_l_right, .func (PySem.W.fnOf "_law_right" "_law_right" (defArgs s_l_right) (defBody s_l_right) (defScope s_l_right) .none kV_l_right dc_l_right pm_l_right an_l_right cd_l_right ct_l_right), sl_l_right⟩)
    (cc_l_right : PySem.W.codeIn K cd_l_right "_law_right" = true)
    (kk_l_right : PySem.W.keepIn K (.ref f_l_right) = true)
    (a_l_changed : PySem.W.nsIn K mainGlobals "_law_changed" = some (some (.ref f_l_changed)))
    (l_l_changed : K.lookup f_l_changed = some ⟨oc_l_changed, od_l_changed, .func (PySem.W.fnOf "_law_changed" "_law_changed" (defArgs s_l_changed) (defBody s_l_changed) (defScope s_l_changed) .none kV_l_changed dc_l_changed pm_l_changed an_l_changed cd_l_changed ct_l_changed), sl_l_changed⟩)
    (cc_l_changed : PySem.W.codeIn K cd_l_changed "_law_changed" = true)
    (kk_l_changed : PySem.W.keepIn K (.ref f_l_changed) = true)
    (a_law : PySem.W.nsIn K mainGlobals "law" = some (some (.ref f_law)))
    (l_law : K.lookup f_law = some ⟨oc_law, od_law, .func (PySem.W.fnOf "law" "law" (defArgs s_law) (defBody s_law) (defScope s_law) .none kV_law dc_law pm_law an_law cd_law ct_law), sl_law⟩)
    (cc_law : PySem.W.codeIn K cd_law "law" = true)
    (kk_law : PySem.W.keepIn K (.ref f_law) = true)
    (z_bool : PySem.W.nsIn K mainGlobals "bool" = some none)
    (z_int : PySem.W.nsIn K mainGlobals "int" = some none)
    (z_isinstance : PySem.W.nsIn K mainGlobals "isinstance" = some none)
    (z_len : PySem.W.nsIn K mainGlobals "len" = some none)
    (z_list : PySem.W.nsIn K mainGlobals "list" = some none)
    (z_range : PySem.W.nsIn K mainGlobals "range" = some none)
    (z_tuple : PySem.W.nsIn K mainGlobals "tuple" = some none)
    : ∃ fd : FuncData, (∀ (s : Shared) (v : Value), BindsTo s fd ⟨[v], []⟩ [("script", v)]) ∧ ∀ base : Heap, K.In base → base.Ns mainGlobals mg → FnOk l.prog w K mg base CX0 6 fa fd ["script"] (sp_law K) := by
  have e := hfa.symm.trans (PySem.W.mg_of X G a_law)
  have e2 : f_law = fa := by
    injection e with e
    injection e with e
    exact e.symm
  subst e2
  have es_Piece_init___data : ∀ H : Hp, SqT K H e_Piece_init___data [] := fun H => .inr ⟨_, #[], _, el0_Piece_init___data, rfl, rfl, (by show 0 ≤ sizeLine; decide), .nil⟩
  have es_Piece_init___ranges : ∀ H : Hp, SqT K H e_Piece_init___ranges [] := fun H => .inr ⟨_, #[], _, el0_Piece_init___ranges, rfl, rfl, (by show 0 ≤ sizeLine; decide), .nil⟩
  have F_Piece_init__ : FunD K "__init__" "Piece.__init__" (defArgs s_Piece_init__) (defBody s_Piece_init__) (defScope s_Piece_init__) [] [("data", .ref e_Piece_init___data), ("syn", .bl false), ("fin", .bl false), ("reset", .bl false), ("ack", .non), ("window", .int 0), ("ranges", .ref e_Piece_init___ranges), ("marked", .bl false), ("cut", .bl false), ("stamp", .non)] f_Piece_init__ _ := ⟨⟨_, _, _, _, _, _, _, _, _, _, rfl, l_Piece_init__, cc_Piece_init__, .inl ⟨rfl, rfl⟩, .inr ⟨kd_Piece_init__, rfl, fun q hq => by
      simp only [List.mem_cons, List.not_mem_nil, or_false] at hq
      rcases hq with rfl | rfl | rfl | rfl | rfl | rfl | rfl | rfl | rfl | rfl
      · exact ⟨_, kw_Piece_init___data, by first | exact rfl | exact ⟨_, rfl⟩⟩
      · exact ⟨_, kw_Piece_init___syn, by first | exact rfl | exact ⟨_, rfl⟩⟩
      · exact ⟨_, kw_Piece_init___fin, by first | exact rfl | exact ⟨_, rfl⟩⟩
      · exact ⟨_, kw_Piece_init___reset, by first | exact rfl | exact ⟨_, rfl⟩⟩
      · exact ⟨_, kw_Piece_init___ack, by first | exact rfl | exact ⟨_, rfl⟩⟩
      · exact ⟨_, kw_Piece_init___window, by first | exact rfl | exact ⟨_, rfl⟩⟩
      · exact ⟨_, kw_Piece_init___ranges, by first | exact rfl | exact ⟨_, rfl⟩⟩
      · exact ⟨_, kw_Piece_init___marked, by first | exact rfl | exact ⟨_, rfl⟩⟩
      · exact ⟨_, kw_Piece_init___cut, by first | exact rfl | exact ⟨_, rfl⟩⟩
      · exact ⟨_, kw_Piece_init___stamp, by first | exact rfl | exact ⟨_, rfl⟩⟩⟩⟩, kk_Piece_init__⟩
  have F_Piece_size := fun_mk (st := s_Piece_size) l_Piece_size cc_Piece_size kk_Piece_size
  have b_Piece_size := F_Piece_size.binds (ps := ["self"]) fun _ _ _ _ _ _ us hl => match us, hl with | [_], _ => rfl
  have F_Piece_stop := fun_mk (st := s_Piece_stop) l_Piece_stop cc_Piece_stop kk_Piece_stop
  have b_Piece_stop := F_Piece_stop.binds (ps := ["self"]) fun _ _ _ _ _ _ us hl => match us, hl with | [_], _ => rfl
  have F_Piece_first_octet := fun_mk (st := s_Piece_first_octet) l_Piece_first_octet cc_Piece_first_octet kk_Piece_first_octet
  have b_Piece_first_octet := F_Piece_first_octet.binds (ps := ["self"]) fun _ _ _ _ _ _ us hl => match us, hl with | [_], _ => rfl
  have F_Piece_eq__ := fun_mk (st := s_Piece_eq__) l_Piece_eq__ cc_Piece_eq__ kk_Piece_eq__
  have b_Piece_eq__ := F_Piece_eq__.binds (ps := ["self", "other"]) fun _ _ _ _ _ _ us hl => match us, hl with | [_, _], _ => rfl
  have F_Piece_fields := fun_mk (st := s_Piece_fields) l_Piece_fields cc_Piece_fields kk_Piece_fields
  have b_Piece_fields := F_Piece_fields.binds (ps := ["self"]) fun _ _ _ _ _ _ us hl => match us, hl with | [_], _ => rfl
  have F_l_is_integer := fun_mk (st := s_l_is_integer) l_l_is_integer cc_l_is_integer kk_l_is_integer
  have b_l_is_integer := F_l_is_integer.binds (ps := ["actual"]) fun _ _ _ _ _ _ us hl => match us, hl with | [_], _ => rfl
  have F_l_cell := fun_mk (st := s_l_cell) l_l_cell cc_l_cell kk_l_cell
  have b_l_cell := F_l_cell.binds (ps := ["script", "k"]) fun _ _ _ _ _ _ us hl => match us, hl with | [_, _], _ => rfl
  have F_l_row := fun_mk (st := s_l_row) l_l_row cc_l_row kk_l_row
  have b_l_row := F_l_row.binds (ps := ["cell", "size", "base"]) fun _ _ _ _ _ _ us hl => match us, hl with | [_, _, _], _ => rfl
  have F_l_octets := fun_mk (st := s_l_octets) l_l_octets cc_l_octets kk_l_octets
  have b_l_octets := F_l_octets.binds (ps := ["actual", "expected"]) fun _ _ _ _ _ _ us hl => match us, hl with | [_, _], _ => rfl
  have F_l_number := fun_mk (st := s_l_number) l_l_number cc_l_number kk_l_number
  have b_l_number := F_l_number.binds (ps := ["actual", "expected"]) fun _ _ _ _ _ _ us hl => match us, hl with | [_, _], _ => rfl
  have F_l_pair := fun_mk (st := s_l_pair) l_l_pair cc_l_pair kk_l_pair
  have b_l_pair := F_l_pair.binds (ps := ["actual", "expected"]) fun _ _ _ _ _ _ us hl => match us, hl with | [_, _], _ => rfl
  have F_l_all_pairs := fun_mk (st := s_l_all_pairs) l_l_all_pairs cc_l_all_pairs kk_l_all_pairs
  have b_l_all_pairs := F_l_all_pairs.binds (ps := ["actual", "expected"]) fun _ _ _ _ _ _ us hl => match us, hl with | [_, _], _ => rfl
  have F_l_flag := fun_mk (st := s_l_flag) l_l_flag cc_l_flag kk_l_flag
  have b_l_flag := F_l_flag.binds (ps := ["actual", "expected"]) fun _ _ _ _ _ _ us hl => match us, hl with | [_, _], _ => rfl
  have F_l_fields := fun_mk (st := s_l_fields) l_l_fields cc_l_fields kk_l_fields
  have b_l_fields := F_l_fields.binds (ps := ["script"]) fun _ _ _ _ _ _ us hl => match us, hl with | [_], _ => rfl
  have F_l_made := fun_mk (st := s_l_made) l_l_made cc_l_made kk_l_made
  have b_l_made := F_l_made.binds (ps := ["fields"]) fun _ _ _ _ _ _ us hl => match us, hl with | [_], _ => rfl
  have F_l_right := fun_mk (st := s_l_right) l_l_right cc_l_right kk_l_right
  have b_l_right := F_l_right.binds (ps := ["piece", "fields"]) fun _ _ _ _ _ _ us hl => match us, hl with | [_, _], _ => rfl
  have F_l_changed := fun_mk (st := s_l_changed) l_l_changed cc_l_changed kk_l_changed
  have b_l_changed := F_l_changed.binds (ps := ["fields", "choice"]) fun _ _ _ _ _ _ us hl => match us, hl with | [_, _], _ => rfl
  have F_law := fun_mk (st := s_law) l_law cc_law kk_law
  have b_law := F_law.binds (ps := ["script"]) fun _ _ _ _ _ _ us hl => match us, hl with | [_], _ => rfl
  let T : Txt K mg := { C_Piece := C_Piece, f_Piece_init__ := f_Piece_init__, d_Piece_init__ := _, e_Piece_init___data := e_Piece_init___data, e_Piece_init___ranges := e_Piece_init___ranges, f_Piece_size := f_Piece_size, d_Piece_size := _, p0_Piece_size := p0_Piece_size, f_Piece_stop := f_Piece_stop, d_Piece_stop := _, p0_Piece_stop := p0_Piece_stop, f_Piece_first_octet := f_Piece_first_octet, d_Piece_first_octet := _, p0_Piece_first_octet := p0_Piece_first_octet, f_Piece_eq__ := f_Piece_eq__, d_Piece_eq__ := _, f_Piece_fields := f_Piece_fields, d_Piece_fields := _, f_l_is_integer := f_l_is_integer, d_l_is_integer := _, f_l_cell := f_l_cell, d_l_cell := _, f_l_row := f_l_row, d_l_row := _, f_l_octets := f_l_octets, d_l_octets := _, f_l_number := f_l_number, d_l_number := _, f_l_pair := f_l_pair, d_l_pair := _, f_l_all_pairs := f_l_all_pairs, d_l_all_pairs := _, f_l_flag := f_l_flag, d_l_flag := _, f_l_fields := f_l_fields, d_l_fields := _, f_l_made := f_l_made, d_l_made := _, f_l_right := f_l_right, d_l_right := _, f_l_changed := f_l_changed, d_l_changed := _, f_law := f_law, d_law := _, c_Piece := PySem.W.mg_of X G c_Piece, k_Piece := ⟨pg_Piece, hd_Piece, po_Piece, sa_Piece⟩, i_Piece := fun e => .ins e ⟨pg_Piece, hd_Piece, po_Piece, sa_Piece⟩ ha_Piece hn_all ht_all hm_Piece, q_Piece := q_Piece, ki_Piece := kit_own ic_Piece tc_Piece q_Piece, n_Piece_start := n_Piece_start, n_Piece_data := n_Piece_data, n_Piece_syn := n_Piece_syn, n_Piece_fin := n_Piece_fin, n_Piece_reset := n_Piece_reset, n_Piece_ack := n_Piece_ack, n_Piece_window := n_Piece_window, n_Piece_ranges := n_Piece_ranges, n_Piece_marked := n_Piece_marked, n_Piece_cut := n_Piece_cut, n_Piece_stamp := n_Piece_stamp, es_Piece_init___data := es_Piece_init___data, es_Piece_init___ranges := es_Piece_init___ranges, F_Piece_init__ := F_Piece_init__, mk_Piece := ⟨mk0_Piece, a_Piece_init__, i_Piece_init__, kc_Piece⟩, F_Piece_size := F_Piece_size, b_Piece_size := b_Piece_size, p_Piece_size := ⟨a_Piece_size, pget_Piece_size, ptak_Piece_size, _, prec_Piece_size⟩, F_Piece_stop := F_Piece_stop, b_Piece_stop := b_Piece_stop, p_Piece_stop := ⟨a_Piece_stop, pget_Piece_stop, ptak_Piece_stop, _, prec_Piece_stop⟩, F_Piece_first_octet := F_Piece_first_octet, b_Piece_first_octet := b_Piece_first_octet, p_Piece_first_octet := ⟨a_Piece_first_octet, pget_Piece_first_octet, ptak_Piece_first_octet, _, prec_Piece_first_octet⟩, F_Piece_eq__ := F_Piece_eq__, b_Piece_eq__ := b_Piece_eq__, a_Piece_eq__ := ⟨a_Piece_eq__, i_Piece_eq__, kk_Piece_eq__⟩, F_Piece_fields := F_Piece_fields, b_Piece_fields := b_Piece_fields, a_Piece_fields := ⟨a_Piece_fields, i_Piece_fields, kk_Piece_fields⟩, F_l_is_integer := F_l_is_integer, b_l_is_integer := b_l_is_integer, m_l_is_integer := PySem.W.mg_of X G a_l_is_integer, F_l_cell := F_l_cell, b_l_cell := b_l_cell, m_l_cell := PySem.W.mg_of X G a_l_cell, F_l_row := F_l_row, b_l_row := b_l_row, m_l_row := PySem.W.mg_of X G a_l_row, F_l_octets := F_l_octets, b_l_octets := b_l_octets, m_l_octets := PySem.W.mg_of X G a_l_octets, F_l_number := F_l_number, b_l_number := b_l_number, m_l_number := PySem.W.mg_of X G a_l_number, F_l_pair := F_l_pair, b_l_pair := b_l_pair, m_l_pair := PySem.W.mg_of X G a_l_pair, F_l_all_pairs := F_l_all_pairs, b_l_all_pairs := b_l_all_pairs, m_l_all_pairs := PySem.W.mg_of X G a_l_all_pairs, F_l_flag := F_l_flag, b_l_flag := b_l_flag, m_l_flag := PySem.W.mg_of X G a_l_flag, F_l_fields := F_l_fields, b_l_fields := b_l_fields, m_l_fields := PySem.W.mg_of X G a_l_fields, F_l_made := F_l_made, b_l_made := b_l_made, m_l_made := PySem.W.mg_of X G a_l_made, F_l_right := F_l_right, b_l_right := b_l_right, m_l_right := PySem.W.mg_of X G a_l_right, F_l_changed := F_l_changed, b_l_changed := b_l_changed, m_l_changed := PySem.W.mg_of X G a_l_changed, F_law := F_law, b_law := b_law, m_law := PySem.W.mg_of X G a_law, n_bool := PySem.W.mg_none_of X G z_bool, n_int := PySem.W.mg_none_of X G z_int, n_isinstance := PySem.W.mg_none_of X G z_isinstance, n_len := PySem.W.mg_none_of X G z_len, n_list := PySem.W.mg_none_of X G z_list, n_range := PySem.W.mg_none_of X G z_range, n_tuple := PySem.W.mg_none_of X G z_tuple }
  exact ⟨PySem.W.fnOf "law" "law" (defArgs s_law) (defBody s_law) (defScope s_law) .none kV_law dc_law pm_law an_law cd_law ct_law, fun s v => .of_eq rfl, fun base _ _ => ok_law T⟩
theorem walk {l : PySem.W.OpenLaw} {q : Program} {loose : List Str} {XP : (Str → Option Value) → Heap → Prop} {YP : World → Heap → Prop} {d : DefRec} {K : Params → PySem.W.Frag} (hn : l.most = some 63) (hdf : d.params.defaults = [])
    (hY : ∀ (w : World) (h : Heap), YP w h → (K w.params).In h)
    (F : ∀ (w : World) (mg : Str → Option Value) (fa : Addr) (h : Heap), (K w.params).In h → h.Ns mainGlobals mg → mg d.name = some (.ref fa) →
      ∃ fd : FuncData, (∀ (s : Shared) (u : Value), BindsTo s fd ⟨[u], []⟩ [("script", u)]) ∧ ∀ base : Heap, (K w.params).In base → base.Ns mainGlobals mg → FnOk l.prog w (K w.params) mg base CX0 6 fa fd ["script"] (sp_law (K w.params))) :
    PySem.W.WalkO q loose XP YP l.row.toRowW d [] (fun f vs => PySem.call f vs) :=
  L2.walk_of (n := 63) (k := 6) (x := "script") (CX := fun _ => CX0) (sp := fun w => sp_law (K w.params)) hn (by decide) hdf ⟨rfl, by decide, by decide⟩ hY F (fun _ _ a ns hl _ hS => ⟨a, ns, rfl, hS, hl, fun _ => rfl⟩) fun _ _ _ _ _ z => z
end My
open PySem PySem.W PyProof.Rows
set_option maxRecDepth 100000 in
set_option maxHeartbeats 0 in
theorem PySem.Challenge.cw_throughline_k15_pieces_holds : PySem.Challenge.rw_throughline_k15_pieces.Holds := by
  w_on; o_law; k_head; (case hw => w_witness2)
  k_fill
  refine My.walk (l := PySem.Challenge.rw_throughline_k15_pieces) rfl rfl (fun w h Y => PySem.W.kIn_of Y) ?F
  case F =>
    intro w mg fa h KX G hmg
    refine' My.all_mk KX G hmg ?c_Piece ?pg_Piece ?hd_Piece ?po_Piece ?sa_Piece ?mk0_Piece ?kc_Piece ?ha_Piece ?hm_Piece ?hn_all ?ht_all ?q_Piece ?ic_Piece ?tc_Piece ?n_Piece_start ?n_Piece_data ?n_Piece_syn ?n_Piece_fin ?n_Piece_reset ?n_Piece_ack ?n_Piece_window ?n_Piece_ranges ?n_Piece_marked ?n_Piece_cut ?n_Piece_stamp ?a_Piece_init__ ?i_Piece_init__ ?l_Piece_init__ ?kw_Piece_init___data ?el0_Piece_init___data ?kw_Piece_init___syn ?kw_Piece_init___fin ?kw_Piece_init___reset ?kw_Piece_init___ack ?kw_Piece_init___window ?kw_Piece_init___ranges ?el0_Piece_init___ranges ?kw_Piece_init___marked ?kw_Piece_init___cut ?kw_Piece_init___stamp ?cc_Piece_init__ ?kk_Piece_init__ ?a_Piece_size ?pget_Piece_size ?ptak_Piece_size ?prec_Piece_size ?l_Piece_size ?cc_Piece_size ?kk_Piece_size ?a_Piece_stop ?pget_Piece_stop ?ptak_Piece_stop ?prec_Piece_stop ?l_Piece_stop ?cc_Piece_stop ?kk_Piece_stop ?a_Piece_first_octet ?pget_Piece_first_octet ?ptak_Piece_first_octet ?prec_Piece_first_octet ?l_Piece_first_octet ?cc_Piece_first_octet ?kk_Piece_first_octet ?a_Piece_eq__ ?i_Piece_eq__ ?l_Piece_eq__ ?cc_Piece_eq__ ?kk_Piece_eq__ ?a_Piece_fields ?i_Piece_fields ?l_Piece_fields ?cc_Piece_fields ?kk_Piece_fields ?a_l_is_integer ?l_l_is_integer ?cc_l_is_integer ?kk_l_is_integer ?a_l_cell ?l_l_cell ?cc_l_cell ?kk_l_cell ?a_l_row ?l_l_row ?cc_l_row ?kk_l_row ?a_l_octets ?l_l_octets ?cc_l_octets ?kk_l_octets ?a_l_number ?l_l_number ?cc_l_number ?kk_l_number ?a_l_pair ?l_l_pair ?cc_l_pair ?kk_l_pair ?a_l_all_pairs ?l_l_all_pairs ?cc_l_all_pairs ?kk_l_all_pairs ?a_l_flag ?l_l_flag ?cc_l_flag ?kk_l_flag ?a_l_fields ?l_l_fields ?cc_l_fields ?kk_l_fields ?a_l_made ?l_l_made ?cc_l_made ?kk_l_made ?a_l_right ?l_l_right ?cc_l_right ?kk_l_right ?a_l_changed ?l_l_changed ?cc_l_changed ?kk_l_changed ?a_law ?l_law ?cc_law ?kk_law ?z_bool ?z_int ?z_isinstance ?z_len ?z_list ?z_range ?z_tuple
    (case c_Piece => k_is)
    (case pg_Piece => k_is)
    (case hd_Piece => k_is)
    (case po_Piece => k_is)
    (case sa_Piece => k_is)
    (case mk0_Piece => k_is)
    (case kc_Piece => k_is)
    (case ha_Piece => k_is)
    (case hm_Piece => k_is)
    (case hn_all => k_is)
    (case ht_all => k_is)
    (case q_Piece => k_is)
    (case ic_Piece => k_is)
    (case tc_Piece => k_is)
    (case n_Piece_start => k_is)
    (case n_Piece_data => k_is)
    (case n_Piece_syn => k_is)
    (case n_Piece_fin => k_is)
    (case n_Piece_reset => k_is)
    (case n_Piece_ack => k_is)
    (case n_Piece_window => k_is)
    (case n_Piece_ranges => k_is)
    (case n_Piece_marked => k_is)
    (case n_Piece_cut => k_is)
    (case n_Piece_stamp => k_is)
    (case a_Piece_init__ => k_is)
    (case i_Piece_init__ => k_is)
    (case l_Piece_init__ => k_is)
    (case kw_Piece_init___data => k_is)
    (case el0_Piece_init___data => k_is)
    (case kw_Piece_init___syn => k_is)
    (case kw_Piece_init___fin => k_is)
    (case kw_Piece_init___reset => k_is)
    (case kw_Piece_init___ack => k_is)
    (case kw_Piece_init___window => k_is)
    (case kw_Piece_init___ranges => k_is)
    (case el0_Piece_init___ranges => k_is)
    (case kw_Piece_init___marked => k_is)
    (case kw_Piece_init___cut => k_is)
    (case kw_Piece_init___stamp => k_is)
    (case cc_Piece_init__ => k_is)
    (case kk_Piece_init__ => k_is)
    (case a_Piece_size => k_is)
    (case pget_Piece_size => k_is)
    (case ptak_Piece_size => k_is)
    (case prec_Piece_size => k_is)
    (case l_Piece_size => k_is)
    (case cc_Piece_size => k_is)
    (case kk_Piece_size => k_is)
    (case a_Piece_stop => k_is)
    (case pget_Piece_stop => k_is)
    (case ptak_Piece_stop => k_is)
    (case prec_Piece_stop => k_is)
    (case l_Piece_stop => k_is)
    (case cc_Piece_stop => k_is)
    (case kk_Piece_stop => k_is)
    (case a_Piece_first_octet => k_is)
    (case pget_Piece_first_octet => k_is)
    (case ptak_Piece_first_octet => k_is)
    (case prec_Piece_first_octet => k_is)
    (case l_Piece_first_octet => k_is)
    (case cc_Piece_first_octet => k_is)
    (case kk_Piece_first_octet => k_is)
    (case a_Piece_eq__ => k_is)
    (case i_Piece_eq__ => k_is)
    (case l_Piece_eq__ => k_is)
    (case cc_Piece_eq__ => k_is)
    (case kk_Piece_eq__ => k_is)
    (case a_Piece_fields => k_is)
    (case i_Piece_fields => k_is)
    (case l_Piece_fields => k_is)
    (case cc_Piece_fields => k_is)
    (case kk_Piece_fields => k_is)
    (case a_l_is_integer => k_is)
    (case l_l_is_integer => k_is)
    (case cc_l_is_integer => k_is)
    (case kk_l_is_integer => k_is)
    (case a_l_cell => k_is)
    (case l_l_cell => k_is)
    (case cc_l_cell => k_is)
    (case kk_l_cell => k_is)
    (case a_l_row => k_is)
    (case l_l_row => k_is)
    (case cc_l_row => k_is)
    (case kk_l_row => k_is)
    (case a_l_octets => k_is)
    (case l_l_octets => k_is)
    (case cc_l_octets => k_is)
    (case kk_l_octets => k_is)
    (case a_l_number => k_is)
    (case l_l_number => k_is)
    (case cc_l_number => k_is)
    (case kk_l_number => k_is)
    (case a_l_pair => k_is)
    (case l_l_pair => k_is)
    (case cc_l_pair => k_is)
    (case kk_l_pair => k_is)
    (case a_l_all_pairs => k_is)
    (case l_l_all_pairs => k_is)
    (case cc_l_all_pairs => k_is)
    (case kk_l_all_pairs => k_is)
    (case a_l_flag => k_is)
    (case l_l_flag => k_is)
    (case cc_l_flag => k_is)
    (case kk_l_flag => k_is)
    (case a_l_fields => k_is)
    (case l_l_fields => k_is)
    (case cc_l_fields => k_is)
    (case kk_l_fields => k_is)
    (case a_l_made => k_is)
    (case l_l_made => k_is)
    (case cc_l_made => k_is)
    (case kk_l_made => k_is)
    (case a_l_right => k_is)
    (case l_l_right => k_is)
    (case cc_l_right => k_is)
    (case kk_l_right => k_is)
    (case a_l_changed => k_is)
    (case l_l_changed => k_is)
    (case cc_l_changed => k_is)
    (case kk_l_changed => k_is)
    (case a_law => k_is)
    (case l_law => k_is)
    (case cc_law => k_is)
    (case kk_law => k_is)
    (case z_bool => k_is)
    (case z_int => k_is)
    (case z_isinstance => k_is)
    (case z_len => k_is)
    (case z_list => k_is)
    (case z_range => k_is)
    (case z_tuple => k_is)
#print axioms PySem.Challenge.cw_throughline_k15_pieces_holds

