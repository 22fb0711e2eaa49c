import PyProof.Rows.All
import Wide.All
import OpenK.AllK
import Wide.FinOn
import HandS.ForMost
import HandS.IsInst
import HandS.Wide
import HandS.Style
import HandS.Conv
import HandS.RevRange
import HandS.Walk
import HandS.Property
import HandS.Star
import HandS.Codes
import HandS.TupAny
import HandS.WideBits
import HandS.MakeKwOnly
import HandS.Defaults
import HandS.Rev
import HandS.Iter
import HandS.Dict
import PySem.Challenge.RW_throughline_k08_encoded_segments
set_option Elab.async false
set_option linter.all false
set_option maxRecDepth 100000
set_option maxHeartbeats 4000000
namespace My
open PySem PySem.Spec L2
/-! ### readings, one rule a construct -/
section
variable {K : PySem.W.Frag} {σ : St} {H : Hp} {Q : VK} {v x y z : V} {ta tb te tc : TE} {tt tu : TT} {r : R2} {D : Ends} {ts us : TS} {P : Bool → Hp → Prop} {i j : Int}
theorem g_var {i : Nat} (h : σ[i]? = some (some v)) (q : Q v H) : tVar i σ H Q := ⟨v, h, q⟩
theorem g_c (q : Q v H) : tC v σ H Q := q
theorem g_op (h : ta σ H fun x H1 => tb σ H1 fun y H2 => r x y H2 Q) : tOp r ta tb σ H Q := h
theorem g_un {r : V → Hp → VK → Prop} (h : ta σ H fun x H1 => r x H1 Q) : tUn r ta σ H Q := h
theorem g_rI0 {g : Int → Int → V} (q : Q (g i j) H) : rI0 g (.int i) (.int j) H Q := ⟨i, j, rfl, rfl, q⟩
theorem g_rI {C : Int → Int → Prop} {g : Int → Int → V} (c : C i j) (q : Q (g i j) H) : rI C g (.int i) (.int j) H Q := ⟨i, j, rfl, rfl, c, q⟩
theorem g_rU {g : Int → V} (q : Q (g i) H) : rU g (.int i) H Q := ⟨i, rfl, q⟩
theorem g_rEqI (q : Q (.bl (decide (i = j))) H) : rEq (.int i) (.int j) H Q := ⟨rfl, by rw [dec_int]; exact q⟩
theorem g_rNeI (q : Q (.bl (!decide (i = j))) H) : rNe (.int i) (.int j) H Q := ⟨rfl, by rw [dec_int]; exact q⟩
theorem g_rEq (s : scal x y = true) (q : Q (.bl (decide (x = y))) H) : rEq x y H Q := ⟨s, q⟩
theorem g_rNe (s : scal x y = true) (q : Q (.bl (!decide (x = y))) H) : rNe x y H Q := ⟨s, q⟩
theorem g_isN {A : Prop} (q : A) : V.non = V.non ∧ A := ⟨rfl, q⟩
theorem g_rIsB {a b : Bool} (q : Q (.bl (decide (a = b))) H) : rIsB (.bl a) (.bl b) H Q := ⟨a, b, rfl, rfl, q⟩
theorem g_rNotB {a b : Bool} (q : Q (.bl (!decide (a = b))) H) : rNotB (.bl a) (.bl b) H Q := ⟨a, b, rfl, rfl, q⟩
theorem g_test {t : TE} (h : t σ H fun x H' => ∃ k, x = .bl k ∧ P k H') : tTest t σ H P := h
theorem g_B {t : TE} (h : t σ H fun x H' => ∃ k, x = .bl k ∧ P k H') : tB t σ H P := h
theorem g_bl {b : Bool} {A : Bool → Prop} (q : A b) : ∃ k, V.bl b = .bl k ∧ A k := ⟨b, rfl, q⟩
theorem g_and (h : tt σ H fun c H1 => if c = true then tu σ H1 P else P false H1) : tAnd tt tu σ H P := h
theorem g_or (h : tt σ H fun c H1 => if c = true then P true H1 else tu σ H1 P) : tOr tt tu σ H P := h
theorem g_not (h : tt σ H fun c H1 => P (!c) H1) : tNot tt σ H P := h
theorem g_andV (h : ta σ H fun x H1 => ∃ c, x = .bl c ∧ if c = true then tb σ H1 Q else Q (.bl false) H1) : tAndV ta tb σ H Q := h
theorem g_orV (h : ta σ H fun x H1 => ∃ c, x = .bl c ∧ if c = true then Q (.bl true) H1 else tb σ H1 Q) : tOrV ta tb σ H Q := h
theorem g_notV (h : ta σ H fun x H1 => ∃ c, x = .bl c ∧ Q (.bl (!c)) H1) : tNotV ta σ H Q := h
theorem g_if (h : tt σ H fun c H1 => if c = true then ta σ H1 Q else tb σ H1 Q) : tIf tt ta tb σ H Q := h
theorem g_chain {r' : R2} (h : ta σ H fun x H1 => tb σ H1 fun y H2 => r x y H2 fun z H3 => ∃ k, z = .bl k ∧ (if k = true then tc σ H3 fun w' H4 => r' y w' H4 Q else Q (.bl false) H3)) : tChain r r' ta tb tc σ H Q := h
theorem g_nil {A : List V → Hp → Prop} (q : A [] H) : tNil σ H A := q
theorem g_cons {tr : TA} {A : List V → Hp → Prop} (h : ta σ H fun x H1 => tr σ H1 fun xs H2 => A (x :: xs) H2) : tCons ta tr σ H A := h
theorem g_tup {t : TA} (h : t σ H fun xs H1 => xs.length ≤ sizeLine ∧ ∀ p, H1 p = none → Q (.ref p) (upd H1 p (.tup xs))) : tTup t σ H Q := h
theorem g_lst {t : TA} (h : t σ H fun xs H1 => xs.length ≤ sizeLine ∧ ∀ p, H1 p = none → Q (.ref p) (upd H1 p (.lst xs))) : tLst t σ H Q := h
theorem g_call {sp : Sp} {dvs : List V} {E : XK} {t : TA} (h : t σ H fun vs H1 => sp (vs ++ dvs) H1 Q E) : tCall sp dvs E t σ H Q := h
theorem g_CB {r : List V → Hp → VK → Prop} {t : TA} (h : t σ H fun vs H1 => r vs H1 Q) : tCB r t σ H Q := h
theorem g_sl {r : V → Option Int → Option Int → Hp → VK → Prop} {tl th : TO} (h : te σ H fun x H1 => tl σ H1 fun l H2 => th σ H2 fun u H3 => r x l u H3 Q) : tSl r te tl th σ H Q := h
theorem g_noPart {A : Option Int → Hp → Prop} (q : A none H) : tNoPart σ H A := q
theorem g_part {A : Option Int → Hp → Prop} (h : te σ H fun x H1 => ∃ i, x = .int i ∧ A (some i) H1) : tPart te σ H A := h
theorem g_intE {A : Int → Prop} (q : A i) : ∃ k, V.int i = .int k ∧ A k := ⟨i, rfl, q⟩
theorem g_seq (h : ts { D with nx := us D } σ H) : tSeq ts us D σ H := h
theorem g_next (q : D.nx σ H) : tNext D σ H := q
theorem g_brk (q : D.bk σ H) : tBreak D σ H := q
theorem g_ct (q : D.ct σ H) : tCont D σ H := q
theorem g_asg {g : TG} (h : te σ H fun x H1 => g x σ H1 D.nx) : tAsg te g D σ H := h
theorem g_name {i : Nat} {A : St → Hp → Prop} (q : A (σ.set i (some v)) H) : gName i v σ H A := q
theorem g_aug {i : Nat} {ti : TIp} (h : σ[i]? = some (some x)) (q : te σ H fun y H1 => ti x y H1 fun z H2 => D.nx (σ.set i (some z)) H2) : tAug i te ti D σ H := ⟨x, h, q⟩
theorem g_ipI {f : Int → Int → Int} (q : Q (.int (f i j)) H) : ipI f (.int i) (.int j) H Q := ⟨i, j, rfl, rfl, q⟩
theorem g_drop (h : te σ H fun _ H1 => D.nx σ H1) : tDrop te D σ H := h
theorem g_ret (h : te σ H D.rt) : tRet te D σ H := h
theorem g_retN (q : D.rt .non H) : tRetN D σ H := q
theorem g_ifS (h : tt σ H fun b H1 => if b = true then ts D σ H1 else us D σ H1) : tIfS tt ts us D σ H := h
theorem g_for {wi : TI} {g : TG} {tb : TS} (h : wi σ H fun J H1 => ∃ W : Nat → Nat → St → Hp → Prop, (∃ m, W 0 m σ H1) ∧ ∀ i m σ H, W i m σ H →
    (J.stop i H ∧ D.nx σ H) ∨ (J.go i H ∧ ∃ N : St → Hp → Prop, (∀ σ' H', N σ' H' → ∃ m', m' < m ∧ W (i + 1) m' σ' H') ∧ ∀ x H', J.yld i H x H' → g x σ H' fun σ2 H2 => tb { D with nx := N, ct := N, bk := D.nx } σ2 H2)) : tFor wi g tb D σ H := h
theorem g_iT {c : Bool} {A B : Prop} (e : c = true) (h : A) : if c = true then A else B := by rw [if_pos e]; exact h
theorem g_iF {c : Bool} {A B : Prop} (e : c = false) (h : B) : if c = true then A else B := by rw [e]; exact iteF h
theorem g_ite {p A B : Prop} [Decidable p] (h1 : p → A) (h2 : ¬ p → B) : if decide p = true then A else B := by
  by_cases h : p
  · rw [decide_eq_true h]; exact iteT (h1 h)
  · rw [decide_eq_false h]; exact iteF (h2 h)
theorem g_iteN {p A B : Prop} [Decidable p] (h1 : ¬ p → A) (h2 : p → B) : if (!decide p) = true then A else B := by
  by_cases h : p
  · rw [decide_eq_true h]; exact iteF (h2 h)
  · rw [decide_eq_false h]; exact iteT (h1 h)
theorem g_iteB {b : Bool} {A B : Prop} (h1 : b = true → A) (h2 : b = false → B) : if b = true then A else B := by
  cases b with
  | true => exact iteT (h1 rfl)
  | false => exact iteF (h2 rfl)
theorem g_iteNB {b : Bool} {A B : Prop} (h1 : b = false → A) (h2 : b = true → B) : if (!b) = true then A else B := by
  cases b with
  | true => exact iteF (h2 rfl)
  | false => exact iteT (h1 rfl)
/-! calls of built-ins, by values -/
theorem g_int1 {A : Int → Prop} {B : Bool → Prop} (q : A i) : (∃ i', [V.int i] = [V.int i'] ∧ A i') ∨ ∃ k, [V.int i] = [V.bl k] ∧ B k := .inl ⟨i, rfl, q⟩
theorem g_int1B {b : Bool} {A : Int → Prop} {B : Bool → Prop} (q : B b) : (∃ i', [V.bl b] = [V.int i'] ∧ A i') ∨ ∃ k, [V.bl b] = [V.bl k] ∧ B k := .inr ⟨b, rfl, q⟩
theorem g_one {A : Int → Prop} (q : A i) : ∃ i', [V.int i] = [V.int i'] ∧ A i' := ⟨i, rfl, q⟩
theorem g_two {A : Int → Int → Prop} (q : A i j) : ∃ i' j', [V.int i, V.int j] = [V.int i', V.int j'] ∧ A i' j' := ⟨i, j, rfl, q⟩
theorem g_isi {c : V} {t u : Value} {b : Bool} (hc : ClsV c u) (ht : TyX K H x t) (e : PySem.W.kitOne K t u = some b) (q : Q (.bl b) H) : rIsi K [x, c] H Q := ⟨x, c, t, u, b, rfl, hc, ht, e, q⟩
theorem g_isiI (q : Q (.bl true) H) : rIsi K [.int i, .ty "int"] H Q := g_isi (.ty _) (.base (.int _)) (kit_ty (by decide +kernel)) q
theorem g_isiB {b : Bool} (q : Q (.bl true) H) : rIsi K [.bl b, .ty "bool"] H Q := g_isi (.ty _) (.base (.bl _)) (kit_ty (by decide +kernel)) q
theorem g_isiIB (q : Q (.bl false) H) : rIsi K [.int i, .ty "bool"] H Q := g_isi (.ty _) (.base (.int _)) (kit_ty (by decide +kernel)) q
theorem g_isiL {p : Addr} {xs : List V} (h : H p = some (.lst xs)) (q : Q (.bl true) H) : rIsi K [.ref p, .ty "list"] H Q := g_isi (.ty _) (.base (.lst h)) (kit_ty (by decide +kernel)) q
theorem g_isiU {p : Addr} {xs : List V} (h : H p = some (.tup xs)) (q : Q (.bl true) H) : rIsi K [.ref p, .ty "tuple"] H Q := g_isi (.ty _) (.base (.tup h)) (kit_ty (by decide +kernel)) q
theorem g_ixL {p : Addr} {xs : List V} (h : SqL K H p xs) (e : atI xs i = some v) (q : Q v H) : rIxL K (.ref p) (.int i) H Q := ⟨p, xs, i, v, rfl, rfl, h, e, q⟩
theorem g_ixT {p : Addr} {xs : List V} (h : SqT K H p xs) (e : atI xs i = some v) (q : Q v H) : rIxT K (.ref p) (.int i) H Q := ⟨p, xs, i, v, rfl, rfl, h, e, q⟩
theorem g_append {p : Addr} {xs : List V} (h : H p = some (.lst xs)) (l : xs.length < sizeLine) (q : Q .non (upd H p (.lst (xs ++ [y])))) : rAppend (.ref p) [y] H Q := ⟨p, xs, y, rfl, rfl, h, l, q⟩
theorem g_BM {T : String} {r : V → List V → Hp → VK → Prop} {t : TA} (h : te σ H fun x H1 => tyV K T x H1 ∧ t σ H1 fun xs H2 => r x xs H2 Q) : tBM K T r te t σ H Q := h
theorem g_BM0 {T : String} {r : V → List V → Hp → VK → Prop} (h : te σ H fun x H1 => tyV K T x H1 ∧ r x [] H1 Q) : tBM0 K T r te σ H Q := h
theorem ty_l {p : Addr} {xs : List V} (h : H p = some (.lst xs)) : tyV K "list" (.ref p) H := Or.inl ⟨rfl, _, Or.inl (Or.inl h)⟩
theorem g_setL {p : Addr} {xs : List V} {k : Int} {j : Nat} {A : Hp → Prop} (h : H p = some (.lst xs)) (e : ixN xs.length k = some j) (q : A (upd H p (.lst (xs.set j v)))) : rSetL (.ref p) (.int k) v H A := ⟨p, xs, k, j, rfl, rfl, h, e, q⟩
theorem g_sub {to ti : TE} {t : TSet} {A : St → Hp → Prop} (h : to σ H fun o H1 => ti σ H1 fun i H2 => t o i v H2 fun H3 => A σ H3) : gSub to ti t v σ H A := h
theorem g_len {p : Addr} {xs : List V} {A : Addr → List V → Prop} (h : SqL K H p xs ∨ SqT K H p xs) (q : A p xs) : ∃ p' ys, [V.ref p] = [V.ref p'] ∧ (SqL K H p' ys ∨ SqT K H p' ys) ∧ A p' ys := ⟨p, xs, rfl, h, q⟩
theorem g_slL {p : Addr} {xs : List V} {lo hi : Option Int} (h : SqL K H p xs) (q : ∀ l, H l = none → Q (.ref l) (upd H l (.lst (cutV xs lo hi)))) : rSlL K (.ref p) lo hi H Q := ⟨p, xs, rfl, h, q⟩
theorem g_cat {p q : Addr} {xs ys : List V} (h : H p = some (.lst xs)) (h2 : H q = some (.lst ys)) (l : xs.length + ys.length ≤ sizeLine) (k : ∀ l, H l = none → Q (.ref l) (upd H l (.lst (xs ++ ys)))) : rCat (.ref p) (.ref q) H Q := ⟨p, q, xs, ys, rfl, rfl, h, h2, l, k⟩
end
/-! ### heaps -/
theorem same_upd {H : Hp} {p : Addr} {o : HO} (h : H p = none) : Same H (upd H p o) := fun b x e => by
  rw [upd_ne (ne_of_none e h)]
  exact e
theorem sm {H H' : Hp} {p : Addr} {o : HO} (s : Same H H') (h : H p = some o) : H' p = some o := s p o h
theorem sq_upd {K : PySem.W.Frag} {H : Hp} {p a : Addr} {o : HO} {xs : List V} (n : H p = none) (h : SqL K H a xs) : SqL K (upd H p o) a xs := (same_upd n).seq h
theorem sl {K : PySem.W.Frag} {H : Hp} {a : Addr} {xs : List V} (h : H a = some (.lst xs)) : SqL K H a xs := Or.inl (Or.inl h)
theorem st {K : PySem.W.Frag} {H : Hp} {a : Addr} {xs : List V} (h : H a = some (.tup xs)) : SqT K H a xs := Or.inl (Or.inl h)
theorem Same.sqt {K : PySem.W.Frag} {H H' : Hp} {a : Addr} {xs : List V} (e : Same H H') (h : SqT K H a xs) : SqT K H' a xs := by
  rcases h with (h | ⟨o, h⟩) | h
  · exact .inl (.inl (e _ _ h))
  · exact .inl (.inr ⟨o, e _ _ h⟩)
  · exact .inr h
theorem upd_keep {H : Hp} {p b : Addr} {o o' : HO} (n : H p = none) (h : H b = some o') : upd H p o b = some o' := (same_upd n) b o' h
theorem ne_new {H : Hp} {p b : Addr} {o : HO} (h : H b = some o) (n : H p = none) : b ≠ p := ne_of_none h n
/-- H' is H but at p -/
def But (p : Addr) (H H' : Hp) : Prop := ∀ b o, b ≠ p → H b = some o → H' b = some o
theorem But.refl {p : Addr} {H : Hp} : But p H H := fun _ _ _ h => h
theorem But.of {p : Addr} {H H' : Hp} (s : Same H H') : But p H H' := fun b o _ h => s b o h
theorem But.trans {p : Addr} {H H1 H2 : Hp} (a : But p H H1) (b : But p H1 H2) : But p H H2 := fun c o n h => b c o n (a c o n h)
theorem But.upd {p : Addr} {H H' : Hp} {o : HO} (a : But p H H') : But p H (upd H' p o) := fun b o n h => by rw [upd_ne n]; exact a b o n h
theorem But.same {p : Addr} {H H' : Hp} (a : But p H H') (n : H p = none) : Same H H' := fun b o h => a b o (ne_of_none h n) h
theorem But.tr2 {p : Addr} {H H1 H2 : Hp} (s : Same H H1) (n : H p = none) (a : But p H1 H2) : Same H H2 := fun b o h => a b o (ne_of_none h n) (s b o h)
/-! ### numbers -/
theorem cdivW {a b : Int} (h : 0 < b) (h2 : b < 2 ^ 8000) : CDivW a b := by
  refine ⟨h, ?_⟩
  have e : b.natAbs < 2 ^ 8000 := by
    have : ((b.natAbs : Nat) : Int) < ((2 ^ 8000 : Nat) : Int) := by
      rw [Int.natAbs_of_nonneg (Int.le_of_lt h)]
      exact_mod_cast h2
    exact_mod_cast this
  by_cases z : b.natAbs = 0
  · rw [z]; decide
  · exact Nat.lt_of_lt_of_le (Nat.log2_lt z |>.mpr e) (by decide)
theorem sz {n : Nat} (h : n ≤ 100000) : n ≤ sizeLine := Nat.le_trans h (by decide)
theorem szl {n : Nat} (h : n < 100000) : n < sizeLine := Nat.lt_of_lt_of_le h (by decide)
/-! ### loops -/
theorem for_l {K : PySem.W.Frag} {tl : TE} {g : TG} {tb : TS} {D : Ends} {σ : St} {H : Hp} {a : Addr} {xs : List V} (Pv : Nat → St → Hp → Prop) (hs : SqL K H a xs) (h0 : Pv 0 σ H) (hl : ∀ i σ H, i ≤ xs.length → Pv i σ H → SqL K H a xs)
    (turn : ∀ i x σ H, xs[i]? = some x → Pv i σ H → g x σ H fun σ2 H2 => tb { D with nx := Pv (i + 1), ct := Pv (i + 1), bk := D.nx } σ2 H2) (hd : ∀ σ H, Pv xs.length σ H → D.nx σ H) (e : ∀ R : V → Hp → Prop, R (.ref a) H → tl σ H R) : tFor (iList K tl) g tb D σ H := by
  refine g_for ?_
  refine e _ ⟨a, rfl, ⟨_, hs⟩, ?_⟩
  exact for_list (xs := xs) Pv h0 hl turn hd
theorem for_r {ta : TA} {g : TG} {tb : TS} {D : Ends} {σ : St} {H : Hp} {n : Int} (N : Nat) (en : n.toNat = N) (b1 : -(2 ^ 62) ≤ n) (b2 : n < 2 ^ 62) (Pv : Nat → St → Hp → Prop) (h0 : Pv 0 σ H)
    (turn : ∀ (i : Nat) σ H, i < N → Pv i σ H → g (.int (i : Int)) σ H fun σ2 H2 => tb { D with nx := Pv (i + 1), ct := Pv (i + 1), bk := D.nx } σ2 H2) (hd : ∀ σ H, Pv N σ H → D.nx σ H) (e : ∀ R : List V → Hp → Prop, R [.int n] H → ta σ H R) : tFor (iRng1 ta) g tb D σ H := by
  subst en
  refine g_for ?_
  refine e _ ⟨n, rfl, b1, b2, ?_⟩
  refine for_range (lo := 0) Pv h0 (fun i σ H hi p => ?_) hd
  have z := turn i σ H hi p
  rw [Int.zero_add]
  exact z
theorem g_nx {nx : St → Hp → Prop} {rt : VK} {bk ct : St → Hp → Prop} {σ : St} {H : Hp} (q : nx σ H) : (Ends.mk nx rt bk ct).nx σ H := q
theorem g_bkE {nx : St → Hp → Prop} {rt : VK} {bk ct : St → Hp → Prop} {σ : St} {H : Hp} (q : bk σ H) : (Ends.mk nx rt bk ct).bk σ H := q
theorem g_ctE {nx : St → Hp → Prop} {rt : VK} {bk ct : St → Hp → Prop} {σ : St} {H : Hp} (q : ct σ H) : (Ends.mk nx rt bk ct).ct σ H := q
theorem g_rt {nx : St → Hp → Prop} {rt : VK} {bk ct : St → Hp → Prop} {v : V} {H : Hp} (q : rt v H) : (Ends.mk nx rt bk ct).rt v H := q
/-- a cell of the script -/
def cell (ns : List Int) (k : Int) : Int := ns.getD k.toNat 0
theorem atI_map {ns : List Int} {k : Int} (h0 : 0 ≤ k) (h : k < (ns.length : Int)) : atI (ns.map V.int) k = some (.int (cell ns k)) := by
  have e : k = ((k.toNat : Nat) : Int) := by omega
  have hl : k.toNat < ns.length := by omega
  have e2 : cell ns k = ns[k.toNat] := by
    unfold cell
    rw [List.getD_eq_getElem?_getD, List.getElem?_eq_getElem hl]; rfl
  rw [e2]
  refine at_of e ?_
  rw [List.getElem?_map, List.getElem?_eq_getElem hl]; rfl
theorem cell_out {ns : List Int} {k : Int} (h : ¬ k < (ns.length : Int)) : cell ns k = 0 := by
  unfold cell
  rw [List.getD_eq_getElem?_getD, List.getElem?_eq_none (by omega)]; rfl
theorem atI_some {xs : List V} {i : Int} (h0 : 0 ≤ i) (h : i < (xs.length : Int)) : ∃ v, xs[i.toNat]? = some v ∧ atI xs i = some v := by
  have hl : i.toNat < xs.length := by omega
  exact ⟨xs[i.toNat], List.getElem?_eq_getElem hl, at_of (by omega) (List.getElem?_eq_getElem hl)⟩
theorem atI_ints {xs : List Int} {i : Int} (h0 : 0 ≤ i) (h : i < (xs.length : Int)) : ∃ n, atI (xs.map V.int) i = some (.int n) ∧ xs[i.toNat]? = some n := by
  have hl : i.toNat < xs.length := by omega
  refine ⟨xs[i.toNat], at_of (j := i.toNat) (by omega) ?_, List.getElem?_eq_getElem hl⟩
  rw [List.getElem?_map, List.getElem?_eq_getElem hl]; rfl
theorem g_dT {p A B : Prop} [Decidable p] (h : p) (q : A) : if decide p = true then A else B := by rw [decide_eq_true h]; exact iteT q
theorem g_dF {p A B : Prop} [Decidable p] (h : ¬ p) (q : B) : if decide p = true then A else B := by rw [decide_eq_false h]; exact iteF q
theorem g_nT {p A B : Prop} [Decidable p] (h : ¬ p) (q : A) : if (!decide p) = true then A else B := by rw [decide_eq_false h]; exact iteT q
theorem g_nF {p A B : Prop} [Decidable p] (h : p) (q : B) : if (!decide p) = true then A else B := by rw [decide_eq_true h]; exact iteF q
/-! ### comprehensions: the list ys, value by value -/
theorem g_yes {σ : St} {H : Hp} {P : Bool → Hp → Prop} (q : P true H) : tYes σ H P := q
theorem g_lc {wi : TI} {g : TG} {tt : TT} {te : TE} {vs : List Nat} {σ : St} {H : Hp} {Q : VK} (h : wi σ H fun J H1 => ∀ D, H1 D = none → ∃ W : Nat → Nat → Hp → Prop, (∃ m, W 0 m (upd H1 D (.lst []))) ∧ ∀ i m H, W i m H →
  (J.stop i H ∧ Q (.ref D) H) ∨ (J.go i H ∧ ∃ Nx : Hp → Prop, (∀ H', Nx H' → ∃ m', m' < m ∧ W (i + 1) m' H') ∧ ∀ x H', J.yld i H x H' → g x (wipe σ vs) H' fun σ2 H2 => wipe σ2 vs = wipe σ vs ∧ tt σ2 H2 fun b H3 =>
    if b = true then te σ2 H3 fun y H4 => ∃ acc, H4 D = some (.lst acc) ∧ acc.length < sizeLine ∧ Nx (upd H4 D (.lst (acc ++ [y]))) else Nx H3)) : tLc wi g tt te vs σ H Q := h
theorem g_revR {ta : TE} {σ : St} {H : Hp} {R : It → Hp → Prop} (h : ta σ H fun x H1 => ∃ n : Int, x = .int n ∧ -(2 ^ 62) ≤ (0 : Int) ∧ (0 : Int) < 2 ^ 62 ∧ -(2 ^ 62) ≤ n ∧ n < 2 ^ 62 ∧ R (Itc (0 + (((n - 0).toNat : Nat) : Int) - 1) (-1) (n - 0).toNat) H1) : iRevR (tRg1 ta) σ H R := h
theorem g_rng1 {ta : TA} {σ : St} {H : Hp} {R : It → Hp → Prop} (h : ta σ H fun vs H1 => ∃ j : Int, vs = [.int j] ∧ -(2 ^ 62) ≤ j ∧ j < 2 ^ 62 ∧ R (Itr 0 j.toNat) H1) : iRng1 ta σ H R := h
theorem g_iList {K : PySem.W.Frag} {tl : TE} {σ : St} {H : Hp} {R : It → Hp → Prop} (h : tl σ H fun x H1 => ∃ a, x = .ref a ∧ (∃ xs, SqL K H1 a xs) ∧ R (Itl K a) H1) : iList K tl σ H R := h
def LcP (H1 : Hp) (D : Addr) (ys : List V) (i : Nat) (H : Hp) : Prop := Same H1 H ∧ H D = some (.lst (ys.take i))
theorem lc_vals {J : It} {n : Nat} {G : Hp → Prop} {Y : Nat → Hp → V → Hp → Prop} (w : Walk J n G Y) (ys : List V) {g : TG} {tt : TT} {te : TE} {vs : List Nat} {σ : St} {H1 : Hp} {D : Addr} {Qd : Hp → Prop} (hD : H1 D = none) (hlen : ys.length = n) (hG : ∀ H, Same H1 H → G H)
    (hs : ∀ i x H H', i < n → LcP H1 D ys i H → Y i H x H' → g x (wipe σ vs) H' fun σ2 H2 => wipe σ2 vs = wipe σ vs ∧ tt σ2 H2 fun b H3 =>
      if b = true then te σ2 H3 fun y H4 => ∃ acc, H4 D = some (.lst acc) ∧ acc.length < sizeLine ∧ LcP H1 D ys (i + 1) (upd H4 D (.lst (acc ++ [y]))) else LcP H1 D ys (i + 1) H3)
    (hd : ∀ H, Same H1 H → H D = some (.lst ys) → Qd H) :
    ∃ W : Nat → Nat → Hp → Prop, (∃ m, W 0 m (upd H1 D (.lst []))) ∧ ∀ i m H, W i m H →
      (J.stop i H ∧ Qd H) ∨ (J.go i H ∧ ∃ Nx : Hp → Prop, (∀ H', Nx H' → ∃ m', m' < m ∧ W (i + 1) m' H') ∧ ∀ x H', J.yld i H x H' → g x (wipe σ vs) H' fun σ2 H2 => wipe σ2 vs = wipe σ vs ∧ tt σ2 H2 fun b H3 =>
        if b = true then te σ2 H3 fun y H4 => ∃ acc, H4 D = some (.lst acc) ∧ acc.length < sizeLine ∧ Nx (upd H4 D (.lst (acc ++ [y]))) else Nx H3) := by
  refine lc_it w (LcP H1 D ys) ⟨same_upd hD, by rw [upd_same]; rfl⟩ (fun i H _ p => hG H p.1) hs (fun H p => hd H p.1 ?_)
  have e := p.2
  rw [← hlen, List.take_length] at e
  exact e
theorem lc_next {H1 H4 : Hp} {D : Addr} {ys : List V} {i : Nat} {y : V} (hD : H1 D = none) (p : LcP H1 D ys i H4) (hz : ys.length ≤ 100000) (hy : ys[i]? = some y) :
    ∃ acc, H4 D = some (.lst acc) ∧ acc.length < sizeLine ∧ LcP H1 D ys (i + 1) (upd H4 D (.lst (acc ++ [y]))) := by
  refine ⟨_, p.2, ?_, ?_, ?_⟩
  · rw [List.length_take]
    obtain ⟨h, _⟩ := List.getElem?_eq_some_iff.mp hy
    exact szl (by omega)
  · exact (But.of p.1).upd.same hD
  · rw [upd_same, List.take_add_one, hy]
    rfl
theorem LcP.same {H1 H4 H5 : Hp} {D : Addr} {ys : List V} {i : Nat} (p : LcP H1 D ys i H4) (s : Same H4 H5) : LcP H1 D ys i H5 := ⟨p.1.trans s, s _ _ p.2⟩
theorem map_get {α : Type} {f : α → V} {xs : List α} {i : Nat} {y : V} (h : (xs.map f)[i]? = some y) : ∃ z, xs[i]? = some z ∧ y = f z := by
  rw [List.getElem?_map] at h
  cases e : xs[i]? with
  | none => rw [e] at h; cases h
  | some z => rw [e] at h; exact ⟨z, rfl, (Option.some.inj h).symm⟩
/-! ### == of lists of ints -/
section
variable {K : PySem.W.Frag} {H : Hp} {Q : VK}
theorem dpAll_ints : ∀ {ns : List Int}, DpAll K H (ns.map V.int) (ns.map PyData.int)
  | [] => .nil
  | n :: _ => .cons (.int n) dpAll_ints
theorem lay_ints : ∀ {ns : List Int}, PyData.canLayAll0 (ns.map PyData.int) = true
  | [] => rfl
  | _ :: ns => by
    show (true && PyData.canLayAll0 (ns.map PyData.int)) = true
    rw [lay_ints]; rfl
theorem depth_ints : ∀ {ns : List Int}, PyData.depthAll (ns.map PyData.int) = 0
  | [] => rfl
  | _ :: ns => by
    show max 0 (PyData.depthAll (ns.map PyData.int)) = 0
    rw [depth_ints]; rfl
theorem shaped_ints {ns : List Int} : SeqAt.shaped (.list (ns.map PyData.int)) = true := by
  show (PyData.canLayAll0 (ns.map PyData.int) && decide (PyData.depthAll (ns.map PyData.int) + 1 ≤ 64)) = true
  rw [lay_ints, depth_ints]; rfl
theorem eqvAll_ints : ∀ {ns ms : List Int}, PyData.eqvAll (ns.map PyData.int) (ms.map PyData.int) = decide (ns = ms)
  | [], [] => rfl
  | [], _ :: _ => rfl
  | _ :: _, [] => rfl
  | n :: ns, m :: ms => by
    show ((n == m) && PyData.eqvAll (ns.map PyData.int) (ms.map PyData.int)) = decide (n :: ns = m :: ms)
    rw [eqvAll_ints, Bool.eq_iff_iff]
    simp
theorem dp_ints {a : Addr} {ns : List Int} (h : SqL K H a (ns.map V.int)) : Dp K H (.ref a) (.list (ns.map PyData.int)) := .lst h dpAll_ints
theorem g_eqL {a b : Addr} {ns ms : List Int} (h1 : SqL K H a (ns.map V.int)) (h2 : SqL K H b (ms.map V.int)) (q : Q (.bl (decide (ns = ms))) H) : rEqD K (.ref a) (.ref b) H Q :=
  ⟨_, _, dp_ints h1, dp_ints h2, shaped_ints, shaped_ints, by rw [show PyData.eqv (.list (ns.map PyData.int)) (.list (ms.map PyData.int)) = decide (ns = ms) from eqvAll_ints]; exact q⟩
theorem g_neL {a b : Addr} {ns ms : List Int} (h1 : SqL K H a (ns.map V.int)) (h2 : SqL K H b (ms.map V.int)) (q : Q (.bl (!decide (ns = ms))) H) : rNeD K (.ref a) (.ref b) H Q :=
  ⟨_, _, dp_ints h1, dp_ints h2, shaped_ints, shaped_ints, by rw [show PyData.eqv (.list (ns.map PyData.int)) (.list (ms.map PyData.int)) = decide (ns = ms) from eqvAll_ints]; exact q⟩
theorem g_sum {a : Addr} {ns : List Int} (h : SqL K H a (ns.map V.int)) (q : Q (.int ns.sum) H) : rSum K [.ref a] H Q := ⟨a, ns, rfl, h, q⟩
end
theorem ixN_nat {n : Nat} {k : Int} (h0 : 0 ≤ k) (h : k < (n : Int)) : ixN n k = some k.toNat := by
  unfold ixN
  rw [if_pos h0, if_pos h]
theorem g_ref {a : Addr} {A : Addr → Prop} (q : A a) : ∃ b, V.ref a = .ref b ∧ A b := ⟨a, rfl, q⟩
/-! ### objects: the attributes by their places -/
def obj : List Str → List V → List (Str × V)
  | k :: ks, v :: vs => (k, v) :: obj ks vs
  | _, _ => []
theorem obj_len : ∀ (ks : List Str) (vs : List V), (obj ks vs).length ≤ ks.length
  | [], _ => Nat.zero_le _
  | _ :: _, [] => Nat.zero_le _
  | _ :: ks, _ :: vs => Nat.succ_le_succ (obj_len ks vs)
theorem obj_get : ∀ {ks : List Str} {vs : List V} {i : Nat} {k : Str}, ks.Nodup → ks[i]? = some k → (obj ks vs).lookup k = vs[i]?
  | [], _, _, _, _, h => by cases h
  | k0 :: ks, [], i, k, _, _ => by simp [obj]
  | k0 :: ks, v :: vs, 0, k, _, h => by
    have e : k0 = k := Option.some.inj h
    subst e
    simp [obj]
  | k0 :: ks, v :: vs, i + 1, k, nd, h => by
    have nd' := List.nodup_cons.mp nd
    have hk : k ∈ ks := List.mem_of_getElem? h
    have ne : (k == k0) = false := by
      rw [beq_eq_false_iff_ne]
      intro e
      subst e
      exact nd'.1 hk
    show List.lookup k ((k0, v) :: obj ks vs) = vs[i]?
    rw [List.lookup_cons, ne]
    exact obj_get nd'.2 h
theorem obj_none : ∀ {ks : List Str} {vs : List V} {k : Str}, k ∉ ks → (obj ks vs).lookup k = none
  | [], _, _, _ => rfl
  | _ :: _, [], _, _ => rfl
  | k0 :: ks, v :: vs, k, h => by
    have ne : (k == k0) = false := by
      rw [beq_eq_false_iff_ne]
      intro e
      subst e
      exact h (List.mem_cons_self ..)
    show List.lookup k ((k0, v) :: obj ks vs) = none
    rw [List.lookup_cons, ne]
    exact obj_none fun z => h (List.mem_cons_of_mem _ z)
theorem obj_put : ∀ {ks : List Str} {vs : List V} {i : Nat} {k : Str} {y : V}, ks.Nodup → ks[i]? = some k → i < vs.length → putF k y (obj ks vs) = obj ks (vs.set i y)
  | [], _, _, _, _, _, h, _ => by cases h
  | _ :: _, [], _, _, _, _, _, h => by simp at h
  | k0 :: ks, v :: vs, 0, k, y, _, h, _ => by
    have e : k0 = k := Option.some.inj h
    subst e
    show (if k0 = k0 then _ else _) = _
    rw [if_pos rfl]
    rfl
  | k0 :: ks, v :: vs, i + 1, k, y, nd, h, hl => by
    have nd' := List.nodup_cons.mp nd
    have hk : k ∈ ks := List.mem_of_getElem? h
    have ne : ¬ k0 = k := by
      intro e
      subst e
      exact nd'.1 hk
    show (if k0 = k then _ else (k0, v) :: putF k y (obj ks vs)) = (k0, v) :: obj ks (vs.set i y)
    rw [if_neg ne, obj_put nd'.2 h (by simpa using hl)]
theorem obj_new : ∀ {ks : List Str} {vs : List V} {k : Str} {y : V}, ks.Nodup → ks[vs.length]? = some k → putF k y (obj ks vs) = obj ks (vs ++ [y])
  | [], _, _, _, _, h => by simp at h
  | k0 :: ks, [], k, y, _, h => by
    have e : k0 = k := Option.some.inj h
    subst e
    show [(k0, y)] = obj (k0 :: ks) [y]
    cases ks <;> rfl
  | k0 :: ks, v :: vs, k, y, nd, h => by
    have nd' := List.nodup_cons.mp nd
    have h' : ks[vs.length]? = some k := h
    have hk : k ∈ ks := List.mem_of_getElem? h'
    have ne : ¬ k0 = k := by
      intro e
      subst e
      exact nd'.1 hk
    show (if k0 = k then _ else (k0, v) :: putF k y (obj ks vs)) = (k0, v) :: obj ks (vs ++ [y])
    rw [if_neg ne, obj_new nd'.2 h']
section
variable {K : PySem.W.Frag} {σ : St} {H : Hp} {Q : VK} {v y : V} {ta tv : TE} {D : Ends} {f m : Str} {a C dx : Addr} {ks : List Str} {vs : List V} {i : Nat}
theorem g_fld (h : ta σ H fun x H1 => ∃ a C dx fs v, x = .ref a ∧ H1 a = some (.ins C dx fs) ∧ Cls K C ∧ NoAttr K C f ∧ fs.lookup f = some v ∧ Q v H1) : tFld K ta f σ H Q := h
theorem g_fldE {A : V → Prop} (ho : H a = some (.ins C dx (obj ks vs))) (c : Cls K C) (n : NoAttr K C f) (nd : ks.Nodup) (hk : ks[i]? = some f) (hv : vs[i]? = some v) (q : A v) :
    ∃ a' C' dx' fs v', V.ref a = .ref a' ∧ H a' = some (.ins C' dx' fs) ∧ Cls K C' ∧ NoAttr K C' f ∧ fs.lookup f = some v' ∧ A v' := ⟨a, C, dx, _, v, rfl, ho, c, n, (obj_get nd hk).trans hv, q⟩
theorem g_sfld (h : tv σ H fun y H1 => ta σ H1 fun x H2 => ∃ a C dx fs, x = .ref a ∧ H2 a = some (.ins C dx fs) ∧ Cls K C ∧ NoAttr K C f ∧ fs.length < 1000 ∧ D.nx σ (upd H2 a (.ins C dx (putF f y fs)))) : sFld K ta tv f D σ H := h
theorem g_putE {A : Hp → Prop} (ho : H a = some (.ins C dx (obj ks vs))) (c : Cls K C) (n : NoAttr K C f) (nd : ks.Nodup) (h1 : ks.length < 1000) (hk : ks[i]? = some f) (hv : i < vs.length) (q : A (upd H a (.ins C dx (obj ks (vs.set i y))))) :
    ∃ a' C' dx' fs, V.ref a = .ref a' ∧ H a' = some (.ins C' dx' fs) ∧ Cls K C' ∧ NoAttr K C' f ∧ fs.length < 1000 ∧ A (upd H a' (.ins C' dx' (putF f y fs))) :=
  ⟨a, C, dx, _, rfl, ho, c, n, Nat.lt_of_le_of_lt (obj_len ks vs) h1, by rw [obj_put nd hk hv]; exact q⟩
theorem g_newE {A : Hp → Prop} (ho : H a = some (.ins C dx (obj ks vs))) (c : Cls K C) (n : NoAttr K C f) (nd : ks.Nodup) (h1 : ks.length < 1000) (hk : ks[vs.length]? = some f) (q : A (upd H a (.ins C dx (obj ks (vs ++ [y]))))) :
    ∃ a' C' dx' fs, V.ref a = .ref a' ∧ H a' = some (.ins C' dx' fs) ∧ Cls K C' ∧ NoAttr K C' f ∧ fs.length < 1000 ∧ A (upd H a' (.ins C' dx' (putF f y fs))) :=
  ⟨a, C, dx, _, rfl, ho, c, n, Nat.lt_of_le_of_lt (obj_len ks vs) h1, by rw [obj_new nd hk]; exact q⟩
theorem g_meth {sp : Sp} {dvs : List V} {E : XK} {t : TA} (h : ta σ H fun x H1 => ∃ a dx fs, x = .ref a ∧ H1 a = some (.ins C dx fs) ∧ fs.lookup m = none ∧ t σ H1 fun vs H2 => sp (x :: (vs ++ dvs)) H2 Q E) : tMeth C m sp dvs E ta t σ H Q := h
theorem g_methE {A : Prop} (ho : H a = some (.ins C dx (obj ks vs))) (no : m ∉ ks) (q : A) : ∃ a' dx' fs, V.ref a = .ref a' ∧ H a' = some (.ins C dx' fs) ∧ fs.lookup m = none ∧ A := ⟨a, dx, _, rfl, ho, obj_none no, q⟩
theorem g_make {sp : Sp} {dvs : List V} {E : XK} {t : TA} (h : t σ H fun vs H1 => ∀ x dx, H1 x = none → H1 dx = none → dx ≠ x → sp (.ref x :: (vs ++ dvs)) (upd (upd H1 dx (.own x)) x (.ins C dx [])) (fun v H2 => v = .non ∧ Q (.ref x) H2) E) : tMake C sp dvs E t σ H Q := h
theorem g_prop {sp : Sp} {dvs : List V} {E : XK} (h : ta σ H fun x H1 => ∃ a dx fs, x = .ref a ∧ H1 a = some (.ins C dx fs) ∧ sp (.ref a :: dvs) H1 Q E) : tProp C sp dvs E ta σ H Q := h
theorem g_propE {A : Addr → Prop} (ho : H a = some (.ins C dx (obj ks vs))) (q : A a) : ∃ a' dx' fs, V.ref a = .ref a' ∧ H a' = some (.ins C dx' fs) ∧ A a' := ⟨a, dx, _, rfl, ho, q⟩
theorem g_absE {A : Int → Prop} {n : Int} (q : A n) : ∃ i, [V.int n] = [V.int i] ∧ A i := ⟨n, rfl, q⟩
end
/-- a slice of ints -/
theorem cut_ints (ns : List Int) (lo hi : Option Int) : ∃ ms : List Int, cutV (ns.map V.int) lo hi = ms.map V.int ∧ ms.length ≤ ns.length := by
  unfold cutV
  refine ⟨(ns.drop (HT.sIx (ns.map V.int).length 0 lo)).take (HT.sIx (ns.map V.int).length (ns.map V.int).length hi - HT.sIx (ns.map V.int).length 0 lo), ?_, ?_⟩
  · rw [List.map_take, List.map_drop]
  · rw [List.length_take, List.length_drop]
    omega
theorem g_nameE {i : Nat} {v : V} {σ σ' : St} {H : Hp} {A : St → Hp → Prop} (e : σ.set i (some v) = σ') (q : A σ' H) : gName i v σ H A := by
  subst e
  exact q
theorem but_sq {K : PySem.W.Frag} {p : Addr} {H H' : Hp} {a : Addr} {xs : List V} (e : But p H H') (n : a ≠ p) (h : SqL K H a xs) : SqL K H' a xs := by
  rcases h with (h | ⟨o, h⟩) | h
  · exact .inl (.inl (e _ _ n h))
  · exact .inl (.inr ⟨o, e _ _ n h⟩)
  · exact .inr h
theorem g_star {K : PySem.W.Frag} {te : TE} {t : TA} {σ : St} {H : Hp} {Q : List V → Hp → Prop} (h : te σ H fun x H1 => ∃ p xs, x = V.ref p ∧ (SqT K H1 p xs ∨ SqL K H1 p xs) ∧ t σ H1 fun ys H2 => Q (xs ++ ys) H2) : StX.tStar K te t σ H Q := h
theorem g_while {c : TT} {tb : TS} {D : Ends} {σ : St} {H : Hp} (W : Nat → St → Hp → Prop) (h0 : ∃ m, W m σ H) (h : ∀ m σ H, W m σ H → c σ H fun b H1 => if b = true then ∃ N : St → Hp → Prop, (∀ σ' H', N σ' H' → ∃ m', m' < m ∧ W m' σ' H') ∧ tb { D with nx := N, ct := N, bk := D.nx } σ H1 else D.nx σ H1) : tWhile c tb D σ H := ⟨W, h0, h⟩
theorem g_cut {t u : TS} {D : Ends} {σ : St} {H : Hp} (Mid : St → Hp → Prop) (h1 : t { D with nx := Mid } σ H) (h2 : ∀ σ' H', Mid σ' H' → u D σ' H') : C8.tCut t u D σ H := ⟨Mid, h1, h2⟩
theorem g_min {K : PySem.W.Frag} {a : Addr} {ns : List Int} {H : Hp} {Q : VK} (h : SqL K H a (ns.map V.int)) (h0 : 0 < ns.length) (q : ∀ m, m ∈ ns → (∀ y, y ∈ ns → m ≤ y) → Q (.int m) H) : rMin K [.ref a] H Q := ⟨a, ns, rfl, h, h0, q⟩
theorem g_max {K : PySem.W.Frag} {a : Addr} {ns : List Int} {H : Hp} {Q : VK} (h : SqL K H a (ns.map V.int)) (h0 : 0 < ns.length) (q : ∀ m, m ∈ ns → (∀ y, y ∈ ns → y ≤ m) → Q (.int m) H) : rMax K [.ref a] H Q := ⟨a, ns, rfl, h, h0, q⟩
theorem atI_nat' {xs : List V} {i : Int} {j : Nat} {v : V} (e : i = (j : Int)) (h : xs[j]? = some v) : atI xs i = some v := at_of e h
theorem ixN_last {n : Nat} (h : 0 < n) : ixN n (-1) = some (n - 1) := by
  unfold ixN
  rw [if_neg (by decide), if_pos (by omega)]
  congr 1
  omega
theorem atI_neg1 {xs : List V} {v : V} (h : xs[xs.length - 1]? = some v) : atI xs (-1) = some v := by
  obtain ⟨hl, _⟩ := List.getElem?_eq_some_iff.mp h
  unfold atI
  rw [ixN_last (by omega)]
  exact h
theorem snoc_of {α : Type} {xs : List α} (h : 0 < xs.length) : ∃ a x, xs = a ++ [x] :=
  ⟨xs.dropLast, xs.getLast (List.ne_nil_of_length_pos h), (List.dropLast_concat_getLast _).symm⟩
theorem set_last {α : Type} {a : List α} {x y : α} : (a ++ [x]).set a.length y = a ++ [y] := by
  rw [List.set_append_right _ _ (Nat.le_refl _), Nat.sub_self]
  rfl
end My
namespace My
open PySem PySem.Spec L2
local macro_rules | `(tactic| walk_at "side") => `(tactic| first | assumption | decide | omega | exact ⟨by decide, by decide⟩ | exact ⟨by decide, by decide, by decide⟩ | decide +kernel | exact cdivW (by decide +kernel) (by decide +kernel) | exact Or.inl ⟨by omega, by omega⟩ | exact Or.inr ⟨by omega, by omega⟩ | (simp only [List.length_map, List.length_cons, List.length_nil, List.length_append]; omega))
local macro_rules | `(tactic| walk_at "fact") => `(tactic| first | assumption | omega | with_reducible rfl)
local macro_rules | `(tactic| walk_at "use") => `(tactic| fail "use")
local macro_rules | `(tactic| walk_at "go1") => `(tactic| with_reducible first | refine g_seq ?_ | refine g_asg ?_ | refine g_ret ?_ | refine g_ifS ?_ | refine g_drop ?_ | refine g_star ?_ | refine g_nx ?_ | refine g_rt ?_ | refine g_bkE ?_ | refine g_ctE ?_ | refine g_next ?_ | refine g_retN ?_ | refine g_brk ?_ | refine g_ct ?_ | refine g_c ?_ | refine g_op ?_ | refine g_un ?_ | refine g_rI0 ?_ | refine g_rU ?_ | refine g_rEqI ?_ | refine g_rNeI ?_ | refine g_isN ?_ | refine g_rIsB ?_ | refine g_rNotB ?_ | refine g_test ?_ | refine g_B ?_ | refine g_bl ?_ | refine g_and ?_ | refine g_or ?_ | refine g_not ?_ | refine g_andV ?_ | refine g_orV ?_ | refine g_notV ?_ | refine g_if ?_ | refine g_chain ?_ | refine g_yes ?_ | refine g_lc ?_ | refine g_revR ?_ | refine g_rng1 ?_ | refine g_iList ?_ | refine g_nil ?_ | refine g_cons ?_ | refine g_tup ?_ | refine g_lst ?_ | refine g_call ?_ | refine g_CB ?_ | refine g_sl ?_ | refine g_noPart ?_ | refine g_part ?_ | refine g_intE ?_ | refine g_ref ?_ | refine g_fld ?_ | refine g_sfld ?_ | refine g_meth ?_ | refine g_make ?_ | refine g_prop ?_  | refine g_ipI ?_ | refine g_int1 ?_ | refine g_int1B ?_ | refine g_one ?_ | refine g_two ?_ | refine g_isiI ?_ | refine g_isiIB ?_ | refine g_isiB ?_ | refine g_BM ?_ | refine g_BM0 ?_ | refine g_sub ?_)
local macro_rules | `(tactic| walk_at "go") => `(tactic| repeat (first | walk_at "go1" | ((with_reducible refine' g_nameE ?sd_ ?_); case sd_ => dsimp only [List.set_cons_succ, List.set_cons_zero]) | ((with_reducible refine' g_var ?sd_ ?_); case sd_ => exact rfl) | ((with_reducible refine' g_aug ?sd_ ?_); case sd_ => exact rfl) | ((with_reducible refine' g_rI ?sd_ ?_); case sd_ => walk_at "side") | ((with_reducible refine' g_dT ?sd_ ?_); case sd_ => walk_at "fact") | ((with_reducible refine' g_dF ?sd_ ?_); case sd_ => walk_at "fact") | ((with_reducible refine' g_nT ?sd_ ?_); case sd_ => walk_at "fact") | ((with_reducible refine' g_nF ?sd_ ?_); case sd_ => walk_at "fact") | (with_reducible refine g_iT rfl ?_) | (with_reducible refine g_iF rfl ?_) | walk_at "use"))
def topS (i : Nat) : Stmt := PySem.Challenge.pw_throughline_k08_encoded_segments.main.body.getD i (.Pass ⟨0, 0, 0, 0⟩)
abbrev s_octet_sum : Stmt := topS 3
abbrev s_checksum : Stmt := topS 4
abbrev s_write_number : Stmt := topS 6
abbrev s_Segment_init__ : Stmt := inClass (topS 8) 0
abbrev s_write_options : Stmt := topS 19
abbrev s_option : Stmt := topS 20
abbrev s_write_pairs : Stmt := topS 21
abbrev s_write_single_options : Stmt := topS 22
abbrev s_fitting_ranges : Stmt := topS 23
abbrev s_encode : Stmt := topS 33
abbrev s_write_header : Stmt := topS 34
abbrev s_flags : Stmt := topS 35
abbrev s_l_is_integer : Stmt := topS 37
abbrev s_l_cell : Stmt := topS 38
abbrev s_l_row : Stmt := topS 39
abbrev s_l_octets : Stmt := topS 40
abbrev s_l_wire : Stmt := topS 41
abbrev s_l_optional : Stmt := topS 42
abbrev s_l_pairs : Stmt := topS 43
abbrev s_l_parts : Stmt := topS 44
abbrev s_l_made : Stmt := topS 45
abbrev s_l_number : Stmt := topS 46
abbrev s_l_pair : Stmt := topS 47
abbrev s_l_all_pairs : Stmt := topS 48
abbrev s_l_flag : Stmt := topS 49
abbrev s_l_same : Stmt := topS 50
abbrev s_l_digits : Stmt := topS 51
abbrev s_l_option : Stmt := topS 52
abbrev s_l_plain_options : Stmt := topS 53
abbrev s_l_fitting : Stmt := topS 54
abbrev s_l_options : Stmt := topS 55
abbrev s_l_sum : Stmt := topS 56
abbrev s_l_sealed : Stmt := topS 57
abbrev s_l_flags : Stmt := topS 58
abbrev s_l_written : Stmt := topS 59
abbrev s_law : Stmt := topS 60
theorem sc_octet_sum : FnScope ["sender", "target", "octets", "words"] ["sender", "target", "octets"] (defScope s_octet_sum) := ⟨rfl, rfl, rfl, by decide +kernel, rfl, by decide +kernel, by decide +kernel⟩
theorem sc_checksum : FnScope ["sender", "target", "octets"] ["sender", "target", "octets"] (defScope s_checksum) := ⟨rfl, rfl, rfl, by decide +kernel, rfl, by decide +kernel, by decide +kernel⟩
theorem sc_write_number : FnScope ["number", "size", "place"] ["number", "size"] (defScope s_write_number) := ⟨rfl, rfl, rfl, by decide +kernel, rfl, by decide +kernel, by decide +kernel⟩
theorem sc_Segment_init__ : FnScope ["self", "source", "target", "seq", "count", "echo", "ack", "syn", "fin", "reset", "marked", "cut", "window", "mss", "scale", "ranges_known", "ranges", "stamp", "data"] ["self", "source", "target", "seq", "count", "echo", "ack", "syn", "fin", "reset", "marked", "cut", "window", "mss", "scale", "ranges_known", "ranges", "stamp", "data"] (defScope s_Segment_init__) := ⟨rfl, rfl, rfl, by decide +kernel, rfl, by decide +kernel, by decide +kernel⟩
theorem sc_write_options : FnScope ["segment", "octets", "ranges"] ["segment"] (defScope s_write_options) := ⟨rfl, rfl, rfl, by decide +kernel, rfl, by decide +kernel, by decide +kernel⟩
theorem sc_option : FnScope ["kind", "body"] ["kind", "body"] (defScope s_option) := ⟨rfl, rfl, rfl, by decide +kernel, rfl, by decide +kernel, by decide +kernel⟩
theorem sc_write_pairs : FnScope ["pairs", "octets", "first", "second"] ["pairs"] (defScope s_write_pairs) := ⟨rfl, rfl, rfl, by decide +kernel, rfl, by decide +kernel, by decide +kernel⟩
theorem sc_write_single_options : FnScope ["segment", "octets", "echo"] ["segment"] (defScope s_write_single_options) := ⟨rfl, rfl, rfl, by decide +kernel, rfl, by decide +kernel, by decide +kernel⟩
theorem sc_fitting_ranges : FnScope ["segment", "many"] ["segment"] (defScope s_fitting_ranges) := ⟨rfl, rfl, rfl, by decide +kernel, rfl, by decide +kernel, by decide +kernel⟩
theorem sc_encode : FnScope ["sender", "target", "segment", "options", "octets"] ["sender", "target", "segment"] (defScope s_encode) := ⟨rfl, rfl, rfl, by decide +kernel, rfl, by decide +kernel, by decide +kernel⟩
theorem sc_write_header : FnScope ["segment", "options_size"] ["segment", "options_size"] (defScope s_write_header) := ⟨rfl, rfl, rfl, by decide +kernel, rfl, by decide +kernel, by decide +kernel⟩
theorem sc_flags : FnScope ["segment"] ["segment"] (defScope s_flags) := ⟨rfl, rfl, rfl, by decide +kernel, rfl, by decide +kernel, by decide +kernel⟩
theorem sc_l_is_integer : FnScope ["actual"] ["actual"] (defScope s_l_is_integer) := ⟨rfl, rfl, rfl, by decide +kernel, rfl, by decide +kernel, by decide +kernel⟩
theorem sc_l_cell : FnScope ["script", "k"] ["script", "k"] (defScope s_l_cell) := ⟨rfl, rfl, rfl, by decide +kernel, rfl, by decide +kernel, by decide +kernel⟩
theorem sc_l_row : FnScope ["cell", "size", "base", "row", "number", "k", "mixed"] ["cell", "size", "base"] (defScope s_l_row) := ⟨rfl, rfl, rfl, by decide +kernel, rfl, by decide +kernel, by decide +kernel⟩
theorem sc_l_octets : FnScope ["actual", "expected", "k"] ["actual", "expected"] (defScope s_l_octets) := ⟨rfl, rfl, rfl, by decide +kernel, rfl, by decide +kernel, by decide +kernel⟩
theorem sc_l_wire : FnScope ["cell"] ["cell"] (defScope s_l_wire) := ⟨rfl, rfl, rfl, by decide +kernel, rfl, by decide +kernel, by decide +kernel⟩
theorem sc_l_optional : FnScope ["cell", "worth"] ["cell", "worth"] (defScope s_l_optional) := ⟨rfl, rfl, rfl, by decide +kernel, rfl, by decide +kernel, by decide +kernel⟩
theorem sc_l_pairs : FnScope ["cell", "size", "row", "k"] ["cell", "size"] (defScope s_l_pairs) := ⟨rfl, rfl, rfl, by decide +kernel, rfl, by decide +kernel, by decide +kernel⟩
theorem sc_l_parts : FnScope ["script", "at", "cells", "parts", "k"] ["script", "at"] (defScope s_l_parts) := ⟨rfl, rfl, rfl, by decide +kernel, rfl, by decide +kernel, by decide +kernel⟩
theorem sc_l_made : FnScope ["parts"] ["parts"] (defScope s_l_made) := ⟨rfl, rfl, rfl, by decide +kernel, rfl, by decide +kernel, by decide +kernel⟩
theorem sc_l_number : FnScope ["actual", "expected"] ["actual", "expected"] (defScope s_l_number) := ⟨rfl, rfl, rfl, by decide +kernel, rfl, by decide +kernel, by decide +kernel⟩
theorem sc_l_pair : FnScope ["actual", "expected"] ["actual", "expected"] (defScope s_l_pair) := ⟨rfl, rfl, rfl, by decide +kernel, rfl, by decide +kernel, by decide +kernel⟩
theorem sc_l_all_pairs : FnScope ["actual", "expected", "k"] ["actual", "expected"] (defScope s_l_all_pairs) := ⟨rfl, rfl, rfl, by decide +kernel, rfl, by decide +kernel, by decide +kernel⟩
theorem sc_l_flag : FnScope ["actual", "expected"] ["actual", "expected"] (defScope s_l_flag) := ⟨rfl, rfl, rfl, by decide +kernel, rfl, by decide +kernel, by decide +kernel⟩
theorem sc_l_same : FnScope ["actual", "parts"] ["actual", "parts"] (defScope s_l_same) := ⟨rfl, rfl, rfl, by decide +kernel, rfl, by decide +kernel, by decide +kernel⟩
theorem sc_l_digits : FnScope ["number", "size", "digits", "k"] ["number", "size"] (defScope s_l_digits) := ⟨rfl, rfl, rfl, by decide +kernel, rfl, by decide +kernel, by decide +kernel⟩
theorem sc_l_option : FnScope ["kind", "body"] ["kind", "body"] (defScope s_l_option) := ⟨rfl, rfl, rfl, by decide +kernel, rfl, by decide +kernel, by decide +kernel⟩
theorem sc_l_plain_options : FnScope ["parts", "octets", "body"] ["parts"] (defScope s_l_plain_options) := ⟨rfl, rfl, rfl, by decide +kernel, rfl, by decide +kernel, by decide +kernel⟩
theorem sc_l_fitting : FnScope ["parts"] ["parts"] (defScope s_l_fitting) := ⟨rfl, rfl, rfl, by decide +kernel, rfl, by decide +kernel, by decide +kernel⟩
theorem sc_l_options : FnScope ["parts", "octets", "body", "pair"] ["parts"] (defScope s_l_options) := ⟨rfl, rfl, rfl, by decide +kernel, rfl, by decide +kernel, by decide +kernel⟩
theorem sc_l_sum : FnScope ["sender", "target", "row", "result", "k"] ["sender", "target", "row"] (defScope s_l_sum) := ⟨rfl, rfl, rfl, by decide +kernel, rfl, by decide +kernel, by decide +kernel⟩
theorem sc_l_sealed : FnScope ["sender", "target", "octets", "zero"] ["sender", "target", "octets"] (defScope s_l_sealed) := ⟨rfl, rfl, rfl, by decide +kernel, rfl, by decide +kernel, by decide +kernel⟩
theorem sc_l_flags : FnScope ["parts", "flags"] ["parts"] (defScope s_l_flags) := ⟨rfl, rfl, rfl, by decide +kernel, rfl, by decide +kernel, by decide +kernel⟩
theorem sc_l_written : FnScope ["sender", "target", "parts", "options", "number", "octets"] ["sender", "target", "parts", "options"] (defScope s_l_written) := ⟨rfl, rfl, rfl, by decide +kernel, rfl, by decide +kernel, by decide +kernel⟩
theorem sc_law : FnScope ["script", "sender", "target", "parts", "segment"] ["script"] (defScope s_law) := ⟨rfl, rfl, rfl, by decide +kernel, rfl, by decide +kernel, by decide +kernel⟩
structure Txt (K : PySem.W.Frag) (mg : Str → Option Value) where
  t_MODULUS : Tok
  t_PROTOCOL : Tok
  t_END : Tok
  t_MSS : Tok
  t_SCALE : Tok
  t_RANGES_KNOWN : Tok
  t_RANGES : Tok
  t_STAMP : Tok
  t_COUNT : Tok
  t_COUNT_MARK : Addr
  t_ROOM_FOR_RANGES : Tok
  t_HEADER_SIZE : Tok
  t_CUT : Tok
  t_MARKED : Tok
  t_ACK : Tok
  t_DATA : Tok
  t_RESET : Tok
  t_SYN : Tok
  t_FIN : Tok
  C_Segment : Addr
  f_octet_sum : Addr
  d_octet_sum : FuncData
  f_checksum : Addr
  d_checksum : FuncData
  f_write_number : Addr
  d_write_number : FuncData
  f_Segment_init__ : Addr
  d_Segment_init__ : FuncData
  e_Segment_init___ranges : Addr
  e_Segment_init___data : Addr
  f_write_options : Addr
  d_write_options : FuncData
  f_option : Addr
  d_option : FuncData
  f_write_pairs : Addr
  d_write_pairs : FuncData
  f_write_single_options : Addr
  d_write_single_options : FuncData
  f_fitting_ranges : Addr
  d_fitting_ranges : FuncData
  f_encode : Addr
  d_encode : FuncData
  f_write_header : Addr
  d_write_header : FuncData
  f_flags : Addr
  d_flags : FuncData
  f_l_is_integer : Addr
  d_l_is_integer : FuncData
  f_l_cell : Addr
  d_l_cell : FuncData
  f_l_row : Addr
  d_l_row : FuncData
  f_l_octets : Addr
  d_l_octets : FuncData
  f_l_wire : Addr
  d_l_wire : FuncData
  f_l_optional : Addr
  d_l_optional : FuncData
  f_l_pairs : Addr
  d_l_pairs : FuncData
  f_l_parts : Addr
  d_l_parts : FuncData
  f_l_made : Addr
  d_l_made : FuncData
  f_l_number : Addr
  d_l_number : FuncData
  f_l_pair : Addr
  d_l_pair : FuncData
  f_l_all_pairs : Addr
  d_l_all_pairs : FuncData
  f_l_flag : Addr
  d_l_flag : FuncData
  f_l_same : Addr
  d_l_same : FuncData
  f_l_digits : Addr
  d_l_digits : FuncData
  f_l_option : Addr
  d_l_option : FuncData
  f_l_plain_options : Addr
  d_l_plain_options : FuncData
  f_l_fitting : Addr
  d_l_fitting : FuncData
  f_l_options : Addr
  d_l_options : FuncData
  f_l_sum : Addr
  d_l_sum : FuncData
  f_l_sealed : Addr
  d_l_sealed : FuncData
  f_l_flags : Addr
  d_l_flags : FuncData
  f_l_written : Addr
  d_l_written : FuncData
  f_law : Addr
  d_law : FuncData
  v_MODULUS : mg "MODULUS" = some (.int 65535 t_MODULUS)
  v_PROTOCOL : mg "PROTOCOL" = some (.int 6 t_PROTOCOL)
  v_END : mg "END" = some (.int 0 t_END)
  v_MSS : mg "MSS" = some (.int 2 t_MSS)
  v_SCALE : mg "SCALE" = some (.int 3 t_SCALE)
  v_RANGES_KNOWN : mg "RANGES_KNOWN" = some (.int 4 t_RANGES_KNOWN)
  v_RANGES : mg "RANGES" = some (.int 5 t_RANGES)
  v_STAMP : mg "STAMP" = some (.int 8 t_STAMP)
  v_COUNT : mg "COUNT" = some (.int 253 t_COUNT)
  v_COUNT_MARK : mg "COUNT_MARK" = some (.ref t_COUNT_MARK)
  es_COUNT_MARK : ∀ H : Hp, SqT K H t_COUNT_MARK [.int 83, .int 85]
  v_ROOM_FOR_RANGES : mg "ROOM_FOR_RANGES" = some (.int 38 t_ROOM_FOR_RANGES)
  v_HEADER_SIZE : mg "HEADER_SIZE" = some (.int 20 t_HEADER_SIZE)
  v_CUT : mg "CUT" = some (.int 128 t_CUT)
  v_MARKED : mg "MARKED" = some (.int 64 t_MARKED)
  v_ACK : mg "ACK" = some (.int 16 t_ACK)
  v_DATA : mg "DATA" = some (.int 8 t_DATA)
  v_RESET : mg "RESET" = some (.int 4 t_RESET)
  v_SYN : mg "SYN" = some (.int 2 t_SYN)
  v_FIN : mg "FIN" = some (.int 1 t_FIN)
  c_Segment : mg "Segment" = some (.ref C_Segment)
  k_Segment : Cls K C_Segment
  i_Segment : ∀ {H : Hp} {a dx : Addr} {fs : List (Str × V)}, H a = some (.ins C_Segment dx fs) → TyOf K H (.ref a) (.ref C_Segment)
  n_Segment_source : NoAttr K C_Segment "source"
  n_Segment_target : NoAttr K C_Segment "target"
  n_Segment_seq : NoAttr K C_Segment "seq"
  n_Segment_count : NoAttr K C_Segment "count"
  n_Segment_echo : NoAttr K C_Segment "echo"
  n_Segment_ack : NoAttr K C_Segment "ack"
  n_Segment_syn : NoAttr K C_Segment "syn"
  n_Segment_fin : NoAttr K C_Segment "fin"
  n_Segment_reset : NoAttr K C_Segment "reset"
  n_Segment_marked : NoAttr K C_Segment "marked"
  n_Segment_cut : NoAttr K C_Segment "cut"
  n_Segment_window : NoAttr K C_Segment "window"
  n_Segment_mss : NoAttr K C_Segment "mss"
  n_Segment_scale : NoAttr K C_Segment "scale"
  n_Segment_ranges_known : NoAttr K C_Segment "ranges_known"
  n_Segment_ranges : NoAttr K C_Segment "ranges"
  n_Segment_stamp : NoAttr K C_Segment "stamp"
  n_Segment_data : NoAttr K C_Segment "data"
  F_octet_sum : Fun K "octet_sum" "octet_sum" s_octet_sum f_octet_sum d_octet_sum
  b_octet_sum : Binds K d_octet_sum ["sender", "target", "octets"] []
  m_octet_sum : mg "octet_sum" = some (.ref f_octet_sum)
  F_checksum : Fun K "checksum" "checksum" s_checksum f_checksum d_checksum
  b_checksum : Binds K d_checksum ["sender", "target", "octets"] []
  m_checksum : mg "checksum" = some (.ref f_checksum)
  F_write_number : Fun K "write_number" "write_number" s_write_number f_write_number d_write_number
  b_write_number : Binds K d_write_number ["number", "size"] []
  m_write_number : mg "write_number" = some (.ref f_write_number)
  es_Segment_init___ranges : ∀ H : Hp, SqT K H e_Segment_init___ranges []
  es_Segment_init___data : ∀ H : Hp, SqT K H e_Segment_init___data []
  F_Segment_init__ : FunD K "__init__" "Segment.__init__" (defArgs s_Segment_init__) (defBody s_Segment_init__) (defScope s_Segment_init__) [] [("echo", .non), ("ack", .non), ("syn", .bl false), ("fin", .bl false), ("reset", .bl false), ("marked", .bl false), ("cut", .bl false), ("window", .int 0), ("mss", .non), ("scale", .non), ("ranges_known", .bl false), ("ranges", .ref e_Segment_init___ranges), ("stamp", .non), ("data", .ref e_Segment_init___data)] f_Segment_init__ d_Segment_init__
  mk_Segment : Mk K C_Segment f_Segment_init__
  F_write_options : Fun K "write_options" "write_options" s_write_options f_write_options d_write_options
  b_write_options : Binds K d_write_options ["segment"] []
  m_write_options : mg "write_options" = some (.ref f_write_options)
  F_option : Fun K "_option" "_option" s_option f_option d_option
  b_option : Binds K d_option ["kind", "body"] []
  m_option : mg "_option" = some (.ref f_option)
  F_write_pairs : Fun K "_write_pairs" "_write_pairs" s_write_pairs f_write_pairs d_write_pairs
  b_write_pairs : Binds K d_write_pairs ["pairs"] []
  m_write_pairs : mg "_write_pairs" = some (.ref f_write_pairs)
  F_write_single_options : Fun K "_write_single_options" "_write_single_options" s_write_single_options f_write_single_options d_write_single_options
  b_write_single_options : Binds K d_write_single_options ["segment"] []
  m_write_single_options : mg "_write_single_options" = some (.ref f_write_single_options)
  F_fitting_ranges : Fun K "_fitting_ranges" "_fitting_ranges" s_fitting_ranges f_fitting_ranges d_fitting_ranges
  b_fitting_ranges : Binds K d_fitting_ranges ["segment"] []
  m_fitting_ranges : mg "_fitting_ranges" = some (.ref f_fitting_ranges)
  F_encode : Fun K "encode" "encode" s_encode f_encode d_encode
  b_encode : Binds K d_encode ["sender", "target", "segment"] []
  m_encode : mg "encode" = some (.ref f_encode)
  F_write_header : Fun K "_write_header" "_write_header" s_write_header f_write_header d_write_header
  b_write_header : Binds K d_write_header ["segment", "options_size"] []
  m_write_header : mg "_write_header" = some (.ref f_write_header)
  F_flags : Fun K "_flags" "_flags" s_flags f_flags d_flags
  b_flags : Binds K d_flags ["segment"] []
  m_flags : mg "_flags" = some (.ref f_flags)
  F_l_is_integer : Fun K "_law_is_integer" "_law_is_integer" s_l_is_integer f_l_is_integer d_l_is_integer
  b_l_is_integer : Binds K d_l_is_integer ["actual"] []
  m_l_is_integer : mg "_law_is_integer" = some (.ref f_l_is_integer)
  F_l_cell : Fun K "_law_cell" "_law_cell" s_l_cell f_l_cell d_l_cell
  b_l_cell : Binds K d_l_cell ["script", "k"] []
  m_l_cell : mg "_law_cell" = some (.ref f_l_cell)
  F_l_row : Fun K "_law_row" "_law_row" s_l_row f_l_row d_l_row
  b_l_row : Binds K d_l_row ["cell", "size", "base"] []
  m_l_row : mg "_law_row" = some (.ref f_l_row)
  F_l_octets : Fun K "_law_octets" "_law_octets" s_l_octets f_l_octets d_l_octets
  b_l_octets : Binds K d_l_octets ["actual", "expected"] []
  m_l_octets : mg "_law_octets" = some (.ref f_l_octets)
  F_l_wire : Fun K "_law_wire" "_law_wire" s_l_wire f_l_wire d_l_wire
  b_l_wire : Binds K d_l_wire ["cell"] []
  m_l_wire : mg "_law_wire" = some (.ref f_l_wire)
  F_l_optional : Fun K "_law_optional" "_law_optional" s_l_optional f_l_optional d_l_optional
  b_l_optional : Binds K d_l_optional ["cell", "worth"] []
  m_l_optional : mg "_law_optional" = some (.ref f_l_optional)
  F_l_pairs : Fun K "_law_pairs" "_law_pairs" s_l_pairs f_l_pairs d_l_pairs
  b_l_pairs : Binds K d_l_pairs ["cell", "size"] []
  m_l_pairs : mg "_law_pairs" = some (.ref f_l_pairs)
  F_l_parts : Fun K "_law_parts" "_law_parts" s_l_parts f_l_parts d_l_parts
  b_l_parts : Binds K d_l_parts ["script", "at"] []
  m_l_parts : mg "_law_parts" = some (.ref f_l_parts)
  F_l_made : Fun K "_law_made" "_law_made" s_l_made f_l_made d_l_made
  b_l_made : Binds K d_l_made ["parts"] []
  m_l_made : mg "_law_made" = some (.ref f_l_made)
  F_l_number : Fun K "_law_number" "_law_number" s_l_number f_l_number d_l_number
  b_l_number : Binds K d_l_number ["actual", "expected"] []
  m_l_number : mg "_law_number" = some (.ref f_l_number)
  F_l_pair : Fun K "_law_pair" "_law_pair" s_l_pair f_l_pair d_l_pair
  b_l_pair : Binds K d_l_pair ["actual", "expected"] []
  m_l_pair : mg "_law_pair" = some (.ref f_l_pair)
  F_l_all_pairs : Fun K "_law_all_pairs" "_law_all_pairs" s_l_all_pairs f_l_all_pairs d_l_all_pairs
  b_l_all_pairs : Binds K d_l_all_pairs ["actual", "expected"] []
  m_l_all_pairs : mg "_law_all_pairs" = some (.ref f_l_all_pairs)
  F_l_flag : Fun K "_law_flag" "_law_flag" s_l_flag f_l_flag d_l_flag
  b_l_flag : Binds K d_l_flag ["actual", "expected"] []
  m_l_flag : mg "_law_flag" = some (.ref f_l_flag)
  F_l_same : Fun K "_law_same" "_law_same" s_l_same f_l_same d_l_same
  b_l_same : Binds K d_l_same ["actual", "parts"] []
  m_l_same : mg "_law_same" = some (.ref f_l_same)
  F_l_digits : Fun K "_law_digits" "_law_digits" s_l_digits f_l_digits d_l_digits
  b_l_digits : Binds K d_l_digits ["number", "size"] []
  m_l_digits : mg "_law_digits" = some (.ref f_l_digits)
  F_l_option : Fun K "_law_option" "_law_option" s_l_option f_l_option d_l_option
  b_l_option : Binds K d_l_option ["kind", "body"] []
  m_l_option : mg "_law_option" = some (.ref f_l_option)
  F_l_plain_options : Fun K "_law_plain_options" "_law_plain_options" s_l_plain_options f_l_plain_options d_l_plain_options
  b_l_plain_options : Binds K d_l_plain_options ["parts"] []
  m_l_plain_options : mg "_law_plain_options" = some (.ref f_l_plain_options)
  F_l_fitting : Fun K "_law_fitting" "_law_fitting" s_l_fitting f_l_fitting d_l_fitting
  b_l_fitting : Binds K d_l_fitting ["parts"] []
  m_l_fitting : mg "_law_fitting" = some (.ref f_l_fitting)
  F_l_options : Fun K "_law_options" "_law_options" s_l_options f_l_options d_l_options
  b_l_options : Binds K d_l_options ["parts"] []
  m_l_options : mg "_law_options" = some (.ref f_l_options)
  F_l_sum : Fun K "_law_sum" "_law_sum" s_l_sum f_l_sum d_l_sum
  b_l_sum : Binds K d_l_sum ["sender", "target", "row"] []
  m_l_sum : mg "_law_sum" = some (.ref f_l_sum)
  F_l_sealed : Fun K "_law_sealed" "_law_sealed" s_l_sealed f_l_sealed d_l_sealed
  b_l_sealed : Binds K d_l_sealed ["sender", "target", "octets"] []
  m_l_sealed : mg "_law_sealed" = some (.ref f_l_sealed)
  F_l_flags : Fun K "_law_flags" "_law_flags" s_l_flags f_l_flags d_l_flags
  b_l_flags : Binds K d_l_flags ["parts"] []
  m_l_flags : mg "_law_flags" = some (.ref f_l_flags)
  F_l_written : Fun K "_law_written" "_law_written" s_l_written f_l_written d_l_written
  b_l_written : Binds K d_l_written ["sender", "target", "parts", "options"] []
  m_l_written : mg "_law_written" = some (.ref f_l_written)
  F_law : Fun K "law" "law" s_law f_law d_law
  b_law : Binds K d_law ["script"] []
  m_law : mg "law" = some (.ref f_law)
  n_bool : mg "bool" = none
  n_int : mg "int" = none
  n_isinstance : mg "isinstance" = none
  n_len : mg "len" = none
  n_list : mg "list" = none
  n_range : mg "range" = none
  n_reversed : mg "reversed" = none
  n_sum : mg "sum" = none
  n_tuple : mg "tuple" = none
def ky_Segment : List Str := ["source", "target", "seq", "count", "echo", "ack", "syn", "fin", "reset", "marked", "cut", "window", "mss", "scale", "ranges_known", "ranges", "stamp", "data"]
theorem nd_Segment : ky_Segment.Nodup := by decide +kernel
section
variable {K : PySem.W.Frag} {mg : Str → Option Value} {T : Txt K mg} {H : Hp} {a dx : Addr} {vs : List V} {v y : V}
theorem fd_Segment_source {A : V → Prop} (ho : H a = some (.ins T.C_Segment dx (obj ky_Segment vs))) (hv : vs[0]? = some v) (q : A v) : ∃ a' C' dx' fs v', V.ref a = .ref a' ∧ H a' = some (.ins C' dx' fs) ∧ Cls K C' ∧ NoAttr K C' "source" ∧ fs.lookup ("source" : Str) = some v' ∧ A v' := g_fldE ho T.k_Segment T.n_Segment_source nd_Segment rfl hv q
theorem st_Segment_source {A : Hp → Prop} (ho : H a = some (.ins T.C_Segment dx (obj ky_Segment vs))) (hv : 0 < vs.length) (q : A (upd H a (.ins T.C_Segment dx (obj ky_Segment (vs.set 0 y))))) : ∃ a' C' dx' fs, V.ref a = .ref a' ∧ H a' = some (.ins C' dx' fs) ∧ Cls K C' ∧ NoAttr K C' "source" ∧ fs.length < 1000 ∧ A (upd H a' (.ins C' dx' (putF "source" y fs))) := g_putE ho T.k_Segment T.n_Segment_source nd_Segment (by decide) rfl hv q
theorem nw_Segment_source {A : Hp → Prop} (ho : H a = some (.ins T.C_Segment dx (obj ky_Segment vs))) (hv : vs.length = 0) (q : A (upd H a (.ins T.C_Segment dx (obj ky_Segment (vs ++ [y]))))) : ∃ a' C' dx' fs, V.ref a = .ref a' ∧ H a' = some (.ins C' dx' fs) ∧ Cls K C' ∧ NoAttr K C' "source" ∧ fs.length < 1000 ∧ A (upd H a' (.ins C' dx' (putF "source" y fs))) := g_newE ho T.k_Segment T.n_Segment_source nd_Segment (by decide) (by rw [hv]; rfl) q
theorem fd_Segment_target {A : V → Prop} (ho : H a = some (.ins T.C_Segment dx (obj ky_Segment vs))) (hv : vs[1]? = some v) (q : A v) : ∃ a' C' dx' fs v', V.ref a = .ref a' ∧ H a' = some (.ins C' dx' fs) ∧ Cls K C' ∧ NoAttr K C' "target" ∧ fs.lookup ("target" : Str) = some v' ∧ A v' := g_fldE ho T.k_Segment T.n_Segment_target nd_Segment rfl hv q
theorem st_Segment_target {A : Hp → Prop} (ho : H a = some (.ins T.C_Segment dx (obj ky_Segment vs))) (hv : 1 < vs.length) (q : A (upd H a (.ins T.C_Segment dx (obj ky_Segment (vs.set 1 y))))) : ∃ a' C' dx' fs, V.ref a = .ref a' ∧ H a' = some (.ins C' dx' fs) ∧ Cls K C' ∧ NoAttr K C' "target" ∧ fs.length < 1000 ∧ A (upd H a' (.ins C' dx' (putF "target" y fs))) := g_putE ho T.k_Segment T.n_Segment_target nd_Segment (by decide) rfl hv q
theorem nw_Segment_target {A : Hp → Prop} (ho : H a = some (.ins T.C_Segment dx (obj ky_Segment vs))) (hv : vs.length = 1) (q : A (upd H a (.ins T.C_Segment dx (obj ky_Segment (vs ++ [y]))))) : ∃ a' C' dx' fs, V.ref a = .ref a' ∧ H a' = some (.ins C' dx' fs) ∧ Cls K C' ∧ NoAttr K C' "target" ∧ fs.length < 1000 ∧ A (upd H a' (.ins C' dx' (putF "target" y fs))) := g_newE ho T.k_Segment T.n_Segment_target nd_Segment (by decide) (by rw [hv]; rfl) q
theorem fd_Segment_seq {A : V → Prop} (ho : H a = some (.ins T.C_Segment dx (obj ky_Segment vs))) (hv : vs[2]? = some v) (q : A v) : ∃ a' C' dx' fs v', V.ref a = .ref a' ∧ H a' = some (.ins C' dx' fs) ∧ Cls K C' ∧ NoAttr K C' "seq" ∧ fs.lookup ("seq" : Str) = some v' ∧ A v' := g_fldE ho T.k_Segment T.n_Segment_seq nd_Segment rfl hv q
theorem st_Segment_seq {A : Hp → Prop} (ho : H a = some (.ins T.C_Segment dx (obj ky_Segment vs))) (hv : 2 < vs.length) (q : A (upd H a (.ins T.C_Segment dx (obj ky_Segment (vs.set 2 y))))) : ∃ a' C' dx' fs, V.ref a = .ref a' ∧ H a' = some (.ins C' dx' fs) ∧ Cls K C' ∧ NoAttr K C' "seq" ∧ fs.length < 1000 ∧ A (upd H a' (.ins C' dx' (putF "seq" y fs))) := g_putE ho T.k_Segment T.n_Segment_seq nd_Segment (by decide) rfl hv q
theorem nw_Segment_seq {A : Hp → Prop} (ho : H a = some (.ins T.C_Segment dx (obj ky_Segment vs))) (hv : vs.length = 2) (q : A (upd H a (.ins T.C_Segment dx (obj ky_Segment (vs ++ [y]))))) : ∃ a' C' dx' fs, V.ref a = .ref a' ∧ H a' = some (.ins C' dx' fs) ∧ Cls K C' ∧ NoAttr K C' "seq" ∧ fs.length < 1000 ∧ A (upd H a' (.ins C' dx' (putF "seq" y fs))) := g_newE ho T.k_Segment T.n_Segment_seq nd_Segment (by decide) (by rw [hv]; rfl) q
theorem fd_Segment_count {A : V → Prop} (ho : H a = some (.ins T.C_Segment dx (obj ky_Segment vs))) (hv : vs[3]? = some v) (q : A v) : ∃ a' C' dx' fs v', V.ref a = .ref a' ∧ H a' = some (.ins C' dx' fs) ∧ Cls K C' ∧ NoAttr K C' "count" ∧ fs.lookup ("count" : Str) = some v' ∧ A v' := g_fldE ho T.k_Segment T.n_Segment_count nd_Segment rfl hv q
theorem st_Segment_count {A : Hp → Prop} (ho : H a = some (.ins T.C_Segment dx (obj ky_Segment vs))) (hv : 3 < vs.length) (q : A (upd H a (.ins T.C_Segment dx (obj ky_Segment (vs.set 3 y))))) : ∃ a' C' dx' fs, V.ref a = .ref a' ∧ H a' = some (.ins C' dx' fs) ∧ Cls K C' ∧ NoAttr K C' "count" ∧ fs.length < 1000 ∧ A (upd H a' (.ins C' dx' (putF "count" y fs))) := g_putE ho T.k_Segment T.n_Segment_count nd_Segment (by decide) rfl hv q
theorem nw_Segment_count {A : Hp → Prop} (ho : H a = some (.ins T.C_Segment dx (obj ky_Segment vs))) (hv : vs.length = 3) (q : A (upd H a (.ins T.C_Segment dx (obj ky_Segment (vs ++ [y]))))) : ∃ a' C' dx' fs, V.ref a = .ref a' ∧ H a' = some (.ins C' dx' fs) ∧ Cls K C' ∧ NoAttr K C' "count" ∧ fs.length < 1000 ∧ A (upd H a' (.ins C' dx' (putF "count" y fs))) := g_newE ho T.k_Segment T.n_Segment_count nd_Segment (by decide) (by rw [hv]; rfl) q
theorem fd_Segment_echo {A : V → Prop} (ho : H a = some (.ins T.C_Segment dx (obj ky_Segment vs))) (hv : vs[4]? = some v) (q : A v) : ∃ a' C' dx' fs v', V.ref a = .ref a' ∧ H a' = some (.ins C' dx' fs) ∧ Cls K C' ∧ NoAttr K C' "echo" ∧ fs.lookup ("echo" : Str) = some v' ∧ A v' := g_fldE ho T.k_Segment T.n_Segment_echo nd_Segment rfl hv q
theorem st_Segment_echo {A : Hp → Prop} (ho : H a = some (.ins T.C_Segment dx (obj ky_Segment vs))) (hv : 4 < vs.length) (q : A (upd H a (.ins T.C_Segment dx (obj ky_Segment (vs.set 4 y))))) : ∃ a' C' dx' fs, V.ref a = .ref a' ∧ H a' = some (.ins C' dx' fs) ∧ Cls K C' ∧ NoAttr K C' "echo" ∧ fs.length < 1000 ∧ A (upd H a' (.ins C' dx' (putF "echo" y fs))) := g_putE ho T.k_Segment T.n_Segment_echo nd_Segment (by decide) rfl hv q
theorem nw_Segment_echo {A : Hp → Prop} (ho : H a = some (.ins T.C_Segment dx (obj ky_Segment vs))) (hv : vs.length = 4) (q : A (upd H a (.ins T.C_Segment dx (obj ky_Segment (vs ++ [y]))))) : ∃ a' C' dx' fs, V.ref a = .ref a' ∧ H a' = some (.ins C' dx' fs) ∧ Cls K C' ∧ NoAttr K C' "echo" ∧ fs.length < 1000 ∧ A (upd H a' (.ins C' dx' (putF "echo" y fs))) := g_newE ho T.k_Segment T.n_Segment_echo nd_Segment (by decide) (by rw [hv]; rfl) q
theorem fd_Segment_ack {A : V → Prop} (ho : H a = some (.ins T.C_Segment dx (obj ky_Segment vs))) (hv : vs[5]? = some v) (q : A v) : ∃ a' C' dx' fs v', V.ref a = .ref a' ∧ H a' = some (.ins C' dx' fs) ∧ Cls K C' ∧ NoAttr K C' "ack" ∧ fs.lookup ("ack" : Str) = some v' ∧ A v' := g_fldE ho T.k_Segment T.n_Segment_ack nd_Segment rfl hv q
theorem st_Segment_ack {A : Hp → Prop} (ho : H a = some (.ins T.C_Segment dx (obj ky_Segment vs))) (hv : 5 < vs.length) (q : A (upd H a (.ins T.C_Segment dx (obj ky_Segment (vs.set 5 y))))) : ∃ a' C' dx' fs, V.ref a = .ref a' ∧ H a' = some (.ins C' dx' fs) ∧ Cls K C' ∧ NoAttr K C' "ack" ∧ fs.length < 1000 ∧ A (upd H a' (.ins C' dx' (putF "ack" y fs))) := g_putE ho T.k_Segment T.n_Segment_ack nd_Segment (by decide) rfl hv q
theorem nw_Segment_ack {A : Hp → Prop} (ho : H a = some (.ins T.C_Segment dx (obj ky_Segment vs))) (hv : vs.length = 5) (q : A (upd H a (.ins T.C_Segment dx (obj ky_Segment (vs ++ [y]))))) : ∃ a' C' dx' fs, V.ref a = .ref a' ∧ H a' = some (.ins C' dx' fs) ∧ Cls K C' ∧ NoAttr K C' "ack" ∧ fs.length < 1000 ∧ A (upd H a' (.ins C' dx' (putF "ack" y fs))) := g_newE ho T.k_Segment T.n_Segment_ack nd_Segment (by decide) (by rw [hv]; rfl) q
theorem fd_Segment_syn {A : V → Prop} (ho : H a = some (.ins T.C_Segment dx (obj ky_Segment vs))) (hv : vs[6]? = some v) (q : A v) : ∃ a' C' dx' fs v', V.ref a = .ref a' ∧ H a' = some (.ins C' dx' fs) ∧ Cls K C' ∧ NoAttr K C' "syn" ∧ fs.lookup ("syn" : Str) = some v' ∧ A v' := g_fldE ho T.k_Segment T.n_Segment_syn nd_Segment rfl hv q
theorem st_Segment_syn {A : Hp → Prop} (ho : H a = some (.ins T.C_Segment dx (obj ky_Segment vs))) (hv : 6 < vs.length) (q : A (upd H a (.ins T.C_Segment dx (obj ky_Segment (vs.set 6 y))))) : ∃ a' C' dx' fs, V.ref a = .ref a' ∧ H a' = some (.ins C' dx' fs) ∧ Cls K C' ∧ NoAttr K C' "syn" ∧ fs.length < 1000 ∧ A (upd H a' (.ins C' dx' (putF "syn" y fs))) := g_putE ho T.k_Segment T.n_Segment_syn nd_Segment (by decide) rfl hv q
theorem nw_Segment_syn {A : Hp → Prop} (ho : H a = some (.ins T.C_Segment dx (obj ky_Segment vs))) (hv : vs.length = 6) (q : A (upd H a (.ins T.C_Segment dx (obj ky_Segment (vs ++ [y]))))) : ∃ a' C' dx' fs, V.ref a = .ref a' ∧ H a' = some (.ins C' dx' fs) ∧ Cls K C' ∧ NoAttr K C' "syn" ∧ fs.length < 1000 ∧ A (upd H a' (.ins C' dx' (putF "syn" y fs))) := g_newE ho T.k_Segment T.n_Segment_syn nd_Segment (by decide) (by rw [hv]; rfl) q
theorem fd_Segment_fin {A : V → Prop} (ho : H a = some (.ins T.C_Segment dx (obj ky_Segment vs))) (hv : vs[7]? = some v) (q : A v) : ∃ a' C' dx' fs v', V.ref a = .ref a' ∧ H a' = some (.ins C' dx' fs) ∧ Cls K C' ∧ NoAttr K C' "fin" ∧ fs.lookup ("fin" : Str) = some v' ∧ A v' := g_fldE ho T.k_Segment T.n_Segment_fin nd_Segment rfl hv q
theorem st_Segment_fin {A : Hp → Prop} (ho : H a = some (.ins T.C_Segment dx (obj ky_Segment vs))) (hv : 7 < vs.length) (q : A (upd H a (.ins T.C_Segment dx (obj ky_Segment (vs.set 7 y))))) : ∃ a' C' dx' fs, V.ref a = .ref a' ∧ H a' = some (.ins C' dx' fs) ∧ Cls K C' ∧ NoAttr K C' "fin" ∧ fs.length < 1000 ∧ A (upd H a' (.ins C' dx' (putF "fin" y fs))) := g_putE ho T.k_Segment T.n_Segment_fin nd_Segment (by decide) rfl hv q
theorem nw_Segment_fin {A : Hp → Prop} (ho : H a = some (.ins T.C_Segment dx (obj ky_Segment vs))) (hv : vs.length = 7) (q : A (upd H a (.ins T.C_Segment dx (obj ky_Segment (vs ++ [y]))))) : ∃ a' C' dx' fs, V.ref a = .ref a' ∧ H a' = some (.ins C' dx' fs) ∧ Cls K C' ∧ NoAttr K C' "fin" ∧ fs.length < 1000 ∧ A (upd H a' (.ins C' dx' (putF "fin" y fs))) := g_newE ho T.k_Segment T.n_Segment_fin nd_Segment (by decide) (by rw [hv]; rfl) q
theorem fd_Segment_reset {A : V → Prop} (ho : H a = some (.ins T.C_Segment dx (obj ky_Segment vs))) (hv : vs[8]? = some v) (q : A v) : ∃ a' C' dx' fs v', V.ref a = .ref a' ∧ H a' = some (.ins C' dx' fs) ∧ Cls K C' ∧ NoAttr K C' "reset" ∧ fs.lookup ("reset" : Str) = some v' ∧ A v' := g_fldE ho T.k_Segment T.n_Segment_reset nd_Segment rfl hv q
theorem st_Segment_reset {A : Hp → Prop} (ho : H a = some (.ins T.C_Segment dx (obj ky_Segment vs))) (hv : 8 < vs.length) (q : A (upd H a (.ins T.C_Segment dx (obj ky_Segment (vs.set 8 y))))) : ∃ a' C' dx' fs, V.ref a = .ref a' ∧ H a' = some (.ins C' dx' fs) ∧ Cls K C' ∧ NoAttr K C' "reset" ∧ fs.length < 1000 ∧ A (upd H a' (.ins C' dx' (putF "reset" y fs))) := g_putE ho T.k_Segment T.n_Segment_reset nd_Segment (by decide) rfl hv q
theorem nw_Segment_reset {A : Hp → Prop} (ho : H a = some (.ins T.C_Segment dx (obj ky_Segment vs))) (hv : vs.length = 8) (q : A (upd H a (.ins T.C_Segment dx (obj ky_Segment (vs ++ [y]))))) : ∃ a' C' dx' fs, V.ref a = .ref a' ∧ H a' = some (.ins C' dx' fs) ∧ Cls K C' ∧ NoAttr K C' "reset" ∧ fs.length < 1000 ∧ A (upd H a' (.ins C' dx' (putF "reset" y fs))) := g_newE ho T.k_Segment T.n_Segment_reset nd_Segment (by decide) (by rw [hv]; rfl) q
theorem fd_Segment_marked {A : V → Prop} (ho : H a = some (.ins T.C_Segment dx (obj ky_Segment vs))) (hv : vs[9]? = some v) (q : A v) : ∃ a' C' dx' fs v', V.ref a = .ref a' ∧ H a' = some (.ins C' dx' fs) ∧ Cls K C' ∧ NoAttr K C' "marked" ∧ fs.lookup ("marked" : Str) = some v' ∧ A v' := g_fldE ho T.k_Segment T.n_Segment_marked nd_Segment rfl hv q
theorem st_Segment_marked {A : Hp → Prop} (ho : H a = some (.ins T.C_Segment dx (obj ky_Segment vs))) (hv : 9 < vs.length) (q : A (upd H a (.ins T.C_Segment dx (obj ky_Segment (vs.set 9 y))))) : ∃ a' C' dx' fs, V.ref a = .ref a' ∧ H a' = some (.ins C' dx' fs) ∧ Cls K C' ∧ NoAttr K C' "marked" ∧ fs.length < 1000 ∧ A (upd H a' (.ins C' dx' (putF "marked" y fs))) := g_putE ho T.k_Segment T.n_Segment_marked nd_Segment (by decide) rfl hv q
theorem nw_Segment_marked {A : Hp → Prop} (ho : H a = some (.ins T.C_Segment dx (obj ky_Segment vs))) (hv : vs.length = 9) (q : A (upd H a (.ins T.C_Segment dx (obj ky_Segment (vs ++ [y]))))) : ∃ a' C' dx' fs, V.ref a = .ref a' ∧ H a' = some (.ins C' dx' fs) ∧ Cls K C' ∧ NoAttr K C' "marked" ∧ fs.length < 1000 ∧ A (upd H a' (.ins C' dx' (putF "marked" y fs))) := g_newE ho T.k_Segment T.n_Segment_marked nd_Segment (by decide) (by rw [hv]; rfl) q
theorem fd_Segment_cut {A : V → Prop} (ho : H a = some (.ins T.C_Segment dx (obj ky_Segment vs))) (hv : vs[10]? = some v) (q : A v) : ∃ a' C' dx' fs v', V.ref a = .ref a' ∧ H a' = some (.ins C' dx' fs) ∧ Cls K C' ∧ NoAttr K C' "cut" ∧ fs.lookup ("cut" : Str) = some v' ∧ A v' := g_fldE ho T.k_Segment T.n_Segment_cut nd_Segment rfl hv q
theorem st_Segment_cut {A : Hp → Prop} (ho : H a = some (.ins T.C_Segment dx (obj ky_Segment vs))) (hv : 10 < vs.length) (q : A (upd H a (.ins T.C_Segment dx (obj ky_Segment (vs.set 10 y))))) : ∃ a' C' dx' fs, V.ref a = .ref a' ∧ H a' = some (.ins C' dx' fs) ∧ Cls K C' ∧ NoAttr K C' "cut" ∧ fs.length < 1000 ∧ A (upd H a' (.ins C' dx' (putF "cut" y fs))) := g_putE ho T.k_Segment T.n_Segment_cut nd_Segment (by decide) rfl hv q
theorem nw_Segment_cut {A : Hp → Prop} (ho : H a = some (.ins T.C_Segment dx (obj ky_Segment vs))) (hv : vs.length = 10) (q : A (upd H a (.ins T.C_Segment dx (obj ky_Segment (vs ++ [y]))))) : ∃ a' C' dx' fs, V.ref a = .ref a' ∧ H a' = some (.ins C' dx' fs) ∧ Cls K C' ∧ NoAttr K C' "cut" ∧ fs.length < 1000 ∧ A (upd H a' (.ins C' dx' (putF "cut" y fs))) := g_newE ho T.k_Segment T.n_Segment_cut nd_Segment (by decide) (by rw [hv]; rfl) q
theorem fd_Segment_window {A : V → Prop} (ho : H a = some (.ins T.C_Segment dx (obj ky_Segment vs))) (hv : vs[11]? = some v) (q : A v) : ∃ a' C' dx' fs v', V.ref a = .ref a' ∧ H a' = some (.ins C' dx' fs) ∧ Cls K C' ∧ NoAttr K C' "window" ∧ fs.lookup ("window" : Str) = some v' ∧ A v' := g_fldE ho T.k_Segment T.n_Segment_window nd_Segment rfl hv q
theorem st_Segment_window {A : Hp → Prop} (ho : H a = some (.ins T.C_Segment dx (obj ky_Segment vs))) (hv : 11 < vs.length) (q : A (upd H a (.ins T.C_Segment dx (obj ky_Segment (vs.set 11 y))))) : ∃ a' C' dx' fs, V.ref a = .ref a' ∧ H a' = some (.ins C' dx' fs) ∧ Cls K C' ∧ NoAttr K C' "window" ∧ fs.length < 1000 ∧ A (upd H a' (.ins C' dx' (putF "window" y fs))) := g_putE ho T.k_Segment T.n_Segment_window nd_Segment (by decide) rfl hv q
theorem nw_Segment_window {A : Hp → Prop} (ho : H a = some (.ins T.C_Segment dx (obj ky_Segment vs))) (hv : vs.length = 11) (q : A (upd H a (.ins T.C_Segment dx (obj ky_Segment (vs ++ [y]))))) : ∃ a' C' dx' fs, V.ref a = .ref a' ∧ H a' = some (.ins C' dx' fs) ∧ Cls K C' ∧ NoAttr K C' "window" ∧ fs.length < 1000 ∧ A (upd H a' (.ins C' dx' (putF "window" y fs))) := g_newE ho T.k_Segment T.n_Segment_window nd_Segment (by decide) (by rw [hv]; rfl) q
theorem fd_Segment_mss {A : V → Prop} (ho : H a = some (.ins T.C_Segment dx (obj ky_Segment vs))) (hv : vs[12]? = some v) (q : A v) : ∃ a' C' dx' fs v', V.ref a = .ref a' ∧ H a' = some (.ins C' dx' fs) ∧ Cls K C' ∧ NoAttr K C' "mss" ∧ fs.lookup ("mss" : Str) = some v' ∧ A v' := g_fldE ho T.k_Segment T.n_Segment_mss nd_Segment rfl hv q
theorem st_Segment_mss {A : Hp → Prop} (ho : H a = some (.ins T.C_Segment dx (obj ky_Segment vs))) (hv : 12 < vs.length) (q : A (upd H a (.ins T.C_Segment dx (obj ky_Segment (vs.set 12 y))))) : ∃ a' C' dx' fs, V.ref a = .ref a' ∧ H a' = some (.ins C' dx' fs) ∧ Cls K C' ∧ NoAttr K C' "mss" ∧ fs.length < 1000 ∧ A (upd H a' (.ins C' dx' (putF "mss" y fs))) := g_putE ho T.k_Segment T.n_Segment_mss nd_Segment (by decide) rfl hv q
theorem nw_Segment_mss {A : Hp → Prop} (ho : H a = some (.ins T.C_Segment dx (obj ky_Segment vs))) (hv : vs.length = 12) (q : A (upd H a (.ins T.C_Segment dx (obj ky_Segment (vs ++ [y]))))) : ∃ a' C' dx' fs, V.ref a = .ref a' ∧ H a' = some (.ins C' dx' fs) ∧ Cls K C' ∧ NoAttr K C' "mss" ∧ fs.length < 1000 ∧ A (upd H a' (.ins C' dx' (putF "mss" y fs))) := g_newE ho T.k_Segment T.n_Segment_mss nd_Segment (by decide) (by rw [hv]; rfl) q
theorem fd_Segment_scale {A : V → Prop} (ho : H a = some (.ins T.C_Segment dx (obj ky_Segment vs))) (hv : vs[13]? = some v) (q : A v) : ∃ a' C' dx' fs v', V.ref a = .ref a' ∧ H a' = some (.ins C' dx' fs) ∧ Cls K C' ∧ NoAttr K C' "scale" ∧ fs.lookup ("scale" : Str) = some v' ∧ A v' := g_fldE ho T.k_Segment T.n_Segment_scale nd_Segment rfl hv q
theorem st_Segment_scale {A : Hp → Prop} (ho : H a = some (.ins T.C_Segment dx (obj ky_Segment vs))) (hv : 13 < vs.length) (q : A (upd H a (.ins T.C_Segment dx (obj ky_Segment (vs.set 13 y))))) : ∃ a' C' dx' fs, V.ref a = .ref a' ∧ H a' = some (.ins C' dx' fs) ∧ Cls K C' ∧ NoAttr K C' "scale" ∧ fs.length < 1000 ∧ A (upd H a' (.ins C' dx' (putF "scale" y fs))) := g_putE ho T.k_Segment T.n_Segment_scale nd_Segment (by decide) rfl hv q
theorem nw_Segment_scale {A : Hp → Prop} (ho : H a = some (.ins T.C_Segment dx (obj ky_Segment vs))) (hv : vs.length = 13) (q : A (upd H a (.ins T.C_Segment dx (obj ky_Segment (vs ++ [y]))))) : ∃ a' C' dx' fs, V.ref a = .ref a' ∧ H a' = some (.ins C' dx' fs) ∧ Cls K C' ∧ NoAttr K C' "scale" ∧ fs.length < 1000 ∧ A (upd H a' (.ins C' dx' (putF "scale" y fs))) := g_newE ho T.k_Segment T.n_Segment_scale nd_Segment (by decide) (by rw [hv]; rfl) q
theorem fd_Segment_ranges_known {A : V → Prop} (ho : H a = some (.ins T.C_Segment dx (obj ky_Segment vs))) (hv : vs[14]? = some v) (q : A v) : ∃ a' C' dx' fs v', V.ref a = .ref a' ∧ H a' = some (.ins C' dx' fs) ∧ Cls K C' ∧ NoAttr K C' "ranges_known" ∧ fs.lookup ("ranges_known" : Str) = some v' ∧ A v' := g_fldE ho T.k_Segment T.n_Segment_ranges_known nd_Segment rfl hv q
theorem st_Segment_ranges_known {A : Hp → Prop} (ho : H a = some (.ins T.C_Segment dx (obj ky_Segment vs))) (hv : 14 < vs.length) (q : A (upd H a (.ins T.C_Segment dx (obj ky_Segment (vs.set 14 y))))) : ∃ a' C' dx' fs, V.ref a = .ref a' ∧ H a' = some (.ins C' dx' fs) ∧ Cls K C' ∧ NoAttr K C' "ranges_known" ∧ fs.length < 1000 ∧ A (upd H a' (.ins C' dx' (putF "ranges_known" y fs))) := g_putE ho T.k_Segment T.n_Segment_ranges_known nd_Segment (by decide) rfl hv q
theorem nw_Segment_ranges_known {A : Hp → Prop} (ho : H a = some (.ins T.C_Segment dx (obj ky_Segment vs))) (hv : vs.length = 14) (q : A (upd H a (.ins T.C_Segment dx (obj ky_Segment (vs ++ [y]))))) : ∃ a' C' dx' fs, V.ref a = .ref a' ∧ H a' = some (.ins C' dx' fs) ∧ Cls K C' ∧ NoAttr K C' "ranges_known" ∧ fs.length < 1000 ∧ A (upd H a' (.ins C' dx' (putF "ranges_known" y fs))) := g_newE ho T.k_Segment T.n_Segment_ranges_known nd_Segment (by decide) (by rw [hv]; rfl) q
theorem fd_Segment_ranges {A : V → Prop} (ho : H a = some (.ins T.C_Segment dx (obj ky_Segment vs))) (hv : vs[15]? = some v) (q : A v) : ∃ a' C' dx' fs v', V.ref a = .ref a' ∧ H a' = some (.ins C' dx' fs) ∧ Cls K C' ∧ NoAttr K C' "ranges" ∧ fs.lookup ("ranges" : Str) = some v' ∧ A v' := g_fldE ho T.k_Segment T.n_Segment_ranges nd_Segment rfl hv q
theorem st_Segment_ranges {A : Hp → Prop} (ho : H a = some (.ins T.C_Segment dx (obj ky_Segment vs))) (hv : 15 < vs.length) (q : A (upd H a (.ins T.C_Segment dx (obj ky_Segment (vs.set 15 y))))) : ∃ a' C' dx' fs, V.ref a = .ref a' ∧ H a' = some (.ins C' dx' fs) ∧ Cls K C' ∧ NoAttr K C' "ranges" ∧ fs.length < 1000 ∧ A (upd H a' (.ins C' dx' (putF "ranges" y fs))) := g_putE ho T.k_Segment T.n_Segment_ranges nd_Segment (by decide) rfl hv q
theorem nw_Segment_ranges {A : Hp → Prop} (ho : H a = some (.ins T.C_Segment dx (obj ky_Segment vs))) (hv : vs.length = 15) (q : A (upd H a (.ins T.C_Segment dx (obj ky_Segment (vs ++ [y]))))) : ∃ a' C' dx' fs, V.ref a = .ref a' ∧ H a' = some (.ins C' dx' fs) ∧ Cls K C' ∧ NoAttr K C' "ranges" ∧ fs.length < 1000 ∧ A (upd H a' (.ins C' dx' (putF "ranges" y fs))) := g_newE ho T.k_Segment T.n_Segment_ranges nd_Segment (by decide) (by rw [hv]; rfl) q
theorem fd_Segment_stamp {A : V → Prop} (ho : H a = some (.ins T.C_Segment dx (obj ky_Segment vs))) (hv : vs[16]? = some v) (q : A v) : ∃ a' C' dx' fs v', V.ref a = .ref a' ∧ H a' = some (.ins C' dx' fs) ∧ Cls K C' ∧ NoAttr K C' "stamp" ∧ fs.lookup ("stamp" : Str) = some v' ∧ A v' := g_fldE ho T.k_Segment T.n_Segment_stamp nd_Segment rfl hv q
theorem st_Segment_stamp {A : Hp → Prop} (ho : H a = some (.ins T.C_Segment dx (obj ky_Segment vs))) (hv : 16 < vs.length) (q : A (upd H a (.ins T.C_Segment dx (obj ky_Segment (vs.set 16 y))))) : ∃ a' C' dx' fs, V.ref a = .ref a' ∧ H a' = some (.ins C' dx' fs) ∧ Cls K C' ∧ NoAttr K C' "stamp" ∧ fs.length < 1000 ∧ A (upd H a' (.ins C' dx' (putF "stamp" y fs))) := g_putE ho T.k_Segment T.n_Segment_stamp nd_Segment (by decide) rfl hv q
theorem nw_Segment_stamp {A : Hp → Prop} (ho : H a = some (.ins T.C_Segment dx (obj ky_Segment vs))) (hv : vs.length = 16) (q : A (upd H a (.ins T.C_Segment dx (obj ky_Segment (vs ++ [y]))))) : ∃ a' C' dx' fs, V.ref a = .ref a' ∧ H a' = some (.ins C' dx' fs) ∧ Cls K C' ∧ NoAttr K C' "stamp" ∧ fs.length < 1000 ∧ A (upd H a' (.ins C' dx' (putF "stamp" y fs))) := g_newE ho T.k_Segment T.n_Segment_stamp nd_Segment (by decide) (by rw [hv]; rfl) q
theorem fd_Segment_data {A : V → Prop} (ho : H a = some (.ins T.C_Segment dx (obj ky_Segment vs))) (hv : vs[17]? = some v) (q : A v) : ∃ a' C' dx' fs v', V.ref a = .ref a' ∧ H a' = some (.ins C' dx' fs) ∧ Cls K C' ∧ NoAttr K C' "data" ∧ fs.lookup ("data" : Str) = some v' ∧ A v' := g_fldE ho T.k_Segment T.n_Segment_data nd_Segment rfl hv q
theorem st_Segment_data {A : Hp → Prop} (ho : H a = some (.ins T.C_Segment dx (obj ky_Segment vs))) (hv : 17 < vs.length) (q : A (upd H a (.ins T.C_Segment dx (obj ky_Segment (vs.set 17 y))))) : ∃ a' C' dx' fs, V.ref a = .ref a' ∧ H a' = some (.ins C' dx' fs) ∧ Cls K C' ∧ NoAttr K C' "data" ∧ fs.length < 1000 ∧ A (upd H a' (.ins C' dx' (putF "data" y fs))) := g_putE ho T.k_Segment T.n_Segment_data nd_Segment (by decide) rfl hv q
theorem nw_Segment_data {A : Hp → Prop} (ho : H a = some (.ins T.C_Segment dx (obj ky_Segment vs))) (hv : vs.length = 17) (q : A (upd H a (.ins T.C_Segment dx (obj ky_Segment (vs ++ [y]))))) : ∃ a' C' dx' fs, V.ref a = .ref a' ∧ H a' = some (.ins C' dx' fs) ∧ Cls K C' ∧ NoAttr K C' "data" ∧ fs.length < 1000 ∧ A (upd H a' (.ins C' dx' (putF "data" y fs))) := g_newE ho T.k_Segment T.n_Segment_data nd_Segment (by decide) (by rw [hv]; rfl) q
end
local macro_rules | `(tactic| walk_at "use") => `(tactic| first | ((with_reducible refine' fd_Segment_source ?ho_ ?hv_ ?_); (case ho_ => first | assumption | exact upd_same); (case hv_ => exact rfl)) | ((with_reducible refine' fd_Segment_target ?ho_ ?hv_ ?_); (case ho_ => first | assumption | exact upd_same); (case hv_ => exact rfl)) | ((with_reducible refine' fd_Segment_seq ?ho_ ?hv_ ?_); (case ho_ => first | assumption | exact upd_same); (case hv_ => exact rfl)) | ((with_reducible refine' fd_Segment_count ?ho_ ?hv_ ?_); (case ho_ => first | assumption | exact upd_same); (case hv_ => exact rfl)) | ((with_reducible refine' fd_Segment_echo ?ho_ ?hv_ ?_); (case ho_ => first | assumption | exact upd_same); (case hv_ => exact rfl)) | ((with_reducible refine' fd_Segment_ack ?ho_ ?hv_ ?_); (case ho_ => first | assumption | exact upd_same); (case hv_ => exact rfl)) | ((with_reducible refine' fd_Segment_syn ?ho_ ?hv_ ?_); (case ho_ => first | assumption | exact upd_same); (case hv_ => exact rfl)) | ((with_reducible refine' fd_Segment_fin ?ho_ ?hv_ ?_); (case ho_ => first | assumption | exact upd_same); (case hv_ => exact rfl)) | ((with_reducible refine' fd_Segment_reset ?ho_ ?hv_ ?_); (case ho_ => first | assumption | exact upd_same); (case hv_ => exact rfl)) | ((with_reducible refine' fd_Segment_marked ?ho_ ?hv_ ?_); (case ho_ => first | assumption | exact upd_same); (case hv_ => exact rfl)) | ((with_reducible refine' fd_Segment_cut ?ho_ ?hv_ ?_); (case ho_ => first | assumption | exact upd_same); (case hv_ => exact rfl)) | ((with_reducible refine' fd_Segment_window ?ho_ ?hv_ ?_); (case ho_ => first | assumption | exact upd_same); (case hv_ => exact rfl)) | ((with_reducible refine' fd_Segment_mss ?ho_ ?hv_ ?_); (case ho_ => first | assumption | exact upd_same); (case hv_ => exact rfl)) | ((with_reducible refine' fd_Segment_scale ?ho_ ?hv_ ?_); (case ho_ => first | assumption | exact upd_same); (case hv_ => exact rfl)) | ((with_reducible refine' fd_Segment_ranges_known ?ho_ ?hv_ ?_); (case ho_ => first | assumption | exact upd_same); (case hv_ => exact rfl)) | ((with_reducible refine' fd_Segment_ranges ?ho_ ?hv_ ?_); (case ho_ => first | assumption | exact upd_same); (case hv_ => exact rfl)) | ((with_reducible refine' fd_Segment_stamp ?ho_ ?hv_ ?_); (case ho_ => first | assumption | exact upd_same); (case hv_ => exact rfl)) | ((with_reducible refine' fd_Segment_data ?ho_ ?hv_ ?_); (case ho_ => first | assumption | exact upd_same); (case hv_ => exact rfl)) | ((with_reducible refine' nw_Segment_source ?ho_ ?hv_ ?_); (case ho_ => first | assumption | exact upd_same); (case hv_ => exact rfl)) | ((with_reducible refine' nw_Segment_target ?ho_ ?hv_ ?_); (case ho_ => first | assumption | exact upd_same); (case hv_ => exact rfl)) | ((with_reducible refine' nw_Segment_seq ?ho_ ?hv_ ?_); (case ho_ => first | assumption | exact upd_same); (case hv_ => exact rfl)) | ((with_reducible refine' nw_Segment_count ?ho_ ?hv_ ?_); (case ho_ => first | assumption | exact upd_same); (case hv_ => exact rfl)) | ((with_reducible refine' nw_Segment_echo ?ho_ ?hv_ ?_); (case ho_ => first | assumption | exact upd_same); (case hv_ => exact rfl)) | ((with_reducible refine' nw_Segment_ack ?ho_ ?hv_ ?_); (case ho_ => first | assumption | exact upd_same); (case hv_ => exact rfl)) | ((with_reducible refine' nw_Segment_syn ?ho_ ?hv_ ?_); (case ho_ => first | assumption | exact upd_same); (case hv_ => exact rfl)) | ((with_reducible refine' nw_Segment_fin ?ho_ ?hv_ ?_); (case ho_ => first | assumption | exact upd_same); (case hv_ => exact rfl)) | ((with_reducible refine' nw_Segment_reset ?ho_ ?hv_ ?_); (case ho_ => first | assumption | exact upd_same); (case hv_ => exact rfl)) | ((with_reducible refine' nw_Segment_marked ?ho_ ?hv_ ?_); (case ho_ => first | assumption | exact upd_same); (case hv_ => exact rfl)) | ((with_reducible refine' nw_Segment_cut ?ho_ ?hv_ ?_); (case ho_ => first | assumption | exact upd_same); (case hv_ => exact rfl)) | ((with_reducible refine' nw_Segment_window ?ho_ ?hv_ ?_); (case ho_ => first | assumption | exact upd_same); (case hv_ => exact rfl)) | ((with_reducible refine' nw_Segment_mss ?ho_ ?hv_ ?_); (case ho_ => first | assumption | exact upd_same); (case hv_ => exact rfl)) | ((with_reducible refine' nw_Segment_scale ?ho_ ?hv_ ?_); (case ho_ => first | assumption | exact upd_same); (case hv_ => exact rfl)) | ((with_reducible refine' nw_Segment_ranges_known ?ho_ ?hv_ ?_); (case ho_ => first | assumption | exact upd_same); (case hv_ => exact rfl)) | ((with_reducible refine' nw_Segment_ranges ?ho_ ?hv_ ?_); (case ho_ => first | assumption | exact upd_same); (case hv_ => exact rfl)) | ((with_reducible refine' nw_Segment_stamp ?ho_ ?hv_ ?_); (case ho_ => first | assumption | exact upd_same); (case hv_ => exact rfl)) | ((with_reducible refine' nw_Segment_data ?ho_ ?hv_ ?_); (case ho_ => first | assumption | exact upd_same); (case hv_ => exact rfl)) | ((with_reducible refine' st_Segment_source ?ho_ ?hv_ ?_); (case ho_ => first | assumption | exact upd_same); (case hv_ => exact Nat.le_of_ble_eq_true rfl)) | ((with_reducible refine' st_Segment_target ?ho_ ?hv_ ?_); (case ho_ => first | assumption | exact upd_same); (case hv_ => exact Nat.le_of_ble_eq_true rfl)) | ((with_reducible refine' st_Segment_seq ?ho_ ?hv_ ?_); (case ho_ => first | assumption | exact upd_same); (case hv_ => exact Nat.le_of_ble_eq_true rfl)) | ((with_reducible refine' st_Segment_count ?ho_ ?hv_ ?_); (case ho_ => first | assumption | exact upd_same); (case hv_ => exact Nat.le_of_ble_eq_true rfl)) | ((with_reducible refine' st_Segment_echo ?ho_ ?hv_ ?_); (case ho_ => first | assumption | exact upd_same); (case hv_ => exact Nat.le_of_ble_eq_true rfl)) | ((with_reducible refine' st_Segment_ack ?ho_ ?hv_ ?_); (case ho_ => first | assumption | exact upd_same); (case hv_ => exact Nat.le_of_ble_eq_true rfl)) | ((with_reducible refine' st_Segment_syn ?ho_ ?hv_ ?_); (case ho_ => first | assumption | exact upd_same); (case hv_ => exact Nat.le_of_ble_eq_true rfl)) | ((with_reducible refine' st_Segment_fin ?ho_ ?hv_ ?_); (case ho_ => first | assumption | exact upd_same); (case hv_ => exact Nat.le_of_ble_eq_true rfl)) | ((with_reducible refine' st_Segment_reset ?ho_ ?hv_ ?_); (case ho_ => first | assumption | exact upd_same); (case hv_ => exact Nat.le_of_ble_eq_true rfl)) | ((with_reducible refine' st_Segment_marked ?ho_ ?hv_ ?_); (case ho_ => first | assumption | exact upd_same); (case hv_ => exact Nat.le_of_ble_eq_true rfl)) | ((with_reducible refine' st_Segment_cut ?ho_ ?hv_ ?_); (case ho_ => first | assumption | exact upd_same); (case hv_ => exact Nat.le_of_ble_eq_true rfl)) | ((with_reducible refine' st_Segment_window ?ho_ ?hv_ ?_); (case ho_ => first | assumption | exact upd_same); (case hv_ => exact Nat.le_of_ble_eq_true rfl)) | ((with_reducible refine' st_Segment_mss ?ho_ ?hv_ ?_); (case ho_ => first | assumption | exact upd_same); (case hv_ => exact Nat.le_of_ble_eq_true rfl)) | ((with_reducible refine' st_Segment_scale ?ho_ ?hv_ ?_); (case ho_ => first | assumption | exact upd_same); (case hv_ => exact Nat.le_of_ble_eq_true rfl)) | ((with_reducible refine' st_Segment_ranges_known ?ho_ ?hv_ ?_); (case ho_ => first | assumption | exact upd_same); (case hv_ => exact Nat.le_of_ble_eq_true rfl)) | ((with_reducible refine' st_Segment_ranges ?ho_ ?hv_ ?_); (case ho_ => first | assumption | exact upd_same); (case hv_ => exact Nat.le_of_ble_eq_true rfl)) | ((with_reducible refine' st_Segment_stamp ?ho_ ?hv_ ?_); (case ho_ => first | assumption | exact upd_same); (case hv_ => exact Nat.le_of_ble_eq_true rfl)) | ((with_reducible refine' st_Segment_data ?ho_ ?hv_ ?_); (case ho_ => first | assumption | exact upd_same); (case hv_ => exact Nat.le_of_ble_eq_true rfl)))
/-! ### dicts with written texts as keys, by place -/
def dk (ks : List Str) (vs : List V) : List (Key × V) := (obj ks vs).map fun p => (Sum.inr p.1, p.2)
theorem val_map : ∀ {l : List (Str × V)} {k : Str}, valV (l.map fun p => ((Sum.inr p.1 : Key), p.2)) (.inr k) = l.lookup k
  | [], _ => rfl
  | p :: r, k => by
    by_cases e : k = p.1
    · subst e
      rw [List.map_cons, valV_pos (p := ((Sum.inr p.1 : Key), p.2)) rfl, List.lookup_cons_self]
    · rw [List.map_cons, valV_neg (p := ((Sum.inr p.1 : Key), p.2)) (fun z => e (Sum.inr.inj z).symm), List.lookup_cons, beq_eq_false_iff_ne.mpr e]
      exact val_map
theorem g_dgetT {td ty : TE} {σ : St} {H : Hp} {Q : VK} (h : td σ H fun x H1 => ty σ H1 fun y H2 => ∃ a v, x = .ref a ∧ DGet H2 a y (some v) ∧ Q v H2) : tDGet td ty σ H Q := h
theorem g_dputT {td ty tv : TE} {D : Ends} {σ : St} {H : Hp} (h : tv σ H fun v H1 => td σ H1 fun x H2 => ty σ H2 fun y H3 => ∃ a H4, x = .ref a ∧ DPut H3 a y v H4 ∧ D.nx σ H4) : sDPut td ty tv D σ H := h
theorem g_dget {H : Hp} {a : Addr} {ks : List Str} {vs : List V} {i : Nat} {k : Str} {v : V} {A : V → Prop} (ho : H a = some (.dK (dk ks vs))) (nd : ks.Nodup) (hk : ks[i]? = some k) (hv : vs[i]? = some v) (q : A v) : ∃ a' v', V.ref a = .ref a' ∧ DGet H a' (.str k) (some v') ∧ A v' := by
  refine ⟨a, v, rfl, ?_, q⟩
  have z := DGet.k (k := .inr k) ho
  rw [show valV (dk ks vs) (.inr k) = some v by unfold dk; rw [val_map, obj_get nd hk, hv]] at z
  exact z
theorem map_any {l : List (Str × V)} {k : Str} : ((l.map fun p => ((Sum.inr p.1 : Key), p.2)).any fun kv => decide (kv.1 = .inr k)) = (l.lookup k).isSome := by
  rw [valV_any, val_map]
theorem dk_put {ks : List Str} {vs : List V} {i : Nat} {k : Str} {y : V} (nd : ks.Nodup) (hk : ks[i]? = some k) (hv : i < vs.length) : putK (dk ks vs) (.inr k) y = dk ks (vs.set i y) := by
  have e1 : ((dk ks vs).any fun kv => decide (kv.1 = .inr k)) = true := by
    unfold dk
    rw [map_any, obj_get nd hk, List.getElem?_eq_getElem hv]
    rfl
  have e2 : dk ks (vs.set i y) = (putF k y (obj ks vs)).map fun p => ((Sum.inr p.1 : Key), p.2) := by rw [obj_put nd hk hv]; rfl
  rw [e2]
  unfold putK
  rw [if_pos e1]
  clear e1 e2
  unfold dk
  have nk : ((obj ks vs).map (·.1)).Nodup := by
    clear hv hk
    induction ks generalizing vs with
    | nil => exact List.nodup_nil
    | cons k0 ks ih =>
      cases vs with
      | nil => exact List.nodup_nil
      | cons v vs =>
        have nd' := List.nodup_cons.mp nd
        refine List.nodup_cons.mpr ⟨fun z => nd'.1 ?_, ih nd'.2⟩
        clear ih nd nd'
        induction ks generalizing vs with
        | nil => simp [obj] at z
        | cons k1 ks ih2 =>
          cases vs with
          | nil => simp [obj] at z
          | cons v1 vs =>
            rcases List.mem_cons.mp z with e | z
            · rw [show k0 = k1 from e]; exact List.mem_cons_self ..
            · exact List.mem_cons_of_mem _ (ih2 (vs := vs) z)
  have hm : k ∈ (obj ks vs).map (·.1) := by
    have : ((obj ks vs).lookup k).isSome = true := by rw [obj_get nd hk, List.getElem?_eq_getElem hv]; rfl
    clear nk hv hk nd
    generalize obj ks vs = l at this ⊢
    induction l with
    | nil => cases this
    | cons p r ih =>
      by_cases e : k = p.1
      · rw [e]; exact List.mem_cons_self ..
      · rw [List.lookup_cons, beq_eq_false_iff_ne.mpr e] at this
        exact List.mem_cons_of_mem _ (ih this)
  generalize obj ks vs = l at nk hm ⊢
  clear nd hk hv
  induction l with
  | nil => cases hm
  | cons p r ih =>
    obtain ⟨n1, n2⟩ := List.nodup_cons.mp nk
    show _ = (if p.1 = k then (p.1, y) :: r else p :: putF k y r).map _
    by_cases e : p.1 = k
    · rw [if_pos e, List.map_cons, List.map_cons, List.map_cons]
      subst e
      rw [if_pos rfl]
      congr 1
      rw [List.map_map]
      refine List.map_congr_left fun q hq => ?_
      show (if (Sum.inr q.1 : Key) = Sum.inr p.1 then ((Sum.inr q.1 : Key), y) else (Sum.inr q.1, q.2)) = (Sum.inr q.1, q.2)
      rw [if_neg]
      intro z
      have w : p.1 ∈ r.map (·.1) := by
        rw [← Sum.inr.inj z]
        exact List.mem_map_of_mem (f := (·.1)) hq
      exact n1 w
    · rw [if_neg e, List.map_cons, List.map_cons, List.map_cons, if_neg (fun z => e (Sum.inr.inj z))]
      congr 1
      refine ih n2 ?_
      rcases List.mem_cons.mp hm with z | z
      · exact absurd z.symm e
      · exact z
theorem dk_new {ks : List Str} {vs : List V} {k : Str} {y : V} (nd : ks.Nodup) (hk : ks[vs.length]? = some k) : putK (dk ks vs) (.inr k) y = dk ks (vs ++ [y]) := by
  have e0 : (obj ks vs).lookup k = none := by rw [obj_get nd hk, List.getElem?_eq_none (Nat.le_refl _)]
  have e1 : ((dk ks vs).any fun kv => decide (kv.1 = .inr k)) = false := by
    unfold dk
    rw [map_any, e0]
    rfl
  unfold putK
  rw [e1, if_neg (by decide)]
  unfold dk
  have : obj ks (vs ++ [y]) = obj ks vs ++ [(k, y)] := by
    clear e0 e1 nd
    induction ks generalizing vs with
    | nil => cases hk
    | cons k0 ks ih =>
      cases vs with
      | nil =>
        have e : k0 = k := Option.some.inj hk
        subst e
        cases ks <;> rfl
      | cons v vs =>
        show (k0, v) :: obj ks (vs ++ [y]) = (k0, v) :: (obj ks vs ++ [(k, y)])
        rw [ih hk]
  rw [this, List.map_append]
  rfl
theorem dk_len {ks : List Str} {vs : List V} : (dk ks vs).length ≤ ks.length := by
  unfold dk
  rw [List.length_map]
  exact obj_len ks vs
theorem g_dput {H : Hp} {a : Addr} {ks : List Str} {vs : List V} {i : Nat} {k : Str} {v : V} {A : Hp → Prop} (ho : H a = some (.dK (dk ks vs))) (nd : ks.Nodup) (hl : ks.length < 100000) (hk : ks[i]? = some k) (hv : i < vs.length) (q : A (upd H a (.dK (dk ks (vs.set i v))))) : ∃ a' H', V.ref a = .ref a' ∧ DPut H a' (.str k) v H' ∧ A H' := by
  refine ⟨a, _, rfl, DPut.k (k := .inr k) ho (szl (Nat.lt_of_le_of_lt dk_len hl)), ?_⟩
  rw [dk_put nd hk hv]
  exact q
theorem g_dnew {H : Hp} {a : Addr} {ks : List Str} {vs : List V} {k : Str} {v : V} {A : Hp → Prop} (ho : H a = some (.dK (dk ks vs))) (nd : ks.Nodup) (hl : ks.length < 100000) (hk : ks[vs.length]? = some k) (q : A (upd H a (.dK (dk ks (vs ++ [v]))))) : ∃ a' H', V.ref a = .ref a' ∧ DPut H a' (.str k) v H' ∧ A H' := by
  refine ⟨a, _, rfl, DPut.k (k := .inr k) ho (szl (Nat.lt_of_le_of_lt dk_len hl)), ?_⟩
  rw [dk_new nd hk]
  exact q
local macro_rules | `(tactic| walk_at "use") => `(tactic| with_reducible first | refine g_dgetT ?_ | refine g_dputT ?_)

def kd_S : List Str := ["source", "target", "seq", "count", "echo", "ack", "syn", "fin", "reset", "marked", "cut", "ranges_known", "window", "mss", "scale", "ranges", "stamp", "data"]
theorem ndd_S : kd_S.Nodup := by decide +kernel
section
variable {H : Hp} {a : Addr} {vs : List V} {v y : V}
theorem dg_S_source {A : V → Prop} (ho : H a = some (.dK (dk kd_S vs))) (hv : vs[0]? = some v) (q : A v) : ∃ a' v', V.ref a = .ref a' ∧ DGet H a' (.str "source") (some v') ∧ A v' := g_dget ho ndd_S rfl hv q
theorem dp_S_source {A : Hp → Prop} (ho : H a = some (.dK (dk kd_S vs))) (hv : 0 < vs.length) (q : A (upd H a (.dK (dk kd_S (vs.set 0 y))))) : ∃ a' H', V.ref a = .ref a' ∧ DPut H a' (.str "source") y H' ∧ A H' := g_dput ho ndd_S (by decide) rfl hv q
theorem dn_S_source {A : Hp → Prop} (ho : H a = some (.dK (dk kd_S vs))) (hv : vs.length = 0) (q : A (upd H a (.dK (dk kd_S (vs ++ [y]))))) : ∃ a' H', V.ref a = .ref a' ∧ DPut H a' (.str "source") y H' ∧ A H' := g_dnew ho ndd_S (by decide) (by rw [hv]; rfl) q
theorem dg_S_target {A : V → Prop} (ho : H a = some (.dK (dk kd_S vs))) (hv : vs[1]? = some v) (q : A v) : ∃ a' v', V.ref a = .ref a' ∧ DGet H a' (.str "target") (some v') ∧ A v' := g_dget ho ndd_S rfl hv q
theorem dp_S_target {A : Hp → Prop} (ho : H a = some (.dK (dk kd_S vs))) (hv : 1 < vs.length) (q : A (upd H a (.dK (dk kd_S (vs.set 1 y))))) : ∃ a' H', V.ref a = .ref a' ∧ DPut H a' (.str "target") y H' ∧ A H' := g_dput ho ndd_S (by decide) rfl hv q
theorem dn_S_target {A : Hp → Prop} (ho : H a = some (.dK (dk kd_S vs))) (hv : vs.length = 1) (q : A (upd H a (.dK (dk kd_S (vs ++ [y]))))) : ∃ a' H', V.ref a = .ref a' ∧ DPut H a' (.str "target") y H' ∧ A H' := g_dnew ho ndd_S (by decide) (by rw [hv]; rfl) q
theorem dg_S_seq {A : V → Prop} (ho : H a = some (.dK (dk kd_S vs))) (hv : vs[2]? = some v) (q : A v) : ∃ a' v', V.ref a = .ref a' ∧ DGet H a' (.str "seq") (some v') ∧ A v' := g_dget ho ndd_S rfl hv q
theorem dp_S_seq {A : Hp → Prop} (ho : H a = some (.dK (dk kd_S vs))) (hv : 2 < vs.length) (q : A (upd H a (.dK (dk kd_S (vs.set 2 y))))) : ∃ a' H', V.ref a = .ref a' ∧ DPut H a' (.str "seq") y H' ∧ A H' := g_dput ho ndd_S (by decide) rfl hv q
theorem dn_S_seq {A : Hp → Prop} (ho : H a = some (.dK (dk kd_S vs))) (hv : vs.length = 2) (q : A (upd H a (.dK (dk kd_S (vs ++ [y]))))) : ∃ a' H', V.ref a = .ref a' ∧ DPut H a' (.str "seq") y H' ∧ A H' := g_dnew ho ndd_S (by decide) (by rw [hv]; rfl) q
theorem dg_S_count {A : V → Prop} (ho : H a = some (.dK (dk kd_S vs))) (hv : vs[3]? = some v) (q : A v) : ∃ a' v', V.ref a = .ref a' ∧ DGet H a' (.str "count") (some v') ∧ A v' := g_dget ho ndd_S rfl hv q
theorem dp_S_count {A : Hp → Prop} (ho : H a = some (.dK (dk kd_S vs))) (hv : 3 < vs.length) (q : A (upd H a (.dK (dk kd_S (vs.set 3 y))))) : ∃ a' H', V.ref a = .ref a' ∧ DPut H a' (.str "count") y H' ∧ A H' := g_dput ho ndd_S (by decide) rfl hv q
theorem dn_S_count {A : Hp → Prop} (ho : H a = some (.dK (dk kd_S vs))) (hv : vs.length = 3) (q : A (upd H a (.dK (dk kd_S (vs ++ [y]))))) : ∃ a' H', V.ref a = .ref a' ∧ DPut H a' (.str "count") y H' ∧ A H' := g_dnew ho ndd_S (by decide) (by rw [hv]; rfl) q
theorem dg_S_echo {A : V → Prop} (ho : H a = some (.dK (dk kd_S vs))) (hv : vs[4]? = some v) (q : A v) : ∃ a' v', V.ref a = .ref a' ∧ DGet H a' (.str "echo") (some v') ∧ A v' := g_dget ho ndd_S rfl hv q
theorem dp_S_echo {A : Hp → Prop} (ho : H a = some (.dK (dk kd_S vs))) (hv : 4 < vs.length) (q : A (upd H a (.dK (dk kd_S (vs.set 4 y))))) : ∃ a' H', V.ref a = .ref a' ∧ DPut H a' (.str "echo") y H' ∧ A H' := g_dput ho ndd_S (by decide) rfl hv q
theorem dn_S_echo {A : Hp → Prop} (ho : H a = some (.dK (dk kd_S vs))) (hv : vs.length = 4) (q : A (upd H a (.dK (dk kd_S (vs ++ [y]))))) : ∃ a' H', V.ref a = .ref a' ∧ DPut H a' (.str "echo") y H' ∧ A H' := g_dnew ho ndd_S (by decide) (by rw [hv]; rfl) q
theorem dg_S_ack {A : V → Prop} (ho : H a = some (.dK (dk kd_S vs))) (hv : vs[5]? = some v) (q : A v) : ∃ a' v', V.ref a = .ref a' ∧ DGet H a' (.str "ack") (some v') ∧ A v' := g_dget ho ndd_S rfl hv q
theorem dp_S_ack {A : Hp → Prop} (ho : H a = some (.dK (dk kd_S vs))) (hv : 5 < vs.length) (q : A (upd H a (.dK (dk kd_S (vs.set 5 y))))) : ∃ a' H', V.ref a = .ref a' ∧ DPut H a' (.str "ack") y H' ∧ A H' := g_dput ho ndd_S (by decide) rfl hv q
theorem dn_S_ack {A : Hp → Prop} (ho : H a = some (.dK (dk kd_S vs))) (hv : vs.length = 5) (q : A (upd H a (.dK (dk kd_S (vs ++ [y]))))) : ∃ a' H', V.ref a = .ref a' ∧ DPut H a' (.str "ack") y H' ∧ A H' := g_dnew ho ndd_S (by decide) (by rw [hv]; rfl) q
theorem dg_S_syn {A : V → Prop} (ho : H a = some (.dK (dk kd_S vs))) (hv : vs[6]? = some v) (q : A v) : ∃ a' v', V.ref a = .ref a' ∧ DGet H a' (.str "syn") (some v') ∧ A v' := g_dget ho ndd_S rfl hv q
theorem dp_S_syn {A : Hp → Prop} (ho : H a = some (.dK (dk kd_S vs))) (hv : 6 < vs.length) (q : A (upd H a (.dK (dk kd_S (vs.set 6 y))))) : ∃ a' H', V.ref a = .ref a' ∧ DPut H a' (.str "syn") y H' ∧ A H' := g_dput ho ndd_S (by decide) rfl hv q
theorem dn_S_syn {A : Hp → Prop} (ho : H a = some (.dK (dk kd_S vs))) (hv : vs.length = 6) (q : A (upd H a (.dK (dk kd_S (vs ++ [y]))))) : ∃ a' H', V.ref a = .ref a' ∧ DPut H a' (.str "syn") y H' ∧ A H' := g_dnew ho ndd_S (by decide) (by rw [hv]; rfl) q
theorem dg_S_fin {A : V → Prop} (ho : H a = some (.dK (dk kd_S vs))) (hv : vs[7]? = some v) (q : A v) : ∃ a' v', V.ref a = .ref a' ∧ DGet H a' (.str "fin") (some v') ∧ A v' := g_dget ho ndd_S rfl hv q
theorem dp_S_fin {A : Hp → Prop} (ho : H a = some (.dK (dk kd_S vs))) (hv : 7 < vs.length) (q : A (upd H a (.dK (dk kd_S (vs.set 7 y))))) : ∃ a' H', V.ref a = .ref a' ∧ DPut H a' (.str "fin") y H' ∧ A H' := g_dput ho ndd_S (by decide) rfl hv q
theorem dn_S_fin {A : Hp → Prop} (ho : H a = some (.dK (dk kd_S vs))) (hv : vs.length = 7) (q : A (upd H a (.dK (dk kd_S (vs ++ [y]))))) : ∃ a' H', V.ref a = .ref a' ∧ DPut H a' (.str "fin") y H' ∧ A H' := g_dnew ho ndd_S (by decide) (by rw [hv]; rfl) q
theorem dg_S_reset {A : V → Prop} (ho : H a = some (.dK (dk kd_S vs))) (hv : vs[8]? = some v) (q : A v) : ∃ a' v', V.ref a = .ref a' ∧ DGet H a' (.str "reset") (some v') ∧ A v' := g_dget ho ndd_S rfl hv q
theorem dp_S_reset {A : Hp → Prop} (ho : H a = some (.dK (dk kd_S vs))) (hv : 8 < vs.length) (q : A (upd H a (.dK (dk kd_S (vs.set 8 y))))) : ∃ a' H', V.ref a = .ref a' ∧ DPut H a' (.str "reset") y H' ∧ A H' := g_dput ho ndd_S (by decide) rfl hv q
theorem dn_S_reset {A : Hp → Prop} (ho : H a = some (.dK (dk kd_S vs))) (hv : vs.length = 8) (q : A (upd H a (.dK (dk kd_S (vs ++ [y]))))) : ∃ a' H', V.ref a = .ref a' ∧ DPut H a' (.str "reset") y H' ∧ A H' := g_dnew ho ndd_S (by decide) (by rw [hv]; rfl) q
theorem dg_S_marked {A : V → Prop} (ho : H a = some (.dK (dk kd_S vs))) (hv : vs[9]? = some v) (q : A v) : ∃ a' v', V.ref a = .ref a' ∧ DGet H a' (.str "marked") (some v') ∧ A v' := g_dget ho ndd_S rfl hv q
theorem dp_S_marked {A : Hp → Prop} (ho : H a = some (.dK (dk kd_S vs))) (hv : 9 < vs.length) (q : A (upd H a (.dK (dk kd_S (vs.set 9 y))))) : ∃ a' H', V.ref a = .ref a' ∧ DPut H a' (.str "marked") y H' ∧ A H' := g_dput ho ndd_S (by decide) rfl hv q
theorem dn_S_marked {A : Hp → Prop} (ho : H a = some (.dK (dk kd_S vs))) (hv : vs.length = 9) (q : A (upd H a (.dK (dk kd_S (vs ++ [y]))))) : ∃ a' H', V.ref a = .ref a' ∧ DPut H a' (.str "marked") y H' ∧ A H' := g_dnew ho ndd_S (by decide) (by rw [hv]; rfl) q
theorem dg_S_cut {A : V → Prop} (ho : H a = some (.dK (dk kd_S vs))) (hv : vs[10]? = some v) (q : A v) : ∃ a' v', V.ref a = .ref a' ∧ DGet H a' (.str "cut") (some v') ∧ A v' := g_dget ho ndd_S rfl hv q
theorem dp_S_cut {A : Hp → Prop} (ho : H a = some (.dK (dk kd_S vs))) (hv : 10 < vs.length) (q : A (upd H a (.dK (dk kd_S (vs.set 10 y))))) : ∃ a' H', V.ref a = .ref a' ∧ DPut H a' (.str "cut") y H' ∧ A H' := g_dput ho ndd_S (by decide) rfl hv q
theorem dn_S_cut {A : Hp → Prop} (ho : H a = some (.dK (dk kd_S vs))) (hv : vs.length = 10) (q : A (upd H a (.dK (dk kd_S (vs ++ [y]))))) : ∃ a' H', V.ref a = .ref a' ∧ DPut H a' (.str "cut") y H' ∧ A H' := g_dnew ho ndd_S (by decide) (by rw [hv]; rfl) q
theorem dg_S_ranges_known {A : V → Prop} (ho : H a = some (.dK (dk kd_S vs))) (hv : vs[11]? = some v) (q : A v) : ∃ a' v', V.ref a = .ref a' ∧ DGet H a' (.str "ranges_known") (some v') ∧ A v' := g_dget ho ndd_S rfl hv q
theorem dp_S_ranges_known {A : Hp → Prop} (ho : H a = some (.dK (dk kd_S vs))) (hv : 11 < vs.length) (q : A (upd H a (.dK (dk kd_S (vs.set 11 y))))) : ∃ a' H', V.ref a = .ref a' ∧ DPut H a' (.str "ranges_known") y H' ∧ A H' := g_dput ho ndd_S (by decide) rfl hv q
theorem dn_S_ranges_known {A : Hp → Prop} (ho : H a = some (.dK (dk kd_S vs))) (hv : vs.length = 11) (q : A (upd H a (.dK (dk kd_S (vs ++ [y]))))) : ∃ a' H', V.ref a = .ref a' ∧ DPut H a' (.str "ranges_known") y H' ∧ A H' := g_dnew ho ndd_S (by decide) (by rw [hv]; rfl) q
theorem dg_S_window {A : V → Prop} (ho : H a = some (.dK (dk kd_S vs))) (hv : vs[12]? = some v) (q : A v) : ∃ a' v', V.ref a = .ref a' ∧ DGet H a' (.str "window") (some v') ∧ A v' := g_dget ho ndd_S rfl hv q
theorem dp_S_window {A : Hp → Prop} (ho : H a = some (.dK (dk kd_S vs))) (hv : 12 < vs.length) (q : A (upd H a (.dK (dk kd_S (vs.set 12 y))))) : ∃ a' H', V.ref a = .ref a' ∧ DPut H a' (.str "window") y H' ∧ A H' := g_dput ho ndd_S (by decide) rfl hv q
theorem dn_S_window {A : Hp → Prop} (ho : H a = some (.dK (dk kd_S vs))) (hv : vs.length = 12) (q : A (upd H a (.dK (dk kd_S (vs ++ [y]))))) : ∃ a' H', V.ref a = .ref a' ∧ DPut H a' (.str "window") y H' ∧ A H' := g_dnew ho ndd_S (by decide) (by rw [hv]; rfl) q
theorem dg_S_mss {A : V → Prop} (ho : H a = some (.dK (dk kd_S vs))) (hv : vs[13]? = some v) (q : A v) : ∃ a' v', V.ref a = .ref a' ∧ DGet H a' (.str "mss") (some v') ∧ A v' := g_dget ho ndd_S rfl hv q
theorem dp_S_mss {A : Hp → Prop} (ho : H a = some (.dK (dk kd_S vs))) (hv : 13 < vs.length) (q : A (upd H a (.dK (dk kd_S (vs.set 13 y))))) : ∃ a' H', V.ref a = .ref a' ∧ DPut H a' (.str "mss") y H' ∧ A H' := g_dput ho ndd_S (by decide) rfl hv q
theorem dn_S_mss {A : Hp → Prop} (ho : H a = some (.dK (dk kd_S vs))) (hv : vs.length = 13) (q : A (upd H a (.dK (dk kd_S (vs ++ [y]))))) : ∃ a' H', V.ref a = .ref a' ∧ DPut H a' (.str "mss") y H' ∧ A H' := g_dnew ho ndd_S (by decide) (by rw [hv]; rfl) q
theorem dg_S_scale {A : V → Prop} (ho : H a = some (.dK (dk kd_S vs))) (hv : vs[14]? = some v) (q : A v) : ∃ a' v', V.ref a = .ref a' ∧ DGet H a' (.str "scale") (some v') ∧ A v' := g_dget ho ndd_S rfl hv q
theorem dp_S_scale {A : Hp → Prop} (ho : H a = some (.dK (dk kd_S vs))) (hv : 14 < vs.length) (q : A (upd H a (.dK (dk kd_S (vs.set 14 y))))) : ∃ a' H', V.ref a = .ref a' ∧ DPut H a' (.str "scale") y H' ∧ A H' := g_dput ho ndd_S (by decide) rfl hv q
theorem dn_S_scale {A : Hp → Prop} (ho : H a = some (.dK (dk kd_S vs))) (hv : vs.length = 14) (q : A (upd H a (.dK (dk kd_S (vs ++ [y]))))) : ∃ a' H', V.ref a = .ref a' ∧ DPut H a' (.str "scale") y H' ∧ A H' := g_dnew ho ndd_S (by decide) (by rw [hv]; rfl) q
theorem dg_S_ranges {A : V → Prop} (ho : H a = some (.dK (dk kd_S vs))) (hv : vs[15]? = some v) (q : A v) : ∃ a' v', V.ref a = .ref a' ∧ DGet H a' (.str "ranges") (some v') ∧ A v' := g_dget ho ndd_S rfl hv q
theorem dp_S_ranges {A : Hp → Prop} (ho : H a = some (.dK (dk kd_S vs))) (hv : 15 < vs.length) (q : A (upd H a (.dK (dk kd_S (vs.set 15 y))))) : ∃ a' H', V.ref a = .ref a' ∧ DPut H a' (.str "ranges") y H' ∧ A H' := g_dput ho ndd_S (by decide) rfl hv q
theorem dn_S_ranges {A : Hp → Prop} (ho : H a = some (.dK (dk kd_S vs))) (hv : vs.length = 15) (q : A (upd H a (.dK (dk kd_S (vs ++ [y]))))) : ∃ a' H', V.ref a = .ref a' ∧ DPut H a' (.str "ranges") y H' ∧ A H' := g_dnew ho ndd_S (by decide) (by rw [hv]; rfl) q
theorem dg_S_stamp {A : V → Prop} (ho : H a = some (.dK (dk kd_S vs))) (hv : vs[16]? = some v) (q : A v) : ∃ a' v', V.ref a = .ref a' ∧ DGet H a' (.str "stamp") (some v') ∧ A v' := g_dget ho ndd_S rfl hv q
theorem dp_S_stamp {A : Hp → Prop} (ho : H a = some (.dK (dk kd_S vs))) (hv : 16 < vs.length) (q : A (upd H a (.dK (dk kd_S (vs.set 16 y))))) : ∃ a' H', V.ref a = .ref a' ∧ DPut H a' (.str "stamp") y H' ∧ A H' := g_dput ho ndd_S (by decide) rfl hv q
theorem dn_S_stamp {A : Hp → Prop} (ho : H a = some (.dK (dk kd_S vs))) (hv : vs.length = 16) (q : A (upd H a (.dK (dk kd_S (vs ++ [y]))))) : ∃ a' H', V.ref a = .ref a' ∧ DPut H a' (.str "stamp") y H' ∧ A H' := g_dnew ho ndd_S (by decide) (by rw [hv]; rfl) q
theorem dg_S_data {A : V → Prop} (ho : H a = some (.dK (dk kd_S vs))) (hv : vs[17]? = some v) (q : A v) : ∃ a' v', V.ref a = .ref a' ∧ DGet H a' (.str "data") (some v') ∧ A v' := g_dget ho ndd_S rfl hv q
theorem dp_S_data {A : Hp → Prop} (ho : H a = some (.dK (dk kd_S vs))) (hv : 17 < vs.length) (q : A (upd H a (.dK (dk kd_S (vs.set 17 y))))) : ∃ a' H', V.ref a = .ref a' ∧ DPut H a' (.str "data") y H' ∧ A H' := g_dput ho ndd_S (by decide) rfl hv q
theorem dn_S_data {A : Hp → Prop} (ho : H a = some (.dK (dk kd_S vs))) (hv : vs.length = 17) (q : A (upd H a (.dK (dk kd_S (vs ++ [y]))))) : ∃ a' H', V.ref a = .ref a' ∧ DPut H a' (.str "data") y H' ∧ A H' := g_dnew ho ndd_S (by decide) (by rw [hv]; rfl) q
end
local macro_rules | `(tactic| walk_at "use") => `(tactic| first | ((with_reducible refine' dg_S_source ?ho_ ?hv_ ?_); (case ho_ => first | assumption | exact upd_same); (case hv_ => exact rfl)) | ((with_reducible refine' dg_S_target ?ho_ ?hv_ ?_); (case ho_ => first | assumption | exact upd_same); (case hv_ => exact rfl)) | ((with_reducible refine' dg_S_seq ?ho_ ?hv_ ?_); (case ho_ => first | assumption | exact upd_same); (case hv_ => exact rfl)) | ((with_reducible refine' dg_S_count ?ho_ ?hv_ ?_); (case ho_ => first | assumption | exact upd_same); (case hv_ => exact rfl)) | ((with_reducible refine' dg_S_echo ?ho_ ?hv_ ?_); (case ho_ => first | assumption | exact upd_same); (case hv_ => exact rfl)) | ((with_reducible refine' dg_S_ack ?ho_ ?hv_ ?_); (case ho_ => first | assumption | exact upd_same); (case hv_ => exact rfl)) | ((with_reducible refine' dg_S_syn ?ho_ ?hv_ ?_); (case ho_ => first | assumption | exact upd_same); (case hv_ => exact rfl)) | ((with_reducible refine' dg_S_fin ?ho_ ?hv_ ?_); (case ho_ => first | assumption | exact upd_same); (case hv_ => exact rfl)) | ((with_reducible refine' dg_S_reset ?ho_ ?hv_ ?_); (case ho_ => first | assumption | exact upd_same); (case hv_ => exact rfl)) | ((with_reducible refine' dg_S_marked ?ho_ ?hv_ ?_); (case ho_ => first | assumption | exact upd_same); (case hv_ => exact rfl)) | ((with_reducible refine' dg_S_cut ?ho_ ?hv_ ?_); (case ho_ => first | assumption | exact upd_same); (case hv_ => exact rfl)) | ((with_reducible refine' dg_S_ranges_known ?ho_ ?hv_ ?_); (case ho_ => first | assumption | exact upd_same); (case hv_ => exact rfl)) | ((with_reducible refine' dg_S_window ?ho_ ?hv_ ?_); (case ho_ => first | assumption | exact upd_same); (case hv_ => exact rfl)) | ((with_reducible refine' dg_S_mss ?ho_ ?hv_ ?_); (case ho_ => first | assumption | exact upd_same); (case hv_ => exact rfl)) | ((with_reducible refine' dg_S_scale ?ho_ ?hv_ ?_); (case ho_ => first | assumption | exact upd_same); (case hv_ => exact rfl)) | ((with_reducible refine' dg_S_ranges ?ho_ ?hv_ ?_); (case ho_ => first | assumption | exact upd_same); (case hv_ => exact rfl)) | ((with_reducible refine' dg_S_stamp ?ho_ ?hv_ ?_); (case ho_ => first | assumption | exact upd_same); (case hv_ => exact rfl)) | ((with_reducible refine' dg_S_data ?ho_ ?hv_ ?_); (case ho_ => first | assumption | exact upd_same); (case hv_ => exact rfl)) | ((with_reducible refine' dn_S_source ?ho_ ?hv_ ?_); (case ho_ => first | assumption | exact upd_same); (case hv_ => exact rfl)) | ((with_reducible refine' dn_S_target ?ho_ ?hv_ ?_); (case ho_ => first | assumption | exact upd_same); (case hv_ => exact rfl)) | ((with_reducible refine' dn_S_seq ?ho_ ?hv_ ?_); (case ho_ => first | assumption | exact upd_same); (case hv_ => exact rfl)) | ((with_reducible refine' dn_S_count ?ho_ ?hv_ ?_); (case ho_ => first | assumption | exact upd_same); (case hv_ => exact rfl)) | ((with_reducible refine' dn_S_echo ?ho_ ?hv_ ?_); (case ho_ => first | assumption | exact upd_same); (case hv_ => exact rfl)) | ((with_reducible refine' dn_S_ack ?ho_ ?hv_ ?_); (case ho_ => first | assumption | exact upd_same); (case hv_ => exact rfl)) | ((with_reducible refine' dn_S_syn ?ho_ ?hv_ ?_); (case ho_ => first | assumption | exact upd_same); (case hv_ => exact rfl)) | ((with_reducible refine' dn_S_fin ?ho_ ?hv_ ?_); (case ho_ => first | assumption | exact upd_same); (case hv_ => exact rfl)) | ((with_reducible refine' dn_S_reset ?ho_ ?hv_ ?_); (case ho_ => first | assumption | exact upd_same); (case hv_ => exact rfl)) | ((with_reducible refine' dn_S_marked ?ho_ ?hv_ ?_); (case ho_ => first | assumption | exact upd_same); (case hv_ => exact rfl)) | ((with_reducible refine' dn_S_cut ?ho_ ?hv_ ?_); (case ho_ => first | assumption | exact upd_same); (case hv_ => exact rfl)) | ((with_reducible refine' dn_S_ranges_known ?ho_ ?hv_ ?_); (case ho_ => first | assumption | exact upd_same); (case hv_ => exact rfl)) | ((with_reducible refine' dn_S_window ?ho_ ?hv_ ?_); (case ho_ => first | assumption | exact upd_same); (case hv_ => exact rfl)) | ((with_reducible refine' dn_S_mss ?ho_ ?hv_ ?_); (case ho_ => first | assumption | exact upd_same); (case hv_ => exact rfl)) | ((with_reducible refine' dn_S_scale ?ho_ ?hv_ ?_); (case ho_ => first | assumption | exact upd_same); (case hv_ => exact rfl)) | ((with_reducible refine' dn_S_ranges ?ho_ ?hv_ ?_); (case ho_ => first | assumption | exact upd_same); (case hv_ => exact rfl)) | ((with_reducible refine' dn_S_stamp ?ho_ ?hv_ ?_); (case ho_ => first | assumption | exact upd_same); (case hv_ => exact rfl)) | ((with_reducible refine' dn_S_data ?ho_ ?hv_ ?_); (case ho_ => first | assumption | exact upd_same); (case hv_ => exact rfl)) | ((with_reducible refine' dp_S_source ?ho_ ?hv_ ?_); (case ho_ => first | assumption | exact upd_same); (case hv_ => exact Nat.le_of_ble_eq_true rfl)) | ((with_reducible refine' dp_S_target ?ho_ ?hv_ ?_); (case ho_ => first | assumption | exact upd_same); (case hv_ => exact Nat.le_of_ble_eq_true rfl)) | ((with_reducible refine' dp_S_seq ?ho_ ?hv_ ?_); (case ho_ => first | assumption | exact upd_same); (case hv_ => exact Nat.le_of_ble_eq_true rfl)) | ((with_reducible refine' dp_S_count ?ho_ ?hv_ ?_); (case ho_ => first | assumption | exact upd_same); (case hv_ => exact Nat.le_of_ble_eq_true rfl)) | ((with_reducible refine' dp_S_echo ?ho_ ?hv_ ?_); (case ho_ => first | assumption | exact upd_same); (case hv_ => exact Nat.le_of_ble_eq_true rfl)) | ((with_reducible refine' dp_S_ack ?ho_ ?hv_ ?_); (case ho_ => first | assumption | exact upd_same); (case hv_ => exact Nat.le_of_ble_eq_true rfl)) | ((with_reducible refine' dp_S_syn ?ho_ ?hv_ ?_); (case ho_ => first | assumption | exact upd_same); (case hv_ => exact Nat.le_of_ble_eq_true rfl)) | ((with_reducible refine' dp_S_fin ?ho_ ?hv_ ?_); (case ho_ => first | assumption | exact upd_same); (case hv_ => exact Nat.le_of_ble_eq_true rfl)) | ((with_reducible refine' dp_S_reset ?ho_ ?hv_ ?_); (case ho_ => first | assumption | exact upd_same); (case hv_ => exact Nat.le_of_ble_eq_true rfl)) | ((with_reducible refine' dp_S_marked ?ho_ ?hv_ ?_); (case ho_ => first | assumption | exact upd_same); (case hv_ => exact Nat.le_of_ble_eq_true rfl)) | ((with_reducible refine' dp_S_cut ?ho_ ?hv_ ?_); (case ho_ => first | assumption | exact upd_same); (case hv_ => exact Nat.le_of_ble_eq_true rfl)) | ((with_reducible refine' dp_S_ranges_known ?ho_ ?hv_ ?_); (case ho_ => first | assumption | exact upd_same); (case hv_ => exact Nat.le_of_ble_eq_true rfl)) | ((with_reducible refine' dp_S_window ?ho_ ?hv_ ?_); (case ho_ => first | assumption | exact upd_same); (case hv_ => exact Nat.le_of_ble_eq_true rfl)) | ((with_reducible refine' dp_S_mss ?ho_ ?hv_ ?_); (case ho_ => first | assumption | exact upd_same); (case hv_ => exact Nat.le_of_ble_eq_true rfl)) | ((with_reducible refine' dp_S_scale ?ho_ ?hv_ ?_); (case ho_ => first | assumption | exact upd_same); (case hv_ => exact Nat.le_of_ble_eq_true rfl)) | ((with_reducible refine' dp_S_ranges ?ho_ ?hv_ ?_); (case ho_ => first | assumption | exact upd_same); (case hv_ => exact Nat.le_of_ble_eq_true rfl)) | ((with_reducible refine' dp_S_stamp ?ho_ ?hv_ ?_); (case ho_ => first | assumption | exact upd_same); (case hv_ => exact Nat.le_of_ble_eq_true rfl)) | ((with_reducible refine' dp_S_data ?ho_ ?hv_ ?_); (case ho_ => first | assumption | exact upd_same); (case hv_ => exact Nat.le_of_ble_eq_true rfl)))
local macro_rules | `(tactic| walk_at "use") => `(tactic| with_reducible first | refine g_dgetT ?_ | refine g_dputT ?_)
end My
namespace My
open PySem PySem.Spec L2
local macro_rules | `(tactic| walk_at "side") => `(tactic| first | assumption | decide | omega | exact ⟨by decide, by decide⟩ | exact ⟨by decide, by decide, by decide⟩ | decide +kernel | exact cdivW (by decide +kernel) (by decide +kernel) | exact Or.inl ⟨by omega, by omega⟩ | exact Or.inr ⟨by omega, by omega⟩ | (simp only [List.length_map, List.length_cons, List.length_nil, List.length_append]; omega))
local macro_rules | `(tactic| walk_at "fact") => `(tactic| first | assumption | omega | with_reducible rfl)
local macro_rules | `(tactic| walk_at "use") => `(tactic| fail "use")
local macro_rules | `(tactic| walk_at "go1") => `(tactic| with_reducible first | refine g_seq ?_ | refine g_asg ?_ | refine g_ret ?_ | refine g_ifS ?_ | refine g_drop ?_ | refine g_star ?_ | refine g_nx ?_ | refine g_rt ?_ | refine g_bkE ?_ | refine g_ctE ?_ | refine g_next ?_ | refine g_retN ?_ | refine g_brk ?_ | refine g_ct ?_ | refine g_c ?_ | refine g_op ?_ | refine g_un ?_ | refine g_rI0 ?_ | refine g_rU ?_ | refine g_rEqI ?_ | refine g_rNeI ?_ | refine g_isN ?_ | refine g_rIsB ?_ | refine g_rNotB ?_ | refine g_test ?_ | refine g_B ?_ | refine g_bl ?_ | refine g_and ?_ | refine g_or ?_ | refine g_not ?_ | refine g_andV ?_ | refine g_orV ?_ | refine g_notV ?_ | refine g_if ?_ | refine g_chain ?_ | refine g_yes ?_ | refine g_lc ?_ | refine g_revR ?_ | refine g_rng1 ?_ | refine g_iList ?_ | refine g_nil ?_ | refine g_cons ?_ | refine g_tup ?_ | refine g_lst ?_ | refine g_call ?_ | refine g_CB ?_ | refine g_sl ?_ | refine g_noPart ?_ | refine g_part ?_ | refine g_intE ?_ | refine g_ref ?_ | refine g_fld ?_ | refine g_sfld ?_ | refine g_meth ?_ | refine g_make ?_ | refine g_prop ?_  | refine g_ipI ?_ | refine g_int1 ?_ | refine g_int1B ?_ | refine g_one ?_ | refine g_two ?_ | refine g_isiI ?_ | refine g_isiIB ?_ | refine g_isiB ?_ | refine g_BM ?_ | refine g_BM0 ?_ | refine g_sub ?_)
local macro_rules | `(tactic| walk_at "go") => `(tactic| repeat (first | walk_at "go1" | ((with_reducible refine' g_nameE ?sd_ ?_); case sd_ => dsimp only [List.set_cons_succ, List.set_cons_zero]) | ((with_reducible refine' g_var ?sd_ ?_); case sd_ => exact rfl) | ((with_reducible refine' g_aug ?sd_ ?_); case sd_ => exact rfl) | ((with_reducible refine' g_rI ?sd_ ?_); case sd_ => walk_at "side") | ((with_reducible refine' g_dT ?sd_ ?_); case sd_ => walk_at "fact") | ((with_reducible refine' g_dF ?sd_ ?_); case sd_ => walk_at "fact") | ((with_reducible refine' g_nT ?sd_ ?_); case sd_ => walk_at "fact") | ((with_reducible refine' g_nF ?sd_ ?_); case sd_ => walk_at "fact") | (with_reducible refine g_iT rfl ?_) | (with_reducible refine g_iF rfl ?_) | walk_at "use"))
local macro_rules | `(tactic| walk_at "use") => `(tactic| first | ((with_reducible refine' fd_Segment_source ?ho_ ?hv_ ?_); (case ho_ => first | assumption | exact upd_same); (case hv_ => exact rfl)) | ((with_reducible refine' fd_Segment_target ?ho_ ?hv_ ?_); (case ho_ => first | assumption | exact upd_same); (case hv_ => exact rfl)) | ((with_reducible refine' fd_Segment_seq ?ho_ ?hv_ ?_); (case ho_ => first | assumption | exact upd_same); (case hv_ => exact rfl)) | ((with_reducible refine' fd_Segment_count ?ho_ ?hv_ ?_); (case ho_ => first | assumption | exact upd_same); (case hv_ => exact rfl)) | ((with_reducible refine' fd_Segment_echo ?ho_ ?hv_ ?_); (case ho_ => first | assumption | exact upd_same); (case hv_ => exact rfl)) | ((with_reducible refine' fd_Segment_ack ?ho_ ?hv_ ?_); (case ho_ => first | assumption | exact upd_same); (case hv_ => exact rfl)) | ((with_reducible refine' fd_Segment_syn ?ho_ ?hv_ ?_); (case ho_ => first | assumption | exact upd_same); (case hv_ => exact rfl)) | ((with_reducible refine' fd_Segment_fin ?ho_ ?hv_ ?_); (case ho_ => first | assumption | exact upd_same); (case hv_ => exact rfl)) | ((with_reducible refine' fd_Segment_reset ?ho_ ?hv_ ?_); (case ho_ => first | assumption | exact upd_same); (case hv_ => exact rfl)) | ((with_reducible refine' fd_Segment_marked ?ho_ ?hv_ ?_); (case ho_ => first | assumption | exact upd_same); (case hv_ => exact rfl)) | ((with_reducible refine' fd_Segment_cut ?ho_ ?hv_ ?_); (case ho_ => first | assumption | exact upd_same); (case hv_ => exact rfl)) | ((with_reducible refine' fd_Segment_window ?ho_ ?hv_ ?_); (case ho_ => first | assumption | exact upd_same); (case hv_ => exact rfl)) | ((with_reducible refine' fd_Segment_mss ?ho_ ?hv_ ?_); (case ho_ => first | assumption | exact upd_same); (case hv_ => exact rfl)) | ((with_reducible refine' fd_Segment_scale ?ho_ ?hv_ ?_); (case ho_ => first | assumption | exact upd_same); (case hv_ => exact rfl)) | ((with_reducible refine' fd_Segment_ranges_known ?ho_ ?hv_ ?_); (case ho_ => first | assumption | exact upd_same); (case hv_ => exact rfl)) | ((with_reducible refine' fd_Segment_ranges ?ho_ ?hv_ ?_); (case ho_ => first | assumption | exact upd_same); (case hv_ => exact rfl)) | ((with_reducible refine' fd_Segment_stamp ?ho_ ?hv_ ?_); (case ho_ => first | assumption | exact upd_same); (case hv_ => exact rfl)) | ((with_reducible refine' fd_Segment_data ?ho_ ?hv_ ?_); (case ho_ => first | assumption | exact upd_same); (case hv_ => exact rfl)) | ((with_reducible refine' nw_Segment_source ?ho_ ?hv_ ?_); (case ho_ => first | assumption | exact upd_same); (case hv_ => exact rfl)) | ((with_reducible refine' nw_Segment_target ?ho_ ?hv_ ?_); (case ho_ => first | assumption | exact upd_same); (case hv_ => exact rfl)) | ((with_reducible refine' nw_Segment_seq ?ho_ ?hv_ ?_); (case ho_ => first | assumption | exact upd_same); (case hv_ => exact rfl)) | ((with_reducible refine' nw_Segment_count ?ho_ ?hv_ ?_); (case ho_ => first | assumption | exact upd_same); (case hv_ => exact rfl)) | ((with_reducible refine' nw_Segment_echo ?ho_ ?hv_ ?_); (case ho_ => first | assumption | exact upd_same); (case hv_ => exact rfl)) | ((with_reducible refine' nw_Segment_ack ?ho_ ?hv_ ?_); (case ho_ => first | assumption | exact upd_same); (case hv_ => exact rfl)) | ((with_reducible refine' nw_Segment_syn ?ho_ ?hv_ ?_); (case ho_ => first | assumption | exact upd_same); (case hv_ => exact rfl)) | ((with_reducible refine' nw_Segment_fin ?ho_ ?hv_ ?_); (case ho_ => first | assumption | exact upd_same); (case hv_ => exact rfl)) | ((with_reducible refine' nw_Segment_reset ?ho_ ?hv_ ?_); (case ho_ => first | assumption | exact upd_same); (case hv_ => exact rfl)) | ((with_reducible refine' nw_Segment_marked ?ho_ ?hv_ ?_); (case ho_ => first | assumption | exact upd_same); (case hv_ => exact rfl)) | ((with_reducible refine' nw_Segment_cut ?ho_ ?hv_ ?_); (case ho_ => first | assumption | exact upd_same); (case hv_ => exact rfl)) | ((with_reducible refine' nw_Segment_window ?ho_ ?hv_ ?_); (case ho_ => first | assumption | exact upd_same); (case hv_ => exact rfl)) | ((with_reducible refine' nw_Segment_mss ?ho_ ?hv_ ?_); (case ho_ => first | assumption | exact upd_same); (case hv_ => exact rfl)) | ((with_reducible refine' nw_Segment_scale ?ho_ ?hv_ ?_); (case ho_ => first | assumption | exact upd_same); (case hv_ => exact rfl)) | ((with_reducible refine' nw_Segment_ranges_known ?ho_ ?hv_ ?_); (case ho_ => first | assumption | exact upd_same); (case hv_ => exact rfl)) | ((with_reducible refine' nw_Segment_ranges ?ho_ ?hv_ ?_); (case ho_ => first | assumption | exact upd_same); (case hv_ => exact rfl)) | ((with_reducible refine' nw_Segment_stamp ?ho_ ?hv_ ?_); (case ho_ => first | assumption | exact upd_same); (case hv_ => exact rfl)) | ((with_reducible refine' nw_Segment_data ?ho_ ?hv_ ?_); (case ho_ => first | assumption | exact upd_same); (case hv_ => exact rfl)) | ((with_reducible refine' st_Segment_source ?ho_ ?hv_ ?_); (case ho_ => first | assumption | exact upd_same); (case hv_ => exact Nat.le_of_ble_eq_true rfl)) | ((with_reducible refine' st_Segment_target ?ho_ ?hv_ ?_); (case ho_ => first | assumption | exact upd_same); (case hv_ => exact Nat.le_of_ble_eq_true rfl)) | ((with_reducible refine' st_Segment_seq ?ho_ ?hv_ ?_); (case ho_ => first | assumption | exact upd_same); (case hv_ => exact Nat.le_of_ble_eq_true rfl)) | ((with_reducible refine' st_Segment_count ?ho_ ?hv_ ?_); (case ho_ => first | assumption | exact upd_same); (case hv_ => exact Nat.le_of_ble_eq_true rfl)) | ((with_reducible refine' st_Segment_echo ?ho_ ?hv_ ?_); (case ho_ => first | assumption | exact upd_same); (case hv_ => exact Nat.le_of_ble_eq_true rfl)) | ((with_reducible refine' st_Segment_ack ?ho_ ?hv_ ?_); (case ho_ => first | assumption | exact upd_same); (case hv_ => exact Nat.le_of_ble_eq_true rfl)) | ((with_reducible refine' st_Segment_syn ?ho_ ?hv_ ?_); (case ho_ => first | assumption | exact upd_same); (case hv_ => exact Nat.le_of_ble_eq_true rfl)) | ((with_reducible refine' st_Segment_fin ?ho_ ?hv_ ?_); (case ho_ => first | assumption | exact upd_same); (case hv_ => exact Nat.le_of_ble_eq_true rfl)) | ((with_reducible refine' st_Segment_reset ?ho_ ?hv_ ?_); (case ho_ => first | assumption | exact upd_same); (case hv_ => exact Nat.le_of_ble_eq_true rfl)) | ((with_reducible refine' st_Segment_marked ?ho_ ?hv_ ?_); (case ho_ => first | assumption | exact upd_same); (case hv_ => exact Nat.le_of_ble_eq_true rfl)) | ((with_reducible refine' st_Segment_cut ?ho_ ?hv_ ?_); (case ho_ => first | assumption | exact upd_same); (case hv_ => exact Nat.le_of_ble_eq_true rfl)) | ((with_reducible refine' st_Segment_window ?ho_ ?hv_ ?_); (case ho_ => first | assumption | exact upd_same); (case hv_ => exact Nat.le_of_ble_eq_true rfl)) | ((with_reducible refine' st_Segment_mss ?ho_ ?hv_ ?_); (case ho_ => first | assumption | exact upd_same); (case hv_ => exact Nat.le_of_ble_eq_true rfl)) | ((with_reducible refine' st_Segment_scale ?ho_ ?hv_ ?_); (case ho_ => first | assumption | exact upd_same); (case hv_ => exact Nat.le_of_ble_eq_true rfl)) | ((with_reducible refine' st_Segment_ranges_known ?ho_ ?hv_ ?_); (case ho_ => first | assumption | exact upd_same); (case hv_ => exact Nat.le_of_ble_eq_true rfl)) | ((with_reducible refine' st_Segment_ranges ?ho_ ?hv_ ?_); (case ho_ => first | assumption | exact upd_same); (case hv_ => exact Nat.le_of_ble_eq_true rfl)) | ((with_reducible refine' st_Segment_stamp ?ho_ ?hv_ ?_); (case ho_ => first | assumption | exact upd_same); (case hv_ => exact Nat.le_of_ble_eq_true rfl)) | ((with_reducible refine' st_Segment_data ?ho_ ?hv_ ?_); (case ho_ => first | assumption | exact upd_same); (case hv_ => exact Nat.le_of_ble_eq_true rfl)))
local macro_rules | `(tactic| walk_at "use") => `(tactic| first | ((with_reducible refine' dg_S_source ?ho_ ?hv_ ?_); (case ho_ => first | assumption | exact upd_same); (case hv_ => exact rfl)) | ((with_reducible refine' dg_S_target ?ho_ ?hv_ ?_); (case ho_ => first | assumption | exact upd_same); (case hv_ => exact rfl)) | ((with_reducible refine' dg_S_seq ?ho_ ?hv_ ?_); (case ho_ => first | assumption | exact upd_same); (case hv_ => exact rfl)) | ((with_reducible refine' dg_S_count ?ho_ ?hv_ ?_); (case ho_ => first | assumption | exact upd_same); (case hv_ => exact rfl)) | ((with_reducible refine' dg_S_echo ?ho_ ?hv_ ?_); (case ho_ => first | assumption | exact upd_same); (case hv_ => exact rfl)) | ((with_reducible refine' dg_S_ack ?ho_ ?hv_ ?_); (case ho_ => first | assumption | exact upd_same); (case hv_ => exact rfl)) | ((with_reducible refine' dg_S_syn ?ho_ ?hv_ ?_); (case ho_ => first | assumption | exact upd_same); (case hv_ => exact rfl)) | ((with_reducible refine' dg_S_fin ?ho_ ?hv_ ?_); (case ho_ => first | assumption | exact upd_same); (case hv_ => exact rfl)) | ((with_reducible refine' dg_S_reset ?ho_ ?hv_ ?_); (case ho_ => first | assumption | exact upd_same); (case hv_ => exact rfl)) | ((with_reducible refine' dg_S_marked ?ho_ ?hv_ ?_); (case ho_ => first | assumption | exact upd_same); (case hv_ => exact rfl)) | ((with_reducible refine' dg_S_cut ?ho_ ?hv_ ?_); (case ho_ => first | assumption | exact upd_same); (case hv_ => exact rfl)) | ((with_reducible refine' dg_S_ranges_known ?ho_ ?hv_ ?_); (case ho_ => first | assumption | exact upd_same); (case hv_ => exact rfl)) | ((with_reducible refine' dg_S_window ?ho_ ?hv_ ?_); (case ho_ => first | assumption | exact upd_same); (case hv_ => exact rfl)) | ((with_reducible refine' dg_S_mss ?ho_ ?hv_ ?_); (case ho_ => first | assumption | exact upd_same); (case hv_ => exact rfl)) | ((with_reducible refine' dg_S_scale ?ho_ ?hv_ ?_); (case ho_ => first | assumption | exact upd_same); (case hv_ => exact rfl)) | ((with_reducible refine' dg_S_ranges ?ho_ ?hv_ ?_); (case ho_ => first | assumption | exact upd_same); (case hv_ => exact rfl)) | ((with_reducible refine' dg_S_stamp ?ho_ ?hv_ ?_); (case ho_ => first | assumption | exact upd_same); (case hv_ => exact rfl)) | ((with_reducible refine' dg_S_data ?ho_ ?hv_ ?_); (case ho_ => first | assumption | exact upd_same); (case hv_ => exact rfl)) | ((with_reducible refine' dn_S_source ?ho_ ?hv_ ?_); (case ho_ => first | assumption | exact upd_same); (case hv_ => exact rfl)) | ((with_reducible refine' dn_S_target ?ho_ ?hv_ ?_); (case ho_ => first | assumption | exact upd_same); (case hv_ => exact rfl)) | ((with_reducible refine' dn_S_seq ?ho_ ?hv_ ?_); (case ho_ => first | assumption | exact upd_same); (case hv_ => exact rfl)) | ((with_reducible refine' dn_S_count ?ho_ ?hv_ ?_); (case ho_ => first | assumption | exact upd_same); (case hv_ => exact rfl)) | ((with_reducible refine' dn_S_echo ?ho_ ?hv_ ?_); (case ho_ => first | assumption | exact upd_same); (case hv_ => exact rfl)) | ((with_reducible refine' dn_S_ack ?ho_ ?hv_ ?_); (case ho_ => first | assumption | exact upd_same); (case hv_ => exact rfl)) | ((with_reducible refine' dn_S_syn ?ho_ ?hv_ ?_); (case ho_ => first | assumption | exact upd_same); (case hv_ => exact rfl)) | ((with_reducible refine' dn_S_fin ?ho_ ?hv_ ?_); (case ho_ => first | assumption | exact upd_same); (case hv_ => exact rfl)) | ((with_reducible refine' dn_S_reset ?ho_ ?hv_ ?_); (case ho_ => first | assumption | exact upd_same); (case hv_ => exact rfl)) | ((with_reducible refine' dn_S_marked ?ho_ ?hv_ ?_); (case ho_ => first | assumption | exact upd_same); (case hv_ => exact rfl)) | ((with_reducible refine' dn_S_cut ?ho_ ?hv_ ?_); (case ho_ => first | assumption | exact upd_same); (case hv_ => exact rfl)) | ((with_reducible refine' dn_S_ranges_known ?ho_ ?hv_ ?_); (case ho_ => first | assumption | exact upd_same); (case hv_ => exact rfl)) | ((with_reducible refine' dn_S_window ?ho_ ?hv_ ?_); (case ho_ => first | assumption | exact upd_same); (case hv_ => exact rfl)) | ((with_reducible refine' dn_S_mss ?ho_ ?hv_ ?_); (case ho_ => first | assumption | exact upd_same); (case hv_ => exact rfl)) | ((with_reducible refine' dn_S_scale ?ho_ ?hv_ ?_); (case ho_ => first | assumption | exact upd_same); (case hv_ => exact rfl)) | ((with_reducible refine' dn_S_ranges ?ho_ ?hv_ ?_); (case ho_ => first | assumption | exact upd_same); (case hv_ => exact rfl)) | ((with_reducible refine' dn_S_stamp ?ho_ ?hv_ ?_); (case ho_ => first | assumption | exact upd_same); (case hv_ => exact rfl)) | ((with_reducible refine' dn_S_data ?ho_ ?hv_ ?_); (case ho_ => first | assumption | exact upd_same); (case hv_ => exact rfl)) | ((with_reducible refine' dp_S_source ?ho_ ?hv_ ?_); (case ho_ => first | assumption | exact upd_same); (case hv_ => exact Nat.le_of_ble_eq_true rfl)) | ((with_reducible refine' dp_S_target ?ho_ ?hv_ ?_); (case ho_ => first | assumption | exact upd_same); (case hv_ => exact Nat.le_of_ble_eq_true rfl)) | ((with_reducible refine' dp_S_seq ?ho_ ?hv_ ?_); (case ho_ => first | assumption | exact upd_same); (case hv_ => exact Nat.le_of_ble_eq_true rfl)) | ((with_reducible refine' dp_S_count ?ho_ ?hv_ ?_); (case ho_ => first | assumption | exact upd_same); (case hv_ => exact Nat.le_of_ble_eq_true rfl)) | ((with_reducible refine' dp_S_echo ?ho_ ?hv_ ?_); (case ho_ => first | assumption | exact upd_same); (case hv_ => exact Nat.le_of_ble_eq_true rfl)) | ((with_reducible refine' dp_S_ack ?ho_ ?hv_ ?_); (case ho_ => first | assumption | exact upd_same); (case hv_ => exact Nat.le_of_ble_eq_true rfl)) | ((with_reducible refine' dp_S_syn ?ho_ ?hv_ ?_); (case ho_ => first | assumption | exact upd_same); (case hv_ => exact Nat.le_of_ble_eq_true rfl)) | ((with_reducible refine' dp_S_fin ?ho_ ?hv_ ?_); (case ho_ => first | assumption | exact upd_same); (case hv_ => exact Nat.le_of_ble_eq_true rfl)) | ((with_reducible refine' dp_S_reset ?ho_ ?hv_ ?_); (case ho_ => first | assumption | exact upd_same); (case hv_ => exact Nat.le_of_ble_eq_true rfl)) | ((with_reducible refine' dp_S_marked ?ho_ ?hv_ ?_); (case ho_ => first | assumption | exact upd_same); (case hv_ => exact Nat.le_of_ble_eq_true rfl)) | ((with_reducible refine' dp_S_cut ?ho_ ?hv_ ?_); (case ho_ => first | assumption | exact upd_same); (case hv_ => exact Nat.le_of_ble_eq_true rfl)) | ((with_reducible refine' dp_S_ranges_known ?ho_ ?hv_ ?_); (case ho_ => first | assumption | exact upd_same); (case hv_ => exact Nat.le_of_ble_eq_true rfl)) | ((with_reducible refine' dp_S_window ?ho_ ?hv_ ?_); (case ho_ => first | assumption | exact upd_same); (case hv_ => exact Nat.le_of_ble_eq_true rfl)) | ((with_reducible refine' dp_S_mss ?ho_ ?hv_ ?_); (case ho_ => first | assumption | exact upd_same); (case hv_ => exact Nat.le_of_ble_eq_true rfl)) | ((with_reducible refine' dp_S_scale ?ho_ ?hv_ ?_); (case ho_ => first | assumption | exact upd_same); (case hv_ => exact Nat.le_of_ble_eq_true rfl)) | ((with_reducible refine' dp_S_ranges ?ho_ ?hv_ ?_); (case ho_ => first | assumption | exact upd_same); (case hv_ => exact Nat.le_of_ble_eq_true rfl)) | ((with_reducible refine' dp_S_stamp ?ho_ ?hv_ ?_); (case ho_ => first | assumption | exact upd_same); (case hv_ => exact Nat.le_of_ble_eq_true rfl)) | ((with_reducible refine' dp_S_data ?ho_ ?hv_ ?_); (case ho_ => first | assumption | exact upd_same); (case hv_ => exact Nat.le_of_ble_eq_true rfl)))
local macro_rules | `(tactic| walk_at "use") => `(tactic| with_reducible first | refine g_dgetT ?_ | refine g_dputT ?_)
section
variable {P : Program} {w : World} {K : PySem.W.Frag} {mg : Str → Option Value} {base : Heap}
/-! ### lists of pairs in the heap -/
def tupP (p : Int × Int) : HO := .tup [.int p.1, .int p.2]
def Prs (H : Hp) (vs : List V) (ps : List (Int × Int)) : Prop := vs.length = ps.length ∧ ∀ (i : Nat) p, ps[i]? = some p → ∃ t, vs[i]? = some (V.ref t) ∧ H t = some (tupP p)
theorem Prs.nil {H : Hp} : Prs H [] [] := ⟨rfl, fun i p h => by simp at h⟩
theorem Prs.same {H H' : Hp} {vs : List V} {ps : List (Int × Int)} (h : Prs H vs ps) (s : Same H H') : Prs H' vs ps := ⟨h.1, fun i p e => by
  obtain ⟨t, h1, h2⟩ := h.2 i p e
  exact ⟨t, h1, s _ _ h2⟩⟩
theorem Prs.but {H H' : Hp} {vs : List V} {ps : List (Int × Int)} {a : Addr} {xs : List V} (h : Prs H vs ps) (s : But a H H') (e : H a = some (.lst xs)) : Prs H' vs ps := ⟨h.1, fun i p e2 => by
  obtain ⟨t, h1, h2⟩ := h.2 i p e2
  exact ⟨t, h1, s _ _ (fun z => by rw [z, e] at h2; cases h2) h2⟩⟩
theorem Prs.butD {H H' : Hp} {vs : List V} {ps : List (Int × Int)} {a : Addr} {kvs : List (Key × V)} (h : Prs H vs ps) (s : But a H H') (e : H a = some (.dK kvs)) : Prs H' vs ps := ⟨h.1, fun i p e2 => by
  obtain ⟨t, h1, h2⟩ := h.2 i p e2
  exact ⟨t, h1, s _ _ (fun z => by rw [z, e] at h2; cases h2) h2⟩⟩
theorem Prs.drop {H : Hp} {vs : List V} {ps : List (Int × Int)} (h : Prs H vs ps) (k : Nat) : Prs H (vs.drop k) (ps.drop k) := ⟨by rw [List.length_drop, List.length_drop, h.1], fun i p e => by
  rw [List.getElem?_drop] at e ⊢
  exact h.2 _ p e⟩
theorem Prs.take {H : Hp} {vs : List V} {ps : List (Int × Int)} (h : Prs H vs ps) (k : Nat) : Prs H (vs.take k) (ps.take k) := ⟨by rw [List.length_take, List.length_take, h.1], fun i p e => by
  rw [List.getElem?_take] at e ⊢
  split at e
  · rw [if_pos (by assumption)]
    exact h.2 _ p e
  · cases e⟩
theorem Prs.app {H : Hp} {vs us : List V} {ps qs : List (Int × Int)} (h : Prs H vs ps) (h' : Prs H us qs) : Prs H (vs ++ us) (ps ++ qs) := ⟨by rw [List.length_append, List.length_append, h.1, h'.1], fun i p e => by
  by_cases hi : i < ps.length
  · rw [List.getElem?_append_left hi] at e
    rw [List.getElem?_append_left (by rw [h.1]; exact hi)]
    exact h.2 i p e
  · rw [List.getElem?_append_right (by omega)] at e
    rw [List.getElem?_append_right (by rw [h.1]; omega), h.1]
    exact h'.2 _ p e⟩
theorem Prs.one {H : Hp} {t : Addr} {p : Int × Int} (h : H t = some (tupP p)) : Prs H [V.ref t] [p] := ⟨rfl, fun i q e => by
  match i, e with
  | 0, e => exact ⟨t, rfl, by rw [← Option.some.inj e]; exact h⟩⟩
theorem Prs.cons {H : Hp} {t : Addr} {p : Int × Int} {vs : List V} {ps : List (Int × Int)} (h : H t = some (tupP p)) (h' : Prs H vs ps) : Prs H (V.ref t :: vs) (p :: ps) := (Prs.one h).app h'
theorem Prs.set {H : Hp} {t : Addr} {p : Int × Int} {vs : List V} {ps : List (Int × Int)} (h' : Prs H vs ps) (j : Nat) (h : H t = some (tupP p)) : Prs H (vs.set j (V.ref t)) (ps.set j p) := ⟨by rw [List.length_set, List.length_set, h'.1], fun i q e => by
  by_cases hij : j = i
  · subst hij
    have hl : j < ps.length := by
      obtain ⟨z, _⟩ := List.getElem?_eq_some_iff.mp e
      rw [List.length_set] at z
      exact z
    rw [List.getElem?_set_self hl] at e
    rw [List.getElem?_set_self (by rw [h'.1]; exact hl)]
    exact ⟨t, rfl, by rw [← Option.some.inj e]; exact h⟩
  · rw [List.getElem?_set_ne hij] at e ⊢
    exact h'.2 i q e⟩
theorem cut_nat {xs : List V} {a b : Nat} (hab : a ≤ b) (hb : b ≤ xs.length) : cutV xs (some (a : Int)) (some (b : Int)) = (xs.drop a).take (b - a) := by
  unfold cutV
  rw [HT.sIx_nat, HT.sIx_nat, Nat.min_eq_left (a := a) (by omega), Nat.min_eq_left hb]
theorem cut_to {xs : List V} {b : Nat} (hb : b ≤ xs.length) : cutV xs none (some (b : Int)) = xs.take b := by
  unfold cutV
  rw [HT.sIx_none, HT.sIx_nat, Nat.min_eq_left hb, List.drop_zero, Nat.sub_zero]
theorem cut_from {xs : List V} {a : Nat} (ha : a ≤ xs.length) : cutV xs (some (a : Int)) none = xs.drop a := by
  unfold cutV
  rw [HT.sIx_nat, HT.sIx_none, Nat.min_eq_left ha]
  exact List.take_of_length_le (by rw [List.length_drop]; omega)
/-! == of lists of pairs -/
section
variable {K : PySem.W.Frag} {H : Hp}
def datP (p : Int × Int) : PyData := .tuple [.int p.1, .int p.2]
theorem dp_pair {t : Addr} {p : Int × Int} (h : H t = some (tupP p)) : Dp K H (.ref t) (datP p) := .tup (st h) (.cons (.int _) (.cons (.int _) .nil))
theorem dpAll_pairs : ∀ {vs : List V} {ps : List (Int × Int)}, Prs H vs ps → DpAll K H vs (ps.map datP)
  | [], [], _ => .nil
  | [], _ :: _, h => by have := h.1; simp at this
  | _ :: _, [], h => by have := h.1; simp at this
  | v :: vs, p :: ps, h => by
    obtain ⟨t, h1, h2⟩ := h.2 0 p rfl
    have e : v = V.ref t := Option.some.inj h1
    subst e
    exact .cons (dp_pair h2) (dpAll_pairs (h.drop 1))
theorem lay_pairs : ∀ {ps : List (Int × Int)}, PyData.canLayAll0 (ps.map datP) = true
  | [] => rfl
  | p :: ps => by
    show ((true && (true && true)) && PyData.canLayAll0 (ps.map datP)) = true
    rw [lay_pairs]; rfl
theorem depth_pairs : ∀ {ps : List (Int × Int)}, PyData.depthAll (ps.map datP) ≤ 1
  | [] => by show 0 ≤ 1; decide
  | p :: ps => by
    show max (max 0 (max 0 0) + 1) (PyData.depthAll (ps.map datP)) ≤ 1
    have := depth_pairs (ps := ps)
    omega
theorem shaped_pairs {ps : List (Int × Int)} : SeqAt.shaped (.list (ps.map datP)) = true := by
  show (PyData.canLayAll0 (ps.map datP) && decide (PyData.depthAll (ps.map datP) + 1 ≤ 64)) = true
  have := depth_pairs (ps := ps)
  rw [lay_pairs, decide_eq_true (by omega)]; rfl
theorem eqv_pair {p q : Int × Int} : PyData.eqv (datP p) (datP q) = decide (p = q) := by
  show ((p.1 == q.1) && ((p.2 == q.2) && true)) = decide (p = q)
  rw [Bool.eq_iff_iff]
  simp [Prod.ext_iff]
theorem eqvAll_pairs : ∀ {ps qs : List (Int × Int)}, PyData.eqvAll (ps.map datP) (qs.map datP) = decide (ps = qs)
  | [], [] => rfl
  | [], _ :: _ => rfl
  | _ :: _, [] => rfl
  | p :: ps, q :: qs => by
    show (PyData.eqv (datP p) (datP q) && PyData.eqvAll (ps.map datP) (qs.map datP)) = decide (p :: ps = q :: qs)
    rw [eqvAll_pairs, eqv_pair, Bool.eq_iff_iff]
    simp
theorem g_nePL {Q : VK} {a b : Addr} {vs us : List V} {ps qs : List (Int × Int)} (h1 : SqL K H a vs) (p1 : Prs H vs ps) (h2 : SqL K H b us) (p2 : Prs H us qs) (q : Q (.bl (!decide (ps = qs))) H) : rNeD K (.ref a) (.ref b) H Q :=
  ⟨.list (ps.map datP), .list (qs.map datP), .lst h1 (dpAll_pairs p1), .lst h2 (dpAll_pairs p2), shaped_pairs, shaped_pairs, by rw [show PyData.eqv (.list (ps.map datP)) (.list (qs.map datP)) = decide (ps = qs) from eqvAll_pairs]; exact q⟩
theorem g_eqPL {Q : VK} {a b : Addr} {vs us : List V} {ps qs : List (Int × Int)} (h1 : SqL K H a vs) (p1 : Prs H vs ps) (h2 : SqL K H b us) (p2 : Prs H us qs) (q : Q (.bl (decide (ps = qs))) H) : rEqD K (.ref a) (.ref b) H Q :=
  ⟨.list (ps.map datP), .list (qs.map datP), .lst h1 (dpAll_pairs p1), .lst h2 (dpAll_pairs p2), shaped_pairs, shaped_pairs, by rw [show PyData.eqv (.list (ps.map datP)) (.list (qs.map datP)) = decide (ps = qs) from eqvAll_pairs]; exact q⟩
theorem g_neP {Q : VK} {a b : Addr} {p r : Int × Int} (h1 : H a = some (tupP p)) (h2 : H b = some (tupP r)) (q : Q (.bl (!decide (p = r))) H) : rNeD K (.ref a) (.ref b) H Q :=
  ⟨datP p, datP r, dp_pair h1, dp_pair h2, rfl, rfl, by rw [eqv_pair]; exact q⟩
end

/-! ### segments: as objects, and as the law's dicts -/
structure Sg where
  src : Int
  tgt : Int
  seq : Int
  cnt : Int
  echo : Option Int
  ack : Option Int
  syn : Bool
  fin : Bool
  reset : Bool
  marked : Bool
  cut : Bool
  window : Int
  mss : Option Int
  scale : Option Int
  rk : Bool
  rs : List (Int × Int)
  stamp : Option (Int × Int)
  ds : List Int
/-- None or an int -/
def oV : Option Int → V
  | none => .non
  | some i => .int i
/-- None or a pair -/
def StV (H : Hp) : V → Option (Int × Int) → Prop
  | v, none => v = .non
  | v, some p => ∃ t, v = .ref t ∧ H t = some (tupP p)
theorem StV.same {H H' : Hp} {v : V} {o : Option (Int × Int)} (h : StV H v o) (s : Same H H') : StV H' v o := by
  cases o with
  | none => exact h
  | some p =>
    obtain ⟨t, e, h⟩ := h
    exact ⟨t, e, s _ _ h⟩
theorem StV.butD {H H' : Hp} {v : V} {o : Option (Int × Int)} {a : Addr} {kvs : List (Key × V)} (h : StV H v o) (s : But a H H') (e : H a = some (.dK kvs)) : StV H' v o := by
  cases o with
  | none => exact h
  | some p =>
    obtain ⟨t, e1, h⟩ := h
    exact ⟨t, e1, s _ _ (fun z => by rw [z, e] at h; cases h) h⟩
/-- the lists and the stamp that belong to it -/
def SgP (H : Hp) (g : Sg) (da ra : Addr) (sv : V) : Prop := H da = some (.lst (g.ds.map V.int)) ∧ (∃ vs, H ra = some (.lst vs) ∧ Prs H vs g.rs) ∧ StV H sv g.stamp
theorem SgP.same {H H' : Hp} {g : Sg} {da ra : Addr} {sv : V} (h : SgP H g da ra sv) (s : Same H H') : SgP H' g da ra sv := by
  obtain ⟨h1, ⟨vs, h2, h3⟩, h4⟩ := h
  exact ⟨s _ _ h1, ⟨vs, s _ _ h2, h3.same s⟩, h4.same s⟩
def sgVs (g : Sg) (da ra : Addr) (sv : V) : List V := [.int g.src, .int g.tgt, .int g.seq, .int g.cnt, oV g.echo, oV g.ack, .bl g.syn, .bl g.fin, .bl g.reset, .bl g.marked, .bl g.cut, .int g.window, oV g.mss, oV g.scale, .bl g.rk, .ref ra, sv, .ref da]
/-- the segment g stands at p -/
def SegO (C : Addr) (H : Hp) (p : Addr) (g : Sg) (da ra : Addr) : Prop := ∃ dx sv, H p = some (.ins C dx (obj ky_Segment (sgVs g da ra sv))) ∧ SgP H g da ra sv
theorem SegO.same {C : Addr} {H H' : Hp} {p da ra : Addr} {g : Sg} (h : SegO C H p g da ra) (s : Same H H') : SegO C H' p g da ra := by
  obtain ⟨dx, sv, h1, h2⟩ := h
  exact ⟨dx, sv, s _ _ h1, h2.same s⟩
/-- the dict of the segment g stands at p -/
def SegD (H : Hp) (p : Addr) (g : Sg) (da ra : Addr) : Prop := ∃ sv, H p = some (.dK (dk kd_S [.int g.src, .int g.tgt, .int g.seq, .int g.cnt, oV g.echo, oV g.ack, .bl g.syn, .bl g.fin, .bl g.reset, .bl g.marked, .bl g.cut, .bl g.rk, .int g.window, oV g.mss, oV g.scale, .ref ra, sv, .ref da])) ∧ SgP H g da ra sv
theorem SegD.same {H H' : Hp} {p da ra : Addr} {g : Sg} (h : SegD H p g da ra) (s : Same H H') : SegD H' p g da ra := by
  obtain ⟨sv, h1, h2⟩ := h
  exact ⟨sv, s _ _ h1, h2.same s⟩
def sp_Segment_init__ (C : Addr) (K : PySem.W.Frag) : Sp := fun vs H Q _ => ∃ (p dx a1 a2 : Addr) (v1 v2 v3 v4 v5 v6 v7 v8 v9 v10 v11 v12 v13 v14 v15 v16 : V) (rs ds : List V),
  vs = [.ref p, v1, v2, v3, v4, v5, v6, v7, v8, v9, v10, v11, v12, v13, v14, v15, .ref a1, v16, .ref a2] ∧ H p = some (.ins C dx (obj ky_Segment [])) ∧ (SqL K H a1 rs ∨ SqT K H a1 rs) ∧ (SqL K H a2 ds ∨ SqT K H a2 ds) ∧ a1 ≠ p ∧ a2 ≠ p ∧
  ∀ r d H', d ≠ r → r ≠ p → d ≠ p → H r = none → H d = none → But p H H' → H' r = some (.lst rs) → H' d = some (.lst ds) → H' p = some (.ins C dx (obj ky_Segment [v1, v2, v3, v4, v5, v6, v7, v8, v9, v10, v11, v12, v13, v14, v15, .ref r, v16, .ref d])) → Q .non H'
theorem but_or {K : PySem.W.Frag} {p : Addr} {H H' : Hp} {a : Addr} {xs : List V} (e : But p H H') (n : a ≠ p) (h : SqL K H a xs ∨ SqT K H a xs) : SqL K H' a xs ∨ SqT K H' a xs := by
  rcases h with h | h
  · exact .inl (but_sq e n h)
  · refine .inr ?_
    rcases h with h | h
    · rcases h with h | h
      · exact .inl (.inl (e _ _ n h))
      · obtain ⟨o, h⟩ := h
        exact .inl (.inr ⟨o, e _ _ n h⟩)
    · exact .inr h
theorem But.free {p r : Addr} {H H' : Hp} (b : But p H H') (n : r ≠ p) (h : H' r = none) : H r = none := by
  cases e : H r with
  | none => rfl
  | some o =>
    have z := b r o n e
    rw [h] at z
    cases z
theorem upd_upd {H : Hp} {p : Addr} {o o' : HO} : upd (upd H p o) p o' = upd H p o' := by
  funext b
  by_cases e : b = p
  · rw [e, upd_same, upd_same]
  · rw [upd_ne e, upd_ne e, upd_ne e]

theorem ok_Segment_init__ (T : Txt K mg) : FnOk P w K mg base CX0 1 T.f_Segment_init__ T.d_Segment_init__ ["self", "source", "target", "seq", "count", "echo", "ack", "syn", "fin", "reset", "marked", "cut", "window", "mss", "scale", "ranges_known", "ranges", "stamp", "data"] (sp_Segment_init__ T.C_Segment K) := by
  refine T.F_Segment_init__.ok sc_Segment_init__ (fun vs H Q E h => ?_) (fun cdv A outer s H vs Q E hr h => ?_)
  · obtain ⟨p, dx, a1, a2, v1, v2, v3, v4, v5, v6, v7, v8, v9, v10, v11, v12, v13, v14, v15, v16, rs, ds, rfl, ho, h1, h2, n1, n2, q⟩ := h
    rfl
  · obtain ⟨p, dx, a1, a2, v1, v2, v3, v4, v5, v6, v7, v8, v9, v10, v11, v12, v13, v14, v15, v16, rs, ds, rfl, ho, h1, h2, n1, n2, q⟩ := h
    have hu := hu_of hr
    refine ⟨_, (pss_cons (ps_fld (pv 0) (pv 1) rfl)
        (pss_cons (ps_fld (pv 0) (pv 2) rfl)
        (pss_cons (ps_fld (pv 0) (pv 3) rfl)
        (pss_cons (ps_fld (pv 0) (pv 4) rfl)
        (pss_cons (ps_fld (pv 0) (pv 5) rfl)
        (pss_cons (ps_fld (pv 0) (pv 6) rfl)
        (pss_cons (ps_fld (pv 0) (pv 7) rfl)
        (pss_cons (ps_fld (pv 0) (pv 8) rfl)
        (pss_cons (ps_fld (pv 0) (pv 9) rfl)
        (pss_cons (ps_fld (pv 0) (pv 10) rfl)
        (pss_cons (ps_fld (pv 0) (pv 11) rfl)
        (pss_cons (ps_fld (pv 0) (pv 12) rfl)
        (pss_cons (ps_fld (pv 0) (pv 13) rfl)
        (pss_cons (ps_fld (pv 0) (pv 14) rfl)
        (pss_cons (ps_fld (pv 0) (pv 15) rfl)
        (pss_cons (ps_fld (pv 0) (pe_callTy call_list_of (by rfl) T.n_list (by decide +kernel) (pa_cons (pv 16) pa_nil)) rfl)
        (pss_cons (ps_fld (pv 0) (pv 17) rfl)
        (pss_one (ps_fld (pv 0) (pe_callTy call_list_of (by rfl) T.n_list (by decide +kernel) (pa_cons (pv 18) pa_nil)) rfl))))))))))))))))))), ?_⟩
    dsimp only [cxOf, Cx.nox, Cx.wish, L2.start, List.map, List.cons_append, List.nil_append, List.length_cons, List.length_nil, Nat.reduceAdd, Nat.reduceSub, Nat.zero_add, List.replicate_succ, List.replicate_zero]
    walk_at "go"
    simp only [upd_upd, List.nil_append, List.cons_append]
    have b1 : But p H (upd H p (.ins T.C_Segment dx (obj ky_Segment [v1, v2, v3, v4, v5, v6, v7, v8, v9, v10, v11, v12, v13, v14, v15]))) := But.refl.upd
    refine g_len (but_or b1 n1 h1) fun l1 nl1 => ?_
    have e1 : (upd H p (.ins T.C_Segment dx (obj ky_Segment [v1, v2, v3, v4, v5, v6, v7, v8, v9, v10, v11, v12, v13, v14, v15]))) p = some (.ins T.C_Segment dx (obj ky_Segment [v1, v2, v3, v4, v5, v6, v7, v8, v9, v10, v11, v12, v13, v14, v15])) := upd_same
    generalize upd H p (.ins T.C_Segment dx (obj ky_Segment [v1, v2, v3, v4, v5, v6, v7, v8, v9, v10, v11, v12, v13, v14, v15])) = H1 at b1 nl1 e1 ⊢
    have ne1 : l1 ≠ p := fun z => by rw [z, e1] at nl1; cases nl1
    have e1' := upd_keep (o := .lst rs) nl1 e1
    have s1 := same_upd (o := .lst rs) nl1
    have k1 : (upd H1 l1 (.lst rs)) l1 = some (.lst rs) := upd_same
    have b2 := b1.trans (But.of s1)
    have f1 := b1.free ne1 nl1
    generalize upd H1 l1 (.lst rs) = H2 at e1' s1 k1 b2 ⊢
    walk_at "go"
    simp only [upd_upd, List.nil_append, List.cons_append]
    have b3 : But p H2 (upd H2 p (.ins T.C_Segment dx (obj ky_Segment [v1, v2, v3, v4, v5, v6, v7, v8, v9, v10, v11, v12, v13, v14, v15, V.ref l1, v16]))) := But.refl.upd
    refine g_len (but_or (b2.trans b3) n2 h2) fun l3 nl3 => ?_
    have e3 : (upd H2 p (.ins T.C_Segment dx (obj ky_Segment [v1, v2, v3, v4, v5, v6, v7, v8, v9, v10, v11, v12, v13, v14, v15, V.ref l1, v16]))) p = some (.ins T.C_Segment dx (obj ky_Segment [v1, v2, v3, v4, v5, v6, v7, v8, v9, v10, v11, v12, v13, v14, v15, V.ref l1, v16])) := upd_same
    generalize upd H2 p (.ins T.C_Segment dx (obj ky_Segment [v1, v2, v3, v4, v5, v6, v7, v8, v9, v10, v11, v12, v13, v14, v15, V.ref l1, v16])) = H3 at b3 nl3 e3 ⊢
    have ne3 : l3 ≠ p := fun z => by rw [z, e3] at nl3; cases nl3
    have e3' := upd_keep (o := .lst ds) nl3 e3
    have k3 : (upd H3 l3 (.lst ds)) l3 = some (.lst ds) := upd_same
    have b4 := b3.trans (But.of (same_upd (o := .lst ds) nl3))
    have f3 := (b2.trans b3).free ne3 nl3
    generalize upd H3 l3 (.lst ds) = H4 at e3' k3 b4 ⊢
    walk_at "go"
    have n31 : l3 ≠ l1 := fun z => by rw [z, b3 _ _ ne1 k1] at nl3; cases nl3
    refine q l1 l3 _ n31 ne1 ne3 f1 f3 (b2.trans b4).upd ?_ ?_ upd_same
    · rw [upd_ne ne1]; exact b4 _ _ ne1 k1
    · rw [upd_ne ne3]; exact k3
theorem g_makeK {C : Addr} {n m : Nat} {sp : Sp} {gV : List V → List V → List V} {E : XK} {t tk : TA} {σ : St} {H : Hp} {Q : VK} (h : t σ H fun vs H1 => tk σ H1 fun zs H2 => vs.length = n ∧ zs.length = m ∧
  ∀ x dx, H2 x = none → H2 dx = none → dx ≠ x → sp (gV (.ref x :: vs) zs) (upd (upd H2 dx (.own x)) x (.ins C dx [])) (fun v H3 => v = .non ∧ Q (.ref x) H3) E) : tMakeK C n m sp gV E t tk σ H Q := h
local macro_rules | `(tactic| walk_at "use") => `(tactic| with_reducible refine g_makeK ?_)
def sp_l_made (C : Addr) : Sp := fun vs H Q _ => ∃ (p da ra : Addr) (g : Sg), vs = [.ref p] ∧ SegD H p g da ra ∧ ∀ x d r H', H x = none → H d = none → H r = none → d ≠ x → r ≠ x → d ≠ r → Same H H' → SegO C H' x g d r → Q (.ref x) H'
theorem u_made {C p da ra : Addr} {g : Sg} {H Q E} (h : SegD H p g da ra) (q : ∀ x d r H', H x = none → H d = none → H r = none → d ≠ x → r ≠ x → d ≠ r → Same H H' → SegO C H' x g d r → Q (.ref x) H') : sp_l_made C ([.ref p] ++ []) H Q E := ⟨p, da, ra, g, rfl, h, q⟩
theorem kbt_0 {K : PySem.W.Frag} {mg : Str → Option Value} (T : Txt K mg) : ∃ g, KBn K T.d_Segment_init__ ["self", "source", "target", "seq", "count", "echo", "ack", "syn", "fin", "reset", "marked", "cut", "window", "mss", "scale", "ranges_known", "ranges", "stamp", "data"] 3 ["seq", "count", "echo", "ack", "syn", "fin", "reset", "marked", "cut", "window", "mss", "scale", "ranges_known", "ranges", "stamp", "data"] g (fun vs zs => vs ++ ((zs.drop 0).take 1 ++ ((zs.drop 1).take 1 ++ ((zs.drop 2).take 1 ++ ((zs.drop 3).take 1 ++ ((zs.drop 4).take 1 ++ ((zs.drop 5).take 1 ++ ((zs.drop 6).take 1 ++ ((zs.drop 7).take 1 ++ ((zs.drop 8).take 1 ++ ((zs.drop 9).take 1 ++ ((zs.drop 10).take 1 ++ ((zs.drop 11).take 1 ++ ((zs.drop 12).take 1 ++ ((zs.drop 13).take 1 ++ ((zs.drop 14).take 1 ++ ((zs.drop 15).take 1))))))))))))))))) := by
  obtain ⟨mv, h⟩ := T.F_Segment_init__.kbinds0 (ps := ["self", "source", "target", "seq", "count", "echo", "ack", "syn", "fin", "reset", "marked", "cut", "window", "mss", "scale", "ranges_known", "ranges", "stamp", "data"]) 3 ["seq", "count", "echo", "ack", "syn", "fin", "reset", "marked", "cut", "window", "mss", "scale", "ranges_known", "ranges", "stamp", "data"] [] (fun vs mz zs => vs ++ ((zs.drop 0).take 1 ++ ((zs.drop 1).take 1 ++ ((zs.drop 2).take 1 ++ ((zs.drop 3).take 1 ++ ((zs.drop 4).take 1 ++ ((zs.drop 5).take 1 ++ ((zs.drop 6).take 1 ++ ((zs.drop 7).take 1 ++ ((zs.drop 8).take 1 ++ ((zs.drop 9).take 1 ++ ((zs.drop 10).take 1 ++ ((zs.drop 11).take 1 ++ ((zs.drop 12).take 1 ++ ((zs.drop 13).take 1 ++ ((zs.drop 14).take 1 ++ ((zs.drop 15).take 1))))))))))))))))) (by intro h; cases h) (fun q hq => List.Sublist.mem hq (.cons _ (.cons _ (.cons _ (.cons _ (.cons _ (.cons _ (.cons _ (.cons _ (.cons _ (.cons _ (.cons _ (.cons _ (.cons _ (.cons _ (.slnil)))))))))))))))) (fun r1 r2 r3 => r1.append (((r3.drop 0).take 1).append (((r3.drop 1).take 1).append (((r3.drop 2).take 1).append (((r3.drop 3).take 1).append (((r3.drop 4).take 1).append (((r3.drop 5).take 1).append (((r3.drop 6).take 1).append (((r3.drop 7).take 1).append (((r3.drop 8).take 1).append (((r3.drop 9).take 1).append (((r3.drop 10).take 1).append (((r3.drop 11).take 1).append (((r3.drop 12).take 1).append (((r3.drop 13).take 1).append (((r3.drop 14).take 1).append ((r3.drop 15).take 1))))))))))))))))) (fun D doc pm an cdv ct us mv ws l1 l2 l3 => match us, l1, mv, l2, ws, l3 with | [_, _, _], _, [], _, [_, _, _, _, _, _, _, _, _, _, _, _, _, _, _, _], _ => (by show _ = _; kernel_rfl))
  exact ⟨_, h⟩
theorem ok_l_made (T : Txt K mg) : FnOk P w K mg base CX0 3 T.f_l_made T.d_l_made ["parts"] (sp_l_made T.C_Segment) := by
  refine T.F_l_made.ok sc_l_made (fun vs H Q E h => ?_) (fun cdv A outer s H vs Q E hr h => ?_)
  · obtain ⟨p, da, ra, g, rfl, ⟨sv, hd, hda, ⟨vs, hra, hP⟩, hsv⟩, q⟩ := h
    rfl
  · obtain ⟨p, da, ra, g, rfl, ⟨sv, hd, hda, ⟨vs, hra, hP⟩, hsv⟩, q⟩ := h
    have hu := hu_of hr
    obtain ⟨gk_0, kb_0⟩ := kbt_0 T
    refine ⟨_, (pss_one (ps_ret (pe_makeK T.mk_Segment (ok_Segment_init__ T) (hr.mono (by decide)) rfl T.c_Segment kb_0 pass0 (pa_cons (pe_dget hu (pv 0) pe_str (fun _ _ => rfl)) (pa_cons (pe_dget hu (pv 0) pe_str (fun _ _ => rfl)) pa_nil)) (pk_cons (pe_dget hu (pv 0) pe_str (fun _ _ => rfl)) (pk_cons (pe_dget hu (pv 0) pe_str (fun _ _ => rfl)) (pk_cons (pe_dget hu (pv 0) pe_str (fun _ _ => rfl)) (pk_cons (pe_dget hu (pv 0) pe_str (fun _ _ => rfl)) (pk_cons (pe_dget hu (pv 0) pe_str (fun _ _ => rfl)) (pk_cons (pe_dget hu (pv 0) pe_str (fun _ _ => rfl)) (pk_cons (pe_dget hu (pv 0) pe_str (fun _ _ => rfl)) (pk_cons (pe_dget hu (pv 0) pe_str (fun _ _ => rfl)) (pk_cons (pe_dget hu (pv 0) pe_str (fun _ _ => rfl)) (pk_cons (pe_dget hu (pv 0) pe_str (fun _ _ => rfl)) (pk_cons (pe_dget hu (pv 0) pe_str (fun _ _ => rfl)) (pk_cons (pe_dget hu (pv 0) pe_str (fun _ _ => rfl)) (pk_cons (pe_dget hu (pv 0) pe_str (fun _ _ => rfl)) (pk_cons (pe_callTy call_list_of (by rfl) T.n_list (by decide +kernel) (pa_cons (pe_dget hu (pv 0) pe_str (fun _ _ => rfl)) pa_nil)) (pk_cons (pe_dget hu (pv 0) pe_str (fun _ _ => rfl)) (pk_cons (pe_callTy call_list_of (by rfl) T.n_list (by decide +kernel) (pa_cons (pe_dget hu (pv 0) pe_str (fun _ _ => rfl)) pa_nil)) pk_nil))))))))))))))))))), ?_⟩
    dsimp only [cxOf, Cx.nox, Cx.wish, L2.start, List.map, List.cons_append, List.nil_append, List.length_cons, List.length_nil, Nat.reduceAdd, Nat.reduceSub, Nat.zero_add, List.replicate_succ, List.replicate_zero]
    walk_at "go"
    refine g_len (.inl (sl hra)) fun l1 nl1 => ?_
    have s1 := same_upd (o := .lst vs) nl1
    have k1 : (upd H l1 (.lst vs)) l1 = some (.lst vs) := upd_same
    have hd1 := s1 _ _ hd
    have hda1 := s1 _ _ hda
    generalize upd H l1 (.lst vs) = H1 at s1 k1 hd1 hda1 ⊢
    clear hd hda
    walk_at "go"
    refine g_len (.inl (sl hda1)) fun l2 nl2 => ?_
    have s2 := same_upd (o := .lst (g.ds.map V.int)) nl2
    have k2 : (upd H1 l2 (.lst (g.ds.map V.int))) l2 = some (.lst (g.ds.map V.int)) := upd_same
    have n21 : l2 ≠ l1 := fun z => by rw [z, k1] at nl2; cases nl2
    have k1' := s2 _ _ k1
    have s12 := s1.trans s2
    generalize upd H1 l2 (.lst (g.ds.map V.int)) = H2 at s12 k1' k2 ⊢
    walk_at "go"
    refine ⟨rfl, rfl, fun x dx nx ndx nxd => ?_⟩
    have bx : But x H2 (upd (upd H2 dx (.own x)) x (.ins T.C_Segment dx [])) := ((But.of (same_upd (o := .own x) ndx))).upd
    have n1x : l1 ≠ x := fun z => by rw [← z, k1'] at nx; cases nx
    have n2x : l2 ≠ x := fun z => by rw [← z, k2] at nx; cases nx
    refine ⟨x, dx, l1, l2, _, _, _, _, _, _, _, _, _, _, _, _, _, _, _, _, _, _, rfl, upd_same, .inl (sl (bx _ _ n1x k1')), .inl (sl (bx _ _ n2x k2)), n1x, n2x, fun r d H' nrd nr nd fr fd b er ed e => ⟨rfl, ?_⟩⟩
    have sm : Same H H' := s12.trans ((bx.trans b).same nx)
    have fx := s12.free nx
    have fr' := s12.free ((bx.same nx).free fr)
    have fd' := s12.free ((bx.same nx).free fd)
    exact q x d r H' fx fd' fr' nd nr nrd sm ⟨dx, sv, e, ed, ⟨vs, er, hP.same sm⟩, hsv.same sm⟩


end
end My
namespace My
open PySem PySem.Spec L2
local macro_rules | `(tactic| walk_at "side") => `(tactic| first | assumption | decide | omega | exact ⟨by decide, by decide⟩ | exact ⟨by decide, by decide, by decide⟩ | decide +kernel | exact cdivW (by decide +kernel) (by decide +kernel) | exact Or.inl ⟨by omega, by omega⟩ | exact Or.inr ⟨by omega, by omega⟩ | (simp only [List.length_map, List.length_cons, List.length_nil, List.length_append]; omega))
local macro_rules | `(tactic| walk_at "fact") => `(tactic| first | assumption | omega | with_reducible rfl)
local macro_rules | `(tactic| walk_at "use") => `(tactic| fail "use")
local macro_rules | `(tactic| walk_at "go1") => `(tactic| with_reducible first | refine g_seq ?_ | refine g_asg ?_ | refine g_ret ?_ | refine g_ifS ?_ | refine g_drop ?_ | refine g_star ?_ | refine g_nx ?_ | refine g_rt ?_ | refine g_bkE ?_ | refine g_ctE ?_ | refine g_next ?_ | refine g_retN ?_ | refine g_brk ?_ | refine g_ct ?_ | refine g_c ?_ | refine g_op ?_ | refine g_un ?_ | refine g_rI0 ?_ | refine g_rU ?_ | refine g_rEqI ?_ | refine g_rNeI ?_ | refine g_isN ?_ | refine g_rIsB ?_ | refine g_rNotB ?_ | refine g_test ?_ | refine g_B ?_ | refine g_bl ?_ | refine g_and ?_ | refine g_or ?_ | refine g_not ?_ | refine g_andV ?_ | refine g_orV ?_ | refine g_notV ?_ | refine g_if ?_ | refine g_chain ?_ | refine g_yes ?_ | refine g_lc ?_ | refine g_revR ?_ | refine g_rng1 ?_ | refine g_iList ?_ | refine g_nil ?_ | refine g_cons ?_ | refine g_tup ?_ | refine g_lst ?_ | refine g_call ?_ | refine g_CB ?_ | refine g_sl ?_ | refine g_noPart ?_ | refine g_part ?_ | refine g_intE ?_ | refine g_ref ?_ | refine g_fld ?_ | refine g_sfld ?_ | refine g_meth ?_ | refine g_make ?_ | refine g_prop ?_  | refine g_ipI ?_ | refine g_int1 ?_ | refine g_int1B ?_ | refine g_one ?_ | refine g_two ?_ | refine g_isiI ?_ | refine g_isiIB ?_ | refine g_isiB ?_ | refine g_BM ?_ | refine g_BM0 ?_ | refine g_sub ?_)
local macro_rules | `(tactic| walk_at "go") => `(tactic| repeat (first | walk_at "go1" | ((with_reducible refine' g_nameE ?sd_ ?_); case sd_ => dsimp only [List.set_cons_succ, List.set_cons_zero]) | ((with_reducible refine' g_var ?sd_ ?_); case sd_ => exact rfl) | ((with_reducible refine' g_aug ?sd_ ?_); case sd_ => exact rfl) | ((with_reducible refine' g_rI ?sd_ ?_); case sd_ => walk_at "side") | ((with_reducible refine' g_dT ?sd_ ?_); case sd_ => walk_at "fact") | ((with_reducible refine' g_dF ?sd_ ?_); case sd_ => walk_at "fact") | ((with_reducible refine' g_nT ?sd_ ?_); case sd_ => walk_at "fact") | ((with_reducible refine' g_nF ?sd_ ?_); case sd_ => walk_at "fact") | (with_reducible refine g_iT rfl ?_) | (with_reducible refine g_iF rfl ?_) | walk_at "use"))
local macro_rules | `(tactic| walk_at "use") => `(tactic| first | ((with_reducible refine' fd_Segment_source ?ho_ ?hv_ ?_); (case ho_ => first | assumption | exact upd_same); (case hv_ => exact rfl)) | ((with_reducible refine' fd_Segment_target ?ho_ ?hv_ ?_); (case ho_ => first | assumption | exact upd_same); (case hv_ => exact rfl)) | ((with_reducible refine' fd_Segment_seq ?ho_ ?hv_ ?_); (case ho_ => first | assumption | exact upd_same); (case hv_ => exact rfl)) | ((with_reducible refine' fd_Segment_count ?ho_ ?hv_ ?_); (case ho_ => first | assumption | exact upd_same); (case hv_ => exact rfl)) | ((with_reducible refine' fd_Segment_echo ?ho_ ?hv_ ?_); (case ho_ => first | assumption | exact upd_same); (case hv_ => exact rfl)) | ((with_reducible refine' fd_Segment_ack ?ho_ ?hv_ ?_); (case ho_ => first | assumption | exact upd_same); (case hv_ => exact rfl)) | ((with_reducible refine' fd_Segment_syn ?ho_ ?hv_ ?_); (case ho_ => first | assumption | exact upd_same); (case hv_ => exact rfl)) | ((with_reducible refine' fd_Segment_fin ?ho_ ?hv_ ?_); (case ho_ => first | assumption | exact upd_same); (case hv_ => exact rfl)) | ((with_reducible refine' fd_Segment_reset ?ho_ ?hv_ ?_); (case ho_ => first | assumption | exact upd_same); (case hv_ => exact rfl)) | ((with_reducible refine' fd_Segment_marked ?ho_ ?hv_ ?_); (case ho_ => first | assumption | exact upd_same); (case hv_ => exact rfl)) | ((with_reducible refine' fd_Segment_cut ?ho_ ?hv_ ?_); (case ho_ => first | assumption | exact upd_same); (case hv_ => exact rfl)) | ((with_reducible refine' fd_Segment_window ?ho_ ?hv_ ?_); (case ho_ => first | assumption | exact upd_same); (case hv_ => exact rfl)) | ((with_reducible refine' fd_Segment_mss ?ho_ ?hv_ ?_); (case ho_ => first | assumption | exact upd_same); (case hv_ => exact rfl)) | ((with_reducible refine' fd_Segment_scale ?ho_ ?hv_ ?_); (case ho_ => first | assumption | exact upd_same); (case hv_ => exact rfl)) | ((with_reducible refine' fd_Segment_ranges_known ?ho_ ?hv_ ?_); (case ho_ => first | assumption | exact upd_same); (case hv_ => exact rfl)) | ((with_reducible refine' fd_Segment_ranges ?ho_ ?hv_ ?_); (case ho_ => first | assumption | exact upd_same); (case hv_ => exact rfl)) | ((with_reducible refine' fd_Segment_stamp ?ho_ ?hv_ ?_); (case ho_ => first | assumption | exact upd_same); (case hv_ => exact rfl)) | ((with_reducible refine' fd_Segment_data ?ho_ ?hv_ ?_); (case ho_ => first | assumption | exact upd_same); (case hv_ => exact rfl)) | ((with_reducible refine' nw_Segment_source ?ho_ ?hv_ ?_); (case ho_ => first | assumption | exact upd_same); (case hv_ => exact rfl)) | ((with_reducible refine' nw_Segment_target ?ho_ ?hv_ ?_); (case ho_ => first | assumption | exact upd_same); (case hv_ => exact rfl)) | ((with_reducible refine' nw_Segment_seq ?ho_ ?hv_ ?_); (case ho_ => first | assumption | exact upd_same); (case hv_ => exact rfl)) | ((with_reducible refine' nw_Segment_count ?ho_ ?hv_ ?_); (case ho_ => first | assumption | exact upd_same); (case hv_ => exact rfl)) | ((with_reducible refine' nw_Segment_echo ?ho_ ?hv_ ?_); (case ho_ => first | assumption | exact upd_same); (case hv_ => exact rfl)) | ((with_reducible refine' nw_Segment_ack ?ho_ ?hv_ ?_); (case ho_ => first | assumption | exact upd_same); (case hv_ => exact rfl)) | ((with_reducible refine' nw_Segment_syn ?ho_ ?hv_ ?_); (case ho_ => first | assumption | exact upd_same); (case hv_ => exact rfl)) | ((with_reducible refine' nw_Segment_fin ?ho_ ?hv_ ?_); (case ho_ => first | assumption | exact upd_same); (case hv_ => exact rfl)) | ((with_reducible refine' nw_Segment_reset ?ho_ ?hv_ ?_); (case ho_ => first | assumption | exact upd_same); (case hv_ => exact rfl)) | ((with_reducible refine' nw_Segment_marked ?ho_ ?hv_ ?_); (case ho_ => first | assumption | exact upd_same); (case hv_ => exact rfl)) | ((with_reducible refine' nw_Segment_cut ?ho_ ?hv_ ?_); (case ho_ => first | assumption | exact upd_same); (case hv_ => exact rfl)) | ((with_reducible refine' nw_Segment_window ?ho_ ?hv_ ?_); (case ho_ => first | assumption | exact upd_same); (case hv_ => exact rfl)) | ((with_reducible refine' nw_Segment_mss ?ho_ ?hv_ ?_); (case ho_ => first | assumption | exact upd_same); (case hv_ => exact rfl)) | ((with_reducible refine' nw_Segment_scale ?ho_ ?hv_ ?_); (case ho_ => first | assumption | exact upd_same); (case hv_ => exact rfl)) | ((with_reducible refine' nw_Segment_ranges_known ?ho_ ?hv_ ?_); (case ho_ => first | assumption | exact upd_same); (case hv_ => exact rfl)) | ((with_reducible refine' nw_Segment_ranges ?ho_ ?hv_ ?_); (case ho_ => first | assumption | exact upd_same); (case hv_ => exact rfl)) | ((with_reducible refine' nw_Segment_stamp ?ho_ ?hv_ ?_); (case ho_ => first | assumption | exact upd_same); (case hv_ => exact rfl)) | ((with_reducible refine' nw_Segment_data ?ho_ ?hv_ ?_); (case ho_ => first | assumption | exact upd_same); (case hv_ => exact rfl)) | ((with_reducible refine' st_Segment_source ?ho_ ?hv_ ?_); (case ho_ => first | assumption | exact upd_same); (case hv_ => exact Nat.le_of_ble_eq_true rfl)) | ((with_reducible refine' st_Segment_target ?ho_ ?hv_ ?_); (case ho_ => first | assumption | exact upd_same); (case hv_ => exact Nat.le_of_ble_eq_true rfl)) | ((with_reducible refine' st_Segment_seq ?ho_ ?hv_ ?_); (case ho_ => first | assumption | exact upd_same); (case hv_ => exact Nat.le_of_ble_eq_true rfl)) | ((with_reducible refine' st_Segment_count ?ho_ ?hv_ ?_); (case ho_ => first | assumption | exact upd_same); (case hv_ => exact Nat.le_of_ble_eq_true rfl)) | ((with_reducible refine' st_Segment_echo ?ho_ ?hv_ ?_); (case ho_ => first | assumption | exact upd_same); (case hv_ => exact Nat.le_of_ble_eq_true rfl)) | ((with_reducible refine' st_Segment_ack ?ho_ ?hv_ ?_); (case ho_ => first | assumption | exact upd_same); (case hv_ => exact Nat.le_of_ble_eq_true rfl)) | ((with_reducible refine' st_Segment_syn ?ho_ ?hv_ ?_); (case ho_ => first | assumption | exact upd_same); (case hv_ => exact Nat.le_of_ble_eq_true rfl)) | ((with_reducible refine' st_Segment_fin ?ho_ ?hv_ ?_); (case ho_ => first | assumption | exact upd_same); (case hv_ => exact Nat.le_of_ble_eq_true rfl)) | ((with_reducible refine' st_Segment_reset ?ho_ ?hv_ ?_); (case ho_ => first | assumption | exact upd_same); (case hv_ => exact Nat.le_of_ble_eq_true rfl)) | ((with_reducible refine' st_Segment_marked ?ho_ ?hv_ ?_); (case ho_ => first | assumption | exact upd_same); (case hv_ => exact Nat.le_of_ble_eq_true rfl)) | ((with_reducible refine' st_Segment_cut ?ho_ ?hv_ ?_); (case ho_ => first | assumption | exact upd_same); (case hv_ => exact Nat.le_of_ble_eq_true rfl)) | ((with_reducible refine' st_Segment_window ?ho_ ?hv_ ?_); (case ho_ => first | assumption | exact upd_same); (case hv_ => exact Nat.le_of_ble_eq_true rfl)) | ((with_reducible refine' st_Segment_mss ?ho_ ?hv_ ?_); (case ho_ => first | assumption | exact upd_same); (case hv_ => exact Nat.le_of_ble_eq_true rfl)) | ((with_reducible refine' st_Segment_scale ?ho_ ?hv_ ?_); (case ho_ => first | assumption | exact upd_same); (case hv_ => exact Nat.le_of_ble_eq_true rfl)) | ((with_reducible refine' st_Segment_ranges_known ?ho_ ?hv_ ?_); (case ho_ => first | assumption | exact upd_same); (case hv_ => exact Nat.le_of_ble_eq_true rfl)) | ((with_reducible refine' st_Segment_ranges ?ho_ ?hv_ ?_); (case ho_ => first | assumption | exact upd_same); (case hv_ => exact Nat.le_of_ble_eq_true rfl)) | ((with_reducible refine' st_Segment_stamp ?ho_ ?hv_ ?_); (case ho_ => first | assumption | exact upd_same); (case hv_ => exact Nat.le_of_ble_eq_true rfl)) | ((with_reducible refine' st_Segment_data ?ho_ ?hv_ ?_); (case ho_ => first | assumption | exact upd_same); (case hv_ => exact Nat.le_of_ble_eq_true rfl)))
local macro_rules | `(tactic| walk_at "use") => `(tactic| first | ((with_reducible refine' dg_S_source ?ho_ ?hv_ ?_); (case ho_ => first | assumption | exact upd_same); (case hv_ => exact rfl)) | ((with_reducible refine' dg_S_target ?ho_ ?hv_ ?_); (case ho_ => first | assumption | exact upd_same); (case hv_ => exact rfl)) | ((with_reducible refine' dg_S_seq ?ho_ ?hv_ ?_); (case ho_ => first | assumption | exact upd_same); (case hv_ => exact rfl)) | ((with_reducible refine' dg_S_count ?ho_ ?hv_ ?_); (case ho_ => first | assumption | exact upd_same); (case hv_ => exact rfl)) | ((with_reducible refine' dg_S_echo ?ho_ ?hv_ ?_); (case ho_ => first | assumption | exact upd_same); (case hv_ => exact rfl)) | ((with_reducible refine' dg_S_ack ?ho_ ?hv_ ?_); (case ho_ => first | assumption | exact upd_same); (case hv_ => exact rfl)) | ((with_reducible refine' dg_S_syn ?ho_ ?hv_ ?_); (case ho_ => first | assumption | exact upd_same); (case hv_ => exact rfl)) | ((with_reducible refine' dg_S_fin ?ho_ ?hv_ ?_); (case ho_ => first | assumption | exact upd_same); (case hv_ => exact rfl)) | ((with_reducible refine' dg_S_reset ?ho_ ?hv_ ?_); (case ho_ => first | assumption | exact upd_same); (case hv_ => exact rfl)) | ((with_reducible refine' dg_S_marked ?ho_ ?hv_ ?_); (case ho_ => first | assumption | exact upd_same); (case hv_ => exact rfl)) | ((with_reducible refine' dg_S_cut ?ho_ ?hv_ ?_); (case ho_ => first | assumption | exact upd_same); (case hv_ => exact rfl)) | ((with_reducible refine' dg_S_ranges_known ?ho_ ?hv_ ?_); (case ho_ => first | assumption | exact upd_same); (case hv_ => exact rfl)) | ((with_reducible refine' dg_S_window ?ho_ ?hv_ ?_); (case ho_ => first | assumption | exact upd_same); (case hv_ => exact rfl)) | ((with_reducible refine' dg_S_mss ?ho_ ?hv_ ?_); (case ho_ => first | assumption | exact upd_same); (case hv_ => exact rfl)) | ((with_reducible refine' dg_S_scale ?ho_ ?hv_ ?_); (case ho_ => first | assumption | exact upd_same); (case hv_ => exact rfl)) | ((with_reducible refine' dg_S_ranges ?ho_ ?hv_ ?_); (case ho_ => first | assumption | exact upd_same); (case hv_ => exact rfl)) | ((with_reducible refine' dg_S_stamp ?ho_ ?hv_ ?_); (case ho_ => first | assumption | exact upd_same); (case hv_ => exact rfl)) | ((with_reducible refine' dg_S_data ?ho_ ?hv_ ?_); (case ho_ => first | assumption | exact upd_same); (case hv_ => exact rfl)) | ((with_reducible refine' dn_S_source ?ho_ ?hv_ ?_); (case ho_ => first | assumption | exact upd_same); (case hv_ => exact rfl)) | ((with_reducible refine' dn_S_target ?ho_ ?hv_ ?_); (case ho_ => first | assumption | exact upd_same); (case hv_ => exact rfl)) | ((with_reducible refine' dn_S_seq ?ho_ ?hv_ ?_); (case ho_ => first | assumption | exact upd_same); (case hv_ => exact rfl)) | ((with_reducible refine' dn_S_count ?ho_ ?hv_ ?_); (case ho_ => first | assumption | exact upd_same); (case hv_ => exact rfl)) | ((with_reducible refine' dn_S_echo ?ho_ ?hv_ ?_); (case ho_ => first | assumption | exact upd_same); (case hv_ => exact rfl)) | ((with_reducible refine' dn_S_ack ?ho_ ?hv_ ?_); (case ho_ => first | assumption | exact upd_same); (case hv_ => exact rfl)) | ((with_reducible refine' dn_S_syn ?ho_ ?hv_ ?_); (case ho_ => first | assumption | exact upd_same); (case hv_ => exact rfl)) | ((with_reducible refine' dn_S_fin ?ho_ ?hv_ ?_); (case ho_ => first | assumption | exact upd_same); (case hv_ => exact rfl)) | ((with_reducible refine' dn_S_reset ?ho_ ?hv_ ?_); (case ho_ => first | assumption | exact upd_same); (case hv_ => exact rfl)) | ((with_reducible refine' dn_S_marked ?ho_ ?hv_ ?_); (case ho_ => first | assumption | exact upd_same); (case hv_ => exact rfl)) | ((with_reducible refine' dn_S_cut ?ho_ ?hv_ ?_); (case ho_ => first | assumption | exact upd_same); (case hv_ => exact rfl)) | ((with_reducible refine' dn_S_ranges_known ?ho_ ?hv_ ?_); (case ho_ => first | assumption | exact upd_same); (case hv_ => exact rfl)) | ((with_reducible refine' dn_S_window ?ho_ ?hv_ ?_); (case ho_ => first | assumption | exact upd_same); (case hv_ => exact rfl)) | ((with_reducible refine' dn_S_mss ?ho_ ?hv_ ?_); (case ho_ => first | assumption | exact upd_same); (case hv_ => exact rfl)) | ((with_reducible refine' dn_S_scale ?ho_ ?hv_ ?_); (case ho_ => first | assumption | exact upd_same); (case hv_ => exact rfl)) | ((with_reducible refine' dn_S_ranges ?ho_ ?hv_ ?_); (case ho_ => first | assumption | exact upd_same); (case hv_ => exact rfl)) | ((with_reducible refine' dn_S_stamp ?ho_ ?hv_ ?_); (case ho_ => first | assumption | exact upd_same); (case hv_ => exact rfl)) | ((with_reducible refine' dn_S_data ?ho_ ?hv_ ?_); (case ho_ => first | assumption | exact upd_same); (case hv_ => exact rfl)) | ((with_reducible refine' dp_S_source ?ho_ ?hv_ ?_); (case ho_ => first | assumption | exact upd_same); (case hv_ => exact Nat.le_of_ble_eq_true rfl)) | ((with_reducible refine' dp_S_target ?ho_ ?hv_ ?_); (case ho_ => first | assumption | exact upd_same); (case hv_ => exact Nat.le_of_ble_eq_true rfl)) | ((with_reducible refine' dp_S_seq ?ho_ ?hv_ ?_); (case ho_ => first | assumption | exact upd_same); (case hv_ => exact Nat.le_of_ble_eq_true rfl)) | ((with_reducible refine' dp_S_count ?ho_ ?hv_ ?_); (case ho_ => first | assumption | exact upd_same); (case hv_ => exact Nat.le_of_ble_eq_true rfl)) | ((with_reducible refine' dp_S_echo ?ho_ ?hv_ ?_); (case ho_ => first | assumption | exact upd_same); (case hv_ => exact Nat.le_of_ble_eq_true rfl)) | ((with_reducible refine' dp_S_ack ?ho_ ?hv_ ?_); (case ho_ => first | assumption | exact upd_same); (case hv_ => exact Nat.le_of_ble_eq_true rfl)) | ((with_reducible refine' dp_S_syn ?ho_ ?hv_ ?_); (case ho_ => first | assumption | exact upd_same); (case hv_ => exact Nat.le_of_ble_eq_true rfl)) | ((with_reducible refine' dp_S_fin ?ho_ ?hv_ ?_); (case ho_ => first | assumption | exact upd_same); (case hv_ => exact Nat.le_of_ble_eq_true rfl)) | ((with_reducible refine' dp_S_reset ?ho_ ?hv_ ?_); (case ho_ => first | assumption | exact upd_same); (case hv_ => exact Nat.le_of_ble_eq_true rfl)) | ((with_reducible refine' dp_S_marked ?ho_ ?hv_ ?_); (case ho_ => first | assumption | exact upd_same); (case hv_ => exact Nat.le_of_ble_eq_true rfl)) | ((with_reducible refine' dp_S_cut ?ho_ ?hv_ ?_); (case ho_ => first | assumption | exact upd_same); (case hv_ => exact Nat.le_of_ble_eq_true rfl)) | ((with_reducible refine' dp_S_ranges_known ?ho_ ?hv_ ?_); (case ho_ => first | assumption | exact upd_same); (case hv_ => exact Nat.le_of_ble_eq_true rfl)) | ((with_reducible refine' dp_S_window ?ho_ ?hv_ ?_); (case ho_ => first | assumption | exact upd_same); (case hv_ => exact Nat.le_of_ble_eq_true rfl)) | ((with_reducible refine' dp_S_mss ?ho_ ?hv_ ?_); (case ho_ => first | assumption | exact upd_same); (case hv_ => exact Nat.le_of_ble_eq_true rfl)) | ((with_reducible refine' dp_S_scale ?ho_ ?hv_ ?_); (case ho_ => first | assumption | exact upd_same); (case hv_ => exact Nat.le_of_ble_eq_true rfl)) | ((with_reducible refine' dp_S_ranges ?ho_ ?hv_ ?_); (case ho_ => first | assumption | exact upd_same); (case hv_ => exact Nat.le_of_ble_eq_true rfl)) | ((with_reducible refine' dp_S_stamp ?ho_ ?hv_ ?_); (case ho_ => first | assumption | exact upd_same); (case hv_ => exact Nat.le_of_ble_eq_true rfl)) | ((with_reducible refine' dp_S_data ?ho_ ?hv_ ?_); (case ho_ => first | assumption | exact upd_same); (case hv_ => exact Nat.le_of_ble_eq_true rfl)))
local macro_rules | `(tactic| walk_at "use") => `(tactic| with_reducible first | refine g_dgetT ?_ | refine g_dputT ?_)
section
variable {P : Program} {w : World} {K : PySem.W.Frag} {mg : Str → Option Value} {base : Heap}
def sp_l_is_integer (K : PySem.W.Frag) : Sp := fun vs H Q _ => ∃ (n : Int), vs = [.int n] ∧ Q (.bl true) H
theorem u_isint {n : Int} {H Q E} (q : Q (.bl true) H) : sp_l_is_integer K ([.int n] ++ []) H Q E := ⟨n, rfl, q⟩
theorem ok_l_is_integer (T : Txt K mg) : FnOk P w K mg base CX0 1 T.f_l_is_integer T.d_l_is_integer ["actual"] (sp_l_is_integer K) := by
  refine T.F_l_is_integer.ok sc_l_is_integer (fun vs H Q E h => ?_) (fun cdv A outer s H vs Q E hr h => ?_)
  · obtain ⟨n, rfl, q⟩ := h
    rfl
  · obtain ⟨n, rfl, q⟩ := h
    have hu := hu_of hr
    refine ⟨_, (pss_one (ps_ret (pe_and (pe_callB call_isi (by rfl) T.n_isinstance (by decide +kernel) (pa_cons (pv 0) (pa_cons (pe_bltn (v := .ty "int") (by rfl) T.n_int (by decide +kernel) rfl) pa_nil))) (pe_one (pe_not (pe_callB call_isi (by rfl) T.n_isinstance (by decide +kernel) (pa_cons (pv 0) (pa_cons (pe_bltn (v := .ty "bool") (by rfl) T.n_bool (by decide +kernel) rfl) pa_nil)))))))), ?_⟩
    dsimp only [cxOf, Cx.nox, Cx.wish, L2.start, List.map, List.cons_append, List.nil_append, List.length_cons, List.length_nil, Nat.reduceAdd, Nat.reduceSub, Nat.zero_add, List.replicate_succ, List.replicate_zero]
    walk_at "go"
    exact q
local macro_rules | `(tactic| walk_at "use") => `(tactic| with_reducible refine u_isint ?_)

def sp_l_octets (K : PySem.W.Frag) : Sp := fun vs H Q _ => ∃ (a b : Addr) (ns : List Int), vs = [.ref a, .ref b] ∧ H a = some (.lst (ns.map V.int)) ∧ SqL K H b (ns.map V.int) ∧ ns.length ≤ 1000 ∧ Q (.bl true) H
theorem u_octets {a b : Addr} {ns : List Int} {H Q E} (h1 : H a = some (.lst (ns.map V.int))) (h2 : SqL K H b (ns.map V.int)) (h3 : ns.length ≤ 1000) (q : Q (.bl true) H) : sp_l_octets K ([.ref a, .ref b] ++ []) H Q E := ⟨a, b, ns, rfl, h1, h2, h3, q⟩
theorem ok_l_octets (T : Txt K mg) : FnOk P w K mg base CX0 2 T.f_l_octets T.d_l_octets ["actual", "expected"] (sp_l_octets K) := by
  refine T.F_l_octets.ok sc_l_octets (fun vs H Q E h => ?_) (fun cdv A outer s H vs Q E hr h => ?_)
  · obtain ⟨a, b, ns, rfl, h1, h2, h3, q⟩ := h
    rfl
  · obtain ⟨a, b, ns, rfl, h1, h2, h3, q⟩ := h
    have hu := hu_of hr
    refine ⟨_, (pss_cons (ps_if (PW.pt (pw_or (pt_not (pt_val (pe_callB call_isi (by rfl) T.n_isinstance (by decide +kernel) (pa_cons (pv 0) (pa_cons (pe_bltn (v := .ty "list") (by rfl) T.n_list (by decide +kernel) rfl) pa_nil))))) (pw_or1 (pt_cmpR op_ne (pe_callB call_len_seq (by rfl) T.n_len (by decide +kernel) (pa_cons (pv 0) pa_nil)) (pe_callB call_len_seq (by rfl) T.n_len (by decide +kernel) (pa_cons (pv 1) pa_nil)) (nomark _))))) (pss_one (ps_ret pe_bl)) pss_nil)
        (pss_cons (ps_for PassesOwn.never rfl (pi_range1 (by rfl) T.n_range (pa_cons (pe_callB call_len_seq (by rfl) T.n_len (by decide +kernel) (pa_cons (pv 1) pa_nil)) pa_nil)) (pg_name (i := 2) sc_l_octets.nd rfl (Or.inl rfl)) (pss_one (ps_if (PW.pt (pw_or (pt_not (pt_val (pe_call (ok_l_is_integer T) (hr.mono (by decide)) rfl T.m_l_is_integer T.F_l_is_integer.kp T.b_l_is_integer .nil pass0 (pa_cons (pe_ix ix_list (pv 0) (pv 2) (fun _ _ => rfl)) pa_nil)))) (pw_or1 (pt_cmpR op_ne (pe_ix ix_list (pv 0) (pv 2) (fun _ _ => rfl)) (pe_ix ix_list (pv 1) (pv 2) (fun _ _ => rfl)) (nomark _))))) (pss_one (ps_ret pe_bl)) pss_nil)))
        (pss_one (ps_ret pe_bl)))), ?_⟩
    dsimp only [cxOf, Cx.nox, Cx.wish, L2.start, List.map, List.cons_append, List.nil_append, List.length_cons, List.length_nil, Nat.reduceAdd, Nat.reduceSub, Nat.zero_add, List.replicate_succ, List.replicate_zero]
    walk_at "go"
    refine g_isiL h1 ?_
    walk_at "go"
    refine g_len (.inl (sl h1)) ?_
    walk_at "go"
    refine g_len (.inl h2) ?_
    walk_at "go"
    refine for_r (n := (ns.length : Int)) ns.length (by omega) (by omega) (by omega) (fun i σ H' => H' = H ∧ ∃ v, σ = [some (.ref a), some (.ref b), v]) ⟨rfl, none, rfl⟩ ?turn ?done ?ev
    case ev =>
      intro R r
      walk_at "go"
      refine g_len (.inl h2) ?_
      walk_at "go"
      rw [List.length_map]
      exact r
    case done =>
      rintro σ H' ⟨rfl, v, rfl⟩
      walk_at "go"
      exact q
    case turn =>
      rintro i σ H' hi ⟨rfl, v, rfl⟩
      obtain ⟨n, e, _⟩ := atI_ints (xs := ns) (i := (i : Int)) (by omega) (by omega)
      walk_at "go"
      refine g_ixL (sl h1) e ?_
      walk_at "go"
      refine g_ixL (sl h1) e ?_
      walk_at "go"
      refine g_ixL h2 e ?_
      walk_at "go"
      exact ⟨rfl, _, rfl⟩

def sp_l_number (K : PySem.W.Frag) : Sp := fun vs H Q _ => ∃ o : Option Int, vs = [oV o, oV o] ∧ Q (.bl true) H
theorem u_numO {o : Option Int} {H Q E} (q : Q (.bl true) H) : sp_l_number K ([oV o, oV o] ++ []) H Q E := ⟨o, rfl, q⟩
theorem u_numI {i : Int} {H Q E} (q : Q (.bl true) H) : sp_l_number K ([.int i, .int i] ++ []) H Q E := ⟨some i, rfl, q⟩
theorem ok_l_number (T : Txt K mg) : FnOk P w K mg base CX0 2 T.f_l_number T.d_l_number ["actual", "expected"] (sp_l_number K) := by
  refine T.F_l_number.ok sc_l_number (fun vs H Q E h => ?_) (fun cdv A outer s H vs Q E hr h => ?_)
  · obtain ⟨o, rfl, q⟩ := h
    rfl
  · obtain ⟨o, rfl, q⟩ := h
    have hu := hu_of hr
    refine ⟨_, (pss_cons (ps_if (pt_cmpR op_isN (pv 1) pe_non (nomark _)) (pss_one (ps_ret (pe_cmpR op_isN (pv 0) pe_non (nomark _)))) pss_nil)
        (pss_one (ps_ret (pe_and (pe_call (ok_l_is_integer T) (hr.mono (by decide)) rfl T.m_l_is_integer T.F_l_is_integer.kp T.b_l_is_integer .nil pass0 (pa_cons (pv 0) pa_nil)) (pe_one (pe_cmpR op_eq (pv 0) (pv 1) (nomark _))))))), ?_⟩
    dsimp only [cxOf, Cx.nox, Cx.wish, L2.start, List.map, List.cons_append, List.nil_append, List.length_cons, List.length_nil, Nat.reduceAdd, Nat.reduceSub, Nat.zero_add, List.replicate_succ, List.replicate_zero]
    cases o with
    | none =>
      simp only [oV]
      walk_at "go"
      exact q
    | some i =>
      simp only [oV]
      walk_at "go"
      rw [decide_eq_true rfl]
      exact q
def sp_l_flag (K : PySem.W.Frag) : Sp := fun vs H Q _ => ∃ b : Bool, vs = [.bl b, .bl b] ∧ Q (.bl true) H
theorem u_flag {b : Bool} {H Q E} (q : Q (.bl true) H) : sp_l_flag K ([.bl b, .bl b] ++ []) H Q E := ⟨b, rfl, q⟩
theorem ok_l_flag (T : Txt K mg) : FnOk P w K mg base CX0 1 T.f_l_flag T.d_l_flag ["actual", "expected"] (sp_l_flag K) := by
  refine T.F_l_flag.ok sc_l_flag (fun vs H Q E h => ?_) (fun cdv A outer s H vs Q E hr h => ?_)
  · obtain ⟨b, rfl, q⟩ := h
    rfl
  · obtain ⟨b, rfl, q⟩ := h
    have hu := hu_of hr
    refine ⟨_, (pss_cons (ps_if (pt_val (pv 1)) (pss_one (ps_ret (pe_cmpR op_isBl (pv 0) pe_bl (nomark _)))) pss_nil)
        (pss_one (ps_ret (pe_cmpR op_isBl (pv 0) pe_bl (nomark _))))), ?_⟩
    dsimp only [cxOf, Cx.nox, Cx.wish, L2.start, List.map, List.cons_append, List.nil_append, List.length_cons, List.length_nil, Nat.reduceAdd, Nat.reduceSub, Nat.zero_add, List.replicate_succ, List.replicate_zero]
    cases b with
    | true =>
      walk_at "go"
      exact q
    | false =>
      walk_at "go"
      exact q
def sp_l_pair (K : PySem.W.Frag) : Sp := fun vs H Q _ => ∃ (v v' : V) (o : Option (Int × Int)), vs = [v, v'] ∧ StV H v o ∧ StV H v' o ∧ Q (.bl true) H
theorem u_pair {v v' : V} {o : Option (Int × Int)} {H Q E} (h : StV H v o) (h' : StV H v' o) (q : Q (.bl true) H) : sp_l_pair K ([v, v'] ++ []) H Q E := ⟨v, v', o, rfl, h, h', q⟩
local macro_rules | `(tactic| walk_at "use") => `(tactic| with_reducible first | refine u_numO ?_ | refine u_numI ?_ | refine u_flag ?_)
theorem ok_l_pair (T : Txt K mg) : FnOk P w K mg base CX0 3 T.f_l_pair T.d_l_pair ["actual", "expected"] (sp_l_pair K) := by
  refine T.F_l_pair.ok sc_l_pair (fun vs H Q E h => ?_) (fun cdv A outer s H vs Q E hr h => ?_)
  · obtain ⟨v, v', o, rfl, h, h', q⟩ := h
    rfl
  · obtain ⟨v, v', o, rfl, h, h', q⟩ := h
    have hu := hu_of hr
    refine ⟨_, (pss_cons (ps_if (pt_cmpR op_isN (pv 1) pe_non (nomark _)) (pss_one (ps_ret (pe_cmpR op_isN (pv 0) pe_non (nomark _)))) pss_nil)
        (pss_cons (ps_if (PW.pt (pw_or (pt_not (pt_val (pe_callB call_isi (by rfl) T.n_isinstance (by decide +kernel) (pa_cons (pv 0) (pa_cons (pe_bltn (v := .ty "tuple") (by rfl) T.n_tuple (by decide +kernel) rfl) pa_nil))))) (pw_or1 (pt_cmpR op_ne (pe_callB call_len_seq (by rfl) T.n_len (by decide +kernel) (pa_cons (pv 0) pa_nil)) pe_int (nomark _))))) (pss_one (ps_ret pe_bl)) pss_nil)
        (pss_one (ps_ret (pe_and (pe_call (ok_l_number T) (hr.mono (by decide)) rfl T.m_l_number T.F_l_number.kp T.b_l_number .nil pass0 (pa_cons (pe_ix ix_tup (pv 0) pe_int (fun _ _ => rfl)) (pa_cons (pe_ix ix_tup (pv 1) pe_int (fun _ _ => rfl)) pa_nil))) (pe_one (pe_call (ok_l_number T) (hr.mono (by decide)) rfl T.m_l_number T.F_l_number.kp T.b_l_number .nil pass0 (pa_cons (pe_ix ix_tup (pv 0) pe_int (fun _ _ => rfl)) (pa_cons (pe_ix ix_tup (pv 1) pe_int (fun _ _ => rfl)) pa_nil))))))))), ?_⟩
    dsimp only [cxOf, Cx.nox, Cx.wish, L2.start, List.map, List.cons_append, List.nil_append, List.length_cons, List.length_nil, Nat.reduceAdd, Nat.reduceSub, Nat.zero_add, List.replicate_succ, List.replicate_zero]
    cases o with
    | none =>
      have e : v = .non := h
      have e' : v' = .non := h'
      subst e
      subst e'
      walk_at "go"
      exact q
    | some p =>
      obtain ⟨t, rfl, ht⟩ := h
      obtain ⟨t', rfl, ht'⟩ := h'
      walk_at "go"
      refine g_isiU ht ?_
      walk_at "go"
      refine g_len (.inr (st ht)) ?_
      walk_at "go"
      refine g_ixT (st ht) (at_of (j := 0) rfl rfl) ?_
      walk_at "go"
      refine g_ixT (st ht') (at_of (j := 0) rfl rfl) ?_
      walk_at "go"
      refine g_ixT (st ht) (at_of (j := 1) rfl rfl) ?_
      walk_at "go"
      refine g_ixT (st ht') (at_of (j := 1) rfl rfl) ?_
      walk_at "go"
      exact q
def sp_l_all_pairs (K : PySem.W.Frag) : Sp := fun vs H Q _ => ∃ (a b : Addr) (us ws : List V) (ps : List (Int × Int)), vs = [.ref a, .ref b] ∧ H a = some (.lst us) ∧ Prs H us ps ∧ H b = some (.lst ws) ∧ Prs H ws ps ∧ ps.length ≤ 1000 ∧ Q (.bl true) H
theorem u_allp {a b : Addr} {us ws : List V} {ps : List (Int × Int)} {H Q E} (h1 : H a = some (.lst us)) (h2 : Prs H us ps) (h3 : H b = some (.lst ws)) (h4 : Prs H ws ps) (hl : ps.length ≤ 1000) (q : Q (.bl true) H) : sp_l_all_pairs K ([.ref a, .ref b] ++ []) H Q E := ⟨a, b, us, ws, ps, rfl, h1, h2, h3, h4, hl, q⟩
theorem ok_l_all_pairs (T : Txt K mg) : FnOk P w K mg base CX0 4 T.f_l_all_pairs T.d_l_all_pairs ["actual", "expected"] (sp_l_all_pairs K) := by
  refine T.F_l_all_pairs.ok sc_l_all_pairs (fun vs H Q E h => ?_) (fun cdv A outer s H vs Q E hr h => ?_)
  · obtain ⟨a, b, us, ws, ps, rfl, h1, h2, h3, h4, hl, q⟩ := h
    rfl
  · obtain ⟨a, b, us, ws, ps, rfl, h1, h2, h3, h4, hl, q⟩ := h
    have hu := hu_of hr
    refine ⟨_, (pss_cons (ps_if (PW.pt (pw_or (pt_not (pt_val (pe_callB call_isi (by rfl) T.n_isinstance (by decide +kernel) (pa_cons (pv 0) (pa_cons (pe_bltn (v := .ty "list") (by rfl) T.n_list (by decide +kernel) rfl) pa_nil))))) (pw_or1 (pt_cmpR op_ne (pe_callB call_len_seq (by rfl) T.n_len (by decide +kernel) (pa_cons (pv 0) pa_nil)) (pe_callB call_len_seq (by rfl) T.n_len (by decide +kernel) (pa_cons (pv 1) pa_nil)) (nomark _))))) (pss_one (ps_ret pe_bl)) pss_nil)
        (pss_cons (ps_for PassesOwn.never rfl (pi_range1 (by rfl) T.n_range (pa_cons (pe_callB call_len_seq (by rfl) T.n_len (by decide +kernel) (pa_cons (pv 1) pa_nil)) pa_nil)) (pg_name (i := 2) sc_l_all_pairs.nd rfl (Or.inl rfl)) (pss_one (ps_if (pt_not (pt_val (pe_call (ok_l_pair T) (hr.mono (by decide)) rfl T.m_l_pair T.F_l_pair.kp T.b_l_pair .nil pass0 (pa_cons (pe_ix ix_list (pv 0) (pv 2) (fun _ _ => rfl)) (pa_cons (pe_ix ix_list (pv 1) (pv 2) (fun _ _ => rfl)) pa_nil))))) (pss_one (ps_ret pe_bl)) pss_nil)))
        (pss_one (ps_ret pe_bl)))), ?_⟩
    dsimp only [cxOf, Cx.nox, Cx.wish, L2.start, List.map, List.cons_append, List.nil_append, List.length_cons, List.length_nil, Nat.reduceAdd, Nat.reduceSub, Nat.zero_add, List.replicate_succ, List.replicate_zero]
    have l1 := h2.1
    have l2 := h4.1
    walk_at "go"
    refine g_isiL h1 ?_
    walk_at "go"
    refine g_len (.inl (sl h1)) ?_
    walk_at "go"
    refine g_len (.inl (sl h3)) ?_
    walk_at "go"
    refine for_r (n := (ws.length : Int)) ps.length (by omega) (by omega) (by omega) (fun i σ H' => H' = H ∧ ∃ v, σ = [some (.ref a), some (.ref b), v]) ⟨rfl, none, rfl⟩ ?turn ?done ?ev
    case ev =>
      intro R r
      walk_at "go"
      refine g_len (.inl (sl h3)) ?_
      walk_at "go"
      exact r
    case done =>
      rintro σ H' ⟨rfl, v, rfl⟩
      walk_at "go"
      exact q
    case turn =>
      rintro i σ H' hi ⟨rfl, v, rfl⟩
      obtain ⟨p, hp⟩ : ∃ p, ps[i]? = some p := ⟨ps[i]'hi, List.getElem?_eq_getElem _⟩
      obtain ⟨t, ht1, ht2⟩ := h2.2 i p hp
      obtain ⟨t', ht1', ht2'⟩ := h4.2 i p hp
      walk_at "go"
      refine g_ixL (sl h1) (at_of rfl ht1) ?_
      walk_at "go"
      refine g_ixL (sl h3) (at_of rfl ht1') ?_
      walk_at "go"
      refine u_pair (o := some p) ⟨t, rfl, ht2⟩ ⟨t', rfl, ht2'⟩ ?_
      walk_at "go"
      exact ⟨rfl, _, rfl⟩
def sp_l_same (C : Addr) (K : PySem.W.Frag) : Sp := fun vs H Q _ => ∃ (p a d r da ra : Addr) (g : Sg), vs = [.ref p, .ref a] ∧ SegO C H p g d r ∧ SegD H a g da ra ∧ g.rs.length ≤ 1000 ∧ g.ds.length ≤ 1000 ∧ Q (.bl true) H
theorem u_same {C p a d r da ra : Addr} {g : Sg} {H Q E} (h1 : SegO C H p g d r) (h2 : SegD H a g da ra) (l1 : g.rs.length ≤ 1000) (l2 : g.ds.length ≤ 1000) (q : Q (.bl true) H) : sp_l_same C K ([.ref p, .ref a] ++ []) H Q E := ⟨p, a, d, r, da, ra, g, rfl, h1, h2, l1, l2, q⟩
theorem ok_l_same (T : Txt K mg) : FnOk P w K mg base CX0 5 T.f_l_same T.d_l_same ["actual", "parts"] (sp_l_same T.C_Segment K) := by
  refine T.F_l_same.ok sc_l_same (fun vs H Q E h => ?_) (fun cdv A outer s H vs Q E hr h => ?_)
  · obtain ⟨p, a, d, r, da, ra, g, rfl, ⟨dx, sv, ho, hd, ⟨us, hr1, hP1⟩, hs1⟩, ⟨sv2, hdk, hda, ⟨ws, hra, hP2⟩, hs2⟩, l1, l2, q⟩ := h
    rfl
  · obtain ⟨p, a, d, r, da, ra, g, rfl, ⟨dx, sv, ho, hd, ⟨us, hr1, hP1⟩, hs1⟩, ⟨sv2, hdk, hda, ⟨ws, hra, hP2⟩, hs2⟩, l1, l2, q⟩ := h
    have hu := hu_of hr
    refine ⟨_, (pss_cons (ps_if (pt_not (pt_val (pe_callB call_isi (by rfl) T.n_isinstance (by decide +kernel) (pa_cons (pv 0) (pa_cons (pe_glob (v := .ref T.C_Segment) (by rfl) T.c_Segment rfl) pa_nil))))) (pss_one (ps_ret pe_bl)) pss_nil)
        (pss_cons (ps_if (PW.pt (pw_or (pt_not (pt_val (pe_call (ok_l_number T) (hr.mono (by decide)) rfl T.m_l_number T.F_l_number.kp T.b_l_number .nil pass0 (pa_cons (pe_fld (pv 0) rfl) (pa_cons (pe_dget hu (pv 1) pe_str (fun _ _ => rfl)) pa_nil))))) (pw_or1 (pt_not (pt_val (pe_call (ok_l_number T) (hr.mono (by decide)) rfl T.m_l_number T.F_l_number.kp T.b_l_number .nil pass0 (pa_cons (pe_fld (pv 0) rfl) (pa_cons (pe_dget hu (pv 1) pe_str (fun _ _ => rfl)) pa_nil)))))))) (pss_one (ps_ret pe_bl)) pss_nil)
        (pss_cons (ps_if (PW.pt (pw_or (pt_not (pt_val (pe_call (ok_l_number T) (hr.mono (by decide)) rfl T.m_l_number T.F_l_number.kp T.b_l_number .nil pass0 (pa_cons (pe_fld (pv 0) rfl) (pa_cons (pe_dget hu (pv 1) pe_str (fun _ _ => rfl)) pa_nil))))) (pw_or1 (pt_not (pt_val (pe_call (ok_l_number T) (hr.mono (by decide)) rfl T.m_l_number T.F_l_number.kp T.b_l_number .nil pass0 (pa_cons (pe_fld (pv 0) rfl) (pa_cons (pe_dget hu (pv 1) pe_str (fun _ _ => rfl)) pa_nil)))))))) (pss_one (ps_ret pe_bl)) pss_nil)
        (pss_cons (ps_if (PW.pt (pw_or (pt_not (pt_val (pe_call (ok_l_number T) (hr.mono (by decide)) rfl T.m_l_number T.F_l_number.kp T.b_l_number .nil pass0 (pa_cons (pe_fld (pv 0) rfl) (pa_cons (pe_dget hu (pv 1) pe_str (fun _ _ => rfl)) pa_nil))))) (pw_or1 (pt_not (pt_val (pe_call (ok_l_number T) (hr.mono (by decide)) rfl T.m_l_number T.F_l_number.kp T.b_l_number .nil pass0 (pa_cons (pe_fld (pv 0) rfl) (pa_cons (pe_dget hu (pv 1) pe_str (fun _ _ => rfl)) pa_nil)))))))) (pss_one (ps_ret pe_bl)) pss_nil)
        (pss_cons (ps_if (PW.pt (pw_or (pt_not (pt_val (pe_call (ok_l_flag T) (hr.mono (by decide)) rfl T.m_l_flag T.F_l_flag.kp T.b_l_flag .nil pass0 (pa_cons (pe_fld (pv 0) rfl) (pa_cons (pe_dget hu (pv 1) pe_str (fun _ _ => rfl)) pa_nil))))) (pw_or1 (pt_not (pt_val (pe_call (ok_l_flag T) (hr.mono (by decide)) rfl T.m_l_flag T.F_l_flag.kp T.b_l_flag .nil pass0 (pa_cons (pe_fld (pv 0) rfl) (pa_cons (pe_dget hu (pv 1) pe_str (fun _ _ => rfl)) pa_nil)))))))) (pss_one (ps_ret pe_bl)) pss_nil)
        (pss_cons (ps_if (PW.pt (pw_or (pt_not (pt_val (pe_call (ok_l_flag T) (hr.mono (by decide)) rfl T.m_l_flag T.F_l_flag.kp T.b_l_flag .nil pass0 (pa_cons (pe_fld (pv 0) rfl) (pa_cons (pe_dget hu (pv 1) pe_str (fun _ _ => rfl)) pa_nil))))) (pw_or1 (pt_not (pt_val (pe_call (ok_l_flag T) (hr.mono (by decide)) rfl T.m_l_flag T.F_l_flag.kp T.b_l_flag .nil pass0 (pa_cons (pe_fld (pv 0) rfl) (pa_cons (pe_dget hu (pv 1) pe_str (fun _ _ => rfl)) pa_nil)))))))) (pss_one (ps_ret pe_bl)) pss_nil)
        (pss_cons (ps_if (PW.pt (pw_or (pt_not (pt_val (pe_call (ok_l_flag T) (hr.mono (by decide)) rfl T.m_l_flag T.F_l_flag.kp T.b_l_flag .nil pass0 (pa_cons (pe_fld (pv 0) rfl) (pa_cons (pe_dget hu (pv 1) pe_str (fun _ _ => rfl)) pa_nil))))) (pw_or1 (pt_not (pt_val (pe_call (ok_l_flag T) (hr.mono (by decide)) rfl T.m_l_flag T.F_l_flag.kp T.b_l_flag .nil pass0 (pa_cons (pe_fld (pv 0) rfl) (pa_cons (pe_dget hu (pv 1) pe_str (fun _ _ => rfl)) pa_nil)))))))) (pss_one (ps_ret pe_bl)) pss_nil)
        (pss_cons (ps_if (pt_not (pt_val (pe_call (ok_l_number T) (hr.mono (by decide)) rfl T.m_l_number T.F_l_number.kp T.b_l_number .nil pass0 (pa_cons (pe_fld (pv 0) rfl) (pa_cons (pe_dget hu (pv 1) pe_str (fun _ _ => rfl)) pa_nil))))) (pss_one (ps_ret pe_bl)) pss_nil)
        (pss_cons (ps_if (PW.pt (pw_or (pt_not (pt_val (pe_call (ok_l_number T) (hr.mono (by decide)) rfl T.m_l_number T.F_l_number.kp T.b_l_number .nil pass0 (pa_cons (pe_fld (pv 0) rfl) (pa_cons (pe_dget hu (pv 1) pe_str (fun _ _ => rfl)) pa_nil))))) (pw_or1 (pt_not (pt_val (pe_call (ok_l_number T) (hr.mono (by decide)) rfl T.m_l_number T.F_l_number.kp T.b_l_number .nil pass0 (pa_cons (pe_fld (pv 0) rfl) (pa_cons (pe_dget hu (pv 1) pe_str (fun _ _ => rfl)) pa_nil)))))))) (pss_one (ps_ret pe_bl)) pss_nil)
        (pss_cons (ps_if (PW.pt (pw_or (pt_not (pt_val (pe_call (ok_l_pair T) (hr.mono (by decide)) rfl T.m_l_pair T.F_l_pair.kp T.b_l_pair .nil pass0 (pa_cons (pe_fld (pv 0) rfl) (pa_cons (pe_dget hu (pv 1) pe_str (fun _ _ => rfl)) pa_nil))))) (pw_or1 (pt_not (pt_val (pe_call (ok_l_all_pairs T) (hr.mono (by decide)) rfl T.m_l_all_pairs T.F_l_all_pairs.kp T.b_l_all_pairs .nil pass0 (pa_cons (pe_fld (pv 0) rfl) (pa_cons (pe_dget hu (pv 1) pe_str (fun _ _ => rfl)) pa_nil)))))))) (pss_one (ps_ret pe_bl)) pss_nil)
        (pss_one (ps_ret (pe_call (ok_l_octets T) (hr.mono (by decide)) rfl T.m_l_octets T.F_l_octets.kp T.b_l_octets .nil pass0 (pa_cons (pe_fld (pv 0) rfl) (pa_cons (pe_dget hu (pv 1) pe_str (fun _ _ => rfl)) pa_nil))))))))))))))), ?_⟩
    dsimp only [cxOf, Cx.nox, Cx.wish, L2.start, List.map, List.cons_append, List.nil_append, List.length_cons, List.length_nil, Nat.reduceAdd, Nat.reduceSub, Nat.zero_add, List.replicate_succ, List.replicate_zero]
    unfold sgVs at ho
    have hda' : SqL K H da (g.ds.map V.int) := sl hda
    walk_at "go"
    refine g_isi (.own _) (.base (T.i_Segment ho)) (if_pos (beq_self_eq_true _)) ?_
    walk_at "go"
    refine u_pair hs1 hs2 ?_
    walk_at "go"
    refine u_allp hr1 hP1 hra hP2 l1 ?_
    walk_at "go"
    refine u_octets hd hda' l2 ?_
    walk_at "go"
    exact q

end
end My
namespace My
open PySem PySem.Spec L2
local macro_rules | `(tactic| walk_at "side") => `(tactic| first | assumption | decide | omega | exact ⟨by decide, by decide⟩ | exact ⟨by decide, by decide, by decide⟩ | decide +kernel | exact cdivW (by decide +kernel) (by decide +kernel) | exact Or.inl ⟨by omega, by omega⟩ | exact Or.inr ⟨by omega, by omega⟩ | (simp only [List.length_map, List.length_cons, List.length_nil, List.length_append]; omega))
local macro_rules | `(tactic| walk_at "fact") => `(tactic| first | assumption | omega | with_reducible rfl)
local macro_rules | `(tactic| walk_at "use") => `(tactic| fail "use")
local macro_rules | `(tactic| walk_at "go1") => `(tactic| with_reducible first | refine g_seq ?_ | refine g_asg ?_ | refine g_ret ?_ | refine g_ifS ?_ | refine g_drop ?_ | refine g_star ?_ | refine g_nx ?_ | refine g_rt ?_ | refine g_bkE ?_ | refine g_ctE ?_ | refine g_next ?_ | refine g_retN ?_ | refine g_brk ?_ | refine g_ct ?_ | refine g_c ?_ | refine g_op ?_ | refine g_un ?_ | refine g_rI0 ?_ | refine g_rU ?_ | refine g_rEqI ?_ | refine g_rNeI ?_ | refine g_isN ?_ | refine g_rIsB ?_ | refine g_rNotB ?_ | refine g_test ?_ | refine g_B ?_ | refine g_bl ?_ | refine g_and ?_ | refine g_or ?_ | refine g_not ?_ | refine g_andV ?_ | refine g_orV ?_ | refine g_notV ?_ | refine g_if ?_ | refine g_chain ?_ | refine g_yes ?_ | refine g_lc ?_ | refine g_revR ?_ | refine g_rng1 ?_ | refine g_iList ?_ | refine g_nil ?_ | refine g_cons ?_ | refine g_tup ?_ | refine g_lst ?_ | refine g_call ?_ | refine g_CB ?_ | refine g_sl ?_ | refine g_noPart ?_ | refine g_part ?_ | refine g_intE ?_ | refine g_ref ?_ | refine g_fld ?_ | refine g_sfld ?_ | refine g_meth ?_ | refine g_make ?_ | refine g_prop ?_  | refine g_ipI ?_ | refine g_int1 ?_ | refine g_int1B ?_ | refine g_one ?_ | refine g_two ?_ | refine g_isiI ?_ | refine g_isiIB ?_ | refine g_isiB ?_ | refine g_BM ?_ | refine g_BM0 ?_ | refine g_sub ?_)
local macro_rules | `(tactic| walk_at "go") => `(tactic| repeat (first | walk_at "go1" | ((with_reducible refine' g_nameE ?sd_ ?_); case sd_ => dsimp only [List.set_cons_succ, List.set_cons_zero]) | ((with_reducible refine' g_var ?sd_ ?_); case sd_ => exact rfl) | ((with_reducible refine' g_aug ?sd_ ?_); case sd_ => exact rfl) | ((with_reducible refine' g_rI ?sd_ ?_); case sd_ => walk_at "side") | ((with_reducible refine' g_dT ?sd_ ?_); case sd_ => walk_at "fact") | ((with_reducible refine' g_dF ?sd_ ?_); case sd_ => walk_at "fact") | ((with_reducible refine' g_nT ?sd_ ?_); case sd_ => walk_at "fact") | ((with_reducible refine' g_nF ?sd_ ?_); case sd_ => walk_at "fact") | (with_reducible refine g_iT rfl ?_) | (with_reducible refine g_iF rfl ?_) | walk_at "use"))
local macro_rules | `(tactic| walk_at "use") => `(tactic| first | ((with_reducible refine' fd_Segment_source ?ho_ ?hv_ ?_); (case ho_ => first | assumption | exact upd_same); (case hv_ => exact rfl)) | ((with_reducible refine' fd_Segment_target ?ho_ ?hv_ ?_); (case ho_ => first | assumption | exact upd_same); (case hv_ => exact rfl)) | ((with_reducible refine' fd_Segment_seq ?ho_ ?hv_ ?_); (case ho_ => first | assumption | exact upd_same); (case hv_ => exact rfl)) | ((with_reducible refine' fd_Segment_count ?ho_ ?hv_ ?_); (case ho_ => first | assumption | exact upd_same); (case hv_ => exact rfl)) | ((with_reducible refine' fd_Segment_echo ?ho_ ?hv_ ?_); (case ho_ => first | assumption | exact upd_same); (case hv_ => exact rfl)) | ((with_reducible refine' fd_Segment_ack ?ho_ ?hv_ ?_); (case ho_ => first | assumption | exact upd_same); (case hv_ => exact rfl)) | ((with_reducible refine' fd_Segment_syn ?ho_ ?hv_ ?_); (case ho_ => first | assumption | exact upd_same); (case hv_ => exact rfl)) | ((with_reducible refine' fd_Segment_fin ?ho_ ?hv_ ?_); (case ho_ => first | assumption | exact upd_same); (case hv_ => exact rfl)) | ((with_reducible refine' fd_Segment_reset ?ho_ ?hv_ ?_); (case ho_ => first | assumption | exact upd_same); (case hv_ => exact rfl)) | ((with_reducible refine' fd_Segment_marked ?ho_ ?hv_ ?_); (case ho_ => first | assumption | exact upd_same); (case hv_ => exact rfl)) | ((with_reducible refine' fd_Segment_cut ?ho_ ?hv_ ?_); (case ho_ => first | assumption | exact upd_same); (case hv_ => exact rfl)) | ((with_reducible refine' fd_Segment_window ?ho_ ?hv_ ?_); (case ho_ => first | assumption | exact upd_same); (case hv_ => exact rfl)) | ((with_reducible refine' fd_Segment_mss ?ho_ ?hv_ ?_); (case ho_ => first | assumption | exact upd_same); (case hv_ => exact rfl)) | ((with_reducible refine' fd_Segment_scale ?ho_ ?hv_ ?_); (case ho_ => first | assumption | exact upd_same); (case hv_ => exact rfl)) | ((with_reducible refine' fd_Segment_ranges_known ?ho_ ?hv_ ?_); (case ho_ => first | assumption | exact upd_same); (case hv_ => exact rfl)) | ((with_reducible refine' fd_Segment_ranges ?ho_ ?hv_ ?_); (case ho_ => first | assumption | exact upd_same); (case hv_ => exact rfl)) | ((with_reducible refine' fd_Segment_stamp ?ho_ ?hv_ ?_); (case ho_ => first | assumption | exact upd_same); (case hv_ => exact rfl)) | ((with_reducible refine' fd_Segment_data ?ho_ ?hv_ ?_); (case ho_ => first | assumption | exact upd_same); (case hv_ => exact rfl)) | ((with_reducible refine' nw_Segment_source ?ho_ ?hv_ ?_); (case ho_ => first | assumption | exact upd_same); (case hv_ => exact rfl)) | ((with_reducible refine' nw_Segment_target ?ho_ ?hv_ ?_); (case ho_ => first | assumption | exact upd_same); (case hv_ => exact rfl)) | ((with_reducible refine' nw_Segment_seq ?ho_ ?hv_ ?_); (case ho_ => first | assumption | exact upd_same); (case hv_ => exact rfl)) | ((with_reducible refine' nw_Segment_count ?ho_ ?hv_ ?_); (case ho_ => first | assumption | exact upd_same); (case hv_ => exact rfl)) | ((with_reducible refine' nw_Segment_echo ?ho_ ?hv_ ?_); (case ho_ => first | assumption | exact upd_same); (case hv_ => exact rfl)) | ((with_reducible refine' nw_Segment_ack ?ho_ ?hv_ ?_); (case ho_ => first | assumption | exact upd_same); (case hv_ => exact rfl)) | ((with_reducible refine' nw_Segment_syn ?ho_ ?hv_ ?_); (case ho_ => first | assumption | exact upd_same); (case hv_ => exact rfl)) | ((with_reducible refine' nw_Segment_fin ?ho_ ?hv_ ?_); (case ho_ => first | assumption | exact upd_same); (case hv_ => exact rfl)) | ((with_reducible refine' nw_Segment_reset ?ho_ ?hv_ ?_); (case ho_ => first | assumption | exact upd_same); (case hv_ => exact rfl)) | ((with_reducible refine' nw_Segment_marked ?ho_ ?hv_ ?_); (case ho_ => first | assumption | exact upd_same); (case hv_ => exact rfl)) | ((with_reducible refine' nw_Segment_cut ?ho_ ?hv_ ?_); (case ho_ => first | assumption | exact upd_same); (case hv_ => exact rfl)) | ((with_reducible refine' nw_Segment_window ?ho_ ?hv_ ?_); (case ho_ => first | assumption | exact upd_same); (case hv_ => exact rfl)) | ((with_reducible refine' nw_Segment_mss ?ho_ ?hv_ ?_); (case ho_ => first | assumption | exact upd_same); (case hv_ => exact rfl)) | ((with_reducible refine' nw_Segment_scale ?ho_ ?hv_ ?_); (case ho_ => first | assumption | exact upd_same); (case hv_ => exact rfl)) | ((with_reducible refine' nw_Segment_ranges_known ?ho_ ?hv_ ?_); (case ho_ => first | assumption | exact upd_same); (case hv_ => exact rfl)) | ((with_reducible refine' nw_Segment_ranges ?ho_ ?hv_ ?_); (case ho_ => first | assumption | exact upd_same); (case hv_ => exact rfl)) | ((with_reducible refine' nw_Segment_stamp ?ho_ ?hv_ ?_); (case ho_ => first | assumption | exact upd_same); (case hv_ => exact rfl)) | ((with_reducible refine' nw_Segment_data ?ho_ ?hv_ ?_); (case ho_ => first | assumption | exact upd_same); (case hv_ => exact rfl)) | ((with_reducible refine' st_Segment_source ?ho_ ?hv_ ?_); (case ho_ => first | assumption | exact upd_same); (case hv_ => exact Nat.le_of_ble_eq_true rfl)) | ((with_reducible refine' st_Segment_target ?ho_ ?hv_ ?_); (case ho_ => first | assumption | exact upd_same); (case hv_ => exact Nat.le_of_ble_eq_true rfl)) | ((with_reducible refine' st_Segment_seq ?ho_ ?hv_ ?_); (case ho_ => first | assumption | exact upd_same); (case hv_ => exact Nat.le_of_ble_eq_true rfl)) | ((with_reducible refine' st_Segment_count ?ho_ ?hv_ ?_); (case ho_ => first | assumption | exact upd_same); (case hv_ => exact Nat.le_of_ble_eq_true rfl)) | ((with_reducible refine' st_Segment_echo ?ho_ ?hv_ ?_); (case ho_ => first | assumption | exact upd_same); (case hv_ => exact Nat.le_of_ble_eq_true rfl)) | ((with_reducible refine' st_Segment_ack ?ho_ ?hv_ ?_); (case ho_ => first | assumption | exact upd_same); (case hv_ => exact Nat.le_of_ble_eq_true rfl)) | ((with_reducible refine' st_Segment_syn ?ho_ ?hv_ ?_); (case ho_ => first | assumption | exact upd_same); (case hv_ => exact Nat.le_of_ble_eq_true rfl)) | ((with_reducible refine' st_Segment_fin ?ho_ ?hv_ ?_); (case ho_ => first | assumption | exact upd_same); (case hv_ => exact Nat.le_of_ble_eq_true rfl)) | ((with_reducible refine' st_Segment_reset ?ho_ ?hv_ ?_); (case ho_ => first | assumption | exact upd_same); (case hv_ => exact Nat.le_of_ble_eq_true rfl)) | ((with_reducible refine' st_Segment_marked ?ho_ ?hv_ ?_); (case ho_ => first | assumption | exact upd_same); (case hv_ => exact Nat.le_of_ble_eq_true rfl)) | ((with_reducible refine' st_Segment_cut ?ho_ ?hv_ ?_); (case ho_ => first | assumption | exact upd_same); (case hv_ => exact Nat.le_of_ble_eq_true rfl)) | ((with_reducible refine' st_Segment_window ?ho_ ?hv_ ?_); (case ho_ => first | assumption | exact upd_same); (case hv_ => exact Nat.le_of_ble_eq_true rfl)) | ((with_reducible refine' st_Segment_mss ?ho_ ?hv_ ?_); (case ho_ => first | assumption | exact upd_same); (case hv_ => exact Nat.le_of_ble_eq_true rfl)) | ((with_reducible refine' st_Segment_scale ?ho_ ?hv_ ?_); (case ho_ => first | assumption | exact upd_same); (case hv_ => exact Nat.le_of_ble_eq_true rfl)) | ((with_reducible refine' st_Segment_ranges_known ?ho_ ?hv_ ?_); (case ho_ => first | assumption | exact upd_same); (case hv_ => exact Nat.le_of_ble_eq_true rfl)) | ((with_reducible refine' st_Segment_ranges ?ho_ ?hv_ ?_); (case ho_ => first | assumption | exact upd_same); (case hv_ => exact Nat.le_of_ble_eq_true rfl)) | ((with_reducible refine' st_Segment_stamp ?ho_ ?hv_ ?_); (case ho_ => first | assumption | exact upd_same); (case hv_ => exact Nat.le_of_ble_eq_true rfl)) | ((with_reducible refine' st_Segment_data ?ho_ ?hv_ ?_); (case ho_ => first | assumption | exact upd_same); (case hv_ => exact Nat.le_of_ble_eq_true rfl)))
local macro_rules | `(tactic| walk_at "use") => `(tactic| first | ((with_reducible refine' dg_S_source ?ho_ ?hv_ ?_); (case ho_ => first | assumption | exact upd_same); (case hv_ => exact rfl)) | ((with_reducible refine' dg_S_target ?ho_ ?hv_ ?_); (case ho_ => first | assumption | exact upd_same); (case hv_ => exact rfl)) | ((with_reducible refine' dg_S_seq ?ho_ ?hv_ ?_); (case ho_ => first | assumption | exact upd_same); (case hv_ => exact rfl)) | ((with_reducible refine' dg_S_count ?ho_ ?hv_ ?_); (case ho_ => first | assumption | exact upd_same); (case hv_ => exact rfl)) | ((with_reducible refine' dg_S_echo ?ho_ ?hv_ ?_); (case ho_ => first | assumption | exact upd_same); (case hv_ => exact rfl)) | ((with_reducible refine' dg_S_ack ?ho_ ?hv_ ?_); (case ho_ => first | assumption | exact upd_same); (case hv_ => exact rfl)) | ((with_reducible refine' dg_S_syn ?ho_ ?hv_ ?_); (case ho_ => first | assumption | exact upd_same); (case hv_ => exact rfl)) | ((with_reducible refine' dg_S_fin ?ho_ ?hv_ ?_); (case ho_ => first | assumption | exact upd_same); (case hv_ => exact rfl)) | ((with_reducible refine' dg_S_reset ?ho_ ?hv_ ?_); (case ho_ => first | assumption | exact upd_same); (case hv_ => exact rfl)) | ((with_reducible refine' dg_S_marked ?ho_ ?hv_ ?_); (case ho_ => first | assumption | exact upd_same); (case hv_ => exact rfl)) | ((with_reducible refine' dg_S_cut ?ho_ ?hv_ ?_); (case ho_ => first | assumption | exact upd_same); (case hv_ => exact rfl)) | ((with_reducible refine' dg_S_ranges_known ?ho_ ?hv_ ?_); (case ho_ => first | assumption | exact upd_same); (case hv_ => exact rfl)) | ((with_reducible refine' dg_S_window ?ho_ ?hv_ ?_); (case ho_ => first | assumption | exact upd_same); (case hv_ => exact rfl)) | ((with_reducible refine' dg_S_mss ?ho_ ?hv_ ?_); (case ho_ => first | assumption | exact upd_same); (case hv_ => exact rfl)) | ((with_reducible refine' dg_S_scale ?ho_ ?hv_ ?_); (case ho_ => first | assumption | exact upd_same); (case hv_ => exact rfl)) | ((with_reducible refine' dg_S_ranges ?ho_ ?hv_ ?_); (case ho_ => first | assumption | exact upd_same); (case hv_ => exact rfl)) | ((with_reducible refine' dg_S_stamp ?ho_ ?hv_ ?_); (case ho_ => first | assumption | exact upd_same); (case hv_ => exact rfl)) | ((with_reducible refine' dg_S_data ?ho_ ?hv_ ?_); (case ho_ => first | assumption | exact upd_same); (case hv_ => exact rfl)) | ((with_reducible refine' dn_S_source ?ho_ ?hv_ ?_); (case ho_ => first | assumption | exact upd_same); (case hv_ => exact rfl)) | ((with_reducible refine' dn_S_target ?ho_ ?hv_ ?_); (case ho_ => first | assumption | exact upd_same); (case hv_ => exact rfl)) | ((with_reducible refine' dn_S_seq ?ho_ ?hv_ ?_); (case ho_ => first | assumption | exact upd_same); (case hv_ => exact rfl)) | ((with_reducible refine' dn_S_count ?ho_ ?hv_ ?_); (case ho_ => first | assumption | exact upd_same); (case hv_ => exact rfl)) | ((with_reducible refine' dn_S_echo ?ho_ ?hv_ ?_); (case ho_ => first | assumption | exact upd_same); (case hv_ => exact rfl)) | ((with_reducible refine' dn_S_ack ?ho_ ?hv_ ?_); (case ho_ => first | assumption | exact upd_same); (case hv_ => exact rfl)) | ((with_reducible refine' dn_S_syn ?ho_ ?hv_ ?_); (case ho_ => first | assumption | exact upd_same); (case hv_ => exact rfl)) | ((with_reducible refine' dn_S_fin ?ho_ ?hv_ ?_); (case ho_ => first | assumption | exact upd_same); (case hv_ => exact rfl)) | ((with_reducible refine' dn_S_reset ?ho_ ?hv_ ?_); (case ho_ => first | assumption | exact upd_same); (case hv_ => exact rfl)) | ((with_reducible refine' dn_S_marked ?ho_ ?hv_ ?_); (case ho_ => first | assumption | exact upd_same); (case hv_ => exact rfl)) | ((with_reducible refine' dn_S_cut ?ho_ ?hv_ ?_); (case ho_ => first | assumption | exact upd_same); (case hv_ => exact rfl)) | ((with_reducible refine' dn_S_ranges_known ?ho_ ?hv_ ?_); (case ho_ => first | assumption | exact upd_same); (case hv_ => exact rfl)) | ((with_reducible refine' dn_S_window ?ho_ ?hv_ ?_); (case ho_ => first | assumption | exact upd_same); (case hv_ => exact rfl)) | ((with_reducible refine' dn_S_mss ?ho_ ?hv_ ?_); (case ho_ => first | assumption | exact upd_same); (case hv_ => exact rfl)) | ((with_reducible refine' dn_S_scale ?ho_ ?hv_ ?_); (case ho_ => first | assumption | exact upd_same); (case hv_ => exact rfl)) | ((with_reducible refine' dn_S_ranges ?ho_ ?hv_ ?_); (case ho_ => first | assumption | exact upd_same); (case hv_ => exact rfl)) | ((with_reducible refine' dn_S_stamp ?ho_ ?hv_ ?_); (case ho_ => first | assumption | exact upd_same); (case hv_ => exact rfl)) | ((with_reducible refine' dn_S_data ?ho_ ?hv_ ?_); (case ho_ => first | assumption | exact upd_same); (case hv_ => exact rfl)) | ((with_reducible refine' dp_S_source ?ho_ ?hv_ ?_); (case ho_ => first | assumption | exact upd_same); (case hv_ => exact Nat.le_of_ble_eq_true rfl)) | ((with_reducible refine' dp_S_target ?ho_ ?hv_ ?_); (case ho_ => first | assumption | exact upd_same); (case hv_ => exact Nat.le_of_ble_eq_true rfl)) | ((with_reducible refine' dp_S_seq ?ho_ ?hv_ ?_); (case ho_ => first | assumption | exact upd_same); (case hv_ => exact Nat.le_of_ble_eq_true rfl)) | ((with_reducible refine' dp_S_count ?ho_ ?hv_ ?_); (case ho_ => first | assumption | exact upd_same); (case hv_ => exact Nat.le_of_ble_eq_true rfl)) | ((with_reducible refine' dp_S_echo ?ho_ ?hv_ ?_); (case ho_ => first | assumption | exact upd_same); (case hv_ => exact Nat.le_of_ble_eq_true rfl)) | ((with_reducible refine' dp_S_ack ?ho_ ?hv_ ?_); (case ho_ => first | assumption | exact upd_same); (case hv_ => exact Nat.le_of_ble_eq_true rfl)) | ((with_reducible refine' dp_S_syn ?ho_ ?hv_ ?_); (case ho_ => first | assumption | exact upd_same); (case hv_ => exact Nat.le_of_ble_eq_true rfl)) | ((with_reducible refine' dp_S_fin ?ho_ ?hv_ ?_); (case ho_ => first | assumption | exact upd_same); (case hv_ => exact Nat.le_of_ble_eq_true rfl)) | ((with_reducible refine' dp_S_reset ?ho_ ?hv_ ?_); (case ho_ => first | assumption | exact upd_same); (case hv_ => exact Nat.le_of_ble_eq_true rfl)) | ((with_reducible refine' dp_S_marked ?ho_ ?hv_ ?_); (case ho_ => first | assumption | exact upd_same); (case hv_ => exact Nat.le_of_ble_eq_true rfl)) | ((with_reducible refine' dp_S_cut ?ho_ ?hv_ ?_); (case ho_ => first | assumption | exact upd_same); (case hv_ => exact Nat.le_of_ble_eq_true rfl)) | ((with_reducible refine' dp_S_ranges_known ?ho_ ?hv_ ?_); (case ho_ => first | assumption | exact upd_same); (case hv_ => exact Nat.le_of_ble_eq_true rfl)) | ((with_reducible refine' dp_S_window ?ho_ ?hv_ ?_); (case ho_ => first | assumption | exact upd_same); (case hv_ => exact Nat.le_of_ble_eq_true rfl)) | ((with_reducible refine' dp_S_mss ?ho_ ?hv_ ?_); (case ho_ => first | assumption | exact upd_same); (case hv_ => exact Nat.le_of_ble_eq_true rfl)) | ((with_reducible refine' dp_S_scale ?ho_ ?hv_ ?_); (case ho_ => first | assumption | exact upd_same); (case hv_ => exact Nat.le_of_ble_eq_true rfl)) | ((with_reducible refine' dp_S_ranges ?ho_ ?hv_ ?_); (case ho_ => first | assumption | exact upd_same); (case hv_ => exact Nat.le_of_ble_eq_true rfl)) | ((with_reducible refine' dp_S_stamp ?ho_ ?hv_ ?_); (case ho_ => first | assumption | exact upd_same); (case hv_ => exact Nat.le_of_ble_eq_true rfl)) | ((with_reducible refine' dp_S_data ?ho_ ?hv_ ?_); (case ho_ => first | assumption | exact upd_same); (case hv_ => exact Nat.le_of_ble_eq_true rfl)))
local macro_rules | `(tactic| walk_at "use") => `(tactic| with_reducible first | refine g_dgetT ?_ | refine g_dputT ?_)
section
variable {P : Program} {w : World} {K : PySem.W.Frag} {mg : Str → Option Value} {base : Heap}
def sp_l_cell (K : PySem.W.Frag) : Sp := fun vs H Q _ => ∃ (a : Addr) (ns : List Int) (k : Int), vs = [.ref a, .int k] ∧ SqL K H a (ns.map V.int) ∧ 0 ≤ k ∧ Q (.int (cell ns k)) H
theorem u_cell {a : Addr} {ns : List Int} {k : Int} {H Q E} (h : SqL K H a (ns.map V.int)) (h0 : 0 ≤ k) (q : Q (.int (cell ns k)) H) : sp_l_cell K ([.ref a, .int k] ++ []) H Q E := ⟨a, ns, k, rfl, h, h0, q⟩
theorem ok_l_cell (T : Txt K mg) : FnOk P w K mg base CX0 1 T.f_l_cell T.d_l_cell ["script", "k"] (sp_l_cell K) := by
  refine T.F_l_cell.ok sc_l_cell (fun vs H Q E h => ?_) (fun cdv A outer s H vs Q E hr h => ?_)
  · obtain ⟨a, ns, k, rfl, hS, h0, q⟩ := h
    rfl
  · obtain ⟨a, ns, k, rfl, hS, h0, q⟩ := h
    have hu := hu_of hr
    refine ⟨_, (pss_cons (ps_if (pt_cmpR op_lt (pv 1) (pe_callB call_len_seq (by rfl) T.n_len (by decide +kernel) (pa_cons (pv 0) pa_nil)) (nomark _)) (pss_one (ps_ret (pe_ix ix_list (pv 0) (pv 1) (fun _ _ => rfl)))) pss_nil)
        (pss_one (ps_ret pe_int))), ?_⟩
    dsimp only [cxOf, Cx.nox, Cx.wish, L2.start, List.map, List.cons_append, List.nil_append, List.length_cons, List.length_nil, Nat.reduceAdd, Nat.reduceSub, Nat.zero_add, List.replicate_succ, List.replicate_zero]
    walk_at "go"
    refine g_len (.inl hS) ?_
    walk_at "go"
    rw [List.length_map]
    refine g_ite (fun h => ?_) (fun h => ?_)
    · walk_at "go"
      refine g_ixL hS (atI_map h0 h) ?_
      exact q
    · walk_at "go"
      rw [cell_out h] at q
      exact q
local macro_rules | `(tactic| walk_at "use") => `(tactic| with_reducible refine u_cell (by assumption) (by decide) ?_)

def sp_l_row (K : PySem.W.Frag) : Sp := fun vs H Q _ => ∃ (c n b : Int), vs = [.int c, .int n, .int b] ∧ (0 ≤ n ∧ n ≤ 1000 ∧ 0 < b ∧ b ≤ 2 ^ 64) ∧
  ∀ (p : Addr) (row : List Int) H', (row.length : Int) = n → (∀ x ∈ row, 0 ≤ x ∧ x < b) → H p = none → Same H H' → H' p = some (.lst (row.map V.int)) → Q (.ref p) H'
theorem u_row {c n b : Int} {H Q E} (h0 : 0 ≤ n ∧ n ≤ 1000 ∧ 0 < b ∧ b ≤ 2 ^ 64)
    (q : ∀ (p : Addr) (row : List Int) H', (row.length : Int) = n → (∀ x ∈ row, 0 ≤ x ∧ x < b) → H p = none → Same H H' → H' p = some (.lst (row.map V.int)) → Q (.ref p) H') : sp_l_row K ([.int c, .int n, .int b] ++ []) H Q E := ⟨c, n, b, rfl, h0, q⟩
theorem ok_l_row (T : Txt K mg) : FnOk P w K mg base CX0 1 T.f_l_row T.d_l_row ["cell", "size", "base"] (sp_l_row K) := by
  refine T.F_l_row.ok sc_l_row (fun vs H Q E h => ?_) (fun cdv A outer s H vs Q E hr h => ?_)
  · obtain ⟨c, n, b, rfl, h0, q⟩ := h
    rfl
  · obtain ⟨c, n, b, rfl, h0, q⟩ := h
    have hu := hu_of hr
    refine ⟨_, (pss_cons (ps_set (i := 3) sc_l_row.nd rfl (Or.inl rfl) (pe_lst pa_nil))
        (pss_cons (ps_set (i := 4) sc_l_row.nd rfl (Or.inl rfl) (pv 0))
        (pss_cons (ps_for PassesOwn.never rfl (pi_range1 (by rfl) T.n_range (pa_cons (pv 1) pa_nil)) (pg_name (i := 5) sc_l_row.nd rfl (Or.inl rfl)) (pss_one (ps_if (pt_cmpR op_ge (pv 0) (pe_op op_pow pe_int pe_int) (nomark _)) (pss_cons (ps_expr (pe_bm PySem.F.plainAttrs_list PySem.F.slot_list_append PySem.F.type_list_append mt_append (pv 3) (pa_cons (pe_op op_mod (pe_callTy call_int1 (by rfl) T.n_int (by decide +kernel) (pa_cons (pv 4) pa_nil)) (pv 2)) pa_nil)))
        (pss_one (ps_set (i := 4) sc_l_row.nd rfl (Or.inl rfl) (pe_op op_fdivW (pv 4) (pv 2))))) (pss_cons (ps_set (i := 6) sc_l_row.nd rfl (Or.inl rfl) (pe_op op_mod (pe_op op_add (pe_op op_mul (pe_op op_mod (pe_callTy call_int1 (by rfl) T.n_int (by decide +kernel) (pa_cons (pv 0) pa_nil)) pe_int) pe_int) (pe_op op_mul (pv 5) pe_int)) pe_int))
        (pss_cons (ps_set (i := 6) sc_l_row.nd rfl (Or.inl rfl) (pe_op op_mod (pe_op op_add (pe_op op_add (pe_op op_mul (pv 6) pe_int) (pe_op op_mul (pv 5) pe_int)) pe_int) pe_int))
        (pss_one (ps_expr (pe_bm PySem.F.plainAttrs_list PySem.F.slot_list_append PySem.F.type_list_append mt_append (pv 3) (pa_cons (pe_op op_mod (pe_op op_fdiv (pv 6) pe_int) (pv 2)) pa_nil)))))))))
        (pss_one (ps_ret (pv 3)))))), ?_⟩
    dsimp only [cxOf, Cx.nox, Cx.wish, L2.start, List.map, List.cons_append, List.nil_append, List.length_cons, List.length_nil, Nat.reduceAdd, Nat.reduceSub, Nat.zero_add, List.replicate_succ, List.replicate_zero]
    walk_at "go"
    refine ⟨by decide, fun p hp => ?_⟩
    walk_at "go"
    refine for_r (n := n) n.toNat rfl (by omega) (by omega) (fun i σ H' => ∃ (row : List Int) (num : Int) (v5 v6 : Option V), σ = [some (.int c), some (.int n), some (.int b), some (.ref p), some (.int num), v5, v6] ∧ row.length = i ∧ (∀ x ∈ row, 0 ≤ x ∧ x < b) ∧ But p H H' ∧ H' p = some (.lst (row.map V.int)))
      ⟨[], c, none, none, rfl, rfl, (fun x h => by cases h), But.refl.upd, upd_same⟩ ?turn ?done ?ev
    case ev =>
      intro R r
      walk_at "go"
      exact r
    case done =>
      rintro σ H' ⟨row, num, v5, v6, rfl, hl, hb, bu, e⟩
      walk_at "go"
      exact q p row H' (by omega) hb hp (bu.same hp) e
    case turn =>
      rintro i σ H' hi ⟨row, num, v5, v6, rfl, hl, hb, bu, e⟩
      have hlen : (row.map V.int).length < sizeLine := by
        rw [List.length_map]
        exact szl (by omega)
      walk_at "go"
      refine g_ite (fun h => ?_) (fun h => ?_)
      · walk_at "go"
        refine ⟨ty_l e, ?_⟩
        walk_at "go"
        refine g_append e hlen ?_
        walk_at "go"
        refine g_rI (cdivW (by omega) (Int.lt_of_le_of_lt h0.2.2.2 (by decide +kernel))) ?_
        walk_at "go"
        refine ⟨row ++ [num % b], num / b, _, _, rfl, by rw [List.length_append, hl]; rfl, fun x hx => ?_, bu.upd, by rw [upd_same, List.map_append]; rfl⟩
        rcases List.mem_append.mp hx with hx | hx
        · exact hb x hx
        · rw [List.mem_singleton.mp hx]
          exact ⟨Int.emod_nonneg _ (by omega), Int.emod_lt_of_pos _ (by omega)⟩
      · walk_at "go"
        refine ⟨ty_l e, ?_⟩
        walk_at "go"
        refine g_append e hlen ?_
        walk_at "go"
        refine ⟨row ++ [_ % b], num, _, _, rfl, by rw [List.length_append, hl]; rfl, fun x hx => ?_, bu.upd, by rw [upd_same, List.map_append]; rfl⟩
        rcases List.mem_append.mp hx with hx | hx
        · exact hb x hx
        · rw [List.mem_singleton.mp hx]
          exact ⟨Int.emod_nonneg _ (by omega), Int.emod_lt_of_pos _ (by omega)⟩

def sp_l_wire (K : PySem.W.Frag) : Sp := fun vs H Q _ => ∃ c : Int, vs = [.int c] ∧ ∀ x, 0 ≤ x ∧ x < 4294967296 → Q (.int x) H
theorem u_wire {c : Int} {H Q E} (q : ∀ x, 0 ≤ x ∧ x < 4294967296 → Q (.int x) H) : sp_l_wire K ([.int c] ++ []) H Q E := ⟨c, rfl, q⟩
theorem ok_l_wire (T : Txt K mg) : FnOk P w K mg base CX0 1 T.f_l_wire T.d_l_wire ["cell"] (sp_l_wire K) := by
  refine T.F_l_wire.ok sc_l_wire (fun vs H Q E h => ?_) (fun cdv A outer s H vs Q E hr h => ?_)
  · obtain ⟨c, rfl, q⟩ := h
    rfl
  · obtain ⟨c, rfl, q⟩ := h
    have hu := hu_of hr
    refine ⟨_, (pss_cons (ps_if (pt_cmpR op_eq (pe_op op_mod (pe_callTy call_int1 (by rfl) T.n_int (by decide +kernel) (pa_cons (pv 0) pa_nil)) pe_int) pe_int (nomark _)) (pss_one (ps_ret pe_int)) pss_nil)
        (pss_cons (ps_if (pt_cmpR op_eq (pe_op op_mod (pe_callTy call_int1 (by rfl) T.n_int (by decide +kernel) (pa_cons (pv 0) pa_nil)) pe_int) pe_int (nomark _)) (pss_one (ps_ret pe_int)) pss_nil)
        (pss_one (ps_ret (pe_op op_mod (pe_op op_fdiv (pe_callTy call_int1 (by rfl) T.n_int (by decide +kernel) (pa_cons (pv 0) pa_nil)) pe_int) pe_int))))), ?_⟩
    dsimp only [cxOf, Cx.nox, Cx.wish, L2.start, List.map, List.cons_append, List.nil_append, List.length_cons, List.length_nil, Nat.reduceAdd, Nat.reduceSub, Nat.zero_add, List.replicate_succ, List.replicate_zero]
    walk_at "go"
    refine g_ite (fun c1 => ?_) (fun c1 => ?_)
    · walk_at "go"
      exact q 0 (by omega)
    · walk_at "go"
      refine g_ite (fun c2 => ?_) (fun c2 => ?_)
      · walk_at "go"
        exact q _ (by omega)
      · walk_at "go"
        exact q _ (by omega)
def sp_l_optional (K : PySem.W.Frag) : Sp := fun vs H Q _ => ∃ (c : Int) (v : V), vs = [.int c, v] ∧ Q .non H ∧ Q v H
theorem u_opt {c : Int} {v : V} {H Q E} (q0 : Q .non H) (q : Q v H) : sp_l_optional K ([.int c, v] ++ []) H Q E := ⟨c, v, rfl, q0, q⟩
theorem u_optI {c i : Int} {H Q E} (q : ∀ o : Option Int, (∀ j, o = some j → j = i) → Q (oV o) H) : sp_l_optional K ([.int c, .int i] ++ []) H Q E := ⟨c, .int i, rfl, q none (fun j h => by cases h), q (some i) (fun j h => (Option.some.inj h).symm)⟩
theorem u_optP {c : Int} {t : Addr} {p : Int × Int} {H Q E} (h : H t = some (tupP p)) (q : ∀ v o, StV H v o → (∀ r, o = some r → r = p) → Q v H) : sp_l_optional K ([.int c, .ref t] ++ []) H Q E := ⟨c, .ref t, rfl, q .non none rfl (fun j h => by cases h), q (.ref t) (some p) ⟨t, rfl, h⟩ (fun j h => (Option.some.inj h).symm)⟩
theorem ok_l_optional (T : Txt K mg) : FnOk P w K mg base CX0 1 T.f_l_optional T.d_l_optional ["cell", "worth"] (sp_l_optional K) := by
  refine T.F_l_optional.ok sc_l_optional (fun vs H Q E h => ?_) (fun cdv A outer s H vs Q E hr h => ?_)
  · obtain ⟨c, v, rfl, q0, q⟩ := h
    rfl
  · obtain ⟨c, v, rfl, q0, q⟩ := h
    have hu := hu_of hr
    refine ⟨_, (pss_cons (ps_if (pt_cmpR op_eq (pe_op op_mod (pe_callTy call_int1 (by rfl) T.n_int (by decide +kernel) (pa_cons (pv 0) pa_nil)) pe_int) pe_int (nomark _)) (pss_one (ps_ret pe_non)) pss_nil)
        (pss_one (ps_ret (pv 1)))), ?_⟩
    dsimp only [cxOf, Cx.nox, Cx.wish, L2.start, List.map, List.cons_append, List.nil_append, List.length_cons, List.length_nil, Nat.reduceAdd, Nat.reduceSub, Nat.zero_add, List.replicate_succ, List.replicate_zero]
    walk_at "go"
    refine g_ite (fun c1 => ?_) (fun c1 => ?_)
    · walk_at "go"
      exact q0
    · walk_at "go"
      exact q
/-- a comprehension of pairs, under way -/
def LcPP (H1 : Hp) (D : Addr) (ps : List (Int × Int)) (i : Nat) (H : Hp) : Prop := Same H1 H ∧ ∃ us, H D = some (.lst us) ∧ Prs H us (ps.take i)
theorem lc_pair {H1 H3 : Hp} {D t : Addr} {ps : List (Int × Int)} {i : Nat} {p : Int × Int} (hD : H1 D = none) (h : LcPP H1 D ps i H3) (ht : H3 t = none) (hp : ps[i]? = some p) (hz : ps.length ≤ 100000) :
    ∃ acc, (upd H3 t (.tup [V.int p.1, V.int p.2])) D = some (.lst acc) ∧ acc.length < sizeLine ∧ LcPP H1 D ps (i + 1) (upd (upd H3 t (.tup [V.int p.1, V.int p.2])) D (.lst (acc ++ [V.ref t]))) := by
  obtain ⟨sm, us, e, hP⟩ := h
  have ntD : t ≠ D := fun z => by rw [z, e] at ht; cases ht
  have bu : But D H3 (upd (upd H3 t (.tup [V.int p.1, V.int p.2])) D (.lst (us ++ [V.ref t]))) := (But.of (same_upd ht)).upd
  have et : (upd (upd H3 t (.tup [V.int p.1, V.int p.2])) D (.lst (us ++ [V.ref t]))) t = some (tupP p) := by rw [upd_ne ntD, upd_same]; rfl
  refine ⟨us, upd_keep ht e, ?_, ?_, us ++ [V.ref t], upd_same, ?_⟩
  · rw [hP.1, List.length_take]
    obtain ⟨h, _⟩ := List.getElem?_eq_some_iff.mp hp
    exact szl (by omega)
  · exact ((But.of sm).trans bu).same hD
  · rw [List.take_add_one, hp]
    exact (hP.but bu e).app (Prs.one et)
def sp_l_pairs (K : PySem.W.Frag) : Sp := fun vs H Q _ => ∃ (c n : Int), vs = [.int c, .int n] ∧ (0 ≤ n ∧ n ≤ 100) ∧ ∀ (a : Addr) (us : List V) (ps : List (Int × Int)) H', (ps.length : Int) = n → (∀ p ∈ ps, (0 ≤ p.1 ∧ p.1 < 4294967296) ∧ 0 ≤ p.2 ∧ p.2 < 4294967296) → H a = none → Same H H' → H' a = some (.lst us) → Prs H' us ps → Q (.ref a) H'
theorem u_pairs {c n : Int} {H Q E} (hn : 0 ≤ n ∧ n ≤ 100) (q : ∀ (a : Addr) (us : List V) (ps : List (Int × Int)) H', (ps.length : Int) = n → (∀ p ∈ ps, (0 ≤ p.1 ∧ p.1 < 4294967296) ∧ 0 ≤ p.2 ∧ p.2 < 4294967296) → H a = none → Same H H' → H' a = some (.lst us) → Prs H' us ps → Q (.ref a) H') : sp_l_pairs K ([.int c, .int n] ++ []) H Q E := ⟨c, n, rfl, hn, q⟩
theorem ok_l_pairs (T : Txt K mg) : FnOk P w K mg base CX0 2 T.f_l_pairs T.d_l_pairs ["cell", "size"] (sp_l_pairs K) := by
  refine T.F_l_pairs.ok sc_l_pairs (fun vs H Q E h => ?_) (fun cdv A outer s H vs Q E hr h => ?_)
  · obtain ⟨c, n, rfl, hn, q⟩ := h
    rfl
  · obtain ⟨c, n, rfl, hn, q⟩ := h
    have hu := hu_of hr
    refine ⟨_, (pss_cons (ps_set (i := 2) sc_l_pairs.nd rfl (Or.inr rfl) (pe_call (ok_l_row T) (hr.mono (by decide)) rfl T.m_l_row T.F_l_row.kp T.b_l_row .nil pass0 (pa_cons (pv 0) (pa_cons (pe_op op_mul pe_int (pv 1)) (pa_cons pe_int pa_nil)))))
        (pss_one (ps_ret (pe_lc (own := [("k", 3)]) (g := gName 3) (tt := tYes) rfl sc_l_pairs.nd (pi_range1 (by rfl) T.n_range (pa_cons (pv 1) pa_nil)) (blkOk_by (N := ["cell", "size", "row", "k"]) (sc := defScope s_l_pairs) (by decide +kernel)) (fun _ _ _ _ _ => (pg_name (i := 3) sc_l_pairs.nd rfl (Or.inl rfl))) (fun _ _ _ _ _ => pts_nil) (fun _ _ _ _ _ => (pe_tup (pa_cons (pe_ix (r := rIxL K) ix_list (pv 2) (pe_op op_mul pe_int (pv 3)) (fun _ _ => rfl)) (pa_cons (pe_ix (r := rIxL K) ix_list (pv 2) (pe_op op_add (pe_op op_mul pe_int (pv 3)) pe_int) (fun _ _ => rfl)) pa_nil)))))))), ?_⟩
    dsimp only [cxOf, Cx.nox, Cx.wish, L2.start, List.map, List.cons_append, List.nil_append, List.length_cons, List.length_nil, Nat.reduceAdd, Nat.reduceSub, Nat.zero_add, List.replicate_succ, List.replicate_zero]
    walk_at "go"
    refine u_row ⟨by omega, by omega, by decide, by decide⟩ fun pd row H3 lrow brow nd s3 ed => ?_
    walk_at "go"
    refine ⟨by omega, by omega, fun D hD => ?_⟩
    obtain ⟨N, rfl⟩ : ∃ N : Nat, n = (N : Int) := ⟨n.toNat, by omega⟩
    have get : ∀ k : Nat, k < 2 * N → row[k]? = some (row.getD k 0) := fun k hk => by
      rw [List.getD_eq_getElem?_getD, List.getElem?_eq_getElem (by omega)]
      rfl
    obtain ⟨ps, hps, lps⟩ : ∃ ps : List (Int × Int), (∀ k : Nat, k < N → ps[k]? = some (row.getD (2 * k) 0, row.getD (2 * k + 1) 0)) ∧ ps.length = N := ⟨(List.range N).map fun k => (row.getD (2 * k) 0, row.getD (2 * k + 1) 0), fun k hk => by
      rw [List.getElem?_map, List.getElem?_range hk]
      rfl, by rw [List.length_map, List.length_range]⟩
    refine lc_it walk_range (LcPP H3 D ps) ⟨same_upd hD, [], upd_same, Prs.nil⟩ (fun _ _ _ _ => trivial) ?turn ?done
    case turn =>
      rintro i x H1 H2 hi p ⟨rfl, rfl⟩
      rw [Int.toNat_natCast] at hi
      refine ⟨rfl, ?_⟩
      walk_at "go"
      refine g_ixL (p.1.seq (sl ed)) (at_of (j := 2 * i) (by omega) (by rw [List.getElem?_map, get (2 * i) (by omega)]; rfl)) ?_
      walk_at "go"
      refine g_ixL (p.1.seq (sl ed)) (at_of (j := 2 * i + 1) (by omega) (by rw [List.getElem?_map, get (2 * i + 1) (by omega)]; rfl)) ?_
      walk_at "go"
      refine ⟨sz (by show 2 ≤ 100000; decide), fun t ht => ?_⟩
      exact lc_pair hD p ht (hps i hi) (by omega)
    case done =>
      rintro H' ⟨sm, us, e, hP⟩
      rw [Int.toNat_natCast, List.take_of_length_le (by omega)] at hP
      walk_at "go"
      refine q D us ps H' (by omega) (fun p hp => ?_) (s3.free hD) (s3.trans sm) e hP
      obtain ⟨k, hk⟩ := List.mem_iff_getElem?.mp hp
      obtain ⟨hk1, _⟩ := List.getElem?_eq_some_iff.mp hk
      rw [hps k (by omega)] at hk
      cases hk
      exact ⟨brow _ (List.mem_of_getElem? (get _ (by omega))), brow _ (List.mem_of_getElem? (get _ (by omega)))⟩

theorem g_disp {trs : List (TE × TE)} {σ : St} {H : Hp} {Q : VK} (h : ∀ p, H p = none → tPairs trs σ (upd H p (.dK [])) fun ps H2 => H2 p = some (.dK []) ∧ ∃ kvs : List (Key × V), ps = kvs.map (fun kv => (kV kv.1, kv.2)) ∧ kvs.length ≤ 15 ∧ Q (.ref p) (upd H2 p (.dK (mergeK [] kvs)))) : tDisp trs σ H Q := h
theorem g_pcons {tk tv : TE} {r : List (TE × TE)} {σ : St} {H : Hp} {Q : List (V × V) → Hp → Prop} (h : tk σ H fun x H1 => tv σ H1 fun y H2 => tPairs r σ H2 fun ps H3 => Q ((x, y) :: ps) H3) : tPairs ((tk, tv) :: r) σ H Q := h
theorem g_pnil {σ : St} {H : Hp} {Q : List (V × V) → Hp → Prop} (q : Q [] H) : tPairs [] σ H Q := q
local macro_rules | `(tactic| walk_at "use") => `(tactic| with_reducible first | refine g_disp ?_ | refine g_pcons ?_ | refine g_pnil ?_)
local macro_rules | `(tactic| walk_at "use") => `(tactic| with_reducible refine u_cell (by assumption) (by omega) ?_)
def W32 (x : Int) : Prop := 0 ≤ x ∧ x < 4294967296
structure SgOk (g : Sg) : Prop where
  cnt : W32 g.cnt
  echo : ∀ i, g.echo = some i → W32 i
  mss : ∀ i, g.mss = some i → 0 ≤ i ∧ i < 65536
  scale : ∀ i, g.scale = some i → 0 ≤ i ∧ i < 15
  rs : ∀ p ∈ g.rs, W32 p.1 ∧ W32 p.2
  rl : g.rs.length ≤ 5
  stamp : ∀ p, g.stamp = some p → W32 p.1 ∧ W32 p.2
  ds : ∀ x ∈ g.ds, 0 ≤ x ∧ x < 256
  dl : g.ds.length ≤ 30
def sp_l_parts (K : PySem.W.Frag) : Sp := fun vs H Q _ => ∃ (a : Addr) (ns : List Int) (n : Int), vs = [.ref a, .int n] ∧ SqL K H a (ns.map V.int) ∧ 0 ≤ n ∧ ∀ p da ra g H', SgOk g → H p = none → H da = none → H ra = none → da ≠ ra → Same H H' → SegD H' p g da ra → Q (.ref p) H'
theorem u_parts {a : Addr} {ns : List Int} {n : Int} {H Q E} (h : SqL K H a (ns.map V.int)) (h0 : 0 ≤ n) (q : ∀ p da ra g H', SgOk g → H p = none → H da = none → H ra = none → da ≠ ra → Same H H' → SegD H' p g da ra → Q (.ref p) H') : sp_l_parts K ([.ref a, .int n] ++ []) H Q E := ⟨a, ns, n, rfl, h, h0, q⟩
theorem ok_l_parts (T : Txt K mg) : FnOk P w K mg base CX0 3 T.f_l_parts T.d_l_parts ["script", "at"] (sp_l_parts K) := by
  refine T.F_l_parts.ok sc_l_parts (fun vs H Q E h => ?_) (fun cdv A outer s H vs Q E hr h => ?_)
  · obtain ⟨a, ns, n, rfl, hS, h0, q⟩ := h
    rfl
  · obtain ⟨a, ns, n, rfl, hS, h0, q⟩ := h
    have hu := hu_of hr
    refine ⟨_, (pss_cons (ps_setLc (i := 2) (own := [("k", 4)]) (g := gName 4) (tt := tYes) rfl sc_l_parts.nd rfl rfl (sw_true rfl rfl rfl (by decide +kernel)) (pi_range1 (by rfl) T.n_range (pa_cons pe_int pa_nil)) (blkOk_by (N := ["script", "at", "cells", "parts", "k"]) (sc := defScope s_l_parts) (by decide +kernel)) (fun _ _ _ _ _ => (pg_name (i := 4) sc_l_parts.nd rfl (Or.inl rfl))) (fun _ _ _ _ _ => pts_nil) (fun _ _ _ _ _ => (pe_call (ok_l_cell T) (hr.mono (by decide)) rfl T.m_l_cell T.F_l_cell.kp T.b_l_cell .nil pass0 (pa_cons (pv 0) (pa_cons (pe_op op_add (pv 1) (pv 4)) pa_nil)))))
        (pss_cons (ps_set (i := 3) sc_l_parts.nd rfl (Or.inl rfl) (pe_disp (pps_cons pe_str (pe_op op_add pe_int (pe_op op_mod (pe_callTy call_int1 (by rfl) T.n_int (by decide +kernel) (pa_cons (pe_ix ix_list (pv 2) pe_int (fun _ _ => rfl)) pa_nil)) pe_int)) (pps_cons pe_str (pe_op op_add pe_int (pe_op op_mod (pe_callTy call_int1 (by rfl) T.n_int (by decide +kernel) (pa_cons (pe_ix ix_list (pv 2) pe_int (fun _ _ => rfl)) pa_nil)) pe_int)) (pps_cons pe_str (pe_call (ok_l_wire T) (hr.mono (by decide)) rfl T.m_l_wire T.F_l_wire.kp T.b_l_wire .nil pass0 (pa_cons (pe_ix ix_list (pv 2) pe_int (fun _ _ => rfl)) pa_nil)) pps_nil))) (by rfl) (by rfl) (fun z => by cases z) (by decide)))
        (pss_cons (ps_dput hu (pv 3) pe_str (pe_call (ok_l_wire T) (hr.mono (by decide)) rfl T.m_l_wire T.F_l_wire.kp T.b_l_wire .nil pass0 (pa_cons (pe_ix ix_list (pv 2) pe_int (fun _ _ => rfl)) pa_nil)) rfl)
        (pss_cons (ps_dput hu (pv 3) pe_str (pe_call (ok_l_optional T) (hr.mono (by decide)) rfl T.m_l_optional T.F_l_optional.kp T.b_l_optional .nil pass0 (pa_cons (pe_ix ix_list (pv 2) pe_int (fun _ _ => rfl)) (pa_cons (pe_call (ok_l_wire T) (hr.mono (by decide)) rfl T.m_l_wire T.F_l_wire.kp T.b_l_wire .nil pass0 (pa_cons (pe_op op_fdiv (pe_ix ix_list (pv 2) pe_int (fun _ _ => rfl)) pe_int) pa_nil)) pa_nil))) rfl)
        (pss_cons (ps_dput hu (pv 3) pe_str (pe_call (ok_l_optional T) (hr.mono (by decide)) rfl T.m_l_optional T.F_l_optional.kp T.b_l_optional .nil pass0 (pa_cons (pe_ix ix_list (pv 2) pe_int (fun _ _ => rfl)) (pa_cons (pe_call (ok_l_wire T) (hr.mono (by decide)) rfl T.m_l_wire T.F_l_wire.kp T.b_l_wire .nil pass0 (pa_cons (pe_op op_fdiv (pe_ix ix_list (pv 2) pe_int (fun _ _ => rfl)) pe_int) pa_nil)) pa_nil))) rfl)
        (pss_cons (ps_dput hu (pv 3) pe_str (pe_cmpR op_eq (pe_op op_mod (pe_callTy call_int1 (by rfl) T.n_int (by decide +kernel) (pa_cons (pe_ix ix_list (pv 2) pe_int (fun _ _ => rfl)) pa_nil)) pe_int) pe_int (nomark _)) rfl)
        (pss_cons (ps_dput hu (pv 3) pe_str (pe_cmpR op_eq (pe_op op_mod (pe_op op_fdiv (pe_callTy call_int1 (by rfl) T.n_int (by decide +kernel) (pa_cons (pe_ix ix_list (pv 2) pe_int (fun _ _ => rfl)) pa_nil)) pe_int) pe_int) pe_int (nomark _)) rfl)
        (pss_cons (ps_dput hu (pv 3) pe_str (pe_cmpR op_eq (pe_op op_mod (pe_op op_fdiv (pe_callTy call_int1 (by rfl) T.n_int (by decide +kernel) (pa_cons (pe_ix ix_list (pv 2) pe_int (fun _ _ => rfl)) pa_nil)) pe_int) pe_int) pe_int (nomark _)) rfl)
        (pss_cons (ps_dput hu (pv 3) pe_str (pe_cmpR op_eq (pe_op op_mod (pe_op op_fdiv (pe_callTy call_int1 (by rfl) T.n_int (by decide +kernel) (pa_cons (pe_ix ix_list (pv 2) pe_int (fun _ _ => rfl)) pa_nil)) pe_int) pe_int) pe_int (nomark _)) rfl)
        (pss_cons (ps_dput hu (pv 3) pe_str (pe_cmpR op_eq (pe_op op_mod (pe_op op_fdiv (pe_callTy call_int1 (by rfl) T.n_int (by decide +kernel) (pa_cons (pe_ix ix_list (pv 2) pe_int (fun _ _ => rfl)) pa_nil)) pe_int) pe_int) pe_int (nomark _)) rfl)
        (pss_cons (ps_dput hu (pv 3) pe_str (pe_cmpR op_eq (pe_op op_mod (pe_op op_fdiv (pe_callTy call_int1 (by rfl) T.n_int (by decide +kernel) (pa_cons (pe_ix ix_list (pv 2) pe_int (fun _ _ => rfl)) pa_nil)) pe_int) pe_int) pe_int (nomark _)) rfl)
        (pss_cons (ps_dput hu (pv 3) pe_str (pe_op op_mod (pe_callTy call_int1 (by rfl) T.n_int (by decide +kernel) (pa_cons (pe_ix ix_list (pv 2) pe_int (fun _ _ => rfl)) pa_nil)) pe_int) rfl)
        (pss_cons (ps_dput hu (pv 3) pe_str (pe_call (ok_l_optional T) (hr.mono (by decide)) rfl T.m_l_optional T.F_l_optional.kp T.b_l_optional .nil pass0 (pa_cons (pe_ix ix_list (pv 2) pe_int (fun _ _ => rfl)) (pa_cons (pe_op op_mod (pe_op op_fdiv (pe_callTy call_int1 (by rfl) T.n_int (by decide +kernel) (pa_cons (pe_ix ix_list (pv 2) pe_int (fun _ _ => rfl)) pa_nil)) pe_int) pe_int) pa_nil))) rfl)
        (pss_cons (ps_dput hu (pv 3) pe_str (pe_call (ok_l_optional T) (hr.mono (by decide)) rfl T.m_l_optional T.F_l_optional.kp T.b_l_optional .nil pass0 (pa_cons (pe_ix ix_list (pv 2) pe_int (fun _ _ => rfl)) (pa_cons (pe_op op_mod (pe_op op_fdiv (pe_callTy call_int1 (by rfl) T.n_int (by decide +kernel) (pa_cons (pe_ix ix_list (pv 2) pe_int (fun _ _ => rfl)) pa_nil)) pe_int) pe_int) pa_nil))) rfl)
        (pss_cons (ps_dput hu (pv 3) pe_str (pe_call (ok_l_pairs T) (hr.mono (by decide)) rfl T.m_l_pairs T.F_l_pairs.kp T.b_l_pairs .nil pass0 (pa_cons (pe_ix ix_list (pv 2) pe_int (fun _ _ => rfl)) (pa_cons (pe_op op_mod (pe_callTy call_int1 (by rfl) T.n_int (by decide +kernel) (pa_cons (pe_ix ix_list (pv 2) pe_int (fun _ _ => rfl)) pa_nil)) pe_int) pa_nil))) rfl)
        (pss_cons (ps_dput hu (pv 3) pe_str (pe_call (ok_l_optional T) (hr.mono (by decide)) rfl T.m_l_optional T.F_l_optional.kp T.b_l_optional .nil pass0 (pa_cons (pe_ix ix_list (pv 2) pe_int (fun _ _ => rfl)) (pa_cons (pe_tup (pa_cons (pe_call (ok_l_wire T) (hr.mono (by decide)) rfl T.m_l_wire T.F_l_wire.kp T.b_l_wire .nil pass0 (pa_cons (pe_op op_fdiv (pe_ix ix_list (pv 2) pe_int (fun _ _ => rfl)) pe_int) pa_nil)) (pa_cons (pe_call (ok_l_wire T) (hr.mono (by decide)) rfl T.m_l_wire T.F_l_wire.kp T.b_l_wire .nil pass0 (pa_cons (pe_op op_fdiv (pe_ix ix_list (pv 2) pe_int (fun _ _ => rfl)) pe_int) pa_nil)) pa_nil))) pa_nil))) rfl)
        (pss_cons (ps_dput hu (pv 3) pe_str (pe_call (ok_l_row T) (hr.mono (by decide)) rfl T.m_l_row T.F_l_row.kp T.b_l_row .nil pass0 (pa_cons (pe_ix ix_list (pv 2) pe_int (fun _ _ => rfl)) (pa_cons (pe_op op_mod (pe_callTy call_int1 (by rfl) T.n_int (by decide +kernel) (pa_cons (pe_ix ix_list (pv 2) pe_int (fun _ _ => rfl)) pa_nil)) pe_int) (pa_cons pe_int pa_nil)))) rfl)
        (pss_one (ps_ret (pv 3)))))))))))))))))))), ?_⟩
    dsimp only [cxOf, Cx.nox, Cx.wish, L2.start, List.map, List.cons_append, List.nil_append, List.length_cons, List.length_nil, Nat.reduceAdd, Nat.reduceSub, Nat.zero_add, List.replicate_succ, List.replicate_zero]
    walk_at "go"
    refine ⟨by decide, by decide, fun D hD => ?_⟩
    refine lc_vals walk_range ((List.range 15).map fun k : Nat => V.int (cell ns (n + k))) hD rfl (fun _ _ => trivial) ?turn0 ?done0
    case turn0 =>
      rintro i x H1 H2 hi2 pp ⟨rfl, rfl⟩
      have hS1 := pp.1.seq hS
      refine ⟨rfl, ?_⟩
      walk_at "go"
      refine lc_next hD pp (by rw [List.length_map, List.length_range]; decide) ?_
      have hi3 : i < 15 := hi2
      rw [List.getElem?_map, List.getElem?_range hi3]
      show some (V.int (cell ns (n + (i : Int)))) = some (V.int (cell ns (n + (0 + (i : Int)))))
      rw [Int.zero_add]
    case done0 =>
    intro H3 s3 e3
    walk_at "go"
    intro p hp
    have npC : D ≠ p := fun z => by rw [← z, e3] at hp; cases hp
    have hC : SqL K H3 D ((List.range 15).map fun k : Nat => V.int (cell ns (n + k))) := sl e3
    clear e3
    generalize hcs : (List.range 15).map (fun k : Nat => V.int (cell ns (n + k))) = cs at hC
    have g0 : ∀ k : Nat, k < 15 → cs[k]? = some (V.int (cell ns (n + k))) := fun k hk => by
      rw [← hcs, List.getElem?_map, List.getElem?_range hk]; rfl
    clear hcs
    walk_at "go"
    refine g_ixL (but_sq (p := p) ?b npC hC) (at_of (j := 0) rfl (g0 0 (by decide))) ?_
    case b => repeat (first | exact But.refl | refine But.upd ?_)
    walk_at "go"
    refine g_ixL (but_sq (p := p) ?b npC hC) (at_of (j := 1) rfl (g0 1 (by decide))) ?_
    case b => repeat (first | exact But.refl | refine But.upd ?_)
    walk_at "go"
    refine g_ixL (but_sq (p := p) ?b npC hC) (at_of (j := 2) rfl (g0 2 (by decide))) ?_
    case b => repeat (first | exact But.refl | refine But.upd ?_)
    walk_at "go"
    refine u_wire fun x2 h2 => ?_
    walk_at "go"
    have mk : mergeK [] [((Sum.inr "source" : Key), V.int (1 + cell ns (n + ((0 : Nat) : Int)) % 65535)), (.inr "target", V.int (1 + cell ns (n + ((1 : Nat) : Int)) % 65535)), (.inr "seq", V.int x2)] = dk kd_S [V.int (1 + cell ns (n + ((0 : Nat) : Int)) % 65535), V.int (1 + cell ns (n + ((1 : Nat) : Int)) % 65535), V.int x2] := by
      show putK (putK (putK (dk kd_S []) (.inr "source") _) (.inr "target") _) (.inr "seq") _ = _
      rw [dk_new ndd_S rfl, dk_new ndd_S rfl, dk_new ndd_S rfl]
      rfl
    refine ⟨upd_same, [((Sum.inr "source" : Key), V.int (1 + cell ns (n + ((0 : Nat) : Int)) % 65535)), (.inr "target", V.int (1 + cell ns (n + ((1 : Nat) : Int)) % 65535)), (.inr "seq", V.int x2)], rfl, (by show 3 ≤ 15; decide), ?_⟩
    rw [mk]
    clear mk
    generalize 1 + cell ns (n + ((0 : Nat) : Int)) % 65535 = x0
    generalize 1 + cell ns (n + ((1 : Nat) : Int)) % 65535 = x1
    walk_at "go"
    refine g_ixL (but_sq (p := p) ?b npC hC) (at_of (j := 3) rfl (g0 3 (by decide))) ?_
    case b => repeat (first | exact But.refl | refine But.upd ?_)
    walk_at "go"
    refine u_wire fun x3 h3 => ?_
    walk_at "go"
    refine g_ixL (but_sq (p := p) ?b npC hC) (at_of (j := 4) rfl (g0 4 (by decide))) ?_
    case b => repeat (first | exact But.refl | refine But.upd ?_)
    walk_at "go"
    refine g_ixL (but_sq (p := p) ?b npC hC) (at_of (j := 4) rfl (g0 4 (by decide))) ?_
    case b => repeat (first | exact But.refl | refine But.upd ?_)
    walk_at "go"
    refine u_wire fun x4 h4 => ?_
    walk_at "go"
    refine u_optI fun oe hoe => ?_
    walk_at "go"
    refine g_ixL (but_sq (p := p) ?b npC hC) (at_of (j := 5) rfl (g0 5 (by decide))) ?_
    case b => repeat (first | exact But.refl | refine But.upd ?_)
    walk_at "go"
    refine g_ixL (but_sq (p := p) ?b npC hC) (at_of (j := 5) rfl (g0 5 (by decide))) ?_
    case b => repeat (first | exact But.refl | refine But.upd ?_)
    walk_at "go"
    refine u_wire fun x5 h5 => ?_
    walk_at "go"
    refine u_optI fun oa hoa => ?_
    walk_at "go"
    refine g_ixL (but_sq (p := p) ?b npC hC) (at_of (j := 6) rfl (g0 6 (by decide))) ?_
    case b => repeat (first | exact But.refl | refine But.upd ?_)
    walk_at "go"
    refine g_ixL (but_sq (p := p) ?b npC hC) (at_of (j := 6) rfl (g0 6 (by decide))) ?_
    case b => repeat (first | exact But.refl | refine But.upd ?_)
    walk_at "go"
    refine g_ixL (but_sq (p := p) ?b npC hC) (at_of (j := 6) rfl (g0 6 (by decide))) ?_
    case b => repeat (first | exact But.refl | refine But.upd ?_)
    walk_at "go"
    refine g_ixL (but_sq (p := p) ?b npC hC) (at_of (j := 6) rfl (g0 6 (by decide))) ?_
    case b => repeat (first | exact But.refl | refine But.upd ?_)
    walk_at "go"
    refine g_ixL (but_sq (p := p) ?b npC hC) (at_of (j := 6) rfl (g0 6 (by decide))) ?_
    case b => repeat (first | exact But.refl | refine But.upd ?_)
    walk_at "go"
    refine g_ixL (but_sq (p := p) ?b npC hC) (at_of (j := 6) rfl (g0 6 (by decide))) ?_
    case b => repeat (first | exact But.refl | refine But.upd ?_)
    walk_at "go"
    refine g_ixL (but_sq (p := p) ?b npC hC) (at_of (j := 7) rfl (g0 7 (by decide))) ?_
    case b => repeat (first | exact But.refl | refine But.upd ?_)
    walk_at "go"
    refine g_ixL (but_sq (p := p) ?b npC hC) (at_of (j := 8) rfl (g0 8 (by decide))) ?_
    case b => repeat (first | exact But.refl | refine But.upd ?_)
    walk_at "go"
    refine g_ixL (but_sq (p := p) ?b npC hC) (at_of (j := 8) rfl (g0 8 (by decide))) ?_
    case b => repeat (first | exact But.refl | refine But.upd ?_)
    walk_at "go"
    refine u_optI fun om hom => ?_
    walk_at "go"
    refine g_ixL (but_sq (p := p) ?b npC hC) (at_of (j := 9) rfl (g0 9 (by decide))) ?_
    case b => repeat (first | exact But.refl | refine But.upd ?_)
    walk_at "go"
    refine g_ixL (but_sq (p := p) ?b npC hC) (at_of (j := 9) rfl (g0 9 (by decide))) ?_
    case b => repeat (first | exact But.refl | refine But.upd ?_)
    walk_at "go"
    refine u_optI fun os hos => ?_
    walk_at "go"
    simp only [upd_upd, List.nil_append, List.cons_append]
    have e0 : (upd H3 p (.dK (dk kd_S [V.int x0, V.int x1, V.int x2, V.int x3, oV oe, oV oa, V.bl (decide (cell ns (n + ((6 : Nat) : Int)) % 2 = 1)), V.bl (decide (cell ns (n + ((6 : Nat) : Int)) / 2 % 2 = 1)), V.bl (decide (cell ns (n + ((6 : Nat) : Int)) / 4 % 2 = 1)), V.bl (decide (cell ns (n + ((6 : Nat) : Int)) / 8 % 2 = 1)), V.bl (decide (cell ns (n + ((6 : Nat) : Int)) / 16 % 2 = 1)), V.bl (decide (cell ns (n + ((6 : Nat) : Int)) / 32 % 2 = 1)), V.int (cell ns (n + ((7 : Nat) : Int)) % 65536), oV om, oV os]))) p = some (.dK (dk kd_S [V.int x0, V.int x1, V.int x2, V.int x3, oV oe, oV oa, V.bl (decide (cell ns (n + ((6 : Nat) : Int)) % 2 = 1)), V.bl (decide (cell ns (n + ((6 : Nat) : Int)) / 2 % 2 = 1)), V.bl (decide (cell ns (n + ((6 : Nat) : Int)) / 4 % 2 = 1)), V.bl (decide (cell ns (n + ((6 : Nat) : Int)) / 8 % 2 = 1)), V.bl (decide (cell ns (n + ((6 : Nat) : Int)) / 16 % 2 = 1)), V.bl (decide (cell ns (n + ((6 : Nat) : Int)) / 32 % 2 = 1)), V.int (cell ns (n + ((7 : Nat) : Int)) % 65536), oV om, oV os])) := upd_same
    have bu : But p H3 (upd H3 p (.dK (dk kd_S [V.int x0, V.int x1, V.int x2, V.int x3, oV oe, oV oa, V.bl (decide (cell ns (n + ((6 : Nat) : Int)) % 2 = 1)), V.bl (decide (cell ns (n + ((6 : Nat) : Int)) / 2 % 2 = 1)), V.bl (decide (cell ns (n + ((6 : Nat) : Int)) / 4 % 2 = 1)), V.bl (decide (cell ns (n + ((6 : Nat) : Int)) / 8 % 2 = 1)), V.bl (decide (cell ns (n + ((6 : Nat) : Int)) / 16 % 2 = 1)), V.bl (decide (cell ns (n + ((6 : Nat) : Int)) / 32 % 2 = 1)), V.int (cell ns (n + ((7 : Nat) : Int)) % 65536), oV om, oV os]))) := But.refl.upd
    have hm2 : ∀ i, om = some i → 0 ≤ i ∧ i < 65536 := fun i h => by have := hom i h; omega
    have ho2 : ∀ i, os = some i → 0 ≤ i ∧ i < 15 := fun i h => by have := hos i h; omega
    generalize decide (cell ns (n + ((6 : Nat) : Int)) % 2 = 1) = b0 at e0 bu ⊢
    generalize decide (cell ns (n + ((6 : Nat) : Int)) / 2 % 2 = 1) = b1 at e0 bu ⊢
    generalize decide (cell ns (n + ((6 : Nat) : Int)) / 4 % 2 = 1) = b2 at e0 bu ⊢
    generalize decide (cell ns (n + ((6 : Nat) : Int)) / 8 % 2 = 1) = b3 at e0 bu ⊢
    generalize decide (cell ns (n + ((6 : Nat) : Int)) / 16 % 2 = 1) = b4 at e0 bu ⊢
    generalize decide (cell ns (n + ((6 : Nat) : Int)) / 32 % 2 = 1) = b5 at e0 bu ⊢
    generalize cell ns (n + ((7 : Nat) : Int)) % 65536 = x7 at e0 bu ⊢
    generalize upd H3 p (.dK (dk kd_S [V.int x0, V.int x1, V.int x2, V.int x3, oV oe, oV oa, V.bl b0, V.bl b1, V.bl b2, V.bl b3, V.bl b4, V.bl b5, V.int x7, oV om, oV os])) = H4 at e0 bu ⊢
    have hC4 := but_sq bu npC hC
    refine g_ixL (hC4) (at_of (j := 10) rfl (g0 10 (by decide))) ?_
    walk_at "go"
    refine g_ixL (hC4) (at_of (j := 11) rfl (g0 11 (by decide))) ?_
    walk_at "go"
    refine u_pairs (by omega) fun ra us rs H5 lrs brs nra s5 era hP => ?_
    have e5 := s5 _ _ e0
    have nrp : ra ≠ p := fun z => by rw [z, e0] at nra; cases nra
    have bu5 := bu.trans (But.of s5)
    have fra : H3 ra = none := bu.free nrp nra
    clear e0 bu nra
    walk_at "go"
    simp only [List.nil_append, List.cons_append]
    have e6 : (upd H5 p (.dK (dk kd_S [V.int x0, V.int x1, V.int x2, V.int x3, oV oe, oV oa, V.bl b0, V.bl b1, V.bl b2, V.bl b3, V.bl b4, V.bl b5, V.int x7, oV om, oV os, V.ref ra]))) p = some (.dK (dk kd_S [V.int x0, V.int x1, V.int x2, V.int x3, oV oe, oV oa, V.bl b0, V.bl b1, V.bl b2, V.bl b3, V.bl b4, V.bl b5, V.int x7, oV om, oV os, V.ref ra])) := upd_same
    have b56 : But p H5 (upd H5 p (.dK (dk kd_S [V.int x0, V.int x1, V.int x2, V.int x3, oV oe, oV oa, V.bl b0, V.bl b1, V.bl b2, V.bl b3, V.bl b4, V.bl b5, V.int x7, oV om, oV os, V.ref ra]))) := But.refl.upd
    generalize upd H5 p (.dK (dk kd_S [V.int x0, V.int x1, V.int x2, V.int x3, oV oe, oV oa, V.bl b0, V.bl b1, V.bl b2, V.bl b3, V.bl b4, V.bl b5, V.int x7, oV om, oV os, V.ref ra])) = H6 at e6 b56 ⊢
    have era6 := b56 _ _ nrp era
    have hP6 := hP.butD b56 e5
    have b6 := bu5.trans b56
    have hC6 := but_sq b6 npC hC
    clear e5 hP era b56 bu5 hC4
    refine g_ixL (hC6) (at_of (j := 12) rfl (g0 12 (by decide))) ?_
    walk_at "go"
    refine g_ixL (hC6) (at_of (j := 12) rfl (g0 12 (by decide))) ?_
    walk_at "go"
    refine u_wire fun y1 hy1 => ?_
    walk_at "go"
    refine g_ixL (hC6) (at_of (j := 12) rfl (g0 12 (by decide))) ?_
    walk_at "go"
    refine u_wire fun y2 hy2 => ?_
    walk_at "go"
    refine ⟨sz (by show 2 ≤ 100000; decide), fun t ht => ?_⟩
    have et : (upd H6 t (.tup [V.int y1, V.int y2])) t = some (tupP (y1, y2)) := upd_same
    have s7 := same_upd (o := .tup [V.int y1, V.int y2]) ht
    have e7 := s7 _ _ e6
    have era7 := s7 _ _ era6
    have hP7 := hP6.same s7
    have b7 := b6.trans (But.of s7)
    generalize upd H6 t (.tup [V.int y1, V.int y2]) = H7 at et e7 era7 hP7 b7 ⊢
    have hC7 := but_sq b7 npC hC
    clear e6 era6 hP6 hC6 b6 s7
    walk_at "go"
    refine u_optP et fun sv o hsv hso => ?_
    walk_at "go"
    simp only [List.nil_append, List.cons_append]
    have e8 : (upd H7 p (.dK (dk kd_S [V.int x0, V.int x1, V.int x2, V.int x3, oV oe, oV oa, V.bl b0, V.bl b1, V.bl b2, V.bl b3, V.bl b4, V.bl b5, V.int x7, oV om, oV os, V.ref ra, sv]))) p = some (.dK (dk kd_S [V.int x0, V.int x1, V.int x2, V.int x3, oV oe, oV oa, V.bl b0, V.bl b1, V.bl b2, V.bl b3, V.bl b4, V.bl b5, V.int x7, oV om, oV os, V.ref ra, sv])) := upd_same
    have b78 : But p H7 (upd H7 p (.dK (dk kd_S [V.int x0, V.int x1, V.int x2, V.int x3, oV oe, oV oa, V.bl b0, V.bl b1, V.bl b2, V.bl b3, V.bl b4, V.bl b5, V.int x7, oV om, oV os, V.ref ra, sv]))) := But.refl.upd
    generalize upd H7 p (.dK (dk kd_S [V.int x0, V.int x1, V.int x2, V.int x3, oV oe, oV oa, V.bl b0, V.bl b1, V.bl b2, V.bl b3, V.bl b4, V.bl b5, V.int x7, oV om, oV os, V.ref ra, sv])) = H8 at e8 b78 ⊢
    have era8 := b78 _ _ nrp era7
    have hP8 := hP7.butD b78 e7
    have hsv8 := hsv.butD b78 e7
    have b8 := b7.trans b78
    have hC8 := but_sq b8 npC hC
    clear e7 era7 hP7 b7 hC7 b78 et hsv
    refine g_ixL hC8 (at_of (j := 13) rfl (g0 13 (by decide))) ?_
    walk_at "go"
    refine g_ixL hC8 (at_of (j := 14) rfl (g0 14 (by decide))) ?_
    walk_at "go"
    refine u_row ⟨by omega, by omega, by decide, by decide⟩ fun da ds H9 lds bds nda s9 eda => ?_
    have e9 := s9 _ _ e8
    have era9 := s9 _ _ era8
    have hP9 := hP8.same s9
    have hsv9 := hsv8.same s9
    have ndp : da ≠ p := fun z => by rw [z, e8] at nda; cases nda
    have ndr : da ≠ ra := fun z => by rw [z, era8] at nda; cases nda
    have fda : H3 da = none := b8.free ndp nda
    have b9 := b8.trans (But.of s9)
    clear e8 era8 hP8 hsv8 hC8 b8 s9
    walk_at "go"
    simp only [List.nil_append, List.cons_append]
    have b10 : But p H9 (upd H9 p (.dK (dk kd_S [V.int x0, V.int x1, V.int x2, V.int x3, oV oe, oV oa, V.bl b0, V.bl b1, V.bl b2, V.bl b3, V.bl b4, V.bl b5, V.int x7, oV om, oV os, V.ref ra, sv, V.ref da]))) := But.refl.upd
    refine q p da ra ⟨x0, x1, x2, x3, oe, oa, b0, b1, b2, b3, b4, x7, om, os, b5, rs, o, ds⟩ _ ?_ (s3.free hp) (s3.free fda) (s3.free fra) ndr (s3.trans ((b9.trans b10).same hp)) ⟨sv, upd_same, b10 _ _ ndp eda, ⟨us, b10 _ _ nrp era9, hP9.butD b10 e9⟩, hsv9.butD b10 e9⟩
    refine ⟨h3, fun i h => ?_, hm2, ho2, brs, ?_, fun r h => ?_, bds, ?_⟩
    · rw [hoe i h]; exact h4
    · show rs.length ≤ 5
      omega
    · rw [hso r h]; exact ⟨hy1, hy2⟩
    · show ds.length ≤ 30
      omega

end
end My
namespace My
open PySem PySem.Spec L2
local macro_rules | `(tactic| walk_at "side") => `(tactic| first | assumption | decide | omega | exact ⟨by decide, by decide⟩ | exact ⟨by decide, by decide, by decide⟩ | decide +kernel | exact cdivW (by decide +kernel) (by decide +kernel) | exact Or.inl ⟨by omega, by omega⟩ | exact Or.inr ⟨by omega, by omega⟩ | (simp only [List.length_map, List.length_cons, List.length_nil, List.length_append]; omega))
local macro_rules | `(tactic| walk_at "fact") => `(tactic| first | assumption | omega | with_reducible rfl)
local macro_rules | `(tactic| walk_at "use") => `(tactic| fail "use")
local macro_rules | `(tactic| walk_at "go1") => `(tactic| with_reducible first | refine g_seq ?_ | refine g_asg ?_ | refine g_ret ?_ | refine g_ifS ?_ | refine g_drop ?_ | refine g_star ?_ | refine g_nx ?_ | refine g_rt ?_ | refine g_bkE ?_ | refine g_ctE ?_ | refine g_next ?_ | refine g_retN ?_ | refine g_brk ?_ | refine g_ct ?_ | refine g_c ?_ | refine g_op ?_ | refine g_un ?_ | refine g_rI0 ?_ | refine g_rU ?_ | refine g_rEqI ?_ | refine g_rNeI ?_ | refine g_isN ?_ | refine g_rIsB ?_ | refine g_rNotB ?_ | refine g_test ?_ | refine g_B ?_ | refine g_bl ?_ | refine g_and ?_ | refine g_or ?_ | refine g_not ?_ | refine g_andV ?_ | refine g_orV ?_ | refine g_notV ?_ | refine g_if ?_ | refine g_chain ?_ | refine g_yes ?_ | refine g_lc ?_ | refine g_revR ?_ | refine g_rng1 ?_ | refine g_iList ?_ | refine g_nil ?_ | refine g_cons ?_ | refine g_tup ?_ | refine g_lst ?_ | refine g_call ?_ | refine g_CB ?_ | refine g_sl ?_ | refine g_noPart ?_ | refine g_part ?_ | refine g_intE ?_ | refine g_ref ?_ | refine g_fld ?_ | refine g_sfld ?_ | refine g_meth ?_ | refine g_make ?_ | refine g_prop ?_  | refine g_ipI ?_ | refine g_int1 ?_ | refine g_int1B ?_ | refine g_one ?_ | refine g_two ?_ | refine g_isiI ?_ | refine g_isiIB ?_ | refine g_isiB ?_ | refine g_BM ?_ | refine g_BM0 ?_ | refine g_sub ?_)
local macro_rules | `(tactic| walk_at "go") => `(tactic| repeat (first | walk_at "go1" | ((with_reducible refine' g_nameE ?sd_ ?_); case sd_ => dsimp only [List.set_cons_succ, List.set_cons_zero]) | ((with_reducible refine' g_var ?sd_ ?_); case sd_ => exact rfl) | ((with_reducible refine' g_aug ?sd_ ?_); case sd_ => exact rfl) | ((with_reducible refine' g_rI ?sd_ ?_); case sd_ => walk_at "side") | ((with_reducible refine' g_dT ?sd_ ?_); case sd_ => walk_at "fact") | ((with_reducible refine' g_dF ?sd_ ?_); case sd_ => walk_at "fact") | ((with_reducible refine' g_nT ?sd_ ?_); case sd_ => walk_at "fact") | ((with_reducible refine' g_nF ?sd_ ?_); case sd_ => walk_at "fact") | (with_reducible refine g_iT rfl ?_) | (with_reducible refine g_iF rfl ?_) | walk_at "use"))
local macro_rules | `(tactic| walk_at "use") => `(tactic| first | ((with_reducible refine' fd_Segment_source ?ho_ ?hv_ ?_); (case ho_ => first | assumption | exact upd_same); (case hv_ => exact rfl)) | ((with_reducible refine' fd_Segment_target ?ho_ ?hv_ ?_); (case ho_ => first | assumption | exact upd_same); (case hv_ => exact rfl)) | ((with_reducible refine' fd_Segment_seq ?ho_ ?hv_ ?_); (case ho_ => first | assumption | exact upd_same); (case hv_ => exact rfl)) | ((with_reducible refine' fd_Segment_count ?ho_ ?hv_ ?_); (case ho_ => first | assumption | exact upd_same); (case hv_ => exact rfl)) | ((with_reducible refine' fd_Segment_echo ?ho_ ?hv_ ?_); (case ho_ => first | assumption | exact upd_same); (case hv_ => exact rfl)) | ((with_reducible refine' fd_Segment_ack ?ho_ ?hv_ ?_); (case ho_ => first | assumption | exact upd_same); (case hv_ => exact rfl)) | ((with_reducible refine' fd_Segment_syn ?ho_ ?hv_ ?_); (case ho_ => first | assumption | exact upd_same); (case hv_ => exact rfl)) | ((with_reducible refine' fd_Segment_fin ?ho_ ?hv_ ?_); (case ho_ => first | assumption | exact upd_same); (case hv_ => exact rfl)) | ((with_reducible refine' fd_Segment_reset ?ho_ ?hv_ ?_); (case ho_ => first | assumption | exact upd_same); (case hv_ => exact rfl)) | ((with_reducible refine' fd_Segment_marked ?ho_ ?hv_ ?_); (case ho_ => first | assumption | exact upd_same); (case hv_ => exact rfl)) | ((with_reducible refine' fd_Segment_cut ?ho_ ?hv_ ?_); (case ho_ => first | assumption | exact upd_same); (case hv_ => exact rfl)) | ((with_reducible refine' fd_Segment_window ?ho_ ?hv_ ?_); (case ho_ => first | assumption | exact upd_same); (case hv_ => exact rfl)) | ((with_reducible refine' fd_Segment_mss ?ho_ ?hv_ ?_); (case ho_ => first | assumption | exact upd_same); (case hv_ => exact rfl)) | ((with_reducible refine' fd_Segment_scale ?ho_ ?hv_ ?_); (case ho_ => first | assumption | exact upd_same); (case hv_ => exact rfl)) | ((with_reducible refine' fd_Segment_ranges_known ?ho_ ?hv_ ?_); (case ho_ => first | assumption | exact upd_same); (case hv_ => exact rfl)) | ((with_reducible refine' fd_Segment_ranges ?ho_ ?hv_ ?_); (case ho_ => first | assumption | exact upd_same); (case hv_ => exact rfl)) | ((with_reducible refine' fd_Segment_stamp ?ho_ ?hv_ ?_); (case ho_ => first | assumption | exact upd_same); (case hv_ => exact rfl)) | ((with_reducible refine' fd_Segment_data ?ho_ ?hv_ ?_); (case ho_ => first | assumption | exact upd_same); (case hv_ => exact rfl)) | ((with_reducible refine' nw_Segment_source ?ho_ ?hv_ ?_); (case ho_ => first | assumption | exact upd_same); (case hv_ => exact rfl)) | ((with_reducible refine' nw_Segment_target ?ho_ ?hv_ ?_); (case ho_ => first | assumption | exact upd_same); (case hv_ => exact rfl)) | ((with_reducible refine' nw_Segment_seq ?ho_ ?hv_ ?_); (case ho_ => first | assumption | exact upd_same); (case hv_ => exact rfl)) | ((with_reducible refine' nw_Segment_count ?ho_ ?hv_ ?_); (case ho_ => first | assumption | exact upd_same); (case hv_ => exact rfl)) | ((with_reducible refine' nw_Segment_echo ?ho_ ?hv_ ?_); (case ho_ => first | assumption | exact upd_same); (case hv_ => exact rfl)) | ((with_reducible refine' nw_Segment_ack ?ho_ ?hv_ ?_); (case ho_ => first | assumption | exact upd_same); (case hv_ => exact rfl)) | ((with_reducible refine' nw_Segment_syn ?ho_ ?hv_ ?_); (case ho_ => first | assumption | exact upd_same); (case hv_ => exact rfl)) | ((with_reducible refine' nw_Segment_fin ?ho_ ?hv_ ?_); (case ho_ => first | assumption | exact upd_same); (case hv_ => exact rfl)) | ((with_reducible refine' nw_Segment_reset ?ho_ ?hv_ ?_); (case ho_ => first | assumption | exact upd_same); (case hv_ => exact rfl)) | ((with_reducible refine' nw_Segment_marked ?ho_ ?hv_ ?_); (case ho_ => first | assumption | exact upd_same); (case hv_ => exact rfl)) | ((with_reducible refine' nw_Segment_cut ?ho_ ?hv_ ?_); (case ho_ => first | assumption | exact upd_same); (case hv_ => exact rfl)) | ((with_reducible refine' nw_Segment_window ?ho_ ?hv_ ?_); (case ho_ => first | assumption | exact upd_same); (case hv_ => exact rfl)) | ((with_reducible refine' nw_Segment_mss ?ho_ ?hv_ ?_); (case ho_ => first | assumption | exact upd_same); (case hv_ => exact rfl)) | ((with_reducible refine' nw_Segment_scale ?ho_ ?hv_ ?_); (case ho_ => first | assumption | exact upd_same); (case hv_ => exact rfl)) | ((with_reducible refine' nw_Segment_ranges_known ?ho_ ?hv_ ?_); (case ho_ => first | assumption | exact upd_same); (case hv_ => exact rfl)) | ((with_reducible refine' nw_Segment_ranges ?ho_ ?hv_ ?_); (case ho_ => first | assumption | exact upd_same); (case hv_ => exact rfl)) | ((with_reducible refine' nw_Segment_stamp ?ho_ ?hv_ ?_); (case ho_ => first | assumption | exact upd_same); (case hv_ => exact rfl)) | ((with_reducible refine' nw_Segment_data ?ho_ ?hv_ ?_); (case ho_ => first | assumption | exact upd_same); (case hv_ => exact rfl)) | ((with_reducible refine' st_Segment_source ?ho_ ?hv_ ?_); (case ho_ => first | assumption | exact upd_same); (case hv_ => exact Nat.le_of_ble_eq_true rfl)) | ((with_reducible refine' st_Segment_target ?ho_ ?hv_ ?_); (case ho_ => first | assumption | exact upd_same); (case hv_ => exact Nat.le_of_ble_eq_true rfl)) | ((with_reducible refine' st_Segment_seq ?ho_ ?hv_ ?_); (case ho_ => first | assumption | exact upd_same); (case hv_ => exact Nat.le_of_ble_eq_true rfl)) | ((with_reducible refine' st_Segment_count ?ho_ ?hv_ ?_); (case ho_ => first | assumption | exact upd_same); (case hv_ => exact Nat.le_of_ble_eq_true rfl)) | ((with_reducible refine' st_Segment_echo ?ho_ ?hv_ ?_); (case ho_ => first | assumption | exact upd_same); (case hv_ => exact Nat.le_of_ble_eq_true rfl)) | ((with_reducible refine' st_Segment_ack ?ho_ ?hv_ ?_); (case ho_ => first | assumption | exact upd_same); (case hv_ => exact Nat.le_of_ble_eq_true rfl)) | ((with_reducible refine' st_Segment_syn ?ho_ ?hv_ ?_); (case ho_ => first | assumption | exact upd_same); (case hv_ => exact Nat.le_of_ble_eq_true rfl)) | ((with_reducible refine' st_Segment_fin ?ho_ ?hv_ ?_); (case ho_ => first | assumption | exact upd_same); (case hv_ => exact Nat.le_of_ble_eq_true rfl)) | ((with_reducible refine' st_Segment_reset ?ho_ ?hv_ ?_); (case ho_ => first | assumption | exact upd_same); (case hv_ => exact Nat.le_of_ble_eq_true rfl)) | ((with_reducible refine' st_Segment_marked ?ho_ ?hv_ ?_); (case ho_ => first | assumption | exact upd_same); (case hv_ => exact Nat.le_of_ble_eq_true rfl)) | ((with_reducible refine' st_Segment_cut ?ho_ ?hv_ ?_); (case ho_ => first | assumption | exact upd_same); (case hv_ => exact Nat.le_of_ble_eq_true rfl)) | ((with_reducible refine' st_Segment_window ?ho_ ?hv_ ?_); (case ho_ => first | assumption | exact upd_same); (case hv_ => exact Nat.le_of_ble_eq_true rfl)) | ((with_reducible refine' st_Segment_mss ?ho_ ?hv_ ?_); (case ho_ => first | assumption | exact upd_same); (case hv_ => exact Nat.le_of_ble_eq_true rfl)) | ((with_reducible refine' st_Segment_scale ?ho_ ?hv_ ?_); (case ho_ => first | assumption | exact upd_same); (case hv_ => exact Nat.le_of_ble_eq_true rfl)) | ((with_reducible refine' st_Segment_ranges_known ?ho_ ?hv_ ?_); (case ho_ => first | assumption | exact upd_same); (case hv_ => exact Nat.le_of_ble_eq_true rfl)) | ((with_reducible refine' st_Segment_ranges ?ho_ ?hv_ ?_); (case ho_ => first | assumption | exact upd_same); (case hv_ => exact Nat.le_of_ble_eq_true rfl)) | ((with_reducible refine' st_Segment_stamp ?ho_ ?hv_ ?_); (case ho_ => first | assumption | exact upd_same); (case hv_ => exact Nat.le_of_ble_eq_true rfl)) | ((with_reducible refine' st_Segment_data ?ho_ ?hv_ ?_); (case ho_ => first | assumption | exact upd_same); (case hv_ => exact Nat.le_of_ble_eq_true rfl)))
local macro_rules | `(tactic| walk_at "use") => `(tactic| first | ((with_reducible refine' dg_S_source ?ho_ ?hv_ ?_); (case ho_ => first | assumption | exact upd_same); (case hv_ => exact rfl)) | ((with_reducible refine' dg_S_target ?ho_ ?hv_ ?_); (case ho_ => first | assumption | exact upd_same); (case hv_ => exact rfl)) | ((with_reducible refine' dg_S_seq ?ho_ ?hv_ ?_); (case ho_ => first | assumption | exact upd_same); (case hv_ => exact rfl)) | ((with_reducible refine' dg_S_count ?ho_ ?hv_ ?_); (case ho_ => first | assumption | exact upd_same); (case hv_ => exact rfl)) | ((with_reducible refine' dg_S_echo ?ho_ ?hv_ ?_); (case ho_ => first | assumption | exact upd_same); (case hv_ => exact rfl)) | ((with_reducible refine' dg_S_ack ?ho_ ?hv_ ?_); (case ho_ => first | assumption | exact upd_same); (case hv_ => exact rfl)) | ((with_reducible refine' dg_S_syn ?ho_ ?hv_ ?_); (case ho_ => first | assumption | exact upd_same); (case hv_ => exact rfl)) | ((with_reducible refine' dg_S_fin ?ho_ ?hv_ ?_); (case ho_ => first | assumption | exact upd_same); (case hv_ => exact rfl)) | ((with_reducible refine' dg_S_reset ?ho_ ?hv_ ?_); (case ho_ => first | assumption | exact upd_same); (case hv_ => exact rfl)) | ((with_reducible refine' dg_S_marked ?ho_ ?hv_ ?_); (case ho_ => first | assumption | exact upd_same); (case hv_ => exact rfl)) | ((with_reducible refine' dg_S_cut ?ho_ ?hv_ ?_); (case ho_ => first | assumption | exact upd_same); (case hv_ => exact rfl)) | ((with_reducible refine' dg_S_ranges_known ?ho_ ?hv_ ?_); (case ho_ => first | assumption | exact upd_same); (case hv_ => exact rfl)) | ((with_reducible refine' dg_S_window ?ho_ ?hv_ ?_); (case ho_ => first | assumption | exact upd_same); (case hv_ => exact rfl)) | ((with_reducible refine' dg_S_mss ?ho_ ?hv_ ?_); (case ho_ => first | assumption | exact upd_same); (case hv_ => exact rfl)) | ((with_reducible refine' dg_S_scale ?ho_ ?hv_ ?_); (case ho_ => first | assumption | exact upd_same); (case hv_ => exact rfl)) | ((with_reducible refine' dg_S_ranges ?ho_ ?hv_ ?_); (case ho_ => first | assumption | exact upd_same); (case hv_ => exact rfl)) | ((with_reducible refine' dg_S_stamp ?ho_ ?hv_ ?_); (case ho_ => first | assumption | exact upd_same); (case hv_ => exact rfl)) | ((with_reducible refine' dg_S_data ?ho_ ?hv_ ?_); (case ho_ => first | assumption | exact upd_same); (case hv_ => exact rfl)) | ((with_reducible refine' dn_S_source ?ho_ ?hv_ ?_); (case ho_ => first | assumption | exact upd_same); (case hv_ => exact rfl)) | ((with_reducible refine' dn_S_target ?ho_ ?hv_ ?_); (case ho_ => first | assumption | exact upd_same); (case hv_ => exact rfl)) | ((with_reducible refine' dn_S_seq ?ho_ ?hv_ ?_); (case ho_ => first | assumption | exact upd_same); (case hv_ => exact rfl)) | ((with_reducible refine' dn_S_count ?ho_ ?hv_ ?_); (case ho_ => first | assumption | exact upd_same); (case hv_ => exact rfl)) | ((with_reducible refine' dn_S_echo ?ho_ ?hv_ ?_); (case ho_ => first | assumption | exact upd_same); (case hv_ => exact rfl)) | ((with_reducible refine' dn_S_ack ?ho_ ?hv_ ?_); (case ho_ => first | assumption | exact upd_same); (case hv_ => exact rfl)) | ((with_reducible refine' dn_S_syn ?ho_ ?hv_ ?_); (case ho_ => first | assumption | exact upd_same); (case hv_ => exact rfl)) | ((with_reducible refine' dn_S_fin ?ho_ ?hv_ ?_); (case ho_ => first | assumption | exact upd_same); (case hv_ => exact rfl)) | ((with_reducible refine' dn_S_reset ?ho_ ?hv_ ?_); (case ho_ => first | assumption | exact upd_same); (case hv_ => exact rfl)) | ((with_reducible refine' dn_S_marked ?ho_ ?hv_ ?_); (case ho_ => first | assumption | exact upd_same); (case hv_ => exact rfl)) | ((with_reducible refine' dn_S_cut ?ho_ ?hv_ ?_); (case ho_ => first | assumption | exact upd_same); (case hv_ => exact rfl)) | ((with_reducible refine' dn_S_ranges_known ?ho_ ?hv_ ?_); (case ho_ => first | assumption | exact upd_same); (case hv_ => exact rfl)) | ((with_reducible refine' dn_S_window ?ho_ ?hv_ ?_); (case ho_ => first | assumption | exact upd_same); (case hv_ => exact rfl)) | ((with_reducible refine' dn_S_mss ?ho_ ?hv_ ?_); (case ho_ => first | assumption | exact upd_same); (case hv_ => exact rfl)) | ((with_reducible refine' dn_S_scale ?ho_ ?hv_ ?_); (case ho_ => first | assumption | exact upd_same); (case hv_ => exact rfl)) | ((with_reducible refine' dn_S_ranges ?ho_ ?hv_ ?_); (case ho_ => first | assumption | exact upd_same); (case hv_ => exact rfl)) | ((with_reducible refine' dn_S_stamp ?ho_ ?hv_ ?_); (case ho_ => first | assumption | exact upd_same); (case hv_ => exact rfl)) | ((with_reducible refine' dn_S_data ?ho_ ?hv_ ?_); (case ho_ => first | assumption | exact upd_same); (case hv_ => exact rfl)) | ((with_reducible refine' dp_S_source ?ho_ ?hv_ ?_); (case ho_ => first | assumption | exact upd_same); (case hv_ => exact Nat.le_of_ble_eq_true rfl)) | ((with_reducible refine' dp_S_target ?ho_ ?hv_ ?_); (case ho_ => first | assumption | exact upd_same); (case hv_ => exact Nat.le_of_ble_eq_true rfl)) | ((with_reducible refine' dp_S_seq ?ho_ ?hv_ ?_); (case ho_ => first | assumption | exact upd_same); (case hv_ => exact Nat.le_of_ble_eq_true rfl)) | ((with_reducible refine' dp_S_count ?ho_ ?hv_ ?_); (case ho_ => first | assumption | exact upd_same); (case hv_ => exact Nat.le_of_ble_eq_true rfl)) | ((with_reducible refine' dp_S_echo ?ho_ ?hv_ ?_); (case ho_ => first | assumption | exact upd_same); (case hv_ => exact Nat.le_of_ble_eq_true rfl)) | ((with_reducible refine' dp_S_ack ?ho_ ?hv_ ?_); (case ho_ => first | assumption | exact upd_same); (case hv_ => exact Nat.le_of_ble_eq_true rfl)) | ((with_reducible refine' dp_S_syn ?ho_ ?hv_ ?_); (case ho_ => first | assumption | exact upd_same); (case hv_ => exact Nat.le_of_ble_eq_true rfl)) | ((with_reducible refine' dp_S_fin ?ho_ ?hv_ ?_); (case ho_ => first | assumption | exact upd_same); (case hv_ => exact Nat.le_of_ble_eq_true rfl)) | ((with_reducible refine' dp_S_reset ?ho_ ?hv_ ?_); (case ho_ => first | assumption | exact upd_same); (case hv_ => exact Nat.le_of_ble_eq_true rfl)) | ((with_reducible refine' dp_S_marked ?ho_ ?hv_ ?_); (case ho_ => first | assumption | exact upd_same); (case hv_ => exact Nat.le_of_ble_eq_true rfl)) | ((with_reducible refine' dp_S_cut ?ho_ ?hv_ ?_); (case ho_ => first | assumption | exact upd_same); (case hv_ => exact Nat.le_of_ble_eq_true rfl)) | ((with_reducible refine' dp_S_ranges_known ?ho_ ?hv_ ?_); (case ho_ => first | assumption | exact upd_same); (case hv_ => exact Nat.le_of_ble_eq_true rfl)) | ((with_reducible refine' dp_S_window ?ho_ ?hv_ ?_); (case ho_ => first | assumption | exact upd_same); (case hv_ => exact Nat.le_of_ble_eq_true rfl)) | ((with_reducible refine' dp_S_mss ?ho_ ?hv_ ?_); (case ho_ => first | assumption | exact upd_same); (case hv_ => exact Nat.le_of_ble_eq_true rfl)) | ((with_reducible refine' dp_S_scale ?ho_ ?hv_ ?_); (case ho_ => first | assumption | exact upd_same); (case hv_ => exact Nat.le_of_ble_eq_true rfl)) | ((with_reducible refine' dp_S_ranges ?ho_ ?hv_ ?_); (case ho_ => first | assumption | exact upd_same); (case hv_ => exact Nat.le_of_ble_eq_true rfl)) | ((with_reducible refine' dp_S_stamp ?ho_ ?hv_ ?_); (case ho_ => first | assumption | exact upd_same); (case hv_ => exact Nat.le_of_ble_eq_true rfl)) | ((with_reducible refine' dp_S_data ?ho_ ?hv_ ?_); (case ho_ => first | assumption | exact upd_same); (case hv_ => exact Nat.le_of_ble_eq_true rfl)))
local macro_rules | `(tactic| walk_at "use") => `(tactic| with_reducible first | refine g_dgetT ?_ | refine g_dputT ?_)
section
variable {P : Program} {w : World} {K : PySem.W.Frag} {mg : Str → Option Value} {base : Heap}
theorem g_gtup {K : PySem.W.Frag} {n : Nat} {t : List V → St → Hp → (St → Hp → Prop) → Prop} {a : Addr} {xs : List V} {σ : St} {H : Hp} {Q : St → Hp → Prop} (h : SqT K H a xs) (l : xs.length = n) (q : t xs σ H Q) : gTup K n t (.ref a) σ H Q := ⟨a, xs, rfl, h, l, q⟩
theorem g_gcons {t : TG} {u : List V → St → Hp → (St → Hp → Prop) → Prop} {v : V} {r : List V} {σ : St} {H : Hp} {Q : St → Hp → Prop} (h : t v σ H fun σ' H' => u r σ' H' Q) : gCons t u (v :: r) σ H Q := ⟨v, r, rfl, h⟩
theorem g_gnil {σ : St} {H : Hp} {Q : St → Hp → Prop} (q : Q σ H) : gNil [] σ H Q := ⟨rfl, q⟩
local macro_rules | `(tactic| walk_at "use") => `(tactic| with_reducible first | refine g_gcons ?_ | refine g_gnil ?_)

def dg (n : Int) : Nat → List Int
  | 0 => []
  | k + 1 => (n / 256 ^ k % 256) :: dg n k
theorem dg_len (n : Int) : ∀ k, (dg n k).length = k
  | 0 => rfl
  | k + 1 => congrArg Nat.succ (dg_len n k)
theorem dg_get (n : Int) : ∀ k i, i < k → (dg n k)[i]? = some (n / 256 ^ (k - 1 - i) % 256)
  | 0, _, h => by omega
  | k + 1, 0, _ => rfl
  | k + 1, i + 1, h => by
    show (dg n k)[i]? = _
    rw [dg_get n k i (by omega)]
    rw [show k + 1 - 1 - (i + 1) = k - 1 - i by omega]
theorem pw8 {n pl : Int} {m : Nat} (e : 8 * pl = ((8 * m : Nat) : Int)) : n / 2 ^ (8 * pl).toNat = n / 256 ^ m := by
  rw [e, Int.toNat_natCast, Int.pow_mul]
  rfl
def sp_write_number (K : PySem.W.Frag) : Sp := fun vs H Q _ => ∃ (n k : Int), vs = [.int n, .int k] ∧ (0 ≤ k ∧ k ≤ 1000) ∧ ∀ p H', H p = none → Same H H' → H' p = some (.lst ((dg n k.toNat).map V.int)) → Q (.ref p) H'
theorem u_write {n k : Int} {H Q E} (h : 0 ≤ k ∧ k ≤ 1000) (q : ∀ p H', H p = none → Same H H' → H' p = some (.lst ((dg n k.toNat).map V.int)) → Q (.ref p) H') : sp_write_number K ([.int n, .int k] ++ []) H Q E := ⟨n, k, rfl, h, q⟩
theorem ok_write_number (T : Txt K mg) : FnOk P w K mg base CX0 1 T.f_write_number T.d_write_number ["number", "size"] (sp_write_number K) := by
  refine T.F_write_number.ok sc_write_number (fun vs H Q E h => ?_) (fun cdv A outer s H vs Q E hr h => ?_)
  · obtain ⟨n, k, rfl, h0, q⟩ := h
    rfl
  · obtain ⟨n, k, rfl, h0, q⟩ := h
    have hu := hu_of hr
    refine ⟨_, (pss_one (ps_ret (pe_lc (own := [("place", 2)]) (g := gName 2) (tt := tYes) rfl sc_write_number.nd (pi_revR (by rfl) T.n_reversed (prg_1 (by rfl) T.n_range (pv 1))) (blkOk_by (N := ["number", "size", "place"]) (sc := defScope s_write_number) (by decide +kernel)) (fun _ _ _ _ _ => (pg_name (i := 2) sc_write_number.nd rfl (Or.inl rfl))) (fun _ _ _ _ _ => pts_nil) (fun _ _ _ _ _ => (pe_op op_andM (pe_op op_shr (pv 0) (pe_op op_mul pe_int (pv 2))) pe_int))))), ?_⟩
    dsimp only [cxOf, Cx.nox, Cx.wish, L2.start, List.map, List.cons_append, List.nil_append, List.length_cons, List.length_nil, Nat.reduceAdd, Nat.reduceSub, Nat.zero_add, List.replicate_succ, List.replicate_zero]
    walk_at "go"
    refine ⟨by decide, by decide, by omega, by omega, fun D hD => ?_⟩
    refine lc_vals walk_rangeC ((dg n k.toNat).map V.int) hD (by rw [List.length_map, dg_len, Int.sub_zero]) (fun _ _ => trivial) ?_ (fun H' s e => q D H' hD s e)
    rintro i x H1 H2 hi p ⟨rfl, rfl⟩
    refine ⟨rfl, ?_⟩
    walk_at "go"
    refine ⟨_, 8, rfl, rfl, ?_⟩
    refine lc_next hD p (by rw [List.length_map, dg_len]; omega) ?_
    rw [List.getElem?_map, dg_get n _ i (by omega)]
    show some (V.int _) = some (V.int _)
    rw [pw8 (m := k.toNat - 1 - i) (by omega)]
    rfl
local macro_rules | `(tactic| walk_at "use") => `(tactic| with_reducible refine u_write (by omega) ?_)
def sp_l_digits (K : PySem.W.Frag) : Sp := sp_write_number K
theorem u_digits {n k : Int} {H Q E} (h : 0 ≤ k ∧ k ≤ 1000) (q : ∀ p H', H p = none → Same H H' → H' p = some (.lst ((dg n k.toNat).map V.int)) → Q (.ref p) H') : sp_l_digits K ([.int n, .int k] ++ []) H Q E := ⟨n, k, rfl, h, q⟩
theorem ok_l_digits (T : Txt K mg) : FnOk P w K mg base CX0 1 T.f_l_digits T.d_l_digits ["number", "size"] (sp_l_digits K) := by
  refine T.F_l_digits.ok sc_l_digits (fun vs H Q E h => ?_) (fun cdv A outer s H vs Q E hr h => ?_)
  · obtain ⟨n, k, rfl, h0, q⟩ := h
    rfl
  · obtain ⟨n, k, rfl, h0, q⟩ := h
    have hu := hu_of hr
    refine ⟨_, (pss_cons (ps_set (i := 2) sc_l_digits.nd rfl (Or.inl rfl) (pe_lst pa_nil))
        (pss_cons (ps_for PassesOwn.never rfl (pi_range1 (by rfl) T.n_range (pa_cons (pv 1) pa_nil)) (pg_name (i := 3) sc_l_digits.nd rfl (Or.inl rfl)) (pss_cons (ps_set (i := 2) sc_l_digits.nd rfl (Or.inl rfl) (pe_op op_cat (pe_lst (pa_cons (pe_op op_mod (pe_callTy call_int1 (by rfl) T.n_int (by decide +kernel) (pa_cons (pv 0) pa_nil)) pe_int) pa_nil)) (pv 2)))
        (pss_one (ps_set (i := 0) sc_l_digits.nd rfl (Or.inl rfl) (pe_op op_fdiv (pv 0) pe_int)))))
        (pss_one (ps_ret (pv 2))))), ?_⟩
    dsimp only [cxOf, Cx.nox, Cx.wish, L2.start, List.map, List.cons_append, List.nil_append, List.length_cons, List.length_nil, Nat.reduceAdd, Nat.reduceSub, Nat.zero_add, List.replicate_succ, List.replicate_zero]
    walk_at "go"
    refine ⟨by decide, fun p hp => ?_⟩
    walk_at "go"
    refine for_r (n := k) k.toNat rfl (by omega) (by omega) (fun i σ H' => ∃ p v, σ = [some (.int (n / 256 ^ i)), some (.int k), some (.ref p), v] ∧ H p = none ∧ Same H H' ∧ H' p = some (.lst ((dg n i).map V.int)))
      ⟨p, none, by rw [Int.pow_zero, Int.ediv_one] <;> rfl, hp, same_upd hp, upd_same⟩ ?turn ?done ?ev
    case ev =>
      intro R r
      walk_at "go"
      exact r
    case done =>
      rintro σ H' ⟨p, v, rfl, hp, sm, e⟩
      walk_at "go"
      exact q p H' hp sm e
    case turn =>
      rintro i σ H' hi ⟨p, v, rfl, hp, sm, e⟩
      walk_at "go"
      refine ⟨sz (by show 1 ≤ 100000; decide), fun l hl => ?_⟩
      walk_at "go"
      refine g_cat upd_same (upd_keep hl e) (by rw [List.length_map, dg_len]; exact sz (by show 1 + i ≤ _; omega)) fun r hr => ?_
      walk_at "go"
      refine ⟨r, some (.int (i : Int)), ?_, (sm.trans (same_upd hl)).free hr, (sm.trans (same_upd hl)).trans (same_upd hr), upd_same⟩
      rw [Int.pow_succ, ← Int.ediv_ediv_of_nonneg (Int.le_of_lt (Int.pow_pos (by decide)))]
      all_goals rfl

def sp_option (K : PySem.W.Frag) : Sp := fun vs H Q _ => ∃ (k : Int) (a : Addr) (ns : List Int), vs = [.int k, .ref a] ∧ SqL K H a (ns.map V.int) ∧ ns.length ≤ 1000 ∧ ∀ p H', H p = none → Same H H' → H' p = some (.lst ((k :: ((ns.length : Int) + 2) :: ns).map V.int)) → Q (.ref p) H'
theorem u_option {k : Int} {a : Addr} {ns : List Int} {H Q E} (h : SqL K H a (ns.map V.int)) (hl : ns.length ≤ 1000) (q : ∀ p H', H p = none → Same H H' → H' p = some (.lst ((k :: ((ns.length : Int) + 2) :: ns).map V.int)) → Q (.ref p) H') : sp_option K ([.int k, .ref a] ++ []) H Q E := ⟨k, a, ns, rfl, h, hl, q⟩
theorem ok_option (T : Txt K mg) : FnOk P w K mg base CX0 1 T.f_option T.d_option ["kind", "body"] (sp_option K) := by
  refine T.F_option.ok sc_option (fun vs H Q E h => ?_) (fun cdv A outer s H vs Q E hr h => ?_)
  · obtain ⟨k, a, ns, rfl, h, hl, q⟩ := h
    rfl
  · obtain ⟨k, a, ns, rfl, h, hl, q⟩ := h
    have hu := hu_of hr
    refine ⟨_, (pss_one (ps_ret (pe_lst (pa_cons (pv 0) (pa_cons (pe_op op_add (pe_callB call_len_seq (by rfl) T.n_len (by decide +kernel) (pa_cons (pv 1) pa_nil)) pe_int) (StX.pa_star (pv 1) pa_nil)))))), ?_⟩
    dsimp only [cxOf, Cx.nox, Cx.wish, L2.start, List.map, List.cons_append, List.nil_append, List.length_cons, List.length_nil, Nat.reduceAdd, Nat.reduceSub, Nat.zero_add, List.replicate_succ, List.replicate_zero]
    walk_at "go"
    refine g_len (.inl h) ?_
    walk_at "go"
    refine ⟨a, _, rfl, .inr h, ?_⟩
    walk_at "go"
    rw [List.append_nil]
    refine ⟨?_, fun p hp => ?_⟩
    · rw [List.length_cons, List.length_cons, List.length_map]
      exact sz (by omega)
    · refine q p _ hp (same_upd hp) ?_
      rw [upd_same, List.length_map]
      rfl
/-- the octets of pairs -/
def wp : List (Int × Int) → List Int
  | [] => []
  | p :: r => dg p.1 4 ++ dg p.2 4 ++ wp r
def sp_write_pairs (K : PySem.W.Frag) : Sp := fun vs H Q _ => ∃ (a : Addr) (us : List V) (ps : List (Int × Int)), vs = [.ref a] ∧ SqL K H a us ∧ Prs H us ps ∧ ps.length ≤ 100 ∧ ∀ p H', H p = none → Same H H' → H' p = some (.lst ((wp ps).map V.int)) → Q (.ref p) H'
theorem u_wpairs {a : Addr} {us : List V} {ps : List (Int × Int)} {H Q E} (h : SqL K H a us) (hP : Prs H us ps) (hl : ps.length ≤ 100) (q : ∀ p H', H p = none → Same H H' → H' p = some (.lst ((wp ps).map V.int)) → Q (.ref p) H') : sp_write_pairs K ([.ref a] ++ []) H Q E := ⟨a, us, ps, rfl, h, hP, hl, q⟩
theorem ok_write_pairs (T : Txt K mg) : FnOk P w K mg base CX0 2 T.f_write_pairs T.d_write_pairs ["pairs"] (sp_write_pairs K) := by
  refine T.F_write_pairs.ok sc_write_pairs (fun vs H Q E h => ?_) (fun cdv A outer s H vs Q E hr h => ?_)
  · obtain ⟨a, us, ps, rfl, h, hP, hl, q⟩ := h
    rfl
  · obtain ⟨a, us, ps, rfl, h, hP, hl, q⟩ := h
    have hu := hu_of hr
    refine ⟨_, (pss_cons (ps_set (i := 1) sc_write_pairs.nd rfl (Or.inl rfl) (pe_lst pa_nil))
        (pss_cons (ps_for PassesOwn.never rfl (pi_list (pv 0)) (pg_tup rfl (pgs_cons (pg_name (i := 2) sc_write_pairs.nd rfl (Or.inl rfl)) (pgs_cons (pg_name (i := 3) sc_write_pairs.nd rfl (Or.inl rfl)) pgs_nil))) (pss_cons (ps_expr (pe_bm PySem.F.plainAttrs_list PySem.F.slot_list_extend PySem.F.type_list_extend mt_extend (pv 1) (pa_cons (pe_call (ok_write_number T) (hr.mono (by decide)) rfl T.m_write_number T.F_write_number.kp T.b_write_number .nil pass0 (pa_cons (pv 2) (pa_cons pe_int pa_nil))) pa_nil)))
        (pss_one (ps_expr (pe_bm PySem.F.plainAttrs_list PySem.F.slot_list_extend PySem.F.type_list_extend mt_extend (pv 1) (pa_cons (pe_call (ok_write_number T) (hr.mono (by decide)) rfl T.m_write_number T.F_write_number.kp T.b_write_number .nil pass0 (pa_cons (pv 3) (pa_cons pe_int pa_nil))) pa_nil))))))
        (pss_one (ps_ret (pv 1))))), ?_⟩
    dsimp only [cxOf, Cx.nox, Cx.wish, L2.start, List.map, List.cons_append, List.nil_append, List.length_cons, List.length_nil, Nat.reduceAdd, Nat.reduceSub, Nat.zero_add, List.replicate_succ, List.replicate_zero]
    walk_at "go"
    refine ⟨by decide, fun o ho => ?_⟩
    walk_at "go"
    refine for_l (xs := us) (fun i σ H' => ∃ v2 v3, σ = [some (.ref a), some (.ref o), v2, v3] ∧ But o H H' ∧ H' o = some (.lst ((wp (ps.take i)).map V.int))) (sq_upd ho h) ?start (fun i σ H' _ ⟨_, _, _, bu, _⟩ => (bu.same ho).seq h) ?turn ?done ?ev
    case ev =>
      intro R r
      walk_at "go"
      exact r
    case start => exact ⟨none, none, rfl, But.refl.upd, upd_same⟩
    case done =>
      rintro σ H' ⟨v2, v3, rfl, bu, e⟩
      rw [List.take_of_length_le (by rw [hP.1]; exact Nat.le_refl _)] at e
      walk_at "go"
      exact q o H' ho (bu.same ho) e
    case turn =>
      rintro i x σ H' hx ⟨v2, v3, rfl, bu, e⟩
      obtain ⟨hi, _⟩ := List.getElem?_eq_some_iff.mp hx
      obtain ⟨p, hp⟩ : ∃ p, ps[i]? = some p := ⟨ps[i]'(by rw [← hP.1]; exact hi), List.getElem?_eq_getElem _⟩
      obtain ⟨t, ht1, ht2⟩ := (hP.same (bu.same ho)).2 i p hp
      rw [ht1] at hx
      cases hx
      have hw : ∀ qs : List (Int × Int), (wp qs).length = 8 * qs.length := fun qs => by
        induction qs with
        | nil => rfl
        | cons p r ih =>
          show (dg p.1 4 ++ dg p.2 4 ++ wp r).length = 8 * (r.length + 1)
          rw [List.length_append, List.length_append, dg_len, dg_len, ih]
          omega
      have ht3 := hw (ps.take i)
      rw [List.length_take] at ht3
      refine g_gtup (xs := [V.int p.1, V.int p.2]) (st ht2) rfl ?_
      walk_at "go"
      refine ⟨ty_l e, ?_⟩
      walk_at "go"
      intro l1 H1 n1 s1 k1
      have e1 := s1 _ _ e
      walk_at "go"
      refine ⟨o, l1, _, _, rfl, rfl, e1, k1, by rw [List.length_map, List.length_map, dg_len]; exact sz (by show _ + 4 ≤ _; omega), ?_⟩
      have b1 := (bu.trans (But.of s1)).upd (o := .lst ((wp (ps.take i)).map V.int ++ (dg p.1 (Int.toNat 4)).map V.int))
      have e2 : (upd H1 o (.lst ((wp (ps.take i)).map V.int ++ (dg p.1 (Int.toNat 4)).map V.int))) o = some (.lst ((wp (ps.take i)).map V.int ++ (dg p.1 (Int.toNat 4)).map V.int)) := upd_same
      generalize upd H1 o (.lst ((wp (ps.take i)).map V.int ++ (dg p.1 (Int.toNat 4)).map V.int)) = H2 at b1 e2 ⊢
      walk_at "go"
      refine ⟨ty_l e2, ?_⟩
      walk_at "go"
      intro l3 H3 n3 s3 k3
      have e3 := s3 _ _ e2
      walk_at "go"
      refine ⟨o, l3, _, _, rfl, rfl, e3, k3, by rw [List.length_append, List.length_map, List.length_map, List.length_map, dg_len, dg_len]; exact sz (by show _ + 4 + 4 ≤ _; omega), ?_⟩
      walk_at "go"
      refine ⟨_, _, rfl, (b1.trans (But.of s3)).upd, ?_⟩
      rw [upd_same, List.take_add_one, hp]
      have ha : ∀ qs : List (Int × Int), wp (qs ++ [p]) = wp qs ++ (dg p.1 4 ++ dg p.2 4) := fun qs => by
        induction qs with
        | nil => show dg p.1 4 ++ dg p.2 4 ++ [] = _; rw [List.append_nil]; rfl
        | cons q r ih =>
          show dg q.1 4 ++ dg q.2 4 ++ wp (r ++ [p]) = dg q.1 4 ++ dg q.2 4 ++ wp r ++ _
          rw [ih, List.append_assoc, List.append_assoc, List.append_assoc]
      show _ = some (HO.lst ((wp (ps.take i ++ [p])).map V.int))
      rw [ha, List.map_append, List.map_append, ← List.append_assoc]
      rfl

def o1 (g : Sg) : List Int := match g.mss with | none => [] | some m => 2 :: 4 :: dg m 2
def o2 (g : Sg) : List Int := match g.scale with | none => [] | some m => 3 :: 3 :: dg m 1
def o3 (g : Sg) : List Int := if g.rk = true then [4, 2] else []
def o4 (g : Sg) : List Int := match g.stamp with | none => [] | some p => 8 :: 10 :: wp [p]
def oB (g : Sg) : List Int := 83 :: 85 :: (dg g.cnt 4 ++ match g.echo with | none => [] | some m => dg m 4)
def sgl (g : Sg) : List Int := o1 g ++ o2 g ++ o3 g ++ o4 g ++ (253 :: (((oB g).length : Int) + 2) :: oB g)
def sp_write_single_options (C : Addr) : Sp := fun vs H Q _ => ∃ (p d r : Addr) (g : Sg), vs = [.ref p] ∧ SegO C H p g d r ∧ ∀ o H', H o = none → Same H H' → H' o = some (.lst ((sgl g).map V.int)) → Q (.ref o) H'
theorem u_single {C p d r : Addr} {g : Sg} {H Q E} (h : SegO C H p g d r) (q : ∀ o H', H o = none → Same H H' → H' o = some (.lst ((sgl g).map V.int)) → Q (.ref o) H') : sp_write_single_options C ([.ref p] ++ []) H Q E := ⟨p, d, r, g, rfl, h, q⟩
theorem ok_write_single_options (T : Txt K mg) : FnOk P w K mg base CX0 3 T.f_write_single_options T.d_write_single_options ["segment"] (sp_write_single_options T.C_Segment) := by
  refine T.F_write_single_options.ok sc_write_single_options (fun vs H Q E h => ?_) (fun cdv A outer s H vs Q E hr h => ?_)
  · obtain ⟨p, d, r, g, rfl, hO, q⟩ := h
    rfl
  · obtain ⟨p, d, r, g, rfl, hO, q⟩ := h
    have hu := hu_of hr
    refine ⟨_, (pss_cons (ps_set (i := 1) sc_write_single_options.nd rfl (Or.inl rfl) (pe_lst pa_nil))
        (C8.pss_cut (ps_if (pt_cmpR op_notN (pe_fld (pv 0) rfl) pe_non (nomark _)) (pss_one (ps_expr (pe_bm PySem.F.plainAttrs_list PySem.F.slot_list_extend PySem.F.type_list_extend mt_extend (pv 1) (pa_cons (pe_call (ok_option T) (hr.mono (by decide)) rfl T.m_option T.F_option.kp T.b_option .nil pass0 (pa_cons (pe_glob (v := .int 2) (by rfl) T.v_MSS ⟨_, rfl⟩) (pa_cons (pe_call (ok_write_number T) (hr.mono (by decide)) rfl T.m_write_number T.F_write_number.kp T.b_write_number .nil pass0 (pa_cons (pe_fld (pv 0) rfl) (pa_cons pe_int pa_nil))) pa_nil))) pa_nil)))) pss_nil)
        (C8.pss_cut (ps_if (pt_cmpR op_notN (pe_fld (pv 0) rfl) pe_non (nomark _)) (pss_one (ps_expr (pe_bm PySem.F.plainAttrs_list PySem.F.slot_list_extend PySem.F.type_list_extend mt_extend (pv 1) (pa_cons (pe_call (ok_option T) (hr.mono (by decide)) rfl T.m_option T.F_option.kp T.b_option .nil pass0 (pa_cons (pe_glob (v := .int 3) (by rfl) T.v_SCALE ⟨_, rfl⟩) (pa_cons (pe_call (ok_write_number T) (hr.mono (by decide)) rfl T.m_write_number T.F_write_number.kp T.b_write_number .nil pass0 (pa_cons (pe_fld (pv 0) rfl) (pa_cons pe_int pa_nil))) pa_nil))) pa_nil)))) pss_nil)
        (C8.pss_cut (ps_if (pt_val (pe_fld (pv 0) rfl)) (pss_one (ps_expr (pe_bm PySem.F.plainAttrs_list PySem.F.slot_list_extend PySem.F.type_list_extend mt_extend (pv 1) (pa_cons (pe_call (ok_option T) (hr.mono (by decide)) rfl T.m_option T.F_option.kp T.b_option .nil pass0 (pa_cons (pe_glob (v := .int 4) (by rfl) T.v_RANGES_KNOWN ⟨_, rfl⟩) (pa_cons (pe_lst pa_nil) pa_nil))) pa_nil)))) pss_nil)
        (C8.pss_cut (ps_if (pt_cmpR op_notN (pe_fld (pv 0) rfl) pe_non (nomark _)) (pss_one (ps_expr (pe_bm PySem.F.plainAttrs_list PySem.F.slot_list_extend PySem.F.type_list_extend mt_extend (pv 1) (pa_cons (pe_call (ok_option T) (hr.mono (by decide)) rfl T.m_option T.F_option.kp T.b_option .nil pass0 (pa_cons (pe_glob (v := .int 8) (by rfl) T.v_STAMP ⟨_, rfl⟩) (pa_cons (pe_call (ok_write_pairs T) (hr.mono (by decide)) rfl T.m_write_pairs T.F_write_pairs.kp T.b_write_pairs .nil pass0 (pa_cons (pe_lst (pa_cons (pe_fld (pv 0) rfl) pa_nil)) pa_nil)) pa_nil))) pa_nil)))) pss_nil)
        (pss_cons (ps_set (i := 2) sc_write_single_options.nd rfl (Or.inl rfl) (pe_ifExp (pt_cmpR op_isN (pe_fld (pv 0) rfl) pe_non (nomark _)) (pe_lst pa_nil) (pe_call (ok_write_number T) (hr.mono (by decide)) rfl T.m_write_number T.F_write_number.kp T.b_write_number .nil pass0 (pa_cons (pe_fld (pv 0) rfl) (pa_cons pe_int pa_nil)))))
        (pss_cons (ps_expr (pe_bm PySem.F.plainAttrs_list PySem.F.slot_list_extend PySem.F.type_list_extend mt_extend (pv 1) (pa_cons (pe_call (ok_option T) (hr.mono (by decide)) rfl T.m_option T.F_option.kp T.b_option .nil pass0 (pa_cons (pe_glob (v := .int 253) (by rfl) T.v_COUNT ⟨_, rfl⟩) (pa_cons (pe_lst (StX.pa_star (pe_glob (v := .ref T.t_COUNT_MARK) (by rfl) T.v_COUNT_MARK rfl) (StX.pa_star (pe_call (ok_write_number T) (hr.mono (by decide)) rfl T.m_write_number T.F_write_number.kp T.b_write_number .nil pass0 (pa_cons (pe_fld (pv 0) rfl) (pa_cons pe_int pa_nil))) (StX.pa_star (pv 2) pa_nil)))) pa_nil))) pa_nil)))
        (pss_one (ps_ret (pv 1)))))))))), ?_⟩
    dsimp only [cxOf, Cx.nox, Cx.wish, L2.start, List.map, List.cons_append, List.nil_append, List.length_cons, List.length_nil, Nat.reduceAdd, Nat.reduceSub, Nat.zero_add, List.replicate_succ, List.replicate_zero]
    walk_at "go"
    refine ⟨by decide, fun o ho => ?_⟩
    walk_at "go"
    refine g_cut (fun σ' H' => σ' = [some (.ref p), some (.ref o), none] ∧ But o H H' ∧ H' o = some (.lst ((o1 g).map V.int))) ?_ ?_
    · obtain ⟨dx, sv, e, hP⟩ := hO.same (same_upd (o := .lst []) ho)
      unfold sgVs at e
      have bu : But o H (upd H o (.lst [])) := But.refl.upd
      have eo : (upd H o (.lst [])) o = some (.lst (([] : List Int).map V.int)) := upd_same
      generalize upd H o (.lst []) = H0 at e bu eo ⊢
      clear hP
      cases hm : g.mss with
      | none =>
        rw [hm] at e
        simp only [oV] at e
        walk_at "go"
        refine ⟨rfl, bu, ?_⟩
        rw [eo]; unfold o1; rw [hm]
      | some m =>
        rw [hm] at e
        simp only [oV] at e
        walk_at "go"
        refine ⟨ty_l eo, ?_⟩
        walk_at "go"
        intro l1 H1 n1 s1 k1
        have eo1 := s1 _ _ eo
        walk_at "go"
        refine u_option (sl k1) (by rw [dg_len]; decide) fun l2 H2 n2 s2 k2 => ?_
        have eo2 := s2 _ _ eo1
        walk_at "go"
        refine ⟨o, l2, _, _, rfl, rfl, eo2, k2, ?_, ?_⟩
        · simp only [List.length_map, List.length_cons, List.length_nil, dg_len]; exact sz (by decide)
        · walk_at "go"
          refine ⟨rfl, ((bu.trans (But.of s1)).trans (But.of s2)).upd, ?_⟩
          rw [upd_same]; unfold o1; rw [hm, dg_len]
          rfl
    rintro σ' H0 ⟨rfl, bu, eo⟩
    have la : (o1 g).length ≤ 4 := by unfold o1; split <;> simp [dg_len]
    refine g_cut (fun σ' H' => σ' = [some (.ref p), some (.ref o), none] ∧ But o H H' ∧ H' o = some (.lst ((o1 g ++ o2 g).map V.int))) ?_ ?_
    · obtain ⟨dx, sv, e, hP⟩ := hO.same (bu.same ho)
      unfold sgVs at e
      clear hP
      cases hm : g.scale with
      | none =>
        rw [hm] at e
        simp only [oV] at e
        walk_at "go"
        refine ⟨rfl, bu, ?_⟩
        rw [eo]; unfold o2; rw [hm, List.append_nil]
      | some m =>
        rw [hm] at e
        simp only [oV] at e
        walk_at "go"
        refine ⟨ty_l eo, ?_⟩
        walk_at "go"
        intro l1 H1 n1 s1 k1
        have eo1 := s1 _ _ eo
        walk_at "go"
        refine u_option (sl k1) (by rw [dg_len]; decide) fun l2 H2 n2 s2 k2 => ?_
        have eo2 := s2 _ _ eo1
        walk_at "go"
        refine ⟨o, l2, _, _, rfl, rfl, eo2, k2, ?_, ?_⟩
        · have := la
          simp only [List.length_map, List.length_cons, List.length_nil, dg_len]; exact sz (by omega)
        · walk_at "go"
          refine ⟨rfl, ((bu.trans (But.of s1)).trans (But.of s2)).upd, ?_⟩
          rw [upd_same, List.map_append]; unfold o2; rw [hm, dg_len]
          rfl
    rintro σ' H0 ⟨rfl, bu, eo⟩
    have la : (o1 g ++ o2 g).length ≤ 7 := by rw [List.length_append]; have : (o2 g).length ≤ 3 := (by unfold o2; split <;> simp [dg_len]); omega
    refine g_cut (fun σ' H' => σ' = [some (.ref p), some (.ref o), none] ∧ But o H H' ∧ H' o = some (.lst ((o1 g ++ o2 g ++ o3 g).map V.int))) ?_ ?_
    · obtain ⟨dx, sv, e, hP⟩ := hO.same (bu.same ho)
      unfold sgVs at e
      clear hP
      cases hm : g.rk with
      | false =>
        rw [hm] at e
        walk_at "go"
        refine ⟨rfl, bu, ?_⟩
        rw [eo]; unfold o3; rw [hm, if_neg (by decide), List.append_nil]
      | true =>
        rw [hm] at e
        walk_at "go"
        refine ⟨ty_l eo, ?_⟩
        walk_at "go"
        refine ⟨by decide, fun l1 hl1 => ?_⟩
        have s1 := same_upd (o := .lst []) hl1
        have eo1 := s1 _ _ eo
        have k1 : (upd H0 l1 (.lst [])) l1 = some (.lst (([] : List Int).map V.int)) := upd_same
        generalize upd H0 l1 (.lst []) = H1 at s1 eo1 k1 ⊢
        walk_at "go"
        refine u_option (sl k1) (by decide) fun l2 H2 n2 s2 k2 => ?_
        have eo2 := s2 _ _ eo1
        walk_at "go"
        refine ⟨o, l2, _, _, rfl, rfl, eo2, k2, ?_, ?_⟩
        · simp only [List.length_map, List.length_cons, List.length_nil]; exact sz (by omega)
        · walk_at "go"
          refine ⟨rfl, ((bu.trans (But.of s1)).trans (But.of s2)).upd, ?_⟩
          rw [upd_same, ← List.map_append]; unfold o3; rw [hm, if_pos rfl]
          rfl
    rintro σ' H0 ⟨rfl, bu, eo⟩
    have lb : (o1 g ++ o2 g ++ o3 g).length ≤ 9 := by
      rw [List.length_append]
      have : (o3 g).length ≤ 2 := (by unfold o3; split <;> simp)
      omega
    refine g_cut (fun σ' H' => σ' = [some (.ref p), some (.ref o), none] ∧ But o H H' ∧ H' o = some (.lst ((o1 g ++ o2 g ++ o3 g ++ o4 g).map V.int))) ?_ ?_
    · obtain ⟨dx, sv, e, hP1, hP2, hsv⟩ := hO.same (bu.same ho)
      unfold sgVs at e
      cases hm : g.stamp with
      | none =>
        rw [hm] at hsv
        have hsv : sv = .non := hsv
        subst hsv
        walk_at "go"
        refine ⟨rfl, bu, ?_⟩
        rw [eo]; unfold o4; rw [hm, List.append_nil]
      | some p0 =>
        rw [hm] at hsv
        obtain ⟨t, rfl, ht⟩ := hsv
        walk_at "go"
        refine ⟨ty_l eo, ?_⟩
        walk_at "go"
        refine ⟨sz (by show 1 ≤ 100000; decide), fun l1 hl1 => ?_⟩
        have s1 := same_upd (o := .lst [V.ref t]) hl1
        have eo1 := s1 _ _ eo
        have ht1 := s1 _ _ ht
        have k1 : (upd H0 l1 (.lst [V.ref t])) l1 = some (.lst [V.ref t]) := upd_same
        generalize upd H0 l1 (.lst [V.ref t]) = H1 at s1 eo1 k1 ht1 ⊢
        walk_at "go"
        refine u_wpairs (sl k1) (Prs.one ht1) (by show 1 ≤ 100; decide) fun l2 H2 n2 s2 k2 => ?_
        have eo2 := s2 _ _ eo1
        walk_at "go"
        refine u_option (sl k2) (by show (dg _ 4 ++ dg _ 4 ++ []).length ≤ 1000; simp [dg_len]) fun l3 H3 n3 s3 k3 => ?_
        have eo3 := s3 _ _ eo2
        walk_at "go"
        refine ⟨o, l3, _, _, rfl, rfl, eo3, k3, ?_, ?_⟩
        · have : (wp [p0]).length = 8 := by show (dg _ 4 ++ dg _ 4 ++ []).length = 8; simp [dg_len]
          simp only [List.length_map, List.length_cons, this]; exact sz (by omega)
        · walk_at "go"
          refine ⟨rfl, (((bu.trans (But.of s1)).trans (But.of s2)).trans (But.of s3)).upd, ?_⟩
          have : (wp [p0]).length = 8 := by show (dg _ 4 ++ dg _ 4 ++ []).length = 8; simp [dg_len]
          rw [upd_same, ← List.map_append]; unfold o4; rw [hm, this]
          rfl
    rintro σ' H0 ⟨rfl, bu, eo⟩
    have lc : (o1 g ++ o2 g ++ o3 g ++ o4 g).length ≤ 19 := by
      rw [List.length_append]
      have : (o4 g).length ≤ 10 := (by unfold o4; split <;> simp [dg_len, wp])
      omega
    obtain ⟨dx, sv, e, _⟩ := hO.same (bu.same ho)
    unfold sgVs at e
    cases hm : g.echo with
    | none =>
      rw [hm] at e
      simp only [oV] at e
      walk_at "go"
      refine ⟨by decide, fun l1 hl1 => ?_⟩
      have s1 := same_upd (o := .lst []) hl1
      have eo1 := s1 _ _ eo
      have e1 := s1 _ _ e
      have k1 : (upd H0 l1 (.lst [])) l1 = some (.lst (([] : List Int).map V.int)) := upd_same
      generalize upd H0 l1 (.lst []) = H1 at s1 eo1 e1 k1 ⊢
      clear e
      walk_at "go"
      refine ⟨ty_l eo1, ?_⟩
      walk_at "go"
      refine ⟨_, _, rfl, .inl (T.es_COUNT_MARK _), ?_⟩
      walk_at "go"
      intro l2 H2 n2 s2 k2
      have eo2 := s2 _ _ eo1
      have k12 := s2 _ _ k1
      refine ⟨_, _, rfl, .inr (sl k2), ?_⟩
      walk_at "go"
      refine ⟨_, _, rfl, .inr (sl k12), ?_⟩
      walk_at "go"
      have lB : (oB g).length ≤ 10 := by unfold oB; rw [hm]; simp [dg_len]
      refine ⟨?_, fun l4 hl4 => ?_⟩
      · simp [dg_len]; exact sz (by decide)
      have s4 := same_upd (o := .lst ((oB g).map V.int)) hl4
      have k4 : (upd H2 l4 (.lst ((oB g).map V.int))) l4 = some (.lst ((oB g).map V.int)) := upd_same
      have eL : ([V.int 83, V.int 85] ++ ((dg g.cnt (Int.toNat 4)).map V.int ++ (([] : List Int).map V.int ++ []))) = (oB g).map V.int := by unfold oB; rw [hm]; simp
      rw [eL]
      have eo4 := s4 _ _ eo2
      walk_at "go"
      refine u_option (sl k4) (by omega) fun l5 H5 n5 s5 k5 => ?_
      have eo5 := s5 _ _ eo4
      walk_at "go"
      refine ⟨o, l5, _, _, rfl, rfl, eo5, k5, ?_, ?_⟩
      · simp only [List.length_map, List.length_cons]; exact sz (by omega)
      · walk_at "go"
        refine q o _ ho (((((bu.trans (But.of s1)).trans (But.of s2)).trans (But.of s4)).trans (But.of s5)).upd.same ho) ?_
        rw [upd_same, ← List.map_append]
        rfl
    | some m =>
      rw [hm] at e
      simp only [oV] at e
      walk_at "go"
      intro l1 H1 n1 s1 k1
      have eo1 := s1 _ _ eo
      have e1 := s1 _ _ e
      clear e
      walk_at "go"
      refine ⟨ty_l eo1, ?_⟩
      walk_at "go"
      refine ⟨_, _, rfl, .inl (T.es_COUNT_MARK _), ?_⟩
      walk_at "go"
      intro l2 H2 n2 s2 k2
      have eo2 := s2 _ _ eo1
      have k12 := s2 _ _ k1
      refine ⟨_, _, rfl, .inr (sl k2), ?_⟩
      walk_at "go"
      refine ⟨_, _, rfl, .inr (sl k12), ?_⟩
      walk_at "go"
      have lB : (oB g).length ≤ 10 := by unfold oB; rw [hm]; simp [dg_len]
      refine ⟨?_, fun l4 hl4 => ?_⟩
      · simp [dg_len]; exact sz (by decide)
      have s4 := same_upd (o := .lst ((oB g).map V.int)) hl4
      have k4 : (upd H2 l4 (.lst ((oB g).map V.int))) l4 = some (.lst ((oB g).map V.int)) := upd_same
      have eL : ([V.int 83, V.int 85] ++ ((dg g.cnt (Int.toNat 4)).map V.int ++ ((dg m (Int.toNat 4)).map V.int ++ []))) = (oB g).map V.int := by unfold oB; rw [hm]; simp
      rw [eL]
      have eo4 := s4 _ _ eo2
      walk_at "go"
      refine u_option (sl k4) (by omega) fun l5 H5 n5 s5 k5 => ?_
      have eo5 := s5 _ _ eo4
      walk_at "go"
      refine ⟨o, l5, _, _, rfl, rfl, eo5, k5, ?_, ?_⟩
      · simp only [List.length_map, List.length_cons]; exact sz (by omega)
      · walk_at "go"
        refine q o _ ho (((((bu.trans (But.of s1)).trans (But.of s2)).trans (But.of s4)).trans (But.of s5)).upd.same ho) ?_
        rw [upd_same, ← List.map_append]
        rfl

end
end My
namespace My
open PySem PySem.Spec L2
local macro_rules | `(tactic| walk_at "side") => `(tactic| first | assumption | decide | omega | exact ⟨by decide, by decide⟩ | exact ⟨by decide, by decide, by decide⟩ | decide +kernel | exact cdivW (by decide +kernel) (by decide +kernel) | exact Or.inl ⟨by omega, by omega⟩ | exact Or.inr ⟨by omega, by omega⟩ | (simp only [List.length_map, List.length_cons, List.length_nil, List.length_append]; omega))
local macro_rules | `(tactic| walk_at "fact") => `(tactic| first | assumption | omega | with_reducible rfl)
local macro_rules | `(tactic| walk_at "use") => `(tactic| fail "use")
local macro_rules | `(tactic| walk_at "go1") => `(tactic| with_reducible first | refine g_seq ?_ | refine g_asg ?_ | refine g_ret ?_ | refine g_ifS ?_ | refine g_drop ?_ | refine g_star ?_ | refine g_nx ?_ | refine g_rt ?_ | refine g_bkE ?_ | refine g_ctE ?_ | refine g_next ?_ | refine g_retN ?_ | refine g_brk ?_ | refine g_ct ?_ | refine g_c ?_ | refine g_op ?_ | refine g_un ?_ | refine g_rI0 ?_ | refine g_rU ?_ | refine g_rEqI ?_ | refine g_rNeI ?_ | refine g_isN ?_ | refine g_rIsB ?_ | refine g_rNotB ?_ | refine g_test ?_ | refine g_B ?_ | refine g_bl ?_ | refine g_and ?_ | refine g_or ?_ | refine g_not ?_ | refine g_andV ?_ | refine g_orV ?_ | refine g_notV ?_ | refine g_if ?_ | refine g_chain ?_ | refine g_yes ?_ | refine g_lc ?_ | refine g_revR ?_ | refine g_rng1 ?_ | refine g_iList ?_ | refine g_nil ?_ | refine g_cons ?_ | refine g_tup ?_ | refine g_lst ?_ | refine g_call ?_ | refine g_CB ?_ | refine g_sl ?_ | refine g_noPart ?_ | refine g_part ?_ | refine g_intE ?_ | refine g_ref ?_ | refine g_fld ?_ | refine g_sfld ?_ | refine g_meth ?_ | refine g_make ?_ | refine g_prop ?_  | refine g_ipI ?_ | refine g_int1 ?_ | refine g_int1B ?_ | refine g_one ?_ | refine g_two ?_ | refine g_isiI ?_ | refine g_isiIB ?_ | refine g_isiB ?_ | refine g_BM ?_ | refine g_BM0 ?_ | refine g_sub ?_)
local macro_rules | `(tactic| walk_at "go") => `(tactic| repeat (first | walk_at "go1" | ((with_reducible refine' g_nameE ?sd_ ?_); case sd_ => dsimp only [List.set_cons_succ, List.set_cons_zero]) | ((with_reducible refine' g_var ?sd_ ?_); case sd_ => exact rfl) | ((with_reducible refine' g_aug ?sd_ ?_); case sd_ => exact rfl) | ((with_reducible refine' g_rI ?sd_ ?_); case sd_ => walk_at "side") | ((with_reducible refine' g_dT ?sd_ ?_); case sd_ => walk_at "fact") | ((with_reducible refine' g_dF ?sd_ ?_); case sd_ => walk_at "fact") | ((with_reducible refine' g_nT ?sd_ ?_); case sd_ => walk_at "fact") | ((with_reducible refine' g_nF ?sd_ ?_); case sd_ => walk_at "fact") | (with_reducible refine g_iT rfl ?_) | (with_reducible refine g_iF rfl ?_) | walk_at "use"))
local macro_rules | `(tactic| walk_at "use") => `(tactic| first | ((with_reducible refine' fd_Segment_source ?ho_ ?hv_ ?_); (case ho_ => first | assumption | exact upd_same); (case hv_ => exact rfl)) | ((with_reducible refine' fd_Segment_target ?ho_ ?hv_ ?_); (case ho_ => first | assumption | exact upd_same); (case hv_ => exact rfl)) | ((with_reducible refine' fd_Segment_seq ?ho_ ?hv_ ?_); (case ho_ => first | assumption | exact upd_same); (case hv_ => exact rfl)) | ((with_reducible refine' fd_Segment_count ?ho_ ?hv_ ?_); (case ho_ => first | assumption | exact upd_same); (case hv_ => exact rfl)) | ((with_reducible refine' fd_Segment_echo ?ho_ ?hv_ ?_); (case ho_ => first | assumption | exact upd_same); (case hv_ => exact rfl)) | ((with_reducible refine' fd_Segment_ack ?ho_ ?hv_ ?_); (case ho_ => first | assumption | exact upd_same); (case hv_ => exact rfl)) | ((with_reducible refine' fd_Segment_syn ?ho_ ?hv_ ?_); (case ho_ => first | assumption | exact upd_same); (case hv_ => exact rfl)) | ((with_reducible refine' fd_Segment_fin ?ho_ ?hv_ ?_); (case ho_ => first | assumption | exact upd_same); (case hv_ => exact rfl)) | ((with_reducible refine' fd_Segment_reset ?ho_ ?hv_ ?_); (case ho_ => first | assumption | exact upd_same); (case hv_ => exact rfl)) | ((with_reducible refine' fd_Segment_marked ?ho_ ?hv_ ?_); (case ho_ => first | assumption | exact upd_same); (case hv_ => exact rfl)) | ((with_reducible refine' fd_Segment_cut ?ho_ ?hv_ ?_); (case ho_ => first | assumption | exact upd_same); (case hv_ => exact rfl)) | ((with_reducible refine' fd_Segment_window ?ho_ ?hv_ ?_); (case ho_ => first | assumption | exact upd_same); (case hv_ => exact rfl)) | ((with_reducible refine' fd_Segment_mss ?ho_ ?hv_ ?_); (case ho_ => first | assumption | exact upd_same); (case hv_ => exact rfl)) | ((with_reducible refine' fd_Segment_scale ?ho_ ?hv_ ?_); (case ho_ => first | assumption | exact upd_same); (case hv_ => exact rfl)) | ((with_reducible refine' fd_Segment_ranges_known ?ho_ ?hv_ ?_); (case ho_ => first | assumption | exact upd_same); (case hv_ => exact rfl)) | ((with_reducible refine' fd_Segment_ranges ?ho_ ?hv_ ?_); (case ho_ => first | assumption | exact upd_same); (case hv_ => exact rfl)) | ((with_reducible refine' fd_Segment_stamp ?ho_ ?hv_ ?_); (case ho_ => first | assumption | exact upd_same); (case hv_ => exact rfl)) | ((with_reducible refine' fd_Segment_data ?ho_ ?hv_ ?_); (case ho_ => first | assumption | exact upd_same); (case hv_ => exact rfl)) | ((with_reducible refine' nw_Segment_source ?ho_ ?hv_ ?_); (case ho_ => first | assumption | exact upd_same); (case hv_ => exact rfl)) | ((with_reducible refine' nw_Segment_target ?ho_ ?hv_ ?_); (case ho_ => first | assumption | exact upd_same); (case hv_ => exact rfl)) | ((with_reducible refine' nw_Segment_seq ?ho_ ?hv_ ?_); (case ho_ => first | assumption | exact upd_same); (case hv_ => exact rfl)) | ((with_reducible refine' nw_Segment_count ?ho_ ?hv_ ?_); (case ho_ => first | assumption | exact upd_same); (case hv_ => exact rfl)) | ((with_reducible refine' nw_Segment_echo ?ho_ ?hv_ ?_); (case ho_ => first | assumption | exact upd_same); (case hv_ => exact rfl)) | ((with_reducible refine' nw_Segment_ack ?ho_ ?hv_ ?_); (case ho_ => first | assumption | exact upd_same); (case hv_ => exact rfl)) | ((with_reducible refine' nw_Segment_syn ?ho_ ?hv_ ?_); (case ho_ => first | assumption | exact upd_same); (case hv_ => exact rfl)) | ((with_reducible refine' nw_Segment_fin ?ho_ ?hv_ ?_); (case ho_ => first | assumption | exact upd_same); (case hv_ => exact rfl)) | ((with_reducible refine' nw_Segment_reset ?ho_ ?hv_ ?_); (case ho_ => first | assumption | exact upd_same); (case hv_ => exact rfl)) | ((with_reducible refine' nw_Segment_marked ?ho_ ?hv_ ?_); (case ho_ => first | assumption | exact upd_same); (case hv_ => exact rfl)) | ((with_reducible refine' nw_Segment_cut ?ho_ ?hv_ ?_); (case ho_ => first | assumption | exact upd_same); (case hv_ => exact rfl)) | ((with_reducible refine' nw_Segment_window ?ho_ ?hv_ ?_); (case ho_ => first | assumption | exact upd_same); (case hv_ => exact rfl)) | ((with_reducible refine' nw_Segment_mss ?ho_ ?hv_ ?_); (case ho_ => first | assumption | exact upd_same); (case hv_ => exact rfl)) | ((with_reducible refine' nw_Segment_scale ?ho_ ?hv_ ?_); (case ho_ => first | assumption | exact upd_same); (case hv_ => exact rfl)) | ((with_reducible refine' nw_Segment_ranges_known ?ho_ ?hv_ ?_); (case ho_ => first | assumption | exact upd_same); (case hv_ => exact rfl)) | ((with_reducible refine' nw_Segment_ranges ?ho_ ?hv_ ?_); (case ho_ => first | assumption | exact upd_same); (case hv_ => exact rfl)) | ((with_reducible refine' nw_Segment_stamp ?ho_ ?hv_ ?_); (case ho_ => first | assumption | exact upd_same); (case hv_ => exact rfl)) | ((with_reducible refine' nw_Segment_data ?ho_ ?hv_ ?_); (case ho_ => first | assumption | exact upd_same); (case hv_ => exact rfl)) | ((with_reducible refine' st_Segment_source ?ho_ ?hv_ ?_); (case ho_ => first | assumption | exact upd_same); (case hv_ => exact Nat.le_of_ble_eq_true rfl)) | ((with_reducible refine' st_Segment_target ?ho_ ?hv_ ?_); (case ho_ => first | assumption | exact upd_same); (case hv_ => exact Nat.le_of_ble_eq_true rfl)) | ((with_reducible refine' st_Segment_seq ?ho_ ?hv_ ?_); (case ho_ => first | assumption | exact upd_same); (case hv_ => exact Nat.le_of_ble_eq_true rfl)) | ((with_reducible refine' st_Segment_count ?ho_ ?hv_ ?_); (case ho_ => first | assumption | exact upd_same); (case hv_ => exact Nat.le_of_ble_eq_true rfl)) | ((with_reducible refine' st_Segment_echo ?ho_ ?hv_ ?_); (case ho_ => first | assumption | exact upd_same); (case hv_ => exact Nat.le_of_ble_eq_true rfl)) | ((with_reducible refine' st_Segment_ack ?ho_ ?hv_ ?_); (case ho_ => first | assumption | exact upd_same); (case hv_ => exact Nat.le_of_ble_eq_true rfl)) | ((with_reducible refine' st_Segment_syn ?ho_ ?hv_ ?_); (case ho_ => first | assumption | exact upd_same); (case hv_ => exact Nat.le_of_ble_eq_true rfl)) | ((with_reducible refine' st_Segment_fin ?ho_ ?hv_ ?_); (case ho_ => first | assumption | exact upd_same); (case hv_ => exact Nat.le_of_ble_eq_true rfl)) | ((with_reducible refine' st_Segment_reset ?ho_ ?hv_ ?_); (case ho_ => first | assumption | exact upd_same); (case hv_ => exact Nat.le_of_ble_eq_true rfl)) | ((with_reducible refine' st_Segment_marked ?ho_ ?hv_ ?_); (case ho_ => first | assumption | exact upd_same); (case hv_ => exact Nat.le_of_ble_eq_true rfl)) | ((with_reducible refine' st_Segment_cut ?ho_ ?hv_ ?_); (case ho_ => first | assumption | exact upd_same); (case hv_ => exact Nat.le_of_ble_eq_true rfl)) | ((with_reducible refine' st_Segment_window ?ho_ ?hv_ ?_); (case ho_ => first | assumption | exact upd_same); (case hv_ => exact Nat.le_of_ble_eq_true rfl)) | ((with_reducible refine' st_Segment_mss ?ho_ ?hv_ ?_); (case ho_ => first | assumption | exact upd_same); (case hv_ => exact Nat.le_of_ble_eq_true rfl)) | ((with_reducible refine' st_Segment_scale ?ho_ ?hv_ ?_); (case ho_ => first | assumption | exact upd_same); (case hv_ => exact Nat.le_of_ble_eq_true rfl)) | ((with_reducible refine' st_Segment_ranges_known ?ho_ ?hv_ ?_); (case ho_ => first | assumption | exact upd_same); (case hv_ => exact Nat.le_of_ble_eq_true rfl)) | ((with_reducible refine' st_Segment_ranges ?ho_ ?hv_ ?_); (case ho_ => first | assumption | exact upd_same); (case hv_ => exact Nat.le_of_ble_eq_true rfl)) | ((with_reducible refine' st_Segment_stamp ?ho_ ?hv_ ?_); (case ho_ => first | assumption | exact upd_same); (case hv_ => exact Nat.le_of_ble_eq_true rfl)) | ((with_reducible refine' st_Segment_data ?ho_ ?hv_ ?_); (case ho_ => first | assumption | exact upd_same); (case hv_ => exact Nat.le_of_ble_eq_true rfl)))
local macro_rules | `(tactic| walk_at "use") => `(tactic| first | ((with_reducible refine' dg_S_source ?ho_ ?hv_ ?_); (case ho_ => first | assumption | exact upd_same); (case hv_ => exact rfl)) | ((with_reducible refine' dg_S_target ?ho_ ?hv_ ?_); (case ho_ => first | assumption | exact upd_same); (case hv_ => exact rfl)) | ((with_reducible refine' dg_S_seq ?ho_ ?hv_ ?_); (case ho_ => first | assumption | exact upd_same); (case hv_ => exact rfl)) | ((with_reducible refine' dg_S_count ?ho_ ?hv_ ?_); (case ho_ => first | assumption | exact upd_same); (case hv_ => exact rfl)) | ((with_reducible refine' dg_S_echo ?ho_ ?hv_ ?_); (case ho_ => first | assumption | exact upd_same); (case hv_ => exact rfl)) | ((with_reducible refine' dg_S_ack ?ho_ ?hv_ ?_); (case ho_ => first | assumption | exact upd_same); (case hv_ => exact rfl)) | ((with_reducible refine' dg_S_syn ?ho_ ?hv_ ?_); (case ho_ => first | assumption | exact upd_same); (case hv_ => exact rfl)) | ((with_reducible refine' dg_S_fin ?ho_ ?hv_ ?_); (case ho_ => first | assumption | exact upd_same); (case hv_ => exact rfl)) | ((with_reducible refine' dg_S_reset ?ho_ ?hv_ ?_); (case ho_ => first | assumption | exact upd_same); (case hv_ => exact rfl)) | ((with_reducible refine' dg_S_marked ?ho_ ?hv_ ?_); (case ho_ => first | assumption | exact upd_same); (case hv_ => exact rfl)) | ((with_reducible refine' dg_S_cut ?ho_ ?hv_ ?_); (case ho_ => first | assumption | exact upd_same); (case hv_ => exact rfl)) | ((with_reducible refine' dg_S_ranges_known ?ho_ ?hv_ ?_); (case ho_ => first | assumption | exact upd_same); (case hv_ => exact rfl)) | ((with_reducible refine' dg_S_window ?ho_ ?hv_ ?_); (case ho_ => first | assumption | exact upd_same); (case hv_ => exact rfl)) | ((with_reducible refine' dg_S_mss ?ho_ ?hv_ ?_); (case ho_ => first | assumption | exact upd_same); (case hv_ => exact rfl)) | ((with_reducible refine' dg_S_scale ?ho_ ?hv_ ?_); (case ho_ => first | assumption | exact upd_same); (case hv_ => exact rfl)) | ((with_reducible refine' dg_S_ranges ?ho_ ?hv_ ?_); (case ho_ => first | assumption | exact upd_same); (case hv_ => exact rfl)) | ((with_reducible refine' dg_S_stamp ?ho_ ?hv_ ?_); (case ho_ => first | assumption | exact upd_same); (case hv_ => exact rfl)) | ((with_reducible refine' dg_S_data ?ho_ ?hv_ ?_); (case ho_ => first | assumption | exact upd_same); (case hv_ => exact rfl)) | ((with_reducible refine' dn_S_source ?ho_ ?hv_ ?_); (case ho_ => first | assumption | exact upd_same); (case hv_ => exact rfl)) | ((with_reducible refine' dn_S_target ?ho_ ?hv_ ?_); (case ho_ => first | assumption | exact upd_same); (case hv_ => exact rfl)) | ((with_reducible refine' dn_S_seq ?ho_ ?hv_ ?_); (case ho_ => first | assumption | exact upd_same); (case hv_ => exact rfl)) | ((with_reducible refine' dn_S_count ?ho_ ?hv_ ?_); (case ho_ => first | assumption | exact upd_same); (case hv_ => exact rfl)) | ((with_reducible refine' dn_S_echo ?ho_ ?hv_ ?_); (case ho_ => first | assumption | exact upd_same); (case hv_ => exact rfl)) | ((with_reducible refine' dn_S_ack ?ho_ ?hv_ ?_); (case ho_ => first | assumption | exact upd_same); (case hv_ => exact rfl)) | ((with_reducible refine' dn_S_syn ?ho_ ?hv_ ?_); (case ho_ => first | assumption | exact upd_same); (case hv_ => exact rfl)) | ((with_reducible refine' dn_S_fin ?ho_ ?hv_ ?_); (case ho_ => first | assumption | exact upd_same); (case hv_ => exact rfl)) | ((with_reducible refine' dn_S_reset ?ho_ ?hv_ ?_); (case ho_ => first | assumption | exact upd_same); (case hv_ => exact rfl)) | ((with_reducible refine' dn_S_marked ?ho_ ?hv_ ?_); (case ho_ => first | assumption | exact upd_same); (case hv_ => exact rfl)) | ((with_reducible refine' dn_S_cut ?ho_ ?hv_ ?_); (case ho_ => first | assumption | exact upd_same); (case hv_ => exact rfl)) | ((with_reducible refine' dn_S_ranges_known ?ho_ ?hv_ ?_); (case ho_ => first | assumption | exact upd_same); (case hv_ => exact rfl)) | ((with_reducible refine' dn_S_window ?ho_ ?hv_ ?_); (case ho_ => first | assumption | exact upd_same); (case hv_ => exact rfl)) | ((with_reducible refine' dn_S_mss ?ho_ ?hv_ ?_); (case ho_ => first | assumption | exact upd_same); (case hv_ => exact rfl)) | ((with_reducible refine' dn_S_scale ?ho_ ?hv_ ?_); (case ho_ => first | assumption | exact upd_same); (case hv_ => exact rfl)) | ((with_reducible refine' dn_S_ranges ?ho_ ?hv_ ?_); (case ho_ => first | assumption | exact upd_same); (case hv_ => exact rfl)) | ((with_reducible refine' dn_S_stamp ?ho_ ?hv_ ?_); (case ho_ => first | assumption | exact upd_same); (case hv_ => exact rfl)) | ((with_reducible refine' dn_S_data ?ho_ ?hv_ ?_); (case ho_ => first | assumption | exact upd_same); (case hv_ => exact rfl)) | ((with_reducible refine' dp_S_source ?ho_ ?hv_ ?_); (case ho_ => first | assumption | exact upd_same); (case hv_ => exact Nat.le_of_ble_eq_true rfl)) | ((with_reducible refine' dp_S_target ?ho_ ?hv_ ?_); (case ho_ => first | assumption | exact upd_same); (case hv_ => exact Nat.le_of_ble_eq_true rfl)) | ((with_reducible refine' dp_S_seq ?ho_ ?hv_ ?_); (case ho_ => first | assumption | exact upd_same); (case hv_ => exact Nat.le_of_ble_eq_true rfl)) | ((with_reducible refine' dp_S_count ?ho_ ?hv_ ?_); (case ho_ => first | assumption | exact upd_same); (case hv_ => exact Nat.le_of_ble_eq_true rfl)) | ((with_reducible refine' dp_S_echo ?ho_ ?hv_ ?_); (case ho_ => first | assumption | exact upd_same); (case hv_ => exact Nat.le_of_ble_eq_true rfl)) | ((with_reducible refine' dp_S_ack ?ho_ ?hv_ ?_); (case ho_ => first | assumption | exact upd_same); (case hv_ => exact Nat.le_of_ble_eq_true rfl)) | ((with_reducible refine' dp_S_syn ?ho_ ?hv_ ?_); (case ho_ => first | assumption | exact upd_same); (case hv_ => exact Nat.le_of_ble_eq_true rfl)) | ((with_reducible refine' dp_S_fin ?ho_ ?hv_ ?_); (case ho_ => first | assumption | exact upd_same); (case hv_ => exact Nat.le_of_ble_eq_true rfl)) | ((with_reducible refine' dp_S_reset ?ho_ ?hv_ ?_); (case ho_ => first | assumption | exact upd_same); (case hv_ => exact Nat.le_of_ble_eq_true rfl)) | ((with_reducible refine' dp_S_marked ?ho_ ?hv_ ?_); (case ho_ => first | assumption | exact upd_same); (case hv_ => exact Nat.le_of_ble_eq_true rfl)) | ((with_reducible refine' dp_S_cut ?ho_ ?hv_ ?_); (case ho_ => first | assumption | exact upd_same); (case hv_ => exact Nat.le_of_ble_eq_true rfl)) | ((with_reducible refine' dp_S_ranges_known ?ho_ ?hv_ ?_); (case ho_ => first | assumption | exact upd_same); (case hv_ => exact Nat.le_of_ble_eq_true rfl)) | ((with_reducible refine' dp_S_window ?ho_ ?hv_ ?_); (case ho_ => first | assumption | exact upd_same); (case hv_ => exact Nat.le_of_ble_eq_true rfl)) | ((with_reducible refine' dp_S_mss ?ho_ ?hv_ ?_); (case ho_ => first | assumption | exact upd_same); (case hv_ => exact Nat.le_of_ble_eq_true rfl)) | ((with_reducible refine' dp_S_scale ?ho_ ?hv_ ?_); (case ho_ => first | assumption | exact upd_same); (case hv_ => exact Nat.le_of_ble_eq_true rfl)) | ((with_reducible refine' dp_S_ranges ?ho_ ?hv_ ?_); (case ho_ => first | assumption | exact upd_same); (case hv_ => exact Nat.le_of_ble_eq_true rfl)) | ((with_reducible refine' dp_S_stamp ?ho_ ?hv_ ?_); (case ho_ => first | assumption | exact upd_same); (case hv_ => exact Nat.le_of_ble_eq_true rfl)) | ((with_reducible refine' dp_S_data ?ho_ ?hv_ ?_); (case ho_ => first | assumption | exact upd_same); (case hv_ => exact Nat.le_of_ble_eq_true rfl)))
local macro_rules | `(tactic| walk_at "use") => `(tactic| with_reducible first | refine g_dgetT ?_ | refine g_dputT ?_)
section
variable {P : Program} {w : World} {K : PySem.W.Frag} {mg : Str → Option Value} {base : Heap}
theorem sgl_len {g : Sg} : (sgl g).length ≤ 31 := by
  have h1 : (o1 g).length ≤ 4 := by unfold o1; split <;> simp [dg_len]
  have h2 : (o2 g).length ≤ 3 := by unfold o2; split <;> simp [dg_len]
  have h3 : (o3 g).length ≤ 2 := by unfold o3; split <;> simp
  have h4 : (o4 g).length ≤ 10 := by unfold o4; split <;> simp [dg_len, wp]
  have h5 : (oB g).length ≤ 10 := by unfold oB; split <;> simp [dg_len]
  unfold sgl
  simp only [List.length_append, List.length_cons]
  omega
/-- how many ranges fit -/
def fit (g : Sg) : Nat := (38 - (sgl g).length) / 8
def sp_fitting_ranges (C : Addr) : Sp := fun vs H Q _ => ∃ (p d r : Addr) (g : Sg), vs = [.ref p] ∧ SegO C H p g d r ∧ ∀ l H' us, H l = none → Same H H' → H' l = some (.lst us) → Prs H' us (g.rs.take (fit g)) → Q (.ref l) H'
theorem u_fitting {C p d r : Addr} {g : Sg} {H Q E} (h : SegO C H p g d r) (q : ∀ l H' us, H l = none → Same H H' → H' l = some (.lst us) → Prs H' us (g.rs.take (fit g)) → Q (.ref l) H') : sp_fitting_ranges C ([.ref p] ++ []) H Q E := ⟨p, d, r, g, rfl, h, q⟩
theorem ok_fitting_ranges (T : Txt K mg) : FnOk P w K mg base CX0 4 T.f_fitting_ranges T.d_fitting_ranges ["segment"] (sp_fitting_ranges T.C_Segment) := by
  refine T.F_fitting_ranges.ok sc_fitting_ranges (fun vs H Q E h => ?_) (fun cdv A outer s H vs Q E hr h => ?_)
  · obtain ⟨p, d, r, g, rfl, hO, q⟩ := h
    rfl
  · obtain ⟨p, d, r, g, rfl, hO, q⟩ := h
    have hu := hu_of hr
    refine ⟨_, (pss_cons (ps_set (i := 1) sc_fitting_ranges.nd rfl (Or.inl rfl) (pe_op op_fdiv (pe_op op_sub (pe_glob (v := .int 38) (by rfl) T.v_ROOM_FOR_RANGES ⟨_, rfl⟩) (pe_callB call_len_seq (by rfl) T.n_len (by decide +kernel) (pa_cons (pe_call (ok_write_single_options T) (hr.mono (by decide)) rfl T.m_write_single_options T.F_write_single_options.kp T.b_write_single_options .nil pass0 (pa_cons (pv 0) pa_nil)) pa_nil))) pe_int))
        (pss_one (ps_ret (pe_slice sl_list (pe_fld (pv 0) rfl) po_none (po_some (pv 1)))))), ?_⟩
    dsimp only [cxOf, Cx.nox, Cx.wish, L2.start, List.map, List.cons_append, List.nil_append, List.length_cons, List.length_nil, Nat.reduceAdd, Nat.reduceSub, Nat.zero_add, List.replicate_succ, List.replicate_zero]
    have hl := sgl_len (g := g)
    walk_at "go"
    refine u_single hO fun o H1 no s1 eo => ?_
    walk_at "go"
    refine g_len (.inl (sl eo)) ?_
    walk_at "go"
    rw [List.length_map]
    obtain ⟨dx, sv, e, hd, ⟨us, hr2, hP⟩, hsv⟩ := hO.same s1
    unfold sgVs at e
    have ef : ((38 : Int) - (sgl g).length) / 8 = (fit g : Int) := by unfold fit; omega
    walk_at "go"
    rw [ef]
    refine g_slL (sl hr2) fun l hl2 => ?_
    refine q l _ (cutV us none (some ((fit g : Nat) : Int))) (s1.free hl2) (s1.trans (same_upd hl2)) upd_same ?_
    have e2 : cutV us none (some ((fit g : Nat) : Int)) = us.take (fit g) := by
      unfold cutV
      rw [HT.sIx_none, HT.sIx_nat, List.drop_zero, Nat.sub_zero]
      rcases Nat.le_total (fit g) us.length with z | z
      · rw [Nat.min_eq_left z]
      · rw [Nat.min_eq_right z, List.take_of_length_le (Nat.le_refl _), List.take_of_length_le z]
    rw [e2]
    exact (hP.take (fit g)).same (same_upd hl2)

end
end My
namespace My
open PySem PySem.Spec L2
local macro_rules | `(tactic| walk_at "side") => `(tactic| first | assumption | decide | omega | exact ⟨by decide, by decide⟩ | exact ⟨by decide, by decide, by decide⟩ | decide +kernel | exact cdivW (by decide +kernel) (by decide +kernel) | exact Or.inl ⟨by omega, by omega⟩ | exact Or.inr ⟨by omega, by omega⟩ | (simp only [List.length_map, List.length_cons, List.length_nil, List.length_append]; omega))
local macro_rules | `(tactic| walk_at "fact") => `(tactic| first | assumption | omega | with_reducible rfl)
local macro_rules | `(tactic| walk_at "use") => `(tactic| fail "use")
local macro_rules | `(tactic| walk_at "go1") => `(tactic| with_reducible first | refine g_seq ?_ | refine g_asg ?_ | refine g_ret ?_ | refine g_ifS ?_ | refine g_drop ?_ | refine g_star ?_ | refine g_nx ?_ | refine g_rt ?_ | refine g_bkE ?_ | refine g_ctE ?_ | refine g_next ?_ | refine g_retN ?_ | refine g_brk ?_ | refine g_ct ?_ | refine g_c ?_ | refine g_op ?_ | refine g_un ?_ | refine g_rI0 ?_ | refine g_rU ?_ | refine g_rEqI ?_ | refine g_rNeI ?_ | refine g_isN ?_ | refine g_rIsB ?_ | refine g_rNotB ?_ | refine g_test ?_ | refine g_B ?_ | refine g_bl ?_ | refine g_and ?_ | refine g_or ?_ | refine g_not ?_ | refine g_andV ?_ | refine g_orV ?_ | refine g_notV ?_ | refine g_if ?_ | refine g_chain ?_ | refine g_yes ?_ | refine g_lc ?_ | refine g_revR ?_ | refine g_rng1 ?_ | refine g_iList ?_ | refine g_nil ?_ | refine g_cons ?_ | refine g_tup ?_ | refine g_lst ?_ | refine g_call ?_ | refine g_CB ?_ | refine g_sl ?_ | refine g_noPart ?_ | refine g_part ?_ | refine g_intE ?_ | refine g_ref ?_ | refine g_fld ?_ | refine g_sfld ?_ | refine g_meth ?_ | refine g_make ?_ | refine g_prop ?_  | refine g_ipI ?_ | refine g_int1 ?_ | refine g_int1B ?_ | refine g_one ?_ | refine g_two ?_ | refine g_isiI ?_ | refine g_isiIB ?_ | refine g_isiB ?_ | refine g_BM ?_ | refine g_BM0 ?_ | refine g_sub ?_)
local macro_rules | `(tactic| walk_at "go") => `(tactic| repeat (first | walk_at "go1" | ((with_reducible refine' g_nameE ?sd_ ?_); case sd_ => dsimp only [List.set_cons_succ, List.set_cons_zero]) | ((with_reducible refine' g_var ?sd_ ?_); case sd_ => exact rfl) | ((with_reducible refine' g_aug ?sd_ ?_); case sd_ => exact rfl) | ((with_reducible refine' g_rI ?sd_ ?_); case sd_ => walk_at "side") | ((with_reducible refine' g_dT ?sd_ ?_); case sd_ => walk_at "fact") | ((with_reducible refine' g_dF ?sd_ ?_); case sd_ => walk_at "fact") | ((with_reducible refine' g_nT ?sd_ ?_); case sd_ => walk_at "fact") | ((with_reducible refine' g_nF ?sd_ ?_); case sd_ => walk_at "fact") | (with_reducible refine g_iT rfl ?_) | (with_reducible refine g_iF rfl ?_) | walk_at "use"))
local macro_rules | `(tactic| walk_at "use") => `(tactic| first | ((with_reducible refine' fd_Segment_source ?ho_ ?hv_ ?_); (case ho_ => first | assumption | exact upd_same); (case hv_ => exact rfl)) | ((with_reducible refine' fd_Segment_target ?ho_ ?hv_ ?_); (case ho_ => first | assumption | exact upd_same); (case hv_ => exact rfl)) | ((with_reducible refine' fd_Segment_seq ?ho_ ?hv_ ?_); (case ho_ => first | assumption | exact upd_same); (case hv_ => exact rfl)) | ((with_reducible refine' fd_Segment_count ?ho_ ?hv_ ?_); (case ho_ => first | assumption | exact upd_same); (case hv_ => exact rfl)) | ((with_reducible refine' fd_Segment_echo ?ho_ ?hv_ ?_); (case ho_ => first | assumption | exact upd_same); (case hv_ => exact rfl)) | ((with_reducible refine' fd_Segment_ack ?ho_ ?hv_ ?_); (case ho_ => first | assumption | exact upd_same); (case hv_ => exact rfl)) | ((with_reducible refine' fd_Segment_syn ?ho_ ?hv_ ?_); (case ho_ => first | assumption | exact upd_same); (case hv_ => exact rfl)) | ((with_reducible refine' fd_Segment_fin ?ho_ ?hv_ ?_); (case ho_ => first | assumption | exact upd_same); (case hv_ => exact rfl)) | ((with_reducible refine' fd_Segment_reset ?ho_ ?hv_ ?_); (case ho_ => first | assumption | exact upd_same); (case hv_ => exact rfl)) | ((with_reducible refine' fd_Segment_marked ?ho_ ?hv_ ?_); (case ho_ => first | assumption | exact upd_same); (case hv_ => exact rfl)) | ((with_reducible refine' fd_Segment_cut ?ho_ ?hv_ ?_); (case ho_ => first | assumption | exact upd_same); (case hv_ => exact rfl)) | ((with_reducible refine' fd_Segment_window ?ho_ ?hv_ ?_); (case ho_ => first | assumption | exact upd_same); (case hv_ => exact rfl)) | ((with_reducible refine' fd_Segment_mss ?ho_ ?hv_ ?_); (case ho_ => first | assumption | exact upd_same); (case hv_ => exact rfl)) | ((with_reducible refine' fd_Segment_scale ?ho_ ?hv_ ?_); (case ho_ => first | assumption | exact upd_same); (case hv_ => exact rfl)) | ((with_reducible refine' fd_Segment_ranges_known ?ho_ ?hv_ ?_); (case ho_ => first | assumption | exact upd_same); (case hv_ => exact rfl)) | ((with_reducible refine' fd_Segment_ranges ?ho_ ?hv_ ?_); (case ho_ => first | assumption | exact upd_same); (case hv_ => exact rfl)) | ((with_reducible refine' fd_Segment_stamp ?ho_ ?hv_ ?_); (case ho_ => first | assumption | exact upd_same); (case hv_ => exact rfl)) | ((with_reducible refine' fd_Segment_data ?ho_ ?hv_ ?_); (case ho_ => first | assumption | exact upd_same); (case hv_ => exact rfl)) | ((with_reducible refine' nw_Segment_source ?ho_ ?hv_ ?_); (case ho_ => first | assumption | exact upd_same); (case hv_ => exact rfl)) | ((with_reducible refine' nw_Segment_target ?ho_ ?hv_ ?_); (case ho_ => first | assumption | exact upd_same); (case hv_ => exact rfl)) | ((with_reducible refine' nw_Segment_seq ?ho_ ?hv_ ?_); (case ho_ => first | assumption | exact upd_same); (case hv_ => exact rfl)) | ((with_reducible refine' nw_Segment_count ?ho_ ?hv_ ?_); (case ho_ => first | assumption | exact upd_same); (case hv_ => exact rfl)) | ((with_reducible refine' nw_Segment_echo ?ho_ ?hv_ ?_); (case ho_ => first | assumption | exact upd_same); (case hv_ => exact rfl)) | ((with_reducible refine' nw_Segment_ack ?ho_ ?hv_ ?_); (case ho_ => first | assumption | exact upd_same); (case hv_ => exact rfl)) | ((with_reducible refine' nw_Segment_syn ?ho_ ?hv_ ?_); (case ho_ => first | assumption | exact upd_same); (case hv_ => exact rfl)) | ((with_reducible refine' nw_Segment_fin ?ho_ ?hv_ ?_); (case ho_ => first | assumption | exact upd_same); (case hv_ => exact rfl)) | ((with_reducible refine' nw_Segment_reset ?ho_ ?hv_ ?_); (case ho_ => first | assumption | exact upd_same); (case hv_ => exact rfl)) | ((with_reducible refine' nw_Segment_marked ?ho_ ?hv_ ?_); (case ho_ => first | assumption | exact upd_same); (case hv_ => exact rfl)) | ((with_reducible refine' nw_Segment_cut ?ho_ ?hv_ ?_); (case ho_ => first | assumption | exact upd_same); (case hv_ => exact rfl)) | ((with_reducible refine' nw_Segment_window ?ho_ ?hv_ ?_); (case ho_ => first | assumption | exact upd_same); (case hv_ => exact rfl)) | ((with_reducible refine' nw_Segment_mss ?ho_ ?hv_ ?_); (case ho_ => first | assumption | exact upd_same); (case hv_ => exact rfl)) | ((with_reducible refine' nw_Segment_scale ?ho_ ?hv_ ?_); (case ho_ => first | assumption | exact upd_same); (case hv_ => exact rfl)) | ((with_reducible refine' nw_Segment_ranges_known ?ho_ ?hv_ ?_); (case ho_ => first | assumption | exact upd_same); (case hv_ => exact rfl)) | ((with_reducible refine' nw_Segment_ranges ?ho_ ?hv_ ?_); (case ho_ => first | assumption | exact upd_same); (case hv_ => exact rfl)) | ((with_reducible refine' nw_Segment_stamp ?ho_ ?hv_ ?_); (case ho_ => first | assumption | exact upd_same); (case hv_ => exact rfl)) | ((with_reducible refine' nw_Segment_data ?ho_ ?hv_ ?_); (case ho_ => first | assumption | exact upd_same); (case hv_ => exact rfl)) | ((with_reducible refine' st_Segment_source ?ho_ ?hv_ ?_); (case ho_ => first | assumption | exact upd_same); (case hv_ => exact Nat.le_of_ble_eq_true rfl)) | ((with_reducible refine' st_Segment_target ?ho_ ?hv_ ?_); (case ho_ => first | assumption | exact upd_same); (case hv_ => exact Nat.le_of_ble_eq_true rfl)) | ((with_reducible refine' st_Segment_seq ?ho_ ?hv_ ?_); (case ho_ => first | assumption | exact upd_same); (case hv_ => exact Nat.le_of_ble_eq_true rfl)) | ((with_reducible refine' st_Segment_count ?ho_ ?hv_ ?_); (case ho_ => first | assumption | exact upd_same); (case hv_ => exact Nat.le_of_ble_eq_true rfl)) | ((with_reducible refine' st_Segment_echo ?ho_ ?hv_ ?_); (case ho_ => first | assumption | exact upd_same); (case hv_ => exact Nat.le_of_ble_eq_true rfl)) | ((with_reducible refine' st_Segment_ack ?ho_ ?hv_ ?_); (case ho_ => first | assumption | exact upd_same); (case hv_ => exact Nat.le_of_ble_eq_true rfl)) | ((with_reducible refine' st_Segment_syn ?ho_ ?hv_ ?_); (case ho_ => first | assumption | exact upd_same); (case hv_ => exact Nat.le_of_ble_eq_true rfl)) | ((with_reducible refine' st_Segment_fin ?ho_ ?hv_ ?_); (case ho_ => first | assumption | exact upd_same); (case hv_ => exact Nat.le_of_ble_eq_true rfl)) | ((with_reducible refine' st_Segment_reset ?ho_ ?hv_ ?_); (case ho_ => first | assumption | exact upd_same); (case hv_ => exact Nat.le_of_ble_eq_true rfl)) | ((with_reducible refine' st_Segment_marked ?ho_ ?hv_ ?_); (case ho_ => first | assumption | exact upd_same); (case hv_ => exact Nat.le_of_ble_eq_true rfl)) | ((with_reducible refine' st_Segment_cut ?ho_ ?hv_ ?_); (case ho_ => first | assumption | exact upd_same); (case hv_ => exact Nat.le_of_ble_eq_true rfl)) | ((with_reducible refine' st_Segment_window ?ho_ ?hv_ ?_); (case ho_ => first | assumption | exact upd_same); (case hv_ => exact Nat.le_of_ble_eq_true rfl)) | ((with_reducible refine' st_Segment_mss ?ho_ ?hv_ ?_); (case ho_ => first | assumption | exact upd_same); (case hv_ => exact Nat.le_of_ble_eq_true rfl)) | ((with_reducible refine' st_Segment_scale ?ho_ ?hv_ ?_); (case ho_ => first | assumption | exact upd_same); (case hv_ => exact Nat.le_of_ble_eq_true rfl)) | ((with_reducible refine' st_Segment_ranges_known ?ho_ ?hv_ ?_); (case ho_ => first | assumption | exact upd_same); (case hv_ => exact Nat.le_of_ble_eq_true rfl)) | ((with_reducible refine' st_Segment_ranges ?ho_ ?hv_ ?_); (case ho_ => first | assumption | exact upd_same); (case hv_ => exact Nat.le_of_ble_eq_true rfl)) | ((with_reducible refine' st_Segment_stamp ?ho_ ?hv_ ?_); (case ho_ => first | assumption | exact upd_same); (case hv_ => exact Nat.le_of_ble_eq_true rfl)) | ((with_reducible refine' st_Segment_data ?ho_ ?hv_ ?_); (case ho_ => first | assumption | exact upd_same); (case hv_ => exact Nat.le_of_ble_eq_true rfl)))
local macro_rules | `(tactic| walk_at "use") => `(tactic| first | ((with_reducible refine' dg_S_source ?ho_ ?hv_ ?_); (case ho_ => first | assumption | exact upd_same); (case hv_ => exact rfl)) | ((with_reducible refine' dg_S_target ?ho_ ?hv_ ?_); (case ho_ => first | assumption | exact upd_same); (case hv_ => exact rfl)) | ((with_reducible refine' dg_S_seq ?ho_ ?hv_ ?_); (case ho_ => first | assumption | exact upd_same); (case hv_ => exact rfl)) | ((with_reducible refine' dg_S_count ?ho_ ?hv_ ?_); (case ho_ => first | assumption | exact upd_same); (case hv_ => exact rfl)) | ((with_reducible refine' dg_S_echo ?ho_ ?hv_ ?_); (case ho_ => first | assumption | exact upd_same); (case hv_ => exact rfl)) | ((with_reducible refine' dg_S_ack ?ho_ ?hv_ ?_); (case ho_ => first | assumption | exact upd_same); (case hv_ => exact rfl)) | ((with_reducible refine' dg_S_syn ?ho_ ?hv_ ?_); (case ho_ => first | assumption | exact upd_same); (case hv_ => exact rfl)) | ((with_reducible refine' dg_S_fin ?ho_ ?hv_ ?_); (case ho_ => first | assumption | exact upd_same); (case hv_ => exact rfl)) | ((with_reducible refine' dg_S_reset ?ho_ ?hv_ ?_); (case ho_ => first | assumption | exact upd_same); (case hv_ => exact rfl)) | ((with_reducible refine' dg_S_marked ?ho_ ?hv_ ?_); (case ho_ => first | assumption | exact upd_same); (case hv_ => exact rfl)) | ((with_reducible refine' dg_S_cut ?ho_ ?hv_ ?_); (case ho_ => first | assumption | exact upd_same); (case hv_ => exact rfl)) | ((with_reducible refine' dg_S_ranges_known ?ho_ ?hv_ ?_); (case ho_ => first | assumption | exact upd_same); (case hv_ => exact rfl)) | ((with_reducible refine' dg_S_window ?ho_ ?hv_ ?_); (case ho_ => first | assumption | exact upd_same); (case hv_ => exact rfl)) | ((with_reducible refine' dg_S_mss ?ho_ ?hv_ ?_); (case ho_ => first | assumption | exact upd_same); (case hv_ => exact rfl)) | ((with_reducible refine' dg_S_scale ?ho_ ?hv_ ?_); (case ho_ => first | assumption | exact upd_same); (case hv_ => exact rfl)) | ((with_reducible refine' dg_S_ranges ?ho_ ?hv_ ?_); (case ho_ => first | assumption | exact upd_same); (case hv_ => exact rfl)) | ((with_reducible refine' dg_S_stamp ?ho_ ?hv_ ?_); (case ho_ => first | assumption | exact upd_same); (case hv_ => exact rfl)) | ((with_reducible refine' dg_S_data ?ho_ ?hv_ ?_); (case ho_ => first | assumption | exact upd_same); (case hv_ => exact rfl)) | ((with_reducible refine' dn_S_source ?ho_ ?hv_ ?_); (case ho_ => first | assumption | exact upd_same); (case hv_ => exact rfl)) | ((with_reducible refine' dn_S_target ?ho_ ?hv_ ?_); (case ho_ => first | assumption | exact upd_same); (case hv_ => exact rfl)) | ((with_reducible refine' dn_S_seq ?ho_ ?hv_ ?_); (case ho_ => first | assumption | exact upd_same); (case hv_ => exact rfl)) | ((with_reducible refine' dn_S_count ?ho_ ?hv_ ?_); (case ho_ => first | assumption | exact upd_same); (case hv_ => exact rfl)) | ((with_reducible refine' dn_S_echo ?ho_ ?hv_ ?_); (case ho_ => first | assumption | exact upd_same); (case hv_ => exact rfl)) | ((with_reducible refine' dn_S_ack ?ho_ ?hv_ ?_); (case ho_ => first | assumption | exact upd_same); (case hv_ => exact rfl)) | ((with_reducible refine' dn_S_syn ?ho_ ?hv_ ?_); (case ho_ => first | assumption | exact upd_same); (case hv_ => exact rfl)) | ((with_reducible refine' dn_S_fin ?ho_ ?hv_ ?_); (case ho_ => first | assumption | exact upd_same); (case hv_ => exact rfl)) | ((with_reducible refine' dn_S_reset ?ho_ ?hv_ ?_); (case ho_ => first | assumption | exact upd_same); (case hv_ => exact rfl)) | ((with_reducible refine' dn_S_marked ?ho_ ?hv_ ?_); (case ho_ => first | assumption | exact upd_same); (case hv_ => exact rfl)) | ((with_reducible refine' dn_S_cut ?ho_ ?hv_ ?_); (case ho_ => first | assumption | exact upd_same); (case hv_ => exact rfl)) | ((with_reducible refine' dn_S_ranges_known ?ho_ ?hv_ ?_); (case ho_ => first | assumption | exact upd_same); (case hv_ => exact rfl)) | ((with_reducible refine' dn_S_window ?ho_ ?hv_ ?_); (case ho_ => first | assumption | exact upd_same); (case hv_ => exact rfl)) | ((with_reducible refine' dn_S_mss ?ho_ ?hv_ ?_); (case ho_ => first | assumption | exact upd_same); (case hv_ => exact rfl)) | ((with_reducible refine' dn_S_scale ?ho_ ?hv_ ?_); (case ho_ => first | assumption | exact upd_same); (case hv_ => exact rfl)) | ((with_reducible refine' dn_S_ranges ?ho_ ?hv_ ?_); (case ho_ => first | assumption | exact upd_same); (case hv_ => exact rfl)) | ((with_reducible refine' dn_S_stamp ?ho_ ?hv_ ?_); (case ho_ => first | assumption | exact upd_same); (case hv_ => exact rfl)) | ((with_reducible refine' dn_S_data ?ho_ ?hv_ ?_); (case ho_ => first | assumption | exact upd_same); (case hv_ => exact rfl)) | ((with_reducible refine' dp_S_source ?ho_ ?hv_ ?_); (case ho_ => first | assumption | exact upd_same); (case hv_ => exact Nat.le_of_ble_eq_true rfl)) | ((with_reducible refine' dp_S_target ?ho_ ?hv_ ?_); (case ho_ => first | assumption | exact upd_same); (case hv_ => exact Nat.le_of_ble_eq_true rfl)) | ((with_reducible refine' dp_S_seq ?ho_ ?hv_ ?_); (case ho_ => first | assumption | exact upd_same); (case hv_ => exact Nat.le_of_ble_eq_true rfl)) | ((with_reducible refine' dp_S_count ?ho_ ?hv_ ?_); (case ho_ => first | assumption | exact upd_same); (case hv_ => exact Nat.le_of_ble_eq_true rfl)) | ((with_reducible refine' dp_S_echo ?ho_ ?hv_ ?_); (case ho_ => first | assumption | exact upd_same); (case hv_ => exact Nat.le_of_ble_eq_true rfl)) | ((with_reducible refine' dp_S_ack ?ho_ ?hv_ ?_); (case ho_ => first | assumption | exact upd_same); (case hv_ => exact Nat.le_of_ble_eq_true rfl)) | ((with_reducible refine' dp_S_syn ?ho_ ?hv_ ?_); (case ho_ => first | assumption | exact upd_same); (case hv_ => exact Nat.le_of_ble_eq_true rfl)) | ((with_reducible refine' dp_S_fin ?ho_ ?hv_ ?_); (case ho_ => first | assumption | exact upd_same); (case hv_ => exact Nat.le_of_ble_eq_true rfl)) | ((with_reducible refine' dp_S_reset ?ho_ ?hv_ ?_); (case ho_ => first | assumption | exact upd_same); (case hv_ => exact Nat.le_of_ble_eq_true rfl)) | ((with_reducible refine' dp_S_marked ?ho_ ?hv_ ?_); (case ho_ => first | assumption | exact upd_same); (case hv_ => exact Nat.le_of_ble_eq_true rfl)) | ((with_reducible refine' dp_S_cut ?ho_ ?hv_ ?_); (case ho_ => first | assumption | exact upd_same); (case hv_ => exact Nat.le_of_ble_eq_true rfl)) | ((with_reducible refine' dp_S_ranges_known ?ho_ ?hv_ ?_); (case ho_ => first | assumption | exact upd_same); (case hv_ => exact Nat.le_of_ble_eq_true rfl)) | ((with_reducible refine' dp_S_window ?ho_ ?hv_ ?_); (case ho_ => first | assumption | exact upd_same); (case hv_ => exact Nat.le_of_ble_eq_true rfl)) | ((with_reducible refine' dp_S_mss ?ho_ ?hv_ ?_); (case ho_ => first | assumption | exact upd_same); (case hv_ => exact Nat.le_of_ble_eq_true rfl)) | ((with_reducible refine' dp_S_scale ?ho_ ?hv_ ?_); (case ho_ => first | assumption | exact upd_same); (case hv_ => exact Nat.le_of_ble_eq_true rfl)) | ((with_reducible refine' dp_S_ranges ?ho_ ?hv_ ?_); (case ho_ => first | assumption | exact upd_same); (case hv_ => exact Nat.le_of_ble_eq_true rfl)) | ((with_reducible refine' dp_S_stamp ?ho_ ?hv_ ?_); (case ho_ => first | assumption | exact upd_same); (case hv_ => exact Nat.le_of_ble_eq_true rfl)) | ((with_reducible refine' dp_S_data ?ho_ ?hv_ ?_); (case ho_ => first | assumption | exact upd_same); (case hv_ => exact Nat.le_of_ble_eq_true rfl)))
local macro_rules | `(tactic| walk_at "use") => `(tactic| with_reducible first | refine g_dgetT ?_ | refine g_dputT ?_)
section
variable {P : Program} {w : World} {K : PySem.W.Frag} {mg : Str → Option Value} {base : Heap}
def oR (g : Sg) : List Int := if 0 < (g.rs.take (fit g)).length then 5 :: (((wp (g.rs.take (fit g))).length : Int) + 2) :: wp (g.rs.take (fit g)) else []
def opts (g : Sg) : List Int := sgl g ++ oR g ++ List.replicate ((-((sgl g ++ oR g).length : Int)) % 4).toNat 0
theorem wp_len : ∀ {qs : List (Int × Int)}, (wp qs).length = 8 * qs.length
  | [] => rfl
  | p :: r => by
    show (dg p.1 4 ++ dg p.2 4 ++ wp r).length = 8 * (r.length + 1)
    rw [List.length_append, List.length_append, dg_len, dg_len, wp_len (qs := r)]
    omega
theorem fit_le {g : Sg} : fit g ≤ 4 := by unfold fit; omega
def sp_write_options (C : Addr) : Sp := fun vs H Q _ => ∃ (p d r : Addr) (g : Sg), vs = [.ref p] ∧ SegO C H p g d r ∧ ∀ o H', H o = none → Same H H' → H' o = some (.lst ((opts g).map V.int)) → Q (.ref o) H'
theorem u_wopts {C p d r : Addr} {g : Sg} {H Q E} (h : SegO C H p g d r) (q : ∀ o H', H o = none → Same H H' → H' o = some (.lst ((opts g).map V.int)) → Q (.ref o) H') : sp_write_options C ([.ref p] ++ []) H Q E := ⟨p, d, r, g, rfl, h, q⟩
theorem ok_write_options (T : Txt K mg) : FnOk P w K mg base CX0 5 T.f_write_options T.d_write_options ["segment"] (sp_write_options T.C_Segment) := by
  refine T.F_write_options.ok sc_write_options (fun vs H Q E h => ?_) (fun cdv A outer s H vs Q E hr h => ?_)
  · obtain ⟨p, d, r, g, rfl, hO, q⟩ := h
    rfl
  · obtain ⟨p, d, r, g, rfl, hO, q⟩ := h
    have hu := hu_of hr
    refine ⟨_, (pss_cons (ps_set (i := 1) sc_write_options.nd rfl (Or.inl rfl) (pe_call (ok_write_single_options T) (hr.mono (by decide)) rfl T.m_write_single_options T.F_write_single_options.kp T.b_write_single_options .nil pass0 (pa_cons (pv 0) pa_nil)))
        (pss_cons (ps_set (i := 2) sc_write_options.nd rfl (Or.inl rfl) (pe_call (ok_fitting_ranges T) (hr.mono (by decide)) rfl T.m_fitting_ranges T.F_fitting_ranges.kp T.b_fitting_ranges .nil pass0 (pa_cons (pv 0) pa_nil)))
        (C8.pss_cut (ps_if (pt_cmpR op_gt (pe_callB call_len_seq (by rfl) T.n_len (by decide +kernel) (pa_cons (pv 2) pa_nil)) pe_int (nomark _)) (pss_one (ps_expr (pe_bm PySem.F.plainAttrs_list PySem.F.slot_list_extend PySem.F.type_list_extend mt_extend (pv 1) (pa_cons (pe_call (ok_option T) (hr.mono (by decide)) rfl T.m_option T.F_option.kp T.b_option .nil pass0 (pa_cons (pe_glob (v := .int 5) (by rfl) T.v_RANGES ⟨_, rfl⟩) (pa_cons (pe_call (ok_write_pairs T) (hr.mono (by decide)) rfl T.m_write_pairs T.F_write_pairs.kp T.b_write_pairs .nil pass0 (pa_cons (pv 2) pa_nil)) pa_nil))) pa_nil)))) pss_nil)
        (pss_cons (ps_expr (pe_bm PySem.F.plainAttrs_list PySem.F.slot_list_extend PySem.F.type_list_extend mt_extend (pv 1) (pa_cons (pe_op op_rep (pe_lst (pa_cons (pe_glob (v := .int 0) (by rfl) T.v_END ⟨_, rfl⟩) pa_nil)) (pe_op op_mod (pe_un un_neg (pe_callB call_len_seq (by rfl) T.n_len (by decide +kernel) (pa_cons (pv 1) pa_nil))) pe_int)) pa_nil)))
        (pss_one (ps_ret (pv 1))))))), ?_⟩
    dsimp only [cxOf, Cx.nox, Cx.wish, L2.start, List.map, List.cons_append, List.nil_append, List.length_cons, List.length_nil, Nat.reduceAdd, Nat.reduceSub, Nat.zero_add, List.replicate_succ, List.replicate_zero]
    have hsl := sgl_len (g := g)
    have hfl := fit_le (g := g)
    have hwl := wp_len (qs := g.rs.take (fit g))
    have htl : (g.rs.take (fit g)).length ≤ 4 := by rw [List.length_take]; omega
    walk_at "go"
    refine u_single hO fun o H1 no s1 eo => ?_
    walk_at "go"
    refine u_fitting (hO.same s1) fun l H2 us nl s2 el hP => ?_
    have eo2 := s2 _ _ eo
    have bu : But o H H2 := But.of (s1.trans s2)
    have lP := hP.1
    walk_at "go"
    refine g_cut (fun σ' H' => σ' = [some (.ref p), some (.ref o), some (.ref l)] ∧ But o H H' ∧ H' o = some (.lst ((sgl g ++ oR g).map V.int))) ?_ ?_
    · walk_at "go"
      refine g_len (.inl (sl el)) ?_
      walk_at "go"
      refine g_ite (fun c => ?_) (fun c => ?_)
      · walk_at "go"
        refine ⟨ty_l eo2, ?_⟩
        walk_at "go"
        refine u_wpairs (sl el) hP (by omega) fun l3 H3 n3 s3 k3 => ?_
        have eo3 := s3 _ _ eo2
        walk_at "go"
        refine u_option (sl k3) (by omega) fun l4 H4 n4 s4 k4 => ?_
        have eo4 := s4 _ _ eo3
        walk_at "go"
        refine ⟨o, l4, _, _, rfl, rfl, eo4, k4, ?_, ?_⟩
        · simp only [List.length_map, List.length_cons]; exact sz (by omega)
        · walk_at "go"
          refine ⟨rfl, ((bu.trans (But.of s3)).trans (But.of s4)).upd, ?_⟩
          rw [upd_same, ← List.map_append]; unfold oR; rw [if_pos (by omega)]
      · walk_at "go"
        refine ⟨rfl, bu, ?_⟩
        rw [eo2]; unfold oR; rw [if_neg (by omega), List.append_nil]
    rintro σ' H3 ⟨rfl, b3, e3⟩
    have lR : (oR g).length ≤ 34 := by
      unfold oR
      split
      · simp only [List.length_cons]; omega
      · exact Nat.zero_le _
    have lA : (sgl g ++ oR g).length ≤ 65 := by rw [List.length_append]; omega
    walk_at "go"
    refine ⟨ty_l e3, ?_⟩
    walk_at "go"
    refine ⟨sz (by show 1 ≤ 100000; decide), fun l1 hl1 => ?_⟩
    have s4 := same_upd (o := .lst [V.int 0]) hl1
    have e4 := s4 _ _ e3
    have k1 : (upd H3 l1 (.lst [V.int 0])) l1 = some (.lst [V.int 0]) := upd_same
    have b4 := b3.trans (But.of s4)
    generalize upd H3 l1 (.lst [V.int 0]) = H4 at e4 k1 b4 ⊢
    walk_at "go"
    refine g_len (.inl (sl e4)) ?_
    walk_at "go"
    rw [List.length_map]
    refine ⟨l1, (-((sgl g ++ oR g).length : Int)) % 4, _, rfl, rfl, k1, by omega, by omega, ?_, fun l5 hl5 => ?_⟩
    · show 1 * ((-((sgl g ++ oR g).length : Int)) % 4).toNat ≤ sizeLine
      exact sz (by omega)
    · have e5 := upd_keep (o := .lst (List.replicate ((-((sgl g ++ oR g).length : Int)) % 4).toNat [V.int 0]).flatten) hl5 e4
      have s5 := same_upd (o := .lst (List.replicate ((-((sgl g ++ oR g).length : Int)) % 4).toNat [V.int 0]).flatten) hl5
      have k5 : (upd H4 l5 (.lst (List.replicate ((-((sgl g ++ oR g).length : Int)) % 4).toNat [V.int 0]).flatten)) l5 = some (.lst (List.replicate ((-((sgl g ++ oR g).length : Int)) % 4).toNat [V.int 0]).flatten) := upd_same
      have fl : ∀ n : Nat, (List.replicate n [V.int 0]).flatten = (List.replicate n (0 : Int)).map V.int := fun n => by
        induction n with
        | zero => rfl
        | succ n ih => rw [List.replicate_succ, List.replicate_succ, List.flatten_cons, ih]; rfl
      have b5 := b4.trans (But.of s5)
      generalize upd H4 l5 (.lst (List.replicate ((-((sgl g ++ oR g).length : Int)) % 4).toNat [V.int 0]).flatten) = H5 at e5 k5 b5 ⊢
      rw [fl] at k5
      walk_at "go"
      refine ⟨o, l5, _, _, rfl, rfl, e5, k5, ?_, ?_⟩
      · simp only [List.length_map, List.length_replicate]; exact sz (by omega)
      · walk_at "go"
        refine q o _ no (b5.upd.same no) ?_
        rw [upd_same, ← List.map_append]
        rfl

end
end My
namespace My
open PySem PySem.Spec L2
local macro_rules | `(tactic| walk_at "side") => `(tactic| first | assumption | decide | omega | exact ⟨by decide, by decide⟩ | exact ⟨by decide, by decide, by decide⟩ | decide +kernel | exact cdivW (by decide +kernel) (by decide +kernel) | exact Or.inl ⟨by omega, by omega⟩ | exact Or.inr ⟨by omega, by omega⟩ | (simp only [List.length_map, List.length_cons, List.length_nil, List.length_append]; omega))
local macro_rules | `(tactic| walk_at "fact") => `(tactic| first | assumption | omega | with_reducible rfl)
local macro_rules | `(tactic| walk_at "use") => `(tactic| fail "use")
local macro_rules | `(tactic| walk_at "go1") => `(tactic| with_reducible first | refine g_seq ?_ | refine g_asg ?_ | refine g_ret ?_ | refine g_ifS ?_ | refine g_drop ?_ | refine g_star ?_ | refine g_nx ?_ | refine g_rt ?_ | refine g_bkE ?_ | refine g_ctE ?_ | refine g_next ?_ | refine g_retN ?_ | refine g_brk ?_ | refine g_ct ?_ | refine g_c ?_ | refine g_op ?_ | refine g_un ?_ | refine g_rI0 ?_ | refine g_rU ?_ | refine g_rEqI ?_ | refine g_rNeI ?_ | refine g_isN ?_ | refine g_rIsB ?_ | refine g_rNotB ?_ | refine g_test ?_ | refine g_B ?_ | refine g_bl ?_ | refine g_and ?_ | refine g_or ?_ | refine g_not ?_ | refine g_andV ?_ | refine g_orV ?_ | refine g_notV ?_ | refine g_if ?_ | refine g_chain ?_ | refine g_yes ?_ | refine g_lc ?_ | refine g_revR ?_ | refine g_rng1 ?_ | refine g_iList ?_ | refine g_nil ?_ | refine g_cons ?_ | refine g_tup ?_ | refine g_lst ?_ | refine g_call ?_ | refine g_CB ?_ | refine g_sl ?_ | refine g_noPart ?_ | refine g_part ?_ | refine g_intE ?_ | refine g_ref ?_ | refine g_fld ?_ | refine g_sfld ?_ | refine g_meth ?_ | refine g_make ?_ | refine g_prop ?_  | refine g_ipI ?_ | refine g_int1 ?_ | refine g_int1B ?_ | refine g_one ?_ | refine g_two ?_ | refine g_isiI ?_ | refine g_isiIB ?_ | refine g_isiB ?_ | refine g_BM ?_ | refine g_BM0 ?_ | refine g_sub ?_)
local macro_rules | `(tactic| walk_at "go") => `(tactic| repeat (first | walk_at "go1" | ((with_reducible refine' g_nameE ?sd_ ?_); case sd_ => dsimp only [List.set_cons_succ, List.set_cons_zero]) | ((with_reducible refine' g_var ?sd_ ?_); case sd_ => exact rfl) | ((with_reducible refine' g_aug ?sd_ ?_); case sd_ => exact rfl) | ((with_reducible refine' g_rI ?sd_ ?_); case sd_ => walk_at "side") | ((with_reducible refine' g_dT ?sd_ ?_); case sd_ => walk_at "fact") | ((with_reducible refine' g_dF ?sd_ ?_); case sd_ => walk_at "fact") | ((with_reducible refine' g_nT ?sd_ ?_); case sd_ => walk_at "fact") | ((with_reducible refine' g_nF ?sd_ ?_); case sd_ => walk_at "fact") | (with_reducible refine g_iT rfl ?_) | (with_reducible refine g_iF rfl ?_) | walk_at "use"))
local macro_rules | `(tactic| walk_at "use") => `(tactic| first | ((with_reducible refine' dg_S_source ?ho_ ?hv_ ?_); (case ho_ => first | assumption | exact upd_same); (case hv_ => exact rfl)) | ((with_reducible refine' dg_S_target ?ho_ ?hv_ ?_); (case ho_ => first | assumption | exact upd_same); (case hv_ => exact rfl)) | ((with_reducible refine' dg_S_seq ?ho_ ?hv_ ?_); (case ho_ => first | assumption | exact upd_same); (case hv_ => exact rfl)) | ((with_reducible refine' dg_S_count ?ho_ ?hv_ ?_); (case ho_ => first | assumption | exact upd_same); (case hv_ => exact rfl)) | ((with_reducible refine' dg_S_echo ?ho_ ?hv_ ?_); (case ho_ => first | assumption | exact upd_same); (case hv_ => exact rfl)) | ((with_reducible refine' dg_S_ack ?ho_ ?hv_ ?_); (case ho_ => first | assumption | exact upd_same); (case hv_ => exact rfl)) | ((with_reducible refine' dg_S_syn ?ho_ ?hv_ ?_); (case ho_ => first | assumption | exact upd_same); (case hv_ => exact rfl)) | ((with_reducible refine' dg_S_fin ?ho_ ?hv_ ?_); (case ho_ => first | assumption | exact upd_same); (case hv_ => exact rfl)) | ((with_reducible refine' dg_S_reset ?ho_ ?hv_ ?_); (case ho_ => first | assumption | exact upd_same); (case hv_ => exact rfl)) | ((with_reducible refine' dg_S_marked ?ho_ ?hv_ ?_); (case ho_ => first | assumption | exact upd_same); (case hv_ => exact rfl)) | ((with_reducible refine' dg_S_cut ?ho_ ?hv_ ?_); (case ho_ => first | assumption | exact upd_same); (case hv_ => exact rfl)) | ((with_reducible refine' dg_S_ranges_known ?ho_ ?hv_ ?_); (case ho_ => first | assumption | exact upd_same); (case hv_ => exact rfl)) | ((with_reducible refine' dg_S_window ?ho_ ?hv_ ?_); (case ho_ => first | assumption | exact upd_same); (case hv_ => exact rfl)) | ((with_reducible refine' dg_S_mss ?ho_ ?hv_ ?_); (case ho_ => first | assumption | exact upd_same); (case hv_ => exact rfl)) | ((with_reducible refine' dg_S_scale ?ho_ ?hv_ ?_); (case ho_ => first | assumption | exact upd_same); (case hv_ => exact rfl)) | ((with_reducible refine' dg_S_ranges ?ho_ ?hv_ ?_); (case ho_ => first | assumption | exact upd_same); (case hv_ => exact rfl)) | ((with_reducible refine' dg_S_stamp ?ho_ ?hv_ ?_); (case ho_ => first | assumption | exact upd_same); (case hv_ => exact rfl)) | ((with_reducible refine' dg_S_data ?ho_ ?hv_ ?_); (case ho_ => first | assumption | exact upd_same); (case hv_ => exact rfl)) | ((with_reducible refine' dn_S_source ?ho_ ?hv_ ?_); (case ho_ => first | assumption | exact upd_same); (case hv_ => exact rfl)) | ((with_reducible refine' dn_S_target ?ho_ ?hv_ ?_); (case ho_ => first | assumption | exact upd_same); (case hv_ => exact rfl)) | ((with_reducible refine' dn_S_seq ?ho_ ?hv_ ?_); (case ho_ => first | assumption | exact upd_same); (case hv_ => exact rfl)) | ((with_reducible refine' dn_S_count ?ho_ ?hv_ ?_); (case ho_ => first | assumption | exact upd_same); (case hv_ => exact rfl)) | ((with_reducible refine' dn_S_echo ?ho_ ?hv_ ?_); (case ho_ => first | assumption | exact upd_same); (case hv_ => exact rfl)) | ((with_reducible refine' dn_S_ack ?ho_ ?hv_ ?_); (case ho_ => first | assumption | exact upd_same); (case hv_ => exact rfl)) | ((with_reducible refine' dn_S_syn ?ho_ ?hv_ ?_); (case ho_ => first | assumption | exact upd_same); (case hv_ => exact rfl)) | ((with_reducible refine' dn_S_fin ?ho_ ?hv_ ?_); (case ho_ => first | assumption | exact upd_same); (case hv_ => exact rfl)) | ((with_reducible refine' dn_S_reset ?ho_ ?hv_ ?_); (case ho_ => first | assumption | exact upd_same); (case hv_ => exact rfl)) | ((with_reducible refine' dn_S_marked ?ho_ ?hv_ ?_); (case ho_ => first | assumption | exact upd_same); (case hv_ => exact rfl)) | ((with_reducible refine' dn_S_cut ?ho_ ?hv_ ?_); (case ho_ => first | assumption | exact upd_same); (case hv_ => exact rfl)) | ((with_reducible refine' dn_S_ranges_known ?ho_ ?hv_ ?_); (case ho_ => first | assumption | exact upd_same); (case hv_ => exact rfl)) | ((with_reducible refine' dn_S_window ?ho_ ?hv_ ?_); (case ho_ => first | assumption | exact upd_same); (case hv_ => exact rfl)) | ((with_reducible refine' dn_S_mss ?ho_ ?hv_ ?_); (case ho_ => first | assumption | exact upd_same); (case hv_ => exact rfl)) | ((with_reducible refine' dn_S_scale ?ho_ ?hv_ ?_); (case ho_ => first | assumption | exact upd_same); (case hv_ => exact rfl)) | ((with_reducible refine' dn_S_ranges ?ho_ ?hv_ ?_); (case ho_ => first | assumption | exact upd_same); (case hv_ => exact rfl)) | ((with_reducible refine' dn_S_stamp ?ho_ ?hv_ ?_); (case ho_ => first | assumption | exact upd_same); (case hv_ => exact rfl)) | ((with_reducible refine' dn_S_data ?ho_ ?hv_ ?_); (case ho_ => first | assumption | exact upd_same); (case hv_ => exact rfl)) | ((with_reducible refine' dp_S_source ?ho_ ?hv_ ?_); (case ho_ => first | assumption | exact upd_same); (case hv_ => exact Nat.le_of_ble_eq_true rfl)) | ((with_reducible refine' dp_S_target ?ho_ ?hv_ ?_); (case ho_ => first | assumption | exact upd_same); (case hv_ => exact Nat.le_of_ble_eq_true rfl)) | ((with_reducible refine' dp_S_seq ?ho_ ?hv_ ?_); (case ho_ => first | assumption | exact upd_same); (case hv_ => exact Nat.le_of_ble_eq_true rfl)) | ((with_reducible refine' dp_S_count ?ho_ ?hv_ ?_); (case ho_ => first | assumption | exact upd_same); (case hv_ => exact Nat.le_of_ble_eq_true rfl)) | ((with_reducible refine' dp_S_echo ?ho_ ?hv_ ?_); (case ho_ => first | assumption | exact upd_same); (case hv_ => exact Nat.le_of_ble_eq_true rfl)) | ((with_reducible refine' dp_S_ack ?ho_ ?hv_ ?_); (case ho_ => first | assumption | exact upd_same); (case hv_ => exact Nat.le_of_ble_eq_true rfl)) | ((with_reducible refine' dp_S_syn ?ho_ ?hv_ ?_); (case ho_ => first | assumption | exact upd_same); (case hv_ => exact Nat.le_of_ble_eq_true rfl)) | ((with_reducible refine' dp_S_fin ?ho_ ?hv_ ?_); (case ho_ => first | assumption | exact upd_same); (case hv_ => exact Nat.le_of_ble_eq_true rfl)) | ((with_reducible refine' dp_S_reset ?ho_ ?hv_ ?_); (case ho_ => first | assumption | exact upd_same); (case hv_ => exact Nat.le_of_ble_eq_true rfl)) | ((with_reducible refine' dp_S_marked ?ho_ ?hv_ ?_); (case ho_ => first | assumption | exact upd_same); (case hv_ => exact Nat.le_of_ble_eq_true rfl)) | ((with_reducible refine' dp_S_cut ?ho_ ?hv_ ?_); (case ho_ => first | assumption | exact upd_same); (case hv_ => exact Nat.le_of_ble_eq_true rfl)) | ((with_reducible refine' dp_S_ranges_known ?ho_ ?hv_ ?_); (case ho_ => first | assumption | exact upd_same); (case hv_ => exact Nat.le_of_ble_eq_true rfl)) | ((with_reducible refine' dp_S_window ?ho_ ?hv_ ?_); (case ho_ => first | assumption | exact upd_same); (case hv_ => exact Nat.le_of_ble_eq_true rfl)) | ((with_reducible refine' dp_S_mss ?ho_ ?hv_ ?_); (case ho_ => first | assumption | exact upd_same); (case hv_ => exact Nat.le_of_ble_eq_true rfl)) | ((with_reducible refine' dp_S_scale ?ho_ ?hv_ ?_); (case ho_ => first | assumption | exact upd_same); (case hv_ => exact Nat.le_of_ble_eq_true rfl)) | ((with_reducible refine' dp_S_ranges ?ho_ ?hv_ ?_); (case ho_ => first | assumption | exact upd_same); (case hv_ => exact Nat.le_of_ble_eq_true rfl)) | ((with_reducible refine' dp_S_stamp ?ho_ ?hv_ ?_); (case ho_ => first | assumption | exact upd_same); (case hv_ => exact Nat.le_of_ble_eq_true rfl)) | ((with_reducible refine' dp_S_data ?ho_ ?hv_ ?_); (case ho_ => first | assumption | exact upd_same); (case hv_ => exact Nat.le_of_ble_eq_true rfl)))
local macro_rules | `(tactic| walk_at "use") => `(tactic| with_reducible first | refine g_dgetT ?_ | refine g_dputT ?_)
section
variable {P : Program} {w : World} {K : PySem.W.Frag} {mg : Str → Option Value} {base : Heap}
def sp_l_option (K : PySem.W.Frag) : Sp := fun vs H Q _ => ∃ (k : Int) (a : Addr) (ns : List Int), vs = [.int k, .ref a] ∧ H a = some (.lst (ns.map V.int)) ∧ ns.length ≤ 1000 ∧ ∀ p H', H p = none → Same H H' → H' p = some (.lst ((k :: ((ns.length : Int) + 2) :: ns).map V.int)) → Q (.ref p) H'
theorem u_loption {k : Int} {a : Addr} {ns : List Int} {H Q E} (h : H a = some (.lst (ns.map V.int))) (hl : ns.length ≤ 1000) (q : ∀ p H', H p = none → Same H H' → H' p = some (.lst ((k :: ((ns.length : Int) + 2) :: ns).map V.int)) → Q (.ref p) H') : sp_l_option K ([.int k, .ref a] ++ []) H Q E := ⟨k, a, ns, rfl, h, hl, q⟩
theorem ok_l_option (T : Txt K mg) : FnOk P w K mg base CX0 1 T.f_l_option T.d_l_option ["kind", "body"] (sp_l_option K) := by
  refine T.F_l_option.ok sc_l_option (fun vs H Q E h => ?_) (fun cdv A outer s H vs Q E hr h => ?_)
  · obtain ⟨k, a, ns, rfl, h, hl, q⟩ := h
    rfl
  · obtain ⟨k, a, ns, rfl, h, hl, q⟩ := h
    have hu := hu_of hr
    refine ⟨_, (pss_one (ps_ret (pe_op op_cat (pe_lst (pa_cons (pv 0) (pa_cons (pe_op op_add (pe_callB call_len_seq (by rfl) T.n_len (by decide +kernel) (pa_cons (pv 1) pa_nil)) pe_int) pa_nil))) (pv 1)))), ?_⟩
    dsimp only [cxOf, Cx.nox, Cx.wish, L2.start, List.map, List.cons_append, List.nil_append, List.length_cons, List.length_nil, Nat.reduceAdd, Nat.reduceSub, Nat.zero_add, List.replicate_succ, List.replicate_zero]
    walk_at "go"
    refine g_len (.inl (sl h)) ?_
    walk_at "go"
    refine ⟨by show 2 ≤ sizeLine; decide, fun p hp => ?_⟩
    generalize z1 : upd H p _ = H1
    have s1 : Same H H1 := by rw [← z1]; exact same_upd hp
    have k1 : H1 p = some (.lst (([k, (ns.length : Int) + 2] : List Int).map V.int)) := (congrFun z1 p).symm.trans (upd_same.trans (by rw [List.length_map]; rfl))
    clear z1
    walk_at "go"
    refine g_cat k1 (s1 _ _ h) (by simp only [List.length_map, List.length_cons, List.length_nil]; exact sz (by omega)) fun l hl2 => ?_
    refine q l _ (s1.free hl2) (s1.trans (same_upd hl2)) ?_
    rw [upd_same]
    rfl
theorem o1_len {g : Sg} : (o1 g).length ≤ 4 := by unfold o1; split <;> simp [dg_len]
theorem o2_len {g : Sg} : (o2 g).length ≤ 3 := by unfold o2; split <;> simp [dg_len]
theorem o3_len {g : Sg} : (o3 g).length ≤ 2 := by unfold o3; split <;> simp
theorem o4_len {g : Sg} : (o4 g).length ≤ 10 := by unfold o4; split <;> simp [dg_len, wp]
theorem oB_len {g : Sg} : (oB g).length ≤ 10 := by unfold oB; split <;> simp [dg_len]
theorem dg1 {m : Int} (h : 0 ≤ m ∧ m < 15) : dg m 1 = [m] := by
  show [m / 256 ^ 0 % 256] = [m]
  rw [Int.pow_zero, Int.ediv_one, Int.emod_eq_of_lt h.1 (by omega)]
def sp_l_plain_options (K : PySem.W.Frag) : Sp := fun vs H Q _ => ∃ (p da ra : Addr) (g : Sg), vs = [.ref p] ∧ SegD H p g da ra ∧ SgOk g ∧ ∀ o H', H o = none → Same H H' → H' o = some (.lst ((sgl g).map V.int)) → Q (.ref o) H'
theorem u_lplain {p da ra : Addr} {g : Sg} {H Q E} (h : SegD H p g da ra) (ok : SgOk g) (q : ∀ o H', H o = none → Same H H' → H' o = some (.lst ((sgl g).map V.int)) → Q (.ref o) H') : sp_l_plain_options K ([.ref p] ++ []) H Q E := ⟨p, da, ra, g, rfl, h, ok, q⟩
theorem ok_l_plain_options (T : Txt K mg) : FnOk P w K mg base CX0 2 T.f_l_plain_options T.d_l_plain_options ["parts"] (sp_l_plain_options K) := by
  refine T.F_l_plain_options.ok sc_l_plain_options (fun vs H Q E h => ?_) (fun cdv A outer s H vs Q E hr h => ?_)
  · obtain ⟨p, da, ra, g, rfl, hD, ok, q⟩ := h
    rfl
  · obtain ⟨p, da, ra, g, rfl, hD, ok, q⟩ := h
    have hu := hu_of hr
    refine ⟨_, (pss_cons (ps_set (i := 1) sc_l_plain_options.nd rfl (Or.inl rfl) (pe_lst pa_nil))
        (C8.pss_cut (ps_if (pt_cmpR op_notN (pe_dget hu (pv 0) pe_str (fun _ _ => rfl)) pe_non (nomark _)) (pss_one (ps_set (i := 1) sc_l_plain_options.nd rfl (Or.inl rfl) (pe_op op_cat (pv 1) (pe_call (ok_l_option T) (hr.mono (by decide)) rfl T.m_l_option T.F_l_option.kp T.b_l_option .nil pass0 (pa_cons pe_int (pa_cons (pe_call (ok_l_digits T) (hr.mono (by decide)) rfl T.m_l_digits T.F_l_digits.kp T.b_l_digits .nil pass0 (pa_cons (pe_dget hu (pv 0) pe_str (fun _ _ => rfl)) (pa_cons pe_int pa_nil))) pa_nil)))))) pss_nil)
        (C8.pss_cut (ps_if (pt_cmpR op_notN (pe_dget hu (pv 0) pe_str (fun _ _ => rfl)) pe_non (nomark _)) (pss_one (ps_set (i := 1) sc_l_plain_options.nd rfl (Or.inl rfl) (pe_op op_cat (pv 1) (pe_call (ok_l_option T) (hr.mono (by decide)) rfl T.m_l_option T.F_l_option.kp T.b_l_option .nil pass0 (pa_cons pe_int (pa_cons (pe_lst (pa_cons (pe_dget hu (pv 0) pe_str (fun _ _ => rfl)) pa_nil)) pa_nil)))))) pss_nil)
        (C8.pss_cut (ps_if (pt_val (pe_dget hu (pv 0) pe_str (fun _ _ => rfl))) (pss_one (ps_set (i := 1) sc_l_plain_options.nd rfl (Or.inl rfl) (pe_op op_cat (pv 1) (pe_lst (pa_cons pe_int (pa_cons pe_int pa_nil)))))) pss_nil)
        (C8.pss_cut (ps_if (pt_cmpR op_notN (pe_dget hu (pv 0) pe_str (fun _ _ => rfl)) pe_non (nomark _)) (pss_one (ps_set (i := 1) sc_l_plain_options.nd rfl (Or.inl rfl) (pe_op op_cat (pv 1) (pe_call (ok_l_option T) (hr.mono (by decide)) rfl T.m_l_option T.F_l_option.kp T.b_l_option .nil pass0 (pa_cons pe_int (pa_cons (pe_op op_cat (pe_call (ok_l_digits T) (hr.mono (by decide)) rfl T.m_l_digits T.F_l_digits.kp T.b_l_digits .nil pass0 (pa_cons (pe_ix ix_tup (pe_dget hu (pv 0) pe_str (fun _ _ => rfl)) pe_int (fun _ _ => rfl)) (pa_cons pe_int pa_nil))) (pe_call (ok_l_digits T) (hr.mono (by decide)) rfl T.m_l_digits T.F_l_digits.kp T.b_l_digits .nil pass0 (pa_cons (pe_ix ix_tup (pe_dget hu (pv 0) pe_str (fun _ _ => rfl)) pe_int (fun _ _ => rfl)) (pa_cons pe_int pa_nil)))) pa_nil)))))) pss_nil)
        (pss_cons (ps_set (i := 2) sc_l_plain_options.nd rfl (Or.inl rfl) (pe_op op_cat (pe_lst (pa_cons pe_int (pa_cons pe_int pa_nil))) (pe_call (ok_l_digits T) (hr.mono (by decide)) rfl T.m_l_digits T.F_l_digits.kp T.b_l_digits .nil pass0 (pa_cons (pe_dget hu (pv 0) pe_str (fun _ _ => rfl)) (pa_cons pe_int pa_nil)))))
        (C8.pss_cut (ps_if (pt_cmpR op_notN (pe_dget hu (pv 0) pe_str (fun _ _ => rfl)) pe_non (nomark _)) (pss_one (ps_set (i := 2) sc_l_plain_options.nd rfl (Or.inl rfl) (pe_op op_cat (pv 2) (pe_call (ok_l_digits T) (hr.mono (by decide)) rfl T.m_l_digits T.F_l_digits.kp T.b_l_digits .nil pass0 (pa_cons (pe_dget hu (pv 0) pe_str (fun _ _ => rfl)) (pa_cons pe_int pa_nil)))))) pss_nil)
        (pss_one (ps_ret (pe_op op_cat (pv 1) (pe_call (ok_l_option T) (hr.mono (by decide)) rfl T.m_l_option T.F_l_option.kp T.b_l_option .nil pass0 (pa_cons pe_int (pa_cons (pv 2) pa_nil))))))))))))), ?_⟩
    dsimp only [cxOf, Cx.nox, Cx.wish, L2.start, List.map, List.cons_append, List.nil_append, List.length_cons, List.length_nil, Nat.reduceAdd, Nat.reduceSub, Nat.zero_add, List.replicate_succ, List.replicate_zero]
    have a1 := o1_len (g := g)
    have a2 := o2_len (g := g)
    have a3 := o3_len (g := g)
    have a4 := o4_len (g := g)
    have aB := oB_len (g := g)
    walk_at "go"
    refine ⟨by decide, fun o ho => ?_⟩
    walk_at "go"
    refine g_cut (fun σ' H' => ∃ o, σ' = [some (.ref p), some (.ref o), none] ∧ H o = none ∧ Same H H' ∧ H' o = some (.lst ((o1 g).map V.int))) ?_ ?_
    · have sm := same_upd (o := .lst []) ho
      have eo : (upd H o (.lst [])) o = some (.lst (([] : List Int).map V.int)) := upd_same
      generalize upd H o (.lst []) = H0 at sm eo ⊢
      obtain ⟨sv, e, hP⟩ := hD.same sm
      clear hP
      cases hm : g.mss with
      | none =>
        rw [hm] at e
        simp only [oV] at e
        walk_at "go"
        refine ⟨o, rfl, ho, sm, ?_⟩
        rw [eo]; unfold o1; rw [hm]
      | some m =>
        rw [hm] at e
        simp only [oV] at e
        walk_at "go"
        refine u_digits (by decide) fun l1 H1 n1 s1 k1 => ?_
        walk_at "go"
        refine u_loption k1 (by rw [dg_len]; decide) fun l2 H2 n2 s2 k2 => ?_
        walk_at "go"
        refine g_cat (s2 _ _ (s1 _ _ eo)) k2 (by simp only [List.length_map, List.length_cons, dg_len]; exact sz (by decide)) fun l3 h3 => ?_
        walk_at "go"
        have s3 := sm.trans (s1.trans s2)
        refine ⟨l3, rfl, s3.free h3, s3.trans (same_upd h3), ?_⟩
        rw [upd_same]; unfold o1; rw [hm, dg_len]
        rfl
    rintro σ' H0 ⟨o, rfl, ho, sm, eo⟩
    walk_at "go"
    refine g_cut (fun σ' H' => ∃ o, σ' = [some (.ref p), some (.ref o), none] ∧ H o = none ∧ Same H H' ∧ H' o = some (.lst ((o1 g ++ o2 g).map V.int))) ?_ ?_
    · obtain ⟨sv, e, hP⟩ := hD.same sm
      clear hP
      cases hm : g.scale with
      | none =>
        rw [hm] at e
        simp only [oV] at e
        walk_at "go"
        refine ⟨o, rfl, ho, sm, ?_⟩
        rw [eo]; unfold o2; rw [hm, List.append_nil]
      | some m =>
        rw [hm] at e
        simp only [oV] at e
        walk_at "go"
        refine ⟨by show 1 ≤ sizeLine; decide, fun l1 h1 => ?_⟩
        generalize z1 : upd H0 l1 _ = H1
        have s1 : Same H0 H1 := by rw [← z1]; exact same_upd h1
        have k1 : H1 l1 = some (.lst (([m] : List Int).map V.int)) := (congrFun z1 l1).symm.trans upd_same
        clear z1
        walk_at "go"
        refine u_loption k1 (by show 1 ≤ 1000; decide) fun l2 H2 n2 s2 k2 => ?_
        walk_at "go"
        refine g_cat (s2 _ _ (s1 _ _ eo)) k2 (by simp only [List.length_map, List.length_cons, List.length_nil]; exact sz (by omega)) fun l3 h3 => ?_
        walk_at "go"
        have s3 := sm.trans (s1.trans s2)
        refine ⟨l3, rfl, s3.free h3, s3.trans (same_upd h3), ?_⟩
        rw [upd_same, List.map_append]; unfold o2; rw [hm]
        show some (HO.lst (_ ++ _)) = some (HO.lst (_ ++ List.map V.int (3 :: 3 :: dg m 1)))
        rw [dg1 (ok.scale m hm)]
        rfl
    rintro σ' H0 ⟨o, rfl, ho, sm, eo⟩
    walk_at "go"
    refine g_cut (fun σ' H' => ∃ o, σ' = [some (.ref p), some (.ref o), none] ∧ H o = none ∧ Same H H' ∧ H' o = some (.lst ((o1 g ++ o2 g ++ o3 g).map V.int))) ?_ ?_
    · obtain ⟨sv, e, hP⟩ := hD.same sm
      clear hP
      cases hm : g.rk with
      | false =>
        rw [hm] at e
        walk_at "go"
        refine ⟨o, rfl, ho, sm, ?_⟩
        rw [eo]; unfold o3; rw [hm, if_neg (by decide), List.append_nil]
      | true =>
        rw [hm] at e
        walk_at "go"
        refine ⟨by show 2 ≤ sizeLine; decide, fun l1 h1 => ?_⟩
        generalize z1 : upd H0 l1 _ = H1
        have s1 : Same H0 H1 := by rw [← z1]; exact same_upd h1
        have k1 : H1 l1 = some (.lst (([4, 2] : List Int).map V.int)) := (congrFun z1 l1).symm.trans upd_same
        clear z1
        refine g_cat (s1 _ _ eo) k1 (by simp only [List.length_map, List.length_append, List.length_cons, List.length_nil]; exact sz (by omega)) fun l3 h3 => ?_
        walk_at "go"
        have s3 := sm.trans s1
        refine ⟨l3, rfl, s3.free h3, s3.trans (same_upd h3), ?_⟩
        rw [upd_same, ← List.map_append]; unfold o3; rw [hm, if_pos rfl]
    rintro σ' H0 ⟨o, rfl, ho, sm, eo⟩
    walk_at "go"
    refine g_cut (fun σ' H' => ∃ o, σ' = [some (.ref p), some (.ref o), none] ∧ H o = none ∧ Same H H' ∧ H' o = some (.lst ((o1 g ++ o2 g ++ o3 g ++ o4 g).map V.int))) ?_ ?_
    · obtain ⟨sv, e, hP1, hP2, hsv⟩ := hD.same sm
      cases hm : g.stamp with
      | none =>
        rw [hm] at hsv
        have hsv : sv = .non := hsv
        subst hsv
        walk_at "go"
        refine ⟨o, rfl, ho, sm, ?_⟩
        rw [eo]; unfold o4; rw [hm, List.append_nil]
      | some p0 =>
        rw [hm] at hsv
        obtain ⟨t, rfl, ht⟩ := hsv
        walk_at "go"
        refine g_ixT (st ht) (at_of (j := 0) rfl rfl) ?_
        walk_at "go"
        refine u_digits (by decide) fun l1 H1 n1 s1 k1 => ?_
        have e1 := s1 _ _ e
        clear e
        walk_at "go"
        refine g_ixT (st (s1 _ _ ht)) (at_of (j := 1) rfl rfl) ?_
        walk_at "go"
        refine u_digits (by decide) fun l2 H2 n2 s2 k2 => ?_
        walk_at "go"
        refine g_cat (s2 _ _ k1) k2 (by simp only [List.length_map, dg_len]; exact sz (by decide)) fun l3 h3 => ?_
        generalize z1 : upd H2 l3 _ = H3
        have s3 : Same H2 H3 := by rw [← z1]; exact same_upd h3
        have k3 : H3 l3 = some (.lst ((wp [p0]).map V.int)) := (congrFun z1 l3).symm.trans (upd_same.trans (by rw [← List.map_append]; show _ = some (HO.lst (List.map V.int (dg p0.1 4 ++ dg p0.2 4 ++ []))); rw [List.append_nil]; rfl))
        clear z1
        have w8 : (wp [p0]).length = 8 := by show (dg _ 4 ++ dg _ 4 ++ []).length = 8; simp [dg_len]
        walk_at "go"
        refine u_loption k3 (by omega) fun l4 H4 n4 s4 k4 => ?_
        walk_at "go"
        have s14 := s1.trans (s2.trans (s3.trans s4))
        refine g_cat (s14 _ _ eo) k4 (by simp only [List.length_map, List.length_append, List.length_cons, w8]; exact sz (by omega)) fun l5 h5 => ?_
        walk_at "go"
        have s5 := sm.trans s14
        refine ⟨l5, rfl, s5.free h5, s5.trans (same_upd h5), ?_⟩
        rw [upd_same, ← List.map_append]; unfold o4; rw [hm, w8]
        rfl
    rintro σ' H0 ⟨o, rfl, ho, sm, eo⟩
    obtain ⟨sv, e, hP⟩ := hD.same sm
    clear hP
    walk_at "go"
    refine ⟨by show 2 ≤ sizeLine; decide, fun l1 h1 => ?_⟩
    generalize z1 : upd H0 l1 _ = H1
    have s1 : Same H0 H1 := by rw [← z1]; exact same_upd h1
    have k1 : H1 l1 = some (.lst (([83, 85] : List Int).map V.int)) := (congrFun z1 l1).symm.trans upd_same
    clear z1
    have e1 := s1 _ _ e
    clear e
    walk_at "go"
    refine u_digits (by decide) fun l2 H2 n2 s2 k2 => ?_
    walk_at "go"
    refine g_cat (s2 _ _ k1) k2 (by simp only [List.length_map, List.length_cons, List.length_nil, dg_len]; exact sz (by decide)) fun l3 h3 => ?_
    generalize z1 : upd H2 l3 _ = H3
    have s3 : Same H2 H3 := by rw [← z1]; exact same_upd h3
    have k3 : H3 l3 = some (.lst (([83, 85] ++ dg g.cnt 4).map V.int)) := (congrFun z1 l3).symm.trans (upd_same.trans (by rw [← List.map_append]; rfl))
    clear z1
    have s13 := s1.trans (s2.trans s3)
    walk_at "go"
    refine g_cut (fun σ' H' => ∃ b, σ' = [some (.ref p), some (.ref o), some (.ref b)] ∧ Same H3 H' ∧ H' b = some (.lst ((oB g).map V.int))) ?_ ?_
    · obtain ⟨sv, e, hP⟩ := hD.same (sm.trans s13)
      clear hP e1
      cases hm : g.echo with
      | none =>
        rw [hm] at e
        simp only [oV] at e
        walk_at "go"
        refine ⟨l3, rfl, fun _ _ z => z, ?_⟩
        rw [k3]; unfold oB; rw [hm, List.append_nil]
        rfl
      | some m =>
        rw [hm] at e
        simp only [oV] at e
        walk_at "go"
        refine u_digits (by decide) fun l4 H4 n4 s4 k4 => ?_
        walk_at "go"
        refine g_cat (s4 _ _ k3) k4 (by simp only [List.length_map, List.length_append, List.length_cons, List.length_nil, dg_len]; exact sz (by decide)) fun l5 h5 => ?_
        walk_at "go"
        refine ⟨l5, rfl, s4.trans (same_upd h5), ?_⟩
        rw [upd_same, ← List.map_append]; unfold oB; rw [hm]
        rfl
    rintro σ' H4 ⟨b, rfl, s4, eb⟩
    walk_at "go"
    refine u_loption eb (by omega) fun l5 H5 n5 s5 k5 => ?_
    walk_at "go"
    have s15 := s13.trans (s4.trans s5)
    refine g_cat (s15 _ _ eo) k5 (by simp only [List.length_map, List.length_append, List.length_cons]; exact sz (by omega)) fun l6 h6 => ?_
    have s6 := sm.trans s15
    refine q l6 _ (s6.free h6) (s6.trans (same_upd h6)) ?_
    rw [upd_same, ← List.map_append]
    rfl

end
end My
namespace My
open PySem PySem.Spec L2
local macro_rules | `(tactic| walk_at "side") => `(tactic| first | assumption | decide | omega | exact ⟨by decide, by decide⟩ | exact ⟨by decide, by decide, by decide⟩ | decide +kernel | exact cdivW (by decide +kernel) (by decide +kernel) | exact Or.inl ⟨by omega, by omega⟩ | exact Or.inr ⟨by omega, by omega⟩ | (simp only [List.length_map, List.length_cons, List.length_nil, List.length_append]; omega))
local macro_rules | `(tactic| walk_at "fact") => `(tactic| first | assumption | omega | with_reducible rfl)
local macro_rules | `(tactic| walk_at "use") => `(tactic| fail "use")
local macro_rules | `(tactic| walk_at "go1") => `(tactic| with_reducible first | refine g_seq ?_ | refine g_asg ?_ | refine g_ret ?_ | refine g_ifS ?_ | refine g_drop ?_ | refine g_star ?_ | refine g_nx ?_ | refine g_rt ?_ | refine g_bkE ?_ | refine g_ctE ?_ | refine g_next ?_ | refine g_retN ?_ | refine g_brk ?_ | refine g_ct ?_ | refine g_c ?_ | refine g_op ?_ | refine g_un ?_ | refine g_rI0 ?_ | refine g_rU ?_ | refine g_rEqI ?_ | refine g_rNeI ?_ | refine g_isN ?_ | refine g_rIsB ?_ | refine g_rNotB ?_ | refine g_test ?_ | refine g_B ?_ | refine g_bl ?_ | refine g_and ?_ | refine g_or ?_ | refine g_not ?_ | refine g_andV ?_ | refine g_orV ?_ | refine g_notV ?_ | refine g_if ?_ | refine g_chain ?_ | refine g_yes ?_ | refine g_lc ?_ | refine g_revR ?_ | refine g_rng1 ?_ | refine g_iList ?_ | refine g_nil ?_ | refine g_cons ?_ | refine g_tup ?_ | refine g_lst ?_ | refine g_call ?_ | refine g_CB ?_ | refine g_sl ?_ | refine g_noPart ?_ | refine g_part ?_ | refine g_intE ?_ | refine g_ref ?_ | refine g_fld ?_ | refine g_sfld ?_ | refine g_meth ?_ | refine g_make ?_ | refine g_prop ?_  | refine g_ipI ?_ | refine g_int1 ?_ | refine g_int1B ?_ | refine g_one ?_ | refine g_two ?_ | refine g_isiI ?_ | refine g_isiIB ?_ | refine g_isiB ?_ | refine g_BM ?_ | refine g_BM0 ?_ | refine g_sub ?_)
local macro_rules | `(tactic| walk_at "go") => `(tactic| repeat (first | walk_at "go1" | ((with_reducible refine' g_nameE ?sd_ ?_); case sd_ => dsimp only [List.set_cons_succ, List.set_cons_zero]) | ((with_reducible refine' g_var ?sd_ ?_); case sd_ => exact rfl) | ((with_reducible refine' g_aug ?sd_ ?_); case sd_ => exact rfl) | ((with_reducible refine' g_rI ?sd_ ?_); case sd_ => walk_at "side") | ((with_reducible refine' g_dT ?sd_ ?_); case sd_ => walk_at "fact") | ((with_reducible refine' g_dF ?sd_ ?_); case sd_ => walk_at "fact") | ((with_reducible refine' g_nT ?sd_ ?_); case sd_ => walk_at "fact") | ((with_reducible refine' g_nF ?sd_ ?_); case sd_ => walk_at "fact") | (with_reducible refine g_iT rfl ?_) | (with_reducible refine g_iF rfl ?_) | walk_at "use"))
local macro_rules | `(tactic| walk_at "use") => `(tactic| first | ((with_reducible refine' dg_S_source ?ho_ ?hv_ ?_); (case ho_ => first | assumption | exact upd_same); (case hv_ => exact rfl)) | ((with_reducible refine' dg_S_target ?ho_ ?hv_ ?_); (case ho_ => first | assumption | exact upd_same); (case hv_ => exact rfl)) | ((with_reducible refine' dg_S_seq ?ho_ ?hv_ ?_); (case ho_ => first | assumption | exact upd_same); (case hv_ => exact rfl)) | ((with_reducible refine' dg_S_count ?ho_ ?hv_ ?_); (case ho_ => first | assumption | exact upd_same); (case hv_ => exact rfl)) | ((with_reducible refine' dg_S_echo ?ho_ ?hv_ ?_); (case ho_ => first | assumption | exact upd_same); (case hv_ => exact rfl)) | ((with_reducible refine' dg_S_ack ?ho_ ?hv_ ?_); (case ho_ => first | assumption | exact upd_same); (case hv_ => exact rfl)) | ((with_reducible refine' dg_S_syn ?ho_ ?hv_ ?_); (case ho_ => first | assumption | exact upd_same); (case hv_ => exact rfl)) | ((with_reducible refine' dg_S_fin ?ho_ ?hv_ ?_); (case ho_ => first | assumption | exact upd_same); (case hv_ => exact rfl)) | ((with_reducible refine' dg_S_reset ?ho_ ?hv_ ?_); (case ho_ => first | assumption | exact upd_same); (case hv_ => exact rfl)) | ((with_reducible refine' dg_S_marked ?ho_ ?hv_ ?_); (case ho_ => first | assumption | exact upd_same); (case hv_ => exact rfl)) | ((with_reducible refine' dg_S_cut ?ho_ ?hv_ ?_); (case ho_ => first | assumption | exact upd_same); (case hv_ => exact rfl)) | ((with_reducible refine' dg_S_ranges_known ?ho_ ?hv_ ?_); (case ho_ => first | assumption | exact upd_same); (case hv_ => exact rfl)) | ((with_reducible refine' dg_S_window ?ho_ ?hv_ ?_); (case ho_ => first | assumption | exact upd_same); (case hv_ => exact rfl)) | ((with_reducible refine' dg_S_mss ?ho_ ?hv_ ?_); (case ho_ => first | assumption | exact upd_same); (case hv_ => exact rfl)) | ((with_reducible refine' dg_S_scale ?ho_ ?hv_ ?_); (case ho_ => first | assumption | exact upd_same); (case hv_ => exact rfl)) | ((with_reducible refine' dg_S_ranges ?ho_ ?hv_ ?_); (case ho_ => first | assumption | exact upd_same); (case hv_ => exact rfl)) | ((with_reducible refine' dg_S_stamp ?ho_ ?hv_ ?_); (case ho_ => first | assumption | exact upd_same); (case hv_ => exact rfl)) | ((with_reducible refine' dg_S_data ?ho_ ?hv_ ?_); (case ho_ => first | assumption | exact upd_same); (case hv_ => exact rfl)) | ((with_reducible refine' dn_S_source ?ho_ ?hv_ ?_); (case ho_ => first | assumption | exact upd_same); (case hv_ => exact rfl)) | ((with_reducible refine' dn_S_target ?ho_ ?hv_ ?_); (case ho_ => first | assumption | exact upd_same); (case hv_ => exact rfl)) | ((with_reducible refine' dn_S_seq ?ho_ ?hv_ ?_); (case ho_ => first | assumption | exact upd_same); (case hv_ => exact rfl)) | ((with_reducible refine' dn_S_count ?ho_ ?hv_ ?_); (case ho_ => first | assumption | exact upd_same); (case hv_ => exact rfl)) | ((with_reducible refine' dn_S_echo ?ho_ ?hv_ ?_); (case ho_ => first | assumption | exact upd_same); (case hv_ => exact rfl)) | ((with_reducible refine' dn_S_ack ?ho_ ?hv_ ?_); (case ho_ => first | assumption | exact upd_same); (case hv_ => exact rfl)) | ((with_reducible refine' dn_S_syn ?ho_ ?hv_ ?_); (case ho_ => first | assumption | exact upd_same); (case hv_ => exact rfl)) | ((with_reducible refine' dn_S_fin ?ho_ ?hv_ ?_); (case ho_ => first | assumption | exact upd_same); (case hv_ => exact rfl)) | ((with_reducible refine' dn_S_reset ?ho_ ?hv_ ?_); (case ho_ => first | assumption | exact upd_same); (case hv_ => exact rfl)) | ((with_reducible refine' dn_S_marked ?ho_ ?hv_ ?_); (case ho_ => first | assumption | exact upd_same); (case hv_ => exact rfl)) | ((with_reducible refine' dn_S_cut ?ho_ ?hv_ ?_); (case ho_ => first | assumption | exact upd_same); (case hv_ => exact rfl)) | ((with_reducible refine' dn_S_ranges_known ?ho_ ?hv_ ?_); (case ho_ => first | assumption | exact upd_same); (case hv_ => exact rfl)) | ((with_reducible refine' dn_S_window ?ho_ ?hv_ ?_); (case ho_ => first | assumption | exact upd_same); (case hv_ => exact rfl)) | ((with_reducible refine' dn_S_mss ?ho_ ?hv_ ?_); (case ho_ => first | assumption | exact upd_same); (case hv_ => exact rfl)) | ((with_reducible refine' dn_S_scale ?ho_ ?hv_ ?_); (case ho_ => first | assumption | exact upd_same); (case hv_ => exact rfl)) | ((with_reducible refine' dn_S_ranges ?ho_ ?hv_ ?_); (case ho_ => first | assumption | exact upd_same); (case hv_ => exact rfl)) | ((with_reducible refine' dn_S_stamp ?ho_ ?hv_ ?_); (case ho_ => first | assumption | exact upd_same); (case hv_ => exact rfl)) | ((with_reducible refine' dn_S_data ?ho_ ?hv_ ?_); (case ho_ => first | assumption | exact upd_same); (case hv_ => exact rfl)) | ((with_reducible refine' dp_S_source ?ho_ ?hv_ ?_); (case ho_ => first | assumption | exact upd_same); (case hv_ => exact Nat.le_of_ble_eq_true rfl)) | ((with_reducible refine' dp_S_target ?ho_ ?hv_ ?_); (case ho_ => first | assumption | exact upd_same); (case hv_ => exact Nat.le_of_ble_eq_true rfl)) | ((with_reducible refine' dp_S_seq ?ho_ ?hv_ ?_); (case ho_ => first | assumption | exact upd_same); (case hv_ => exact Nat.le_of_ble_eq_true rfl)) | ((with_reducible refine' dp_S_count ?ho_ ?hv_ ?_); (case ho_ => first | assumption | exact upd_same); (case hv_ => exact Nat.le_of_ble_eq_true rfl)) | ((with_reducible refine' dp_S_echo ?ho_ ?hv_ ?_); (case ho_ => first | assumption | exact upd_same); (case hv_ => exact Nat.le_of_ble_eq_true rfl)) | ((with_reducible refine' dp_S_ack ?ho_ ?hv_ ?_); (case ho_ => first | assumption | exact upd_same); (case hv_ => exact Nat.le_of_ble_eq_true rfl)) | ((with_reducible refine' dp_S_syn ?ho_ ?hv_ ?_); (case ho_ => first | assumption | exact upd_same); (case hv_ => exact Nat.le_of_ble_eq_true rfl)) | ((with_reducible refine' dp_S_fin ?ho_ ?hv_ ?_); (case ho_ => first | assumption | exact upd_same); (case hv_ => exact Nat.le_of_ble_eq_true rfl)) | ((with_reducible refine' dp_S_reset ?ho_ ?hv_ ?_); (case ho_ => first | assumption | exact upd_same); (case hv_ => exact Nat.le_of_ble_eq_true rfl)) | ((with_reducible refine' dp_S_marked ?ho_ ?hv_ ?_); (case ho_ => first | assumption | exact upd_same); (case hv_ => exact Nat.le_of_ble_eq_true rfl)) | ((with_reducible refine' dp_S_cut ?ho_ ?hv_ ?_); (case ho_ => first | assumption | exact upd_same); (case hv_ => exact Nat.le_of_ble_eq_true rfl)) | ((with_reducible refine' dp_S_ranges_known ?ho_ ?hv_ ?_); (case ho_ => first | assumption | exact upd_same); (case hv_ => exact Nat.le_of_ble_eq_true rfl)) | ((with_reducible refine' dp_S_window ?ho_ ?hv_ ?_); (case ho_ => first | assumption | exact upd_same); (case hv_ => exact Nat.le_of_ble_eq_true rfl)) | ((with_reducible refine' dp_S_mss ?ho_ ?hv_ ?_); (case ho_ => first | assumption | exact upd_same); (case hv_ => exact Nat.le_of_ble_eq_true rfl)) | ((with_reducible refine' dp_S_scale ?ho_ ?hv_ ?_); (case ho_ => first | assumption | exact upd_same); (case hv_ => exact Nat.le_of_ble_eq_true rfl)) | ((with_reducible refine' dp_S_ranges ?ho_ ?hv_ ?_); (case ho_ => first | assumption | exact upd_same); (case hv_ => exact Nat.le_of_ble_eq_true rfl)) | ((with_reducible refine' dp_S_stamp ?ho_ ?hv_ ?_); (case ho_ => first | assumption | exact upd_same); (case hv_ => exact Nat.le_of_ble_eq_true rfl)) | ((with_reducible refine' dp_S_data ?ho_ ?hv_ ?_); (case ho_ => first | assumption | exact upd_same); (case hv_ => exact Nat.le_of_ble_eq_true rfl)))
local macro_rules | `(tactic| walk_at "use") => `(tactic| with_reducible first | refine g_dgetT ?_ | refine g_dputT ?_)
section
variable {P : Program} {w : World} {K : PySem.W.Frag} {mg : Str → Option Value} {base : Heap}
def sp_l_fitting (K : PySem.W.Frag) : Sp := fun vs H Q _ => ∃ (p da ra : Addr) (g : Sg), vs = [.ref p] ∧ SegD H p g da ra ∧ SgOk g ∧ ∀ l H' us, H l = none → Same H H' → H' l = some (.lst us) → Prs H' us (g.rs.take (fit g)) → Q (.ref l) H'
theorem u_lfitting {p da ra : Addr} {g : Sg} {H Q E} (h : SegD H p g da ra) (ok : SgOk g) (q : ∀ l H' us, H l = none → Same H H' → H' l = some (.lst us) → Prs H' us (g.rs.take (fit g)) → Q (.ref l) H') : sp_l_fitting K ([.ref p] ++ []) H Q E := ⟨p, da, ra, g, rfl, h, ok, q⟩
theorem ok_l_fitting (T : Txt K mg) : FnOk P w K mg base CX0 3 T.f_l_fitting T.d_l_fitting ["parts"] (sp_l_fitting K) := by
  refine T.F_l_fitting.ok sc_l_fitting (fun vs H Q E h => ?_) (fun cdv A outer s H vs Q E hr h => ?_)
  · obtain ⟨p, da, ra, g, rfl, hD, ok, q⟩ := h
    rfl
  · obtain ⟨p, da, ra, g, rfl, hD, ok, q⟩ := h
    have hu := hu_of hr
    refine ⟨_, (pss_one (ps_ret (pe_slice sl_list (pe_dget hu (pv 0) pe_str (fun _ _ => rfl)) po_none (po_some (pe_op op_fdiv (pe_op op_sub pe_int (pe_callB call_len_seq (by rfl) T.n_len (by decide +kernel) (pa_cons (pe_call (ok_l_plain_options T) (hr.mono (by decide)) rfl T.m_l_plain_options T.F_l_plain_options.kp T.b_l_plain_options .nil pass0 (pa_cons (pv 0) pa_nil)) pa_nil))) pe_int))))), ?_⟩
    dsimp only [cxOf, Cx.nox, Cx.wish, L2.start, List.map, List.cons_append, List.nil_append, List.length_cons, List.length_nil, Nat.reduceAdd, Nat.reduceSub, Nat.zero_add, List.replicate_succ, List.replicate_zero]
    have hl := sgl_len (g := g)
    obtain ⟨sv, e, hd, ⟨us, hr2, hP⟩, hsv⟩ := id hD
    walk_at "go"
    refine u_lplain hD ok fun o H1 no s1 eo => ?_
    walk_at "go"
    refine g_len (.inl (sl eo)) ?_
    walk_at "go"
    rw [List.length_map]
    have ef : ((38 : Int) - (sgl g).length) / 8 = (fit g : Int) := by unfold fit; omega
    rw [ef]
    refine g_slL (sl (s1 _ _ hr2)) fun l hl2 => ?_
    refine q l _ (cutV us none (some ((fit g : Nat) : Int))) (s1.free hl2) (s1.trans (same_upd hl2)) upd_same ?_
    have e2 : cutV us none (some ((fit g : Nat) : Int)) = us.take (fit g) := by
      unfold cutV
      rw [HT.sIx_none, HT.sIx_nat, List.drop_zero, Nat.sub_zero]
      rcases Nat.le_total (fit g) us.length with z | z
      · rw [Nat.min_eq_left z]
      · rw [Nat.min_eq_right z, List.take_of_length_le (Nat.le_refl _), List.take_of_length_le z]
    rw [e2]
    exact ((hP.take (fit g)).same s1).same (same_upd hl2)
theorem wp_app {p : Int × Int} : ∀ {qs : List (Int × Int)}, wp (qs ++ [p]) = wp qs ++ (dg p.1 4 ++ dg p.2 4)
  | [] => by show dg p.1 4 ++ dg p.2 4 ++ [] = _; rw [List.append_nil]; rfl
  | q :: r => by
    show dg q.1 4 ++ dg q.2 4 ++ wp (r ++ [p]) = dg q.1 4 ++ dg q.2 4 ++ wp r ++ _
    rw [wp_app, List.append_assoc, List.append_assoc, List.append_assoc]
theorem oR_len {g : Sg} : (oR g).length ≤ 34 := by
  have hfl := fit_le (g := g)
  have htl : (g.rs.take (fit g)).length ≤ 4 := by rw [List.length_take]; omega
  unfold oR
  split
  · simp only [List.length_cons, wp_len]; omega
  · exact Nat.zero_le _
def sp_l_options (K : PySem.W.Frag) : Sp := fun vs H Q _ => ∃ (p da ra : Addr) (g : Sg), vs = [.ref p] ∧ SegD H p g da ra ∧ SgOk g ∧ ∀ o H', H o = none → Same H H' → H' o = some (.lst ((opts g).map V.int)) → Q (.ref o) H'
theorem u_lopts {p da ra : Addr} {g : Sg} {H Q E} (h : SegD H p g da ra) (ok : SgOk g) (q : ∀ o H', H o = none → Same H H' → H' o = some (.lst ((opts g).map V.int)) → Q (.ref o) H') : sp_l_options K ([.ref p] ++ []) H Q E := ⟨p, da, ra, g, rfl, h, ok, q⟩
theorem ok_l_options (T : Txt K mg) : FnOk P w K mg base CX0 4 T.f_l_options T.d_l_options ["parts"] (sp_l_options K) := by
  refine T.F_l_options.ok sc_l_options (fun vs H Q E h => ?_) (fun cdv A outer s H vs Q E hr h => ?_)
  · obtain ⟨p, da, ra, g, rfl, hD, ok, q⟩ := h
    rfl
  · obtain ⟨p, da, ra, g, rfl, hD, ok, q⟩ := h
    have hu := hu_of hr
    refine ⟨_, (pss_cons (ps_set (i := 1) sc_l_options.nd rfl (Or.inl rfl) (pe_call (ok_l_plain_options T) (hr.mono (by decide)) rfl T.m_l_plain_options T.F_l_plain_options.kp T.b_l_plain_options .nil pass0 (pa_cons (pv 0) pa_nil)))
        (pss_cons (ps_set (i := 2) sc_l_options.nd rfl (Or.inl rfl) (pe_lst pa_nil))
        (pss_cons (ps_for PassesOwn.never rfl (pi_list (pe_call (ok_l_fitting T) (hr.mono (by decide)) rfl T.m_l_fitting T.F_l_fitting.kp T.b_l_fitting .nil pass0 (pa_cons (pv 0) pa_nil))) (pg_name (i := 3) sc_l_options.nd rfl (Or.inl rfl)) (pss_one (ps_set (i := 2) sc_l_options.nd rfl (Or.inl rfl) (pe_op op_cat (pe_op op_cat (pv 2) (pe_call (ok_l_digits T) (hr.mono (by decide)) rfl T.m_l_digits T.F_l_digits.kp T.b_l_digits .nil pass0 (pa_cons (pe_ix ix_tup (pv 3) pe_int (fun _ _ => rfl)) (pa_cons pe_int pa_nil)))) (pe_call (ok_l_digits T) (hr.mono (by decide)) rfl T.m_l_digits T.F_l_digits.kp T.b_l_digits .nil pass0 (pa_cons (pe_ix ix_tup (pv 3) pe_int (fun _ _ => rfl)) (pa_cons pe_int pa_nil)))))))
        (C8.pss_cut (ps_if (pt_cmpR op_gt (pe_callB call_len_seq (by rfl) T.n_len (by decide +kernel) (pa_cons (pv 2) pa_nil)) pe_int (nomark _)) (pss_one (ps_set (i := 1) sc_l_options.nd rfl (Or.inl rfl) (pe_op op_cat (pv 1) (pe_call (ok_l_option T) (hr.mono (by decide)) rfl T.m_l_option T.F_l_option.kp T.b_l_option .nil pass0 (pa_cons pe_int (pa_cons (pv 2) pa_nil)))))) pss_nil)
        (pss_one (ps_ret (pe_op op_cat (pv 1) (pe_op op_rep (pe_lst (pa_cons pe_int pa_nil)) (pe_op op_mod (pe_op op_sub pe_int (pe_op op_mod (pe_callB call_len_seq (by rfl) T.n_len (by decide +kernel) (pa_cons (pv 1) pa_nil)) pe_int)) pe_int))))))))), ?_⟩
    dsimp only [cxOf, Cx.nox, Cx.wish, L2.start, List.map, List.cons_append, List.nil_append, List.length_cons, List.length_nil, Nat.reduceAdd, Nat.reduceSub, Nat.zero_add, List.replicate_succ, List.replicate_zero]
    have hsl := sgl_len (g := g)
    have hfl := fit_le (g := g)
    have hwl := wp_len (qs := g.rs.take (fit g))
    have htl : (g.rs.take (fit g)).length ≤ 4 := by rw [List.length_take]; omega
    walk_at "go"
    refine u_lplain hD ok fun o H1 no s1 eo => ?_
    walk_at "go"
    refine ⟨by decide, fun b hb => ?_⟩
    generalize z1 : upd H1 b _ = H2
    have s2 : Same H1 H2 := by rw [← z1]; exact same_upd hb
    have eb : H2 b = some (.lst (([] : List Int).map V.int)) := (congrFun z1 b).symm.trans upd_same
    clear z1
    have eo2 := s2 _ _ eo
    have s02 := s1.trans s2
    walk_at "go"
    refine g_for ?_
    walk_at "go"
    refine u_lfitting (hD.same s02) ok fun l H3 us nl s3 el hP => ?_
    have eo3 := s3 _ _ eo2
    have s03 := s02.trans s3
    walk_at "go"
    refine ⟨⟨_, sl el⟩, ?_⟩
    refine for_list (xs := us) (fun i σ H' => ∃ b v3, σ = [some (.ref p), some (.ref o), some (.ref b), v3] ∧ Same H3 H' ∧ H' b = some (.lst ((wp ((g.rs.take (fit g)).take i)).map V.int))) ⟨b, none, rfl, fun _ _ z => z, s3 _ _ eb⟩ (fun i σ H' _ ⟨_, _, _, sm, _⟩ => sm.seq (sl el)) ?turn ?done
    case turn =>
      rintro i x σ H' hx ⟨b, v3, rfl, sm, e⟩
      obtain ⟨hi, _⟩ := List.getElem?_eq_some_iff.mp hx
      obtain ⟨pr, hp⟩ : ∃ p, (g.rs.take (fit g))[i]? = some p := ⟨(g.rs.take (fit g))[i]'(by rw [← hP.1]; exact hi), List.getElem?_eq_getElem _⟩
      obtain ⟨t, ht1, ht2⟩ := (hP.same sm).2 i pr hp
      rw [ht1] at hx
      cases hx
      have ht3 := wp_len (qs := (g.rs.take (fit g)).take i)
      have ht4 : ((g.rs.take (fit g)).take i).length ≤ 4 := by rw [List.length_take]; omega
      walk_at "go"
      refine g_ixT (st ht2) (at_of (j := 0) rfl rfl) ?_
      walk_at "go"
      refine u_digits (by decide) fun l1 H4 n1 s4 k1 => ?_
      walk_at "go"
      refine g_cat (s4 _ _ e) k1 (by simp only [List.length_map, dg_len]; exact sz (by omega)) fun l2 h2 => ?_
      generalize z1 : upd H4 l2 _ = H5
      have s5 : Same H4 H5 := by rw [← z1]; exact same_upd h2
      have k2 : H5 l2 = some (.lst ((wp ((g.rs.take (fit g)).take i) ++ dg pr.1 4).map V.int)) := (congrFun z1 l2).symm.trans (upd_same.trans (by rw [← List.map_append]; rfl))
      clear z1
      walk_at "go"
      refine g_ixT (st (s5 _ _ (s4 _ _ ht2))) (at_of (j := 1) rfl rfl) ?_
      walk_at "go"
      refine u_digits (by decide) fun l3 H6 n3 s6 k3 => ?_
      walk_at "go"
      refine g_cat (s6 _ _ k2) k3 (by simp only [List.length_map, List.length_append, dg_len]; exact sz (by omega)) fun l4 h4 => ?_
      walk_at "go"
      refine ⟨l4, _, rfl, sm.trans (s4.trans (s5.trans (s6.trans (same_upd h4)))), ?_⟩
      rw [upd_same, List.take_add_one, hp, Option.toList_some, wp_app, ← List.map_append, List.append_assoc]
      rfl
    case done =>
      rintro σ H4 ⟨b, v3, rfl, sm, e⟩
      rw [List.take_of_length_le (by rw [hP.1]; exact Nat.le_refl _)] at e
      have eo4 := sm _ _ eo3
      have s04 := s03.trans sm
      walk_at "go"
      refine g_cut (fun σ' H' => ∃ o, σ' = [some (.ref p), some (.ref o), some (.ref b), v3] ∧ Same H4 H' ∧ H' o = some (.lst ((sgl g ++ oR g).map V.int))) ?_ ?_
      · walk_at "go"
        refine g_len (.inl (sl e)) ?_
        walk_at "go"
        rw [List.length_map]
        refine g_ite (fun c => ?_) (fun c => ?_)
        · walk_at "go"
          refine u_loption e (by omega) fun l5 H5 n5 s5 k5 => ?_
          walk_at "go"
          refine g_cat (s5 _ _ eo4) k5 (by simp only [List.length_map, List.length_cons]; exact sz (by omega)) fun l6 h6 => ?_
          walk_at "go"
          refine ⟨l6, rfl, s5.trans (same_upd h6), ?_⟩
          rw [upd_same, ← List.map_append]; unfold oR; rw [if_pos (by omega)]
        · walk_at "go"
          refine ⟨o, rfl, fun _ _ z => z, ?_⟩
          rw [eo4]; unfold oR; rw [if_neg (by omega), List.append_nil]
      rintro σ' H5 ⟨o5, rfl, s5, e5⟩
      have lR := oR_len (g := g)
      have lA : (sgl g ++ oR g).length ≤ 65 := by rw [List.length_append]; omega
      walk_at "go"
      refine ⟨by show 1 ≤ sizeLine; decide, fun l1 h1 => ?_⟩
      generalize z1 : upd H5 l1 _ = H6
      have s6 : Same H5 H6 := by rw [← z1]; exact same_upd h1
      have k1 : H6 l1 = some (.lst [V.int 0]) := (congrFun z1 l1).symm.trans upd_same
      clear z1
      have e6 := s6 _ _ e5
      walk_at "go"
      refine g_len (.inl (sl e6)) ?_
      walk_at "go"
      rw [List.length_map]
      have em : ((4 : Int) - ((sgl g ++ oR g).length : Int) % 4) % 4 = (-((sgl g ++ oR g).length : Int)) % 4 := by omega
      rw [em]
      refine ⟨l1, (-((sgl g ++ oR g).length : Int)) % 4, _, rfl, rfl, k1, by omega, by omega, ?_, fun l7 h7 => ?_⟩
      · show 1 * ((-((sgl g ++ oR g).length : Int)) % 4).toNat ≤ sizeLine
        exact sz (by omega)
      · generalize z1 : upd H6 l7 _ = H7
        have s7 : Same H6 H7 := by rw [← z1]; exact same_upd h7
        have fl : ∀ n : Nat, (List.replicate n [V.int 0]).flatten = (List.replicate n (0 : Int)).map V.int := fun n => by
          induction n with
          | zero => rfl
          | succ n ih => rw [List.replicate_succ, List.replicate_succ, List.flatten_cons, ih]; rfl
        have k7 : H7 l7 = some (.lst ((List.replicate ((-((sgl g ++ oR g).length : Int)) % 4).toNat (0 : Int)).map V.int)) := (congrFun z1 l7).symm.trans (upd_same.trans (by rw [fl]))
        clear z1
        walk_at "go"
        refine g_cat (s7 _ _ e6) k7 (by simp only [List.length_map, List.length_replicate]; exact sz (by omega)) fun l8 h8 => ?_
        have s08 := s04.trans (s5.trans (s6.trans s7))
        refine q l8 _ (s08.free h8) (s08.trans (same_upd h8)) ?_
        rw [upd_same, ← List.map_append]
        rfl

end
end My
namespace My
open PySem PySem.Spec L2
local macro_rules | `(tactic| walk_at "side") => `(tactic| first | assumption | decide | omega | exact ⟨by decide, by decide⟩ | exact ⟨by decide, by decide, by decide⟩ | decide +kernel | exact cdivW (by decide +kernel) (by decide +kernel) | exact Or.inl ⟨by omega, by omega⟩ | exact Or.inr ⟨by omega, by omega⟩ | (simp only [List.length_map, List.length_cons, List.length_nil, List.length_append]; omega))
local macro_rules | `(tactic| walk_at "fact") => `(tactic| first | assumption | omega | with_reducible rfl)
local macro_rules | `(tactic| walk_at "use") => `(tactic| fail "use")
local macro_rules | `(tactic| walk_at "go1") => `(tactic| with_reducible first | refine g_seq ?_ | refine g_asg ?_ | refine g_ret ?_ | refine g_ifS ?_ | refine g_drop ?_ | refine g_star ?_ | refine g_nx ?_ | refine g_rt ?_ | refine g_bkE ?_ | refine g_ctE ?_ | refine g_next ?_ | refine g_retN ?_ | refine g_brk ?_ | refine g_ct ?_ | refine g_c ?_ | refine g_op ?_ | refine g_un ?_ | refine g_rI0 ?_ | refine g_rU ?_ | refine g_rEqI ?_ | refine g_rNeI ?_ | refine g_isN ?_ | refine g_rIsB ?_ | refine g_rNotB ?_ | refine g_test ?_ | refine g_B ?_ | refine g_bl ?_ | refine g_and ?_ | refine g_or ?_ | refine g_not ?_ | refine g_andV ?_ | refine g_orV ?_ | refine g_notV ?_ | refine g_if ?_ | refine g_chain ?_ | refine g_yes ?_ | refine g_lc ?_ | refine g_revR ?_ | refine g_rng1 ?_ | refine g_iList ?_ | refine g_nil ?_ | refine g_cons ?_ | refine g_tup ?_ | refine g_lst ?_ | refine g_call ?_ | refine g_CB ?_ | refine g_sl ?_ | refine g_noPart ?_ | refine g_part ?_ | refine g_intE ?_ | refine g_ref ?_ | refine g_fld ?_ | refine g_sfld ?_ | refine g_meth ?_ | refine g_make ?_ | refine g_prop ?_  | refine g_ipI ?_ | refine g_int1 ?_ | refine g_int1B ?_ | refine g_one ?_ | refine g_two ?_ | refine g_isiI ?_ | refine g_isiIB ?_ | refine g_isiB ?_ | refine g_BM ?_ | refine g_BM0 ?_ | refine g_sub ?_)
local macro_rules | `(tactic| walk_at "go") => `(tactic| repeat (first | walk_at "go1" | ((with_reducible refine' g_nameE ?sd_ ?_); case sd_ => dsimp only [List.set_cons_succ, List.set_cons_zero]) | ((with_reducible refine' g_var ?sd_ ?_); case sd_ => exact rfl) | ((with_reducible refine' g_aug ?sd_ ?_); case sd_ => exact rfl) | ((with_reducible refine' g_rI ?sd_ ?_); case sd_ => walk_at "side") | ((with_reducible refine' g_dT ?sd_ ?_); case sd_ => walk_at "fact") | ((with_reducible refine' g_dF ?sd_ ?_); case sd_ => walk_at "fact") | ((with_reducible refine' g_nT ?sd_ ?_); case sd_ => walk_at "fact") | ((with_reducible refine' g_nF ?sd_ ?_); case sd_ => walk_at "fact") | (with_reducible refine g_iT rfl ?_) | (with_reducible refine g_iF rfl ?_) | walk_at "use"))
local macro_rules | `(tactic| walk_at "use") => `(tactic| first | ((with_reducible refine' fd_Segment_source ?ho_ ?hv_ ?_); (case ho_ => first | assumption | exact upd_same); (case hv_ => exact rfl)) | ((with_reducible refine' fd_Segment_target ?ho_ ?hv_ ?_); (case ho_ => first | assumption | exact upd_same); (case hv_ => exact rfl)) | ((with_reducible refine' fd_Segment_seq ?ho_ ?hv_ ?_); (case ho_ => first | assumption | exact upd_same); (case hv_ => exact rfl)) | ((with_reducible refine' fd_Segment_count ?ho_ ?hv_ ?_); (case ho_ => first | assumption | exact upd_same); (case hv_ => exact rfl)) | ((with_reducible refine' fd_Segment_echo ?ho_ ?hv_ ?_); (case ho_ => first | assumption | exact upd_same); (case hv_ => exact rfl)) | ((with_reducible refine' fd_Segment_ack ?ho_ ?hv_ ?_); (case ho_ => first | assumption | exact upd_same); (case hv_ => exact rfl)) | ((with_reducible refine' fd_Segment_syn ?ho_ ?hv_ ?_); (case ho_ => first | assumption | exact upd_same); (case hv_ => exact rfl)) | ((with_reducible refine' fd_Segment_fin ?ho_ ?hv_ ?_); (case ho_ => first | assumption | exact upd_same); (case hv_ => exact rfl)) | ((with_reducible refine' fd_Segment_reset ?ho_ ?hv_ ?_); (case ho_ => first | assumption | exact upd_same); (case hv_ => exact rfl)) | ((with_reducible refine' fd_Segment_marked ?ho_ ?hv_ ?_); (case ho_ => first | assumption | exact upd_same); (case hv_ => exact rfl)) | ((with_reducible refine' fd_Segment_cut ?ho_ ?hv_ ?_); (case ho_ => first | assumption | exact upd_same); (case hv_ => exact rfl)) | ((with_reducible refine' fd_Segment_window ?ho_ ?hv_ ?_); (case ho_ => first | assumption | exact upd_same); (case hv_ => exact rfl)) | ((with_reducible refine' fd_Segment_mss ?ho_ ?hv_ ?_); (case ho_ => first | assumption | exact upd_same); (case hv_ => exact rfl)) | ((with_reducible refine' fd_Segment_scale ?ho_ ?hv_ ?_); (case ho_ => first | assumption | exact upd_same); (case hv_ => exact rfl)) | ((with_reducible refine' fd_Segment_ranges_known ?ho_ ?hv_ ?_); (case ho_ => first | assumption | exact upd_same); (case hv_ => exact rfl)) | ((with_reducible refine' fd_Segment_ranges ?ho_ ?hv_ ?_); (case ho_ => first | assumption | exact upd_same); (case hv_ => exact rfl)) | ((with_reducible refine' fd_Segment_stamp ?ho_ ?hv_ ?_); (case ho_ => first | assumption | exact upd_same); (case hv_ => exact rfl)) | ((with_reducible refine' fd_Segment_data ?ho_ ?hv_ ?_); (case ho_ => first | assumption | exact upd_same); (case hv_ => exact rfl)) | ((with_reducible refine' nw_Segment_source ?ho_ ?hv_ ?_); (case ho_ => first | assumption | exact upd_same); (case hv_ => exact rfl)) | ((with_reducible refine' nw_Segment_target ?ho_ ?hv_ ?_); (case ho_ => first | assumption | exact upd_same); (case hv_ => exact rfl)) | ((with_reducible refine' nw_Segment_seq ?ho_ ?hv_ ?_); (case ho_ => first | assumption | exact upd_same); (case hv_ => exact rfl)) | ((with_reducible refine' nw_Segment_count ?ho_ ?hv_ ?_); (case ho_ => first | assumption | exact upd_same); (case hv_ => exact rfl)) | ((with_reducible refine' nw_Segment_echo ?ho_ ?hv_ ?_); (case ho_ => first | assumption | exact upd_same); (case hv_ => exact rfl)) | ((with_reducible refine' nw_Segment_ack ?ho_ ?hv_ ?_); (case ho_ => first | assumption | exact upd_same); (case hv_ => exact rfl)) | ((with_reducible refine' nw_Segment_syn ?ho_ ?hv_ ?_); (case ho_ => first | assumption | exact upd_same); (case hv_ => exact rfl)) | ((with_reducible refine' nw_Segment_fin ?ho_ ?hv_ ?_); (case ho_ => first | assumption | exact upd_same); (case hv_ => exact rfl)) | ((with_reducible refine' nw_Segment_reset ?ho_ ?hv_ ?_); (case ho_ => first | assumption | exact upd_same); (case hv_ => exact rfl)) | ((with_reducible refine' nw_Segment_marked ?ho_ ?hv_ ?_); (case ho_ => first | assumption | exact upd_same); (case hv_ => exact rfl)) | ((with_reducible refine' nw_Segment_cut ?ho_ ?hv_ ?_); (case ho_ => first | assumption | exact upd_same); (case hv_ => exact rfl)) | ((with_reducible refine' nw_Segment_window ?ho_ ?hv_ ?_); (case ho_ => first | assumption | exact upd_same); (case hv_ => exact rfl)) | ((with_reducible refine' nw_Segment_mss ?ho_ ?hv_ ?_); (case ho_ => first | assumption | exact upd_same); (case hv_ => exact rfl)) | ((with_reducible refine' nw_Segment_scale ?ho_ ?hv_ ?_); (case ho_ => first | assumption | exact upd_same); (case hv_ => exact rfl)) | ((with_reducible refine' nw_Segment_ranges_known ?ho_ ?hv_ ?_); (case ho_ => first | assumption | exact upd_same); (case hv_ => exact rfl)) | ((with_reducible refine' nw_Segment_ranges ?ho_ ?hv_ ?_); (case ho_ => first | assumption | exact upd_same); (case hv_ => exact rfl)) | ((with_reducible refine' nw_Segment_stamp ?ho_ ?hv_ ?_); (case ho_ => first | assumption | exact upd_same); (case hv_ => exact rfl)) | ((with_reducible refine' nw_Segment_data ?ho_ ?hv_ ?_); (case ho_ => first | assumption | exact upd_same); (case hv_ => exact rfl)) | ((with_reducible refine' st_Segment_source ?ho_ ?hv_ ?_); (case ho_ => first | assumption | exact upd_same); (case hv_ => exact Nat.le_of_ble_eq_true rfl)) | ((with_reducible refine' st_Segment_target ?ho_ ?hv_ ?_); (case ho_ => first | assumption | exact upd_same); (case hv_ => exact Nat.le_of_ble_eq_true rfl)) | ((with_reducible refine' st_Segment_seq ?ho_ ?hv_ ?_); (case ho_ => first | assumption | exact upd_same); (case hv_ => exact Nat.le_of_ble_eq_true rfl)) | ((with_reducible refine' st_Segment_count ?ho_ ?hv_ ?_); (case ho_ => first | assumption | exact upd_same); (case hv_ => exact Nat.le_of_ble_eq_true rfl)) | ((with_reducible refine' st_Segment_echo ?ho_ ?hv_ ?_); (case ho_ => first | assumption | exact upd_same); (case hv_ => exact Nat.le_of_ble_eq_true rfl)) | ((with_reducible refine' st_Segment_ack ?ho_ ?hv_ ?_); (case ho_ => first | assumption | exact upd_same); (case hv_ => exact Nat.le_of_ble_eq_true rfl)) | ((with_reducible refine' st_Segment_syn ?ho_ ?hv_ ?_); (case ho_ => first | assumption | exact upd_same); (case hv_ => exact Nat.le_of_ble_eq_true rfl)) | ((with_reducible refine' st_Segment_fin ?ho_ ?hv_ ?_); (case ho_ => first | assumption | exact upd_same); (case hv_ => exact Nat.le_of_ble_eq_true rfl)) | ((with_reducible refine' st_Segment_reset ?ho_ ?hv_ ?_); (case ho_ => first | assumption | exact upd_same); (case hv_ => exact Nat.le_of_ble_eq_true rfl)) | ((with_reducible refine' st_Segment_marked ?ho_ ?hv_ ?_); (case ho_ => first | assumption | exact upd_same); (case hv_ => exact Nat.le_of_ble_eq_true rfl)) | ((with_reducible refine' st_Segment_cut ?ho_ ?hv_ ?_); (case ho_ => first | assumption | exact upd_same); (case hv_ => exact Nat.le_of_ble_eq_true rfl)) | ((with_reducible refine' st_Segment_window ?ho_ ?hv_ ?_); (case ho_ => first | assumption | exact upd_same); (case hv_ => exact Nat.le_of_ble_eq_true rfl)) | ((with_reducible refine' st_Segment_mss ?ho_ ?hv_ ?_); (case ho_ => first | assumption | exact upd_same); (case hv_ => exact Nat.le_of_ble_eq_true rfl)) | ((with_reducible refine' st_Segment_scale ?ho_ ?hv_ ?_); (case ho_ => first | assumption | exact upd_same); (case hv_ => exact Nat.le_of_ble_eq_true rfl)) | ((with_reducible refine' st_Segment_ranges_known ?ho_ ?hv_ ?_); (case ho_ => first | assumption | exact upd_same); (case hv_ => exact Nat.le_of_ble_eq_true rfl)) | ((with_reducible refine' st_Segment_ranges ?ho_ ?hv_ ?_); (case ho_ => first | assumption | exact upd_same); (case hv_ => exact Nat.le_of_ble_eq_true rfl)) | ((with_reducible refine' st_Segment_stamp ?ho_ ?hv_ ?_); (case ho_ => first | assumption | exact upd_same); (case hv_ => exact Nat.le_of_ble_eq_true rfl)) | ((with_reducible refine' st_Segment_data ?ho_ ?hv_ ?_); (case ho_ => first | assumption | exact upd_same); (case hv_ => exact Nat.le_of_ble_eq_true rfl)))
section
variable {P : Program} {w : World} {K : PySem.W.Frag} {mg : Str → Option Value} {base : Heap}
local macro_rules | `(tactic| walk_at "use") => `(tactic| with_reducible refine u_write (by omega) ?_)
def pickV (xs : List V) (lo hi : Option Int) (k : Int) : List V := (sliceRange (sliceBounds lo hi (some k) xs.length).1 (sliceBounds lo hi (some k) xs.length).2.1 (sliceBounds lo hi (some k) xs.length).2.2).filterMap (xs[·]?)
theorem vals_get : ∀ {xs : List V} {us : List Value}, Vals xs us → ∀ i : Nat, (xs[i]? = none ∧ us[i]? = none) ∨ ∃ x u, xs[i]? = some x ∧ us[i]? = some u ∧ RelV x u
  | _, _, .nil, _ => .inl ⟨rfl, rfl⟩
  | _, _, .cons r _, 0 => .inr ⟨_, _, rfl, rfl, r⟩
  | _, _, .cons _ t, i + 1 => vals_get t i
theorem vals_pick {xs : List V} {us : List Value} (r : Vals xs us) : ∀ l : List Nat, Vals (l.filterMap (xs[·]?)) (l.filterMap (us[·]?))
  | [] => .nil
  | i :: l => by
    rcases vals_get r i with ⟨a, b⟩ | ⟨x, u, a, b, c⟩
    · rw [List.filterMap_cons_none a, List.filterMap_cons_none b]
      exact vals_pick r l
    · rw [List.filterMap_cons_some a, List.filterMap_cons_some b]
      exact .cons c (vals_pick r l)
theorem pick_len {α : Type} (xs : List α) (l : List Nat) : (l.filterMap (xs[·]?)).length ≤ l.length := List.length_filterMap_le _ _
def tSl3 (K : PySem.W.Frag) (te : TE) (tl th : TO) (ts : TE) : TE := fun σ H Q => te σ H fun x H1 => tl σ H1 fun l H2 => th σ H2 fun u H3 => ts σ H3 fun z H4 => ∃ a xs k, x = .ref a ∧ z = .int k ∧ k ≠ 0 ∧ SqL K H4 a xs ∧ (pickV xs l u k).length ≤ sizeLine ∧ ∀ p, H4 p = none → Q (.ref p) (upd H4 p (.lst (pickV xs l u k)))
open PyProof.Rows in
theorem pe_stepL {X : Cx} {e stp : Expr} {lo hi : Option Expr} {te ts : TE} {tl th : TO} {p2 pos : Pos} (he : PE X e te) (hl : PO X lo tl) (hh : PO X hi th) (hs : PE X stp ts) : PE X (.Subscript e (.Slice lo hi (some stp) p2) pos) (tSl3 X.K te tl th ts) := by
  refine ⟨fun pins s σ H Q I h => ?_⟩
  refine PyProof.Rows.Subscript_ (thn (he.run pins s σ H _ I h) fun v s1 ⟨x, H1, I1, r1, q1⟩ => ?_)
  refine wpAny_Slice (thn (hl.run pins s1 σ H1 _ I1 q1) fun vl s2 ⟨l, H2, I2, pl, q2⟩ => thn (hh.run pins s2 σ H2 _ I2 q2) fun vu s3 ⟨u, H3, I3, pu, q3⟩ => ?_)
  rw [evalPart_some]
  refine thn (hs.run pins s3 σ H3 _ I3 q3) fun vk s4 ⟨z, H4, I4, rk, q4⟩ => ?_
  obtain ⟨a, xs, k, rfl, rfl, hk, hx, hz2, q⟩ := q4
  cases r1
  obtain ⟨t, rfl⟩ := rk
  have I5 : Inv X pins σ H4 { s4 with heap := s4.heap.push { cls := .type "slice", data := .fields #[vl, vu, .int k t] } } := I4.kept (t' := s4.toks) fun b ob q => Heap.get?_push_of_some _ q
  obtain ⟨its, r, ht, hz⟩ := I5.list hx
  have hlen := r.length
  show wpAny (model X.prog X.w) X.A (subscriptTail e (.Slice lo hi (some stp) p2) (.ref a) (.ref s4.heap.objs.size)) (EP X pins σ Q) X.xe { s4 with heap := s4.heap.push { cls := .type "slice", data := .fields #[vl, vu, .int k t] } }
  refine tail_any (ops := [.ref a, .ref s4.heap.objs.size]) ht.isList.typeIs (PySem.slot_list_getitem.lookup) ?_ (by with_unfolding_all rfl)
  refine wpAny_getItem_list_slice ht.isList (Heap.IsSliceOf.new _ vl vu (.int k t)) pl pu (.int k t) (fun e => hk (Option.some.inj e)) ?_ (by rw [List.size_toArray]; omega)
  have ep : slicePick its.toArray l u (some k) = ((sliceRange (sliceBounds l u (some k) xs.length).1 (sliceBounds l u (some k) xs.length).2.1 (sliceBounds l u (some k) xs.length).2.2).filterMap (its[·]?)).toArray := by
    unfold slicePick
    rw [List.size_toArray, ← hlen]
    simp only [List.getElem?_toArray]
  rw [ep]
  refine ⟨.ref _, _, I5.laid (t' := s4.toks) (o := .lst (pickV xs l u k)) (fun b ob q => Heap.get?_push_of_some _ q) (Nat.le_refl _) ?_, rfl, q _ (I5.hok.fresh (Nat.le_refl _))⟩
  exact ⟨hz2, _, 0, vals_pick r _, Heap.get?_push_size _ rfl⟩
/-! xs[::2], xs[1::2] -/
def ev {α : Type} : List α → List α
  | [] => []
  | [x] => [x]
  | x :: _ :: r => x :: ev r
def od {α : Type} : List α → List α
  | [] => []
  | [_] => []
  | _ :: y :: r => y :: od r
theorem ev_get {α : Type} : ∀ (xs : List α) (k : Nat), (ev xs)[k]? = xs[2 * k]?
  | [], _ => by simp [ev]
  | [x], 0 => rfl
  | [x], k + 1 => by
    show ([x] : List α)[k + 1]? = ([x] : List α)[2 * (k + 1)]?
    rw [List.getElem?_eq_none (by simp), List.getElem?_eq_none (by simp; omega)]
  | x :: y :: r, 0 => rfl
  | x :: y :: r, k + 1 => by
    show (ev r)[k]? = (x :: y :: r)[2 * (k + 1)]?
    rw [ev_get r k, show 2 * (k + 1) = 2 * k + 1 + 1 by omega, List.getElem?_cons_succ, List.getElem?_cons_succ]
theorem od_get {α : Type} : ∀ (xs : List α) (k : Nat), (od xs)[k]? = xs[2 * k + 1]?
  | [], _ => by simp [od]
  | [x], k => by
    show ([] : List α)[k]? = ([x] : List α)[2 * k + 1]?
    rw [List.getElem?_eq_none (by simp), List.getElem?_eq_none (by simp)]
  | x :: y :: r, 0 => rfl
  | x :: y :: r, k + 1 => by
    show (od r)[k]? = (x :: y :: r)[2 * (k + 1) + 1]?
    rw [od_get r k, show 2 * (k + 1) + 1 = 2 * k + 1 + 1 + 1 by omega, List.getElem?_cons_succ, List.getElem?_cons_succ]
theorem range_fm {α : Type} (L : List α) : ∀ c : Nat, (List.range c).filterMap (L[·]?) = L.take c
  | 0 => by simp
  | c + 1 => by
    rw [List.range_succ, List.filterMap_append, range_fm L c, List.take_add_one]
    cases h : L[c]? with
    | none => rw [List.filterMap_cons_none h]; rfl
    | some x => rw [List.filterMap_cons_some h]; rfl
theorem ev_len {α : Type} : ∀ xs : List α, (ev xs).length = (xs.length + 1) / 2
  | [] => by simp [ev]
  | [_] => by simp [ev]
  | _ :: _ :: r => by
    show (ev r).length + 1 = (r.length + 1 + 1 + 1) / 2
    rw [ev_len r]
    omega
theorem od_len {α : Type} : ∀ xs : List α, (od xs).length = xs.length / 2
  | [] => by simp [od]
  | [_] => by simp [od]
  | _ :: _ :: r => by
    show (od r).length + 1 = (r.length + 1 + 1) / 2
    rw [od_len r]
    omega
theorem fm_map {α β γ : Type} (f : α → β) (g : β → Option γ) (l : List α) : (l.map f).filterMap g = l.filterMap (fun x => g (f x)) := List.filterMap_map
theorem pick_ev (xs : List V) : pickV xs none none 2 = ev xs := by
  have e : sliceRange (sliceBounds none none (some 2) xs.length).1 (sliceBounds none none (some 2) xs.length).2.1 (sliceBounds none none (some 2) xs.length).2.2 = (List.range ((xs.length + 1) / 2)).map (fun k => 2 * k) := by
    show (List.range (if (2 : Int) > 0 then (if (0 : Int) < (xs.length : Int) then ((xs.length : Int) - 0 + 2 - 1) / 2 else 0) else _).toNat).map (fun (k : Nat) => ((0 : Int) + 2 * (k : Int)).toNat) = _
    rw [if_pos (by decide)]
    have : (if (0 : Int) < (xs.length : Int) then ((xs.length : Int) - 0 + 2 - 1) / 2 else 0).toNat = (xs.length + 1) / 2 := by
      split <;> omega
    rw [this]
    refine List.map_congr_left fun k _ => ?_
    omega
  unfold pickV
  rw [e, fm_map]
  have e2 : (fun k => xs[2 * k]?) = (fun k => (ev xs)[k]?) := funext fun k => (ev_get xs k).symm
  show (List.range ((xs.length + 1) / 2)).filterMap (fun k => xs[2 * k]?) = ev xs
  rw [e2, range_fm, ← ev_len, List.take_length]
theorem pick_od (xs : List V) : pickV xs (some 1) none 2 = od xs := by
  have e : sliceRange (sliceBounds (some 1) none (some 2) xs.length).1 (sliceBounds (some 1) none (some 2) xs.length).2.1 (sliceBounds (some 1) none (some 2) xs.length).2.2 = (List.range (xs.length / 2)).map (fun k => (2 * k + (max 0 (min 1 (xs.length : Int))).toNat)) := by
    show (List.range (if (2 : Int) > 0 then (if (max 0 (min 1 (xs.length : Int))) < (xs.length : Int) then ((xs.length : Int) - (max 0 (min 1 (xs.length : Int))) + 2 - 1) / 2 else 0) else _).toNat).map (fun (k : Nat) => ((max 0 (min 1 (xs.length : Int))) + 2 * (k : Int)).toNat) = _
    rw [if_pos (by decide)]
    have : (if (max 0 (min 1 (xs.length : Int))) < (xs.length : Int) then ((xs.length : Int) - (max 0 (min 1 (xs.length : Int))) + 2 - 1) / 2 else 0).toNat = xs.length / 2 := by
      split <;> omega
    rw [this]
    refine List.map_congr_left fun k _ => ?_
    omega
  unfold pickV
  rw [e, fm_map]
  by_cases h : xs.length = 0
  · rw [h]
    have : xs = [] := List.length_eq_zero_iff.mp h
    rw [this]; rfl
  · have e2 : (fun k => xs[2 * k + (max 0 (min 1 (xs.length : Int))).toNat]?) = (fun k => (od xs)[k]?) := funext fun k => by
      rw [show (max 0 (min 1 (xs.length : Int))).toNat = 1 by omega]
      exact (od_get xs k).symm
    show (List.range (xs.length / 2)).filterMap (fun k => xs[2 * k + (max 0 (min 1 (xs.length : Int))).toNat]?) = od xs
    rw [e2, range_fm, ← od_len, List.take_length]
theorem ev_map {α β : Type} (f : α → β) : ∀ xs : List α, ev (xs.map f) = (ev xs).map f
  | [] => rfl
  | [_] => rfl
  | x :: _ :: r => congrArg (f x :: ·) (ev_map f r)
theorem od_map {α β : Type} (f : α → β) : ∀ xs : List α, od (xs.map f) = (od xs).map f
  | [] => rfl
  | [_] => rfl
  | _ :: y :: r => congrArg (f y :: ·) (od_map f r)
/-- 256 times the sum of the even ones, and the odd ones -/
def ws (xs : List Int) : Int := 256 * (ev xs).sum + (od xs).sum
theorem ev_snoc {α : Type} (x : α) : ∀ xs : List α, ev (xs ++ [x]) = if xs.length % 2 = 0 then ev xs ++ [x] else ev xs
  | [] => rfl
  | [a] => rfl
  | a :: b :: r => by
    show a :: ev (r ++ [x]) = if (r.length + 1 + 1) % 2 = 0 then a :: ev r ++ [x] else a :: ev r
    rw [ev_snoc x r]
    by_cases h : r.length % 2 = 0
    · rw [if_pos h, if_pos (by omega)]; rfl
    · rw [if_neg h, if_neg (by omega)]
theorem od_snoc {α : Type} (x : α) : ∀ xs : List α, od (xs ++ [x]) = if xs.length % 2 = 0 then od xs else od xs ++ [x]
  | [] => rfl
  | [a] => rfl
  | a :: b :: r => by
    show b :: od (r ++ [x]) = if (r.length + 1 + 1) % 2 = 0 then b :: od r else b :: od r ++ [x]
    rw [od_snoc x r]
    by_cases h : r.length % 2 = 0
    · rw [if_pos h, if_pos (by omega)]
    · rw [if_neg h, if_neg (by omega)]; rfl
theorem ws_snoc (xs : List Int) (x : Int) : ws (xs ++ [x]) = ws xs + (if xs.length % 2 = 0 then 256 else 1) * x := by
  unfold ws
  rw [ev_snoc, od_snoc]
  by_cases h : xs.length % 2 = 0
  · rw [if_pos h, if_pos h, if_pos h, List.sum_append, List.sum_singleton]
    omega
  · rw [if_neg h, if_neg h, if_neg h, List.sum_append, List.sum_singleton]
    omega
theorem ws_take {xs : List Int} {i : Nat} {x : Int} (h : xs[i]? = some x) : ws (xs.take (i + 1)) = ws (xs.take i) + (if i % 2 = 0 then 256 else 1) * x := by
  obtain ⟨hl, _⟩ := List.getElem?_eq_some_iff.mp h
  rw [List.take_add_one, h]
  show ws (xs.take i ++ [x]) = _
  rw [ws_snoc, List.length_take, Nat.min_eq_left (Nat.le_of_lt hl)]
/-- one item changed -/
theorem ws_set : ∀ (xs : List Int) (j : Nat) (x y : Int), xs[j]? = some x → ws (xs.set j y) = ws xs + (if j % 2 = 0 then 256 else 1) * (y - x)
  | [], j, _, _, h => by cases h
  | [a], 0, x, y, h => by
    have e : a = x := Option.some.inj h
    subst e
    show 256 * ([y] : List Int).sum + 0 = 256 * ([a] : List Int).sum + 0 + 256 * (y - a)
    rw [List.sum_singleton, List.sum_singleton]
    omega
  | [a], j + 1, _, _, h => by simp at h
  | a :: b :: r, 0, x, y, h => by
    have e : a = x := Option.some.inj h
    subst e
    show 256 * (y :: ev r).sum + (b :: od r).sum = 256 * (a :: ev r).sum + (b :: od r).sum + 256 * (y - a)
    rw [List.sum_cons, List.sum_cons, List.sum_cons]
    omega
  | a :: b :: r, 1, x, y, h => by
    have e : b = x := Option.some.inj h
    subst e
    show 256 * (a :: ev r).sum + (y :: od r).sum = 256 * (a :: ev r).sum + (b :: od r).sum + 1 * (y - b)
    rw [List.sum_cons, List.sum_cons, List.sum_cons]
    omega
  | a :: b :: r, j + 2, x, y, h => by
    have ih := ws_set r j x y h
    unfold ws at ih
    show 256 * (a :: ev (r.set j y)).sum + (b :: od (r.set j y)).sum = 256 * (a :: ev r).sum + (b :: od r).sum + (if (j + 2) % 2 = 0 then 256 else 1) * (y - x)
    rw [List.sum_cons, List.sum_cons, List.sum_cons, List.sum_cons, show (j + 2) % 2 = j % 2 by omega]
    omega

theorem g_sl3 {K : PySem.W.Frag} {te ts : TE} {tl th : TO} {σ : St} {H : Hp} {Q : VK} (h : te σ H fun x H1 => tl σ H1 fun l H2 => th σ H2 fun u H3 => ts σ H3 fun z H4 => ∃ a xs k, x = .ref a ∧ z = .int k ∧ k ≠ 0 ∧ SqL K H4 a xs ∧ (pickV xs l u k).length ≤ sizeLine ∧ ∀ p, H4 p = none → Q (.ref p) (upd H4 p (.lst (pickV xs l u k)))) : tSl3 K te tl th ts σ H Q := h
local macro_rules | `(tactic| walk_at "use") => `(tactic| with_reducible refine g_sl3 ?_)
def osum (s t : Int) (ns : List Int) : Int := s + t + 6 + ns.length + ws ns
def sp_octet_sum (K : PySem.W.Frag) : Sp := fun vs H Q _ => ∃ (s t : Int) (a : Addr) (ns : List Int), vs = [.int s, .int t, .ref a] ∧ SqL K H a (ns.map V.int) ∧ ns.length ≤ 5000 ∧ ∀ H', Same H H' → Q (.int (osum s t ns)) H'
theorem u_osum {s t : Int} {a : Addr} {ns : List Int} {H Q E} (h : SqL K H a (ns.map V.int)) (hl : ns.length ≤ 5000) (q : ∀ H', Same H H' → Q (.int (osum s t ns)) H') : sp_octet_sum K ([.int s, .int t, .ref a] ++ []) H Q E := ⟨s, t, a, ns, rfl, h, hl, q⟩
theorem ok_octet_sum (T : Txt K mg) : FnOk P w K mg base CX0 1 T.f_octet_sum T.d_octet_sum ["sender", "target", "octets"] (sp_octet_sum K) := by
  refine T.F_octet_sum.ok sc_octet_sum (fun vs H Q E h => ?_) (fun cdv A outer s H vs Q E hr h => ?_)
  · obtain ⟨s0, t0, a, ns, rfl, h, hl, q⟩ := h
    rfl
  · obtain ⟨s0, t0, a, ns, rfl, h, hl, q⟩ := h
    have hu := hu_of hr
    refine ⟨_, (pss_cons (ps_set (i := 3) sc_octet_sum.nd rfl (Or.inl rfl) (pe_op op_add (pe_op op_mul pe_int (pe_callB (cr_sum rfl) (by rfl) T.n_sum (by decide +kernel) (pa_cons (pe_stepL (pv 2) po_none po_none pe_int) pa_nil))) (pe_callB (cr_sum rfl) (by rfl) T.n_sum (by decide +kernel) (pa_cons (pe_stepL (pv 2) (po_some pe_int) po_none pe_int) pa_nil))))
        (pss_one (ps_ret (pe_op op_add (pe_op op_add (pe_op op_add (pe_op op_add (pv 0) (pv 1)) (pe_glob (v := .int 6) (by rfl) T.v_PROTOCOL ⟨_, rfl⟩)) (pe_callB call_len_seq (by rfl) T.n_len (by decide +kernel) (pa_cons (pv 2) pa_nil))) (pv 3))))), ?_⟩
    dsimp only [cxOf, Cx.nox, Cx.wish, L2.start, List.map, List.cons_append, List.nil_append, List.length_cons, List.length_nil, Nat.reduceAdd, Nat.reduceSub, Nat.zero_add, List.replicate_succ, List.replicate_zero]
    have le : (ev ns).length ≤ ns.length := by rw [ev_len]; omega
    have lo : (od ns).length ≤ ns.length := by rw [od_len]; omega
    walk_at "go"
    refine ⟨a, ns.map V.int, 2, rfl, rfl, by decide, h, ?_, fun p hp => ?_⟩
    · rw [pick_ev, ev_map, List.length_map]; exact sz (by omega)
    rw [pick_ev, ev_map]
    walk_at "go"
    refine g_sum (sl upd_same) ?_
    walk_at "go"
    refine ⟨a, ns.map V.int, 2, rfl, rfl, by decide, sq_upd hp h, ?_, fun p2 hp2 => ?_⟩
    · rw [pick_od, od_map, List.length_map]; exact sz (by omega)
    rw [pick_od, od_map]
    walk_at "go"
    refine g_sum (sl upd_same) ?_
    walk_at "go"
    refine g_len (.inl (sq_upd hp2 (sq_upd hp h))) ?_
    walk_at "go"
    rw [List.length_map]
    have z := q _ ((same_upd (o := .lst ((ev ns).map V.int)) hp).trans (same_upd (o := .lst ((od ns).map V.int)) hp2))
    exact z

def sp_checksum (K : PySem.W.Frag) : Sp := fun vs H Q _ => ∃ (s t : Int) (a : Addr) (ns : List Int), vs = [.int s, .int t, .ref a] ∧ SqL K H a (ns.map V.int) ∧ ns.length ≤ 5000 ∧ ∀ H', Same H H' → Q (.int (-osum s t ns % 65535)) H'
theorem u_chk {s t : Int} {a : Addr} {ns : List Int} {H Q E} (h : SqL K H a (ns.map V.int)) (hl : ns.length ≤ 5000) (q : ∀ H', Same H H' → Q (.int (-osum s t ns % 65535)) H') : sp_checksum K ([.int s, .int t, .ref a] ++ []) H Q E := ⟨s, t, a, ns, rfl, h, hl, q⟩
theorem ok_checksum (T : Txt K mg) : FnOk P w K mg base CX0 2 T.f_checksum T.d_checksum ["sender", "target", "octets"] (sp_checksum K) := by
  refine T.F_checksum.ok sc_checksum (fun vs H Q E h => ?_) (fun cdv A outer s H vs Q E hr h => ?_)
  · obtain ⟨s0, t0, a, ns, rfl, h, hl, q⟩ := h
    rfl
  · obtain ⟨s0, t0, a, ns, rfl, h, hl, q⟩ := h
    have hu := hu_of hr
    refine ⟨_, (pss_one (ps_ret (pe_op op_mod (pe_un un_neg (pe_call (ok_octet_sum T) (hr.mono (by decide)) rfl T.m_octet_sum T.F_octet_sum.kp T.b_octet_sum .nil pass0 (pa_cons (pv 0) (pa_cons (pv 1) (pa_cons (pv 2) pa_nil))))) (pe_glob (v := .int 65535) (by rfl) T.v_MODULUS ⟨_, rfl⟩)))), ?_⟩
    dsimp only [cxOf, Cx.nox, Cx.wish, L2.start, List.map, List.cons_append, List.nil_append, List.length_cons, List.length_nil, Nat.reduceAdd, Nat.reduceSub, Nat.zero_add, List.replicate_succ, List.replicate_zero]
    walk_at "go"
    refine u_osum h hl fun H' s1 => ?_
    walk_at "go"
    exact q H' s1

/-! ### xs[a:c] = ys -/
def gCutSet (to : TE) (tl th : TO) : TG := fun v σ H Q => to σ H fun o H1 => tl σ H1 fun a H2 => th σ H2 fun c H3 => ∃ (l b : Addr) (xs ys : List V) (i j : Int), o = .ref l ∧ v = .ref b ∧ a = some i ∧ c = some j ∧ H3 l = some (.lst xs) ∧ H3 b = some (.lst ys) ∧ l ≠ b ∧ 0 ≤ i ∧ i ≤ j ∧ j ≤ xs.length ∧ xs.length + ys.length ≤ sizeLine ∧ Q σ (upd H3 l (.lst (xs.take i.toNat ++ ys ++ xs.drop j.toNat)))
theorem pg_cut {X : Cx} {o : Expr} {lo hi : Option Expr} {to : TE} {tl th : TO} {p2 pos : Pos} (ho : PE X o to) (hl : PO X lo tl) (hu : PO X hi th)
    (ha : ∀ v, assign (.Subscript o (.Slice lo hi none p2) pos) X.env v = (do
      let ov ← holding [v] (eval o X.env)
      let iv ← holding [v, ov] (eval (.Slice lo hi none p2) X.env)
      standAt pos
      holding [v, ov, iv] (setItem ov iv v)
      release [iv, v, ov] []) := by intro _; rfl) : PG X (.Subscript o (.Slice lo hi none p2) pos) (gCutSet to tl th) := by
  refine ⟨fun pins s σ H v u Q I r h => ?_⟩
  rw [ha]
  refine wpAny_bind (wpAny_holding (thn (ho.run pins s σ H _ I h) fun ov s1 ⟨x, H1, I1, r1, q1⟩ => ?_))
  refine wpAny_bind (wpAny_holding ?_)
  refine PySem.wpAny_Slice (thn (hl.run pins s1 σ H1 _ I1 q1) fun vl s2 ⟨l, H2, I2, pl, q2⟩ => thn (hu.run pins s2 σ H2 _ I2 q2) fun vu s3 ⟨z, H3, I3, pu, q3⟩ => ?_)
  rw [evalPart_none]
  refine wpAny_pure ?_
  have I4 : Inv X pins σ H3 { s3 with heap := s3.heap.push { cls := .type "slice", data := .fields #[vl, vu, .none] } } := I3.kept (t' := s3.toks) fun b ob q => Heap.get?_push_of_some _ q
  obtain ⟨l', b, xs, ys, i, j, rfl, rfl, rfl, rfl, e1, e2, hne, h0, h1, h2, hz, q4⟩ := q3
  cases r1
  cases r
  obtain ⟨t1, rfl⟩ : ∃ t, vl = .int i t := by cases pl; exact ⟨_, rfl⟩
  obtain ⟨t2, rfl⟩ : ∃ t, vu = .int j t := by cases pu; exact ⟨_, rfl⟩
  refine wpAny_bind (wpAny_standAt (wpAny_bind (wpAny_holding ?_)))
  refine set_slice I4 e1 e2 hne (Heap.IsSliceOf.new ..) ⟨_, rfl⟩ ⟨_, rfl⟩ h0 h1 h2 hz fun s' I5 => ?_
  exact wpAny_release ⟨σ, _, I5, q4⟩

def b2i (b : Bool) : Int := if b = true then 1 else 0
def akN (g : Sg) : Int := match g.ack with | none => 0 | some i => i
def flg (g : Sg) : Int := 128 * b2i g.cut + 64 * b2i g.marked + 16 * b2i g.ack.isSome + 8 * b2i (decide (0 < (g.ds.length : Int))) + 4 * b2i g.reset + 2 * b2i g.syn + b2i g.fin
def sp_flags (C : Addr) : Sp := fun vs H Q _ => ∃ (p d r : Addr) (g : Sg), vs = [.ref p] ∧ SegO C H p g d r ∧ Q (.int (flg g)) H
theorem u_flags {C p d r : Addr} {g : Sg} {H Q E} (h : SegO C H p g d r) (q : Q (.int (flg g)) H) : sp_flags C ([.ref p] ++ []) H Q E := ⟨p, d, r, g, rfl, h, q⟩
theorem ok_flags (T : Txt K mg) : FnOk P w K mg base CX0 1 T.f_flags T.d_flags ["segment"] (sp_flags T.C_Segment) := by
  refine T.F_flags.ok sc_flags (fun vs H Q E h => ?_) (fun cdv A outer s H vs Q E hr h => ?_)
  · obtain ⟨p, d, r, g, rfl, hO, q⟩ := h
    rfl
  · obtain ⟨p, d, r, g, rfl, hO, q⟩ := h
    have hu := hu_of hr
    refine ⟨_, (pss_one (ps_ret (pe_op op_add (pe_op op_add (pe_op op_add (pe_op op_add (pe_op op_add (pe_op op_add (pe_op op_mul (pe_glob (v := .int 128) (by rfl) T.v_CUT ⟨_, rfl⟩) (pe_callTy call_int1 (by rfl) T.n_int (by decide +kernel) (pa_cons (pe_fld (pv 0) rfl) pa_nil))) (pe_op op_mul (pe_glob (v := .int 64) (by rfl) T.v_MARKED ⟨_, rfl⟩) (pe_callTy call_int1 (by rfl) T.n_int (by decide +kernel) (pa_cons (pe_fld (pv 0) rfl) pa_nil)))) (pe_op op_mul (pe_glob (v := .int 16) (by rfl) T.v_ACK ⟨_, rfl⟩) (pe_callTy call_int1 (by rfl) T.n_int (by decide +kernel) (pa_cons (pe_cmpR op_notN (pe_fld (pv 0) rfl) pe_non (nomark _)) pa_nil)))) (pe_op op_mul (pe_glob (v := .int 8) (by rfl) T.v_DATA ⟨_, rfl⟩) (pe_callTy call_int1 (by rfl) T.n_int (by decide +kernel) (pa_cons (pe_cmpR op_gt (pe_callB call_len_seq (by rfl) T.n_len (by decide +kernel) (pa_cons (pe_fld (pv 0) rfl) pa_nil)) pe_int (nomark _)) pa_nil)))) (pe_op op_mul (pe_glob (v := .int 4) (by rfl) T.v_RESET ⟨_, rfl⟩) (pe_callTy call_int1 (by rfl) T.n_int (by decide +kernel) (pa_cons (pe_fld (pv 0) rfl) pa_nil)))) (pe_op op_mul (pe_glob (v := .int 2) (by rfl) T.v_SYN ⟨_, rfl⟩) (pe_callTy call_int1 (by rfl) T.n_int (by decide +kernel) (pa_cons (pe_fld (pv 0) rfl) pa_nil)))) (pe_op op_mul (pe_glob (v := .int 1) (by rfl) T.v_FIN ⟨_, rfl⟩) (pe_callTy call_int1 (by rfl) T.n_int (by decide +kernel) (pa_cons (pe_fld (pv 0) rfl) pa_nil)))))), ?_⟩
    dsimp only [cxOf, Cx.nox, Cx.wish, L2.start, List.map, List.cons_append, List.nil_append, List.length_cons, List.length_nil, Nat.reduceAdd, Nat.reduceSub, Nat.zero_add, List.replicate_succ, List.replicate_zero]
    obtain ⟨dx, sv, e, hda, hra, hsv⟩ := hO
    unfold sgVs at e
    have z : ∀ x : Int, x = flg g → Q (.int x) H := fun x e => e ▸ q
    cases hk : g.ack with
    | none =>
      rw [hk] at e
      simp only [oV] at e
      walk_at "go"
      refine g_len (.inl (sl hda)) ?_
      walk_at "go"
      rw [List.length_map]
      refine z _ ?_
      unfold flg b2i
      rw [hk, show decide (V.non = V.non) = true from decide_eq_true rfl]
      simp only [Option.isSome, Bool.not_true, Bool.not_false, Bool.false_eq_true, if_false, if_true]
      generalize (if g.cut = true then (1 : Int) else 0) = x1
      generalize (if g.marked = true then (1 : Int) else 0) = x2
      generalize (if decide (0 < (g.ds.length : Int)) = true then (1 : Int) else 0) = x3
      generalize (if g.reset = true then (1 : Int) else 0) = x4
      generalize (if g.syn = true then (1 : Int) else 0) = x5
      generalize (if g.fin = true then (1 : Int) else 0) = x6
      omega
    | some m =>
      rw [hk] at e
      simp only [oV] at e
      walk_at "go"
      refine g_len (.inl (sl hda)) ?_
      walk_at "go"
      rw [List.length_map]
      refine z _ ?_
      unfold flg b2i
      rw [hk, show decide (V.int m = V.non) = false from decide_eq_false (fun h => nomatch h)]
      simp only [Option.isSome, Bool.not_true, Bool.not_false, Bool.false_eq_true, if_false, if_true]
      generalize (if g.cut = true then (1 : Int) else 0) = x1
      generalize (if g.marked = true then (1 : Int) else 0) = x2
      generalize (if decide (0 < (g.ds.length : Int)) = true then (1 : Int) else 0) = x3
      generalize (if g.reset = true then (1 : Int) else 0) = x4
      generalize (if g.syn = true then (1 : Int) else 0) = x5
      generalize (if g.fin = true then (1 : Int) else 0) = x6
      omega
def hdr (g : Sg) (n : Int) : List Int := dg g.src 2 ++ (dg g.tgt 2 ++ (dg g.seq 4 ++ (dg (akN g) 4 ++ (16 * ((20 + n) / 4) :: flg g :: (dg g.window 2 ++ (dg 0 2 ++ dg 0 2))))))
def sp_write_header (C : Addr) : Sp := fun vs H Q _ => ∃ (p d r : Addr) (g : Sg) (n : Int), vs = [.ref p, .int n] ∧ SegO C H p g d r ∧ ∀ o H', H o = none → Same H H' → H' o = some (.lst ((hdr g n).map V.int)) → Q (.ref o) H'
theorem u_header {C p d r : Addr} {g : Sg} {n : Int} {H Q E} (h : SegO C H p g d r) (q : ∀ o H', H o = none → Same H H' → H' o = some (.lst ((hdr g n).map V.int)) → Q (.ref o) H') : sp_write_header C ([.ref p, .int n] ++ []) H Q E := ⟨p, d, r, g, n, rfl, h, q⟩
theorem ok_write_header (T : Txt K mg) : FnOk P w K mg base CX0 2 T.f_write_header T.d_write_header ["segment", "options_size"] (sp_write_header T.C_Segment) := by
  refine T.F_write_header.ok sc_write_header (fun vs H Q E h => ?_) (fun cdv A outer s H vs Q E hr h => ?_)
  · obtain ⟨p, d, r, g, n, rfl, hO, q⟩ := h
    rfl
  · obtain ⟨p, d, r, g, n, rfl, hO, q⟩ := h
    have hu := hu_of hr
    refine ⟨_, (pss_one (ps_ret (pe_lst (StX.pa_star (pe_call (ok_write_number T) (hr.mono (by decide)) rfl T.m_write_number T.F_write_number.kp T.b_write_number .nil pass0 (pa_cons (pe_fld (pv 0) rfl) (pa_cons pe_int pa_nil))) (StX.pa_star (pe_call (ok_write_number T) (hr.mono (by decide)) rfl T.m_write_number T.F_write_number.kp T.b_write_number .nil pass0 (pa_cons (pe_fld (pv 0) rfl) (pa_cons pe_int pa_nil))) (StX.pa_star (pe_call (ok_write_number T) (hr.mono (by decide)) rfl T.m_write_number T.F_write_number.kp T.b_write_number .nil pass0 (pa_cons (pe_fld (pv 0) rfl) (pa_cons pe_int pa_nil))) (StX.pa_star (pe_call (ok_write_number T) (hr.mono (by decide)) rfl T.m_write_number T.F_write_number.kp T.b_write_number .nil pass0 (pa_cons (pe_ifExp (pt_cmpR op_isN (pe_fld (pv 0) rfl) pe_non (nomark _)) pe_int (pe_fld (pv 0) rfl)) (pa_cons pe_int pa_nil))) (pa_cons (pe_op op_mul pe_int (pe_op op_fdiv (pe_op op_add (pe_glob (v := .int 20) (by rfl) T.v_HEADER_SIZE ⟨_, rfl⟩) (pv 1)) pe_int)) (pa_cons (pe_call (ok_flags T) (hr.mono (by decide)) rfl T.m_flags T.F_flags.kp T.b_flags .nil pass0 (pa_cons (pv 0) pa_nil)) (StX.pa_star (pe_call (ok_write_number T) (hr.mono (by decide)) rfl T.m_write_number T.F_write_number.kp T.b_write_number .nil pass0 (pa_cons (pe_fld (pv 0) rfl) (pa_cons pe_int pa_nil))) (StX.pa_star (pe_call (ok_write_number T) (hr.mono (by decide)) rfl T.m_write_number T.F_write_number.kp T.b_write_number .nil pass0 (pa_cons pe_int (pa_cons pe_int pa_nil))) (StX.pa_star (pe_call (ok_write_number T) (hr.mono (by decide)) rfl T.m_write_number T.F_write_number.kp T.b_write_number .nil pass0 (pa_cons pe_int (pa_cons pe_int pa_nil))) pa_nil)))))))))))), ?_⟩
    dsimp only [cxOf, Cx.nox, Cx.wish, L2.start, List.map, List.cons_append, List.nil_append, List.length_cons, List.length_nil, Nat.reduceAdd, Nat.reduceSub, Nat.zero_add, List.replicate_succ, List.replicate_zero]
    obtain ⟨dx, sv, e, hP⟩ := id hO
    unfold sgVs at e
    have hak : (g.ack = none ∧ akN g = 0) ∨ ∃ m, g.ack = some m ∧ akN g = m := by
      unfold akN
      cases g.ack with
      | none => exact .inl ⟨rfl, rfl⟩
      | some m => exact .inr ⟨m, rfl, rfl⟩
    rcases hak with ⟨hk, hak⟩ | ⟨m, hk, hak⟩
    all_goals
      rw [hk] at e
      simp only [oV] at e
      walk_at "go"
      intro l1 H1 n1 s1 k1
      refine ⟨_, _, rfl, .inr (sl k1), ?_⟩
      have e1 := s1 _ _ e
      walk_at "go"
      intro l2 H2 n2 s2 k2
      refine ⟨_, _, rfl, .inr (sl k2), ?_⟩
      have e2 := s2 _ _ e1
      walk_at "go"
      intro l3 H3 n3 s3 k3
      refine ⟨_, _, rfl, .inr (sl k3), ?_⟩
      have e3 := s3 _ _ e2
      have s03 := s1.trans (s2.trans s3)
      clear e e1 e2
      walk_at "go"
      intro l4 H4 n4 s4 k4
      refine ⟨_, _, rfl, .inr (sl k4), ?_⟩
      have hO4 := hO.same (s03.trans s4)
      walk_at "go"
      refine u_flags hO4 ?_
      have e4 := s4 _ _ e3
      clear e3
      walk_at "go"
      intro l5 H5 n5 s5 k5
      refine ⟨_, _, rfl, .inr (sl k5), ?_⟩
      clear e4
      walk_at "go"
      intro l6 H6 n6 s6 k6
      refine ⟨_, _, rfl, .inr (sl k6), ?_⟩
      walk_at "go"
      intro l7 H7 n7 s7 k7
      refine ⟨_, _, rfl, .inr (sl k7), ?_⟩
      walk_at "go"
      have s07 := s03.trans (s4.trans (s5.trans (s6.trans s7)))
      refine ⟨by simp only [List.length_append, List.length_cons, List.length_map, List.length_nil, dg_len]; exact sz (by decide), fun o ho => ?_⟩
      refine q o _ (s07.free ho) (s07.trans (same_upd ho)) ?_
      rw [upd_same]
      unfold hdr
      rw [hak]
      simp only [List.map_append, List.map_cons, List.append_nil]
      rfl
def wre (g : Sg) : List Int := hdr g (opts g).length ++ (opts g ++ g.ds)
theorem hdr_len {g : Sg} {n : Int} : (hdr g n).length = 20 := by
  unfold hdr
  simp only [List.length_append, List.length_cons, dg_len]
def enc (s t : Int) (g : Sg) : List Int := (wre g).take 16 ++ dg (-osum s t (wre g) % 65535) 2 ++ (wre g).drop 18
def sp_encode (C : Addr) : Sp := fun vs H Q _ => ∃ (s t : Int) (p d r : Addr) (g : Sg), vs = [.int s, .int t, .ref p] ∧ SegO C H p g d r ∧ g.ds.length ≤ 1000 ∧ ∀ o H', H o = none → Same H H' → H' o = some (.lst ((enc s t g).map V.int)) → Q (.ref o) H'
theorem u_encode {C p d r : Addr} {g : Sg} {s t : Int} {H Q E} (h : SegO C H p g d r) (hl : g.ds.length ≤ 1000) (q : ∀ o H', H o = none → Same H H' → H' o = some (.lst ((enc s t g).map V.int)) → Q (.ref o) H') : sp_encode C ([.int s, .int t, .ref p] ++ []) H Q E := ⟨s, t, p, d, r, g, rfl, h, hl, q⟩
theorem opts_len {g : Sg} : (opts g).length ≤ 40 := by
  have h := sgl_len (g := g)
  have h2 : (sgl g ++ oR g).length ≤ 40 := by
    rw [List.length_append]
    unfold oR
    split
    · simp only [List.length_cons, wp_len, List.length_take]
      unfold fit
      omega
    · show (sgl g).length + 0 ≤ 40
      omega
  unfold opts
  rw [List.length_append, List.length_replicate]
  omega
theorem g_cutset {to : TE} {tl th : TO} {v : V} {σ : St} {H : Hp} {Q : St → Hp → Prop} (h : to σ H fun o H1 => tl σ H1 fun a H2 => th σ H2 fun c H3 => ∃ (l b : Addr) (xs ys : List V) (i j : Int), o = .ref l ∧ v = .ref b ∧ a = some i ∧ c = some j ∧ H3 l = some (.lst xs) ∧ H3 b = some (.lst ys) ∧ l ≠ b ∧ 0 ≤ i ∧ i ≤ j ∧ j ≤ xs.length ∧ xs.length + ys.length ≤ sizeLine ∧ Q σ (upd H3 l (.lst (xs.take i.toNat ++ ys ++ xs.drop j.toNat)))) : gCutSet to tl th v σ H Q := h
local macro_rules | `(tactic| walk_at "use") => `(tactic| with_reducible refine g_cutset ?_)
theorem ok_encode (T : Txt K mg) : FnOk P w K mg base CX0 6 T.f_encode T.d_encode ["sender", "target", "segment"] (sp_encode T.C_Segment) := by
  refine T.F_encode.ok sc_encode (fun vs H Q E h => ?_) (fun cdv A outer s H vs Q E hr h => ?_)
  · obtain ⟨s0, t0, p, d, r, g, rfl, hO, hl, q⟩ := h
    rfl
  · obtain ⟨s0, t0, p, d, r, g, rfl, hO, hl, q⟩ := h
    have hu := hu_of hr
    refine ⟨_, (pss_cons (ps_set (i := 3) sc_encode.nd rfl (Or.inl rfl) (pe_call (ok_write_options T) (hr.mono (by decide)) rfl T.m_write_options T.F_write_options.kp T.b_write_options .nil pass0 (pa_cons (pv 2) pa_nil)))
        (pss_cons (ps_set (i := 4) sc_encode.nd rfl (Or.inl rfl) (pe_lst (StX.pa_star (pe_call (ok_write_header T) (hr.mono (by decide)) rfl T.m_write_header T.F_write_header.kp T.b_write_header .nil pass0 (pa_cons (pv 2) (pa_cons (pe_callB call_len_seq (by rfl) T.n_len (by decide +kernel) (pa_cons (pv 3) pa_nil)) pa_nil))) (StX.pa_star (pv 3) (StX.pa_star (pe_fld (pv 2) rfl) pa_nil)))))
        (pss_cons (ps_asg (pe_call (ok_write_number T) (hr.mono (by decide)) rfl T.m_write_number T.F_write_number.kp T.b_write_number .nil pass0 (pa_cons (pe_call (ok_checksum T) (hr.mono (by decide)) rfl T.m_checksum T.F_checksum.kp T.b_checksum .nil pass0 (pa_cons (pv 0) (pa_cons (pv 1) (pa_cons (pv 4) pa_nil)))) (pa_cons pe_int pa_nil))) (pg_cut (pv 4) (po_some pe_int) (po_some pe_int)))
        (pss_one (ps_ret (pv 4)))))), ?_⟩
    dsimp only [cxOf, Cx.nox, Cx.wish, L2.start, List.map, List.cons_append, List.nil_append, List.length_cons, List.length_nil, Nat.reduceAdd, Nat.reduceSub, Nat.zero_add, List.replicate_succ, List.replicate_zero]
    have ol := opts_len (g := g)
    walk_at "go"
    refine u_wopts hO fun o H1 no s1 eo => ?_
    have hO1 := hO.same s1
    walk_at "go"
    refine g_len (.inl (sl eo)) ?_
    walk_at "go"
    rw [List.length_map]
    refine u_header hO1 fun l2 H2 n2 s2 k2 => ?_
    refine ⟨_, _, rfl, .inr (sl k2), ?_⟩
    have eo2 := s2 _ _ eo
    obtain ⟨dx, sv, e, hda, hra, hsv⟩ := hO1.same s2
    unfold sgVs at e
    walk_at "go"
    refine ⟨_, _, rfl, .inr (sl eo2), ?_⟩
    walk_at "go"
    refine ⟨_, _, rfl, .inr (sl hda), ?_⟩
    walk_at "go"
    refine ⟨by simp only [List.length_append, List.length_map, List.length_nil, hdr_len]; exact sz (by omega), fun l3 h3 => ?_⟩
    generalize z1 : upd H2 l3 _ = H3
    have s3 : Same H2 H3 := by rw [← z1]; exact same_upd h3
    have k3 : H3 l3 = some (.lst ((wre g).map V.int)) := (congrFun z1 l3).symm.trans (upd_same.trans (by unfold wre; simp only [List.map_append, List.append_nil]))
    clear z1 e hda hra hsv
    have wl : (wre g).length ≤ 1060 := by unfold wre; rw [List.length_append, List.length_append, hdr_len]; omega
    have wl2 : 20 ≤ (wre g).length := by unfold wre; rw [List.length_append, hdr_len]; omega
    walk_at "go"
    refine u_chk (sl k3) (by omega) fun H4 s4 => ?_
    walk_at "go"
    intro l5 H5 n5 s5 k5
    have k35 := s5 _ _ (s4 _ _ k3)
    walk_at "go"
    have n35 : l3 ≠ l5 := fun z => by rw [← z, s4 _ _ k3] at n5; cases n5
    refine ⟨l3, l5, _, _, 16, 18, rfl, rfl, rfl, rfl, k35, k5, n35, by decide, by decide, by rw [List.length_map]; omega, by rw [List.length_map, List.length_map, dg_len]; exact sz (by show _ + 2 ≤ _; omega), ?_⟩
    walk_at "go"
    have s02 := s1.trans s2
    have b : But l3 H2 (upd H5 l3 (.lst (((wre g).map V.int).take (16 : Int).toNat ++ (dg (-osum s0 t0 (wre g) % 65535) (Int.toNat 2)).map V.int ++ ((wre g).map V.int).drop (18 : Int).toNat))) := (But.of (s3.trans (s4.trans s5))).upd
    refine q l3 _ (s02.free h3) (s02.trans (b.same h3)) ?_
    rw [upd_same]
    unfold enc
    simp only [List.map_append, List.map_take, List.map_drop]
    rfl

end
end My
namespace My
open PySem PySem.Spec L2
local macro_rules | `(tactic| walk_at "side") => `(tactic| first | assumption | decide | omega | exact ⟨by decide, by decide⟩ | exact ⟨by decide, by decide, by decide⟩ | decide +kernel | exact cdivW (by decide +kernel) (by decide +kernel) | exact Or.inl ⟨by omega, by omega⟩ | exact Or.inr ⟨by omega, by omega⟩ | (simp only [List.length_map, List.length_cons, List.length_nil, List.length_append]; omega))
local macro_rules | `(tactic| walk_at "fact") => `(tactic| first | assumption | omega | with_reducible rfl)
local macro_rules | `(tactic| walk_at "use") => `(tactic| fail "use")
local macro_rules | `(tactic| walk_at "go1") => `(tactic| with_reducible first | refine g_seq ?_ | refine g_asg ?_ | refine g_ret ?_ | refine g_ifS ?_ | refine g_drop ?_ | refine g_star ?_ | refine g_nx ?_ | refine g_rt ?_ | refine g_bkE ?_ | refine g_ctE ?_ | refine g_next ?_ | refine g_retN ?_ | refine g_brk ?_ | refine g_ct ?_ | refine g_c ?_ | refine g_op ?_ | refine g_un ?_ | refine g_rI0 ?_ | refine g_rU ?_ | refine g_rEqI ?_ | refine g_rNeI ?_ | refine g_isN ?_ | refine g_rIsB ?_ | refine g_rNotB ?_ | refine g_test ?_ | refine g_B ?_ | refine g_bl ?_ | refine g_and ?_ | refine g_or ?_ | refine g_not ?_ | refine g_andV ?_ | refine g_orV ?_ | refine g_notV ?_ | refine g_if ?_ | refine g_chain ?_ | refine g_yes ?_ | refine g_lc ?_ | refine g_revR ?_ | refine g_rng1 ?_ | refine g_iList ?_ | refine g_nil ?_ | refine g_cons ?_ | refine g_tup ?_ | refine g_lst ?_ | refine g_call ?_ | refine g_CB ?_ | refine g_sl ?_ | refine g_noPart ?_ | refine g_part ?_ | refine g_intE ?_ | refine g_ref ?_ | refine g_fld ?_ | refine g_sfld ?_ | refine g_meth ?_ | refine g_make ?_ | refine g_prop ?_  | refine g_ipI ?_ | refine g_int1 ?_ | refine g_int1B ?_ | refine g_one ?_ | refine g_two ?_ | refine g_isiI ?_ | refine g_isiIB ?_ | refine g_isiB ?_ | refine g_BM ?_ | refine g_BM0 ?_ | refine g_sub ?_)
local macro_rules | `(tactic| walk_at "go") => `(tactic| repeat (first | walk_at "go1" | ((with_reducible refine' g_nameE ?sd_ ?_); case sd_ => dsimp only [List.set_cons_succ, List.set_cons_zero]) | ((with_reducible refine' g_var ?sd_ ?_); case sd_ => exact rfl) | ((with_reducible refine' g_aug ?sd_ ?_); case sd_ => exact rfl) | ((with_reducible refine' g_rI ?sd_ ?_); case sd_ => walk_at "side") | ((with_reducible refine' g_dT ?sd_ ?_); case sd_ => walk_at "fact") | ((with_reducible refine' g_dF ?sd_ ?_); case sd_ => walk_at "fact") | ((with_reducible refine' g_nT ?sd_ ?_); case sd_ => walk_at "fact") | ((with_reducible refine' g_nF ?sd_ ?_); case sd_ => walk_at "fact") | (with_reducible refine g_iT rfl ?_) | (with_reducible refine g_iF rfl ?_) | walk_at "use"))
local macro_rules | `(tactic| walk_at "use") => `(tactic| first | ((with_reducible refine' dg_S_source ?ho_ ?hv_ ?_); (case ho_ => first | assumption | exact upd_same); (case hv_ => exact rfl)) | ((with_reducible refine' dg_S_target ?ho_ ?hv_ ?_); (case ho_ => first | assumption | exact upd_same); (case hv_ => exact rfl)) | ((with_reducible refine' dg_S_seq ?ho_ ?hv_ ?_); (case ho_ => first | assumption | exact upd_same); (case hv_ => exact rfl)) | ((with_reducible refine' dg_S_count ?ho_ ?hv_ ?_); (case ho_ => first | assumption | exact upd_same); (case hv_ => exact rfl)) | ((with_reducible refine' dg_S_echo ?ho_ ?hv_ ?_); (case ho_ => first | assumption | exact upd_same); (case hv_ => exact rfl)) | ((with_reducible refine' dg_S_ack ?ho_ ?hv_ ?_); (case ho_ => first | assumption | exact upd_same); (case hv_ => exact rfl)) | ((with_reducible refine' dg_S_syn ?ho_ ?hv_ ?_); (case ho_ => first | assumption | exact upd_same); (case hv_ => exact rfl)) | ((with_reducible refine' dg_S_fin ?ho_ ?hv_ ?_); (case ho_ => first | assumption | exact upd_same); (case hv_ => exact rfl)) | ((with_reducible refine' dg_S_reset ?ho_ ?hv_ ?_); (case ho_ => first | assumption | exact upd_same); (case hv_ => exact rfl)) | ((with_reducible refine' dg_S_marked ?ho_ ?hv_ ?_); (case ho_ => first | assumption | exact upd_same); (case hv_ => exact rfl)) | ((with_reducible refine' dg_S_cut ?ho_ ?hv_ ?_); (case ho_ => first | assumption | exact upd_same); (case hv_ => exact rfl)) | ((with_reducible refine' dg_S_ranges_known ?ho_ ?hv_ ?_); (case ho_ => first | assumption | exact upd_same); (case hv_ => exact rfl)) | ((with_reducible refine' dg_S_window ?ho_ ?hv_ ?_); (case ho_ => first | assumption | exact upd_same); (case hv_ => exact rfl)) | ((with_reducible refine' dg_S_mss ?ho_ ?hv_ ?_); (case ho_ => first | assumption | exact upd_same); (case hv_ => exact rfl)) | ((with_reducible refine' dg_S_scale ?ho_ ?hv_ ?_); (case ho_ => first | assumption | exact upd_same); (case hv_ => exact rfl)) | ((with_reducible refine' dg_S_ranges ?ho_ ?hv_ ?_); (case ho_ => first | assumption | exact upd_same); (case hv_ => exact rfl)) | ((with_reducible refine' dg_S_stamp ?ho_ ?hv_ ?_); (case ho_ => first | assumption | exact upd_same); (case hv_ => exact rfl)) | ((with_reducible refine' dg_S_data ?ho_ ?hv_ ?_); (case ho_ => first | assumption | exact upd_same); (case hv_ => exact rfl)) | ((with_reducible refine' dn_S_source ?ho_ ?hv_ ?_); (case ho_ => first | assumption | exact upd_same); (case hv_ => exact rfl)) | ((with_reducible refine' dn_S_target ?ho_ ?hv_ ?_); (case ho_ => first | assumption | exact upd_same); (case hv_ => exact rfl)) | ((with_reducible refine' dn_S_seq ?ho_ ?hv_ ?_); (case ho_ => first | assumption | exact upd_same); (case hv_ => exact rfl)) | ((with_reducible refine' dn_S_count ?ho_ ?hv_ ?_); (case ho_ => first | assumption | exact upd_same); (case hv_ => exact rfl)) | ((with_reducible refine' dn_S_echo ?ho_ ?hv_ ?_); (case ho_ => first | assumption | exact upd_same); (case hv_ => exact rfl)) | ((with_reducible refine' dn_S_ack ?ho_ ?hv_ ?_); (case ho_ => first | assumption | exact upd_same); (case hv_ => exact rfl)) | ((with_reducible refine' dn_S_syn ?ho_ ?hv_ ?_); (case ho_ => first | assumption | exact upd_same); (case hv_ => exact rfl)) | ((with_reducible refine' dn_S_fin ?ho_ ?hv_ ?_); (case ho_ => first | assumption | exact upd_same); (case hv_ => exact rfl)) | ((with_reducible refine' dn_S_reset ?ho_ ?hv_ ?_); (case ho_ => first | assumption | exact upd_same); (case hv_ => exact rfl)) | ((with_reducible refine' dn_S_marked ?ho_ ?hv_ ?_); (case ho_ => first | assumption | exact upd_same); (case hv_ => exact rfl)) | ((with_reducible refine' dn_S_cut ?ho_ ?hv_ ?_); (case ho_ => first | assumption | exact upd_same); (case hv_ => exact rfl)) | ((with_reducible refine' dn_S_ranges_known ?ho_ ?hv_ ?_); (case ho_ => first | assumption | exact upd_same); (case hv_ => exact rfl)) | ((with_reducible refine' dn_S_window ?ho_ ?hv_ ?_); (case ho_ => first | assumption | exact upd_same); (case hv_ => exact rfl)) | ((with_reducible refine' dn_S_mss ?ho_ ?hv_ ?_); (case ho_ => first | assumption | exact upd_same); (case hv_ => exact rfl)) | ((with_reducible refine' dn_S_scale ?ho_ ?hv_ ?_); (case ho_ => first | assumption | exact upd_same); (case hv_ => exact rfl)) | ((with_reducible refine' dn_S_ranges ?ho_ ?hv_ ?_); (case ho_ => first | assumption | exact upd_same); (case hv_ => exact rfl)) | ((with_reducible refine' dn_S_stamp ?ho_ ?hv_ ?_); (case ho_ => first | assumption | exact upd_same); (case hv_ => exact rfl)) | ((with_reducible refine' dn_S_data ?ho_ ?hv_ ?_); (case ho_ => first | assumption | exact upd_same); (case hv_ => exact rfl)) | ((with_reducible refine' dp_S_source ?ho_ ?hv_ ?_); (case ho_ => first | assumption | exact upd_same); (case hv_ => exact Nat.le_of_ble_eq_true rfl)) | ((with_reducible refine' dp_S_target ?ho_ ?hv_ ?_); (case ho_ => first | assumption | exact upd_same); (case hv_ => exact Nat.le_of_ble_eq_true rfl)) | ((with_reducible refine' dp_S_seq ?ho_ ?hv_ ?_); (case ho_ => first | assumption | exact upd_same); (case hv_ => exact Nat.le_of_ble_eq_true rfl)) | ((with_reducible refine' dp_S_count ?ho_ ?hv_ ?_); (case ho_ => first | assumption | exact upd_same); (case hv_ => exact Nat.le_of_ble_eq_true rfl)) | ((with_reducible refine' dp_S_echo ?ho_ ?hv_ ?_); (case ho_ => first | assumption | exact upd_same); (case hv_ => exact Nat.le_of_ble_eq_true rfl)) | ((with_reducible refine' dp_S_ack ?ho_ ?hv_ ?_); (case ho_ => first | assumption | exact upd_same); (case hv_ => exact Nat.le_of_ble_eq_true rfl)) | ((with_reducible refine' dp_S_syn ?ho_ ?hv_ ?_); (case ho_ => first | assumption | exact upd_same); (case hv_ => exact Nat.le_of_ble_eq_true rfl)) | ((with_reducible refine' dp_S_fin ?ho_ ?hv_ ?_); (case ho_ => first | assumption | exact upd_same); (case hv_ => exact Nat.le_of_ble_eq_true rfl)) | ((with_reducible refine' dp_S_reset ?ho_ ?hv_ ?_); (case ho_ => first | assumption | exact upd_same); (case hv_ => exact Nat.le_of_ble_eq_true rfl)) | ((with_reducible refine' dp_S_marked ?ho_ ?hv_ ?_); (case ho_ => first | assumption | exact upd_same); (case hv_ => exact Nat.le_of_ble_eq_true rfl)) | ((with_reducible refine' dp_S_cut ?ho_ ?hv_ ?_); (case ho_ => first | assumption | exact upd_same); (case hv_ => exact Nat.le_of_ble_eq_true rfl)) | ((with_reducible refine' dp_S_ranges_known ?ho_ ?hv_ ?_); (case ho_ => first | assumption | exact upd_same); (case hv_ => exact Nat.le_of_ble_eq_true rfl)) | ((with_reducible refine' dp_S_window ?ho_ ?hv_ ?_); (case ho_ => first | assumption | exact upd_same); (case hv_ => exact Nat.le_of_ble_eq_true rfl)) | ((with_reducible refine' dp_S_mss ?ho_ ?hv_ ?_); (case ho_ => first | assumption | exact upd_same); (case hv_ => exact Nat.le_of_ble_eq_true rfl)) | ((with_reducible refine' dp_S_scale ?ho_ ?hv_ ?_); (case ho_ => first | assumption | exact upd_same); (case hv_ => exact Nat.le_of_ble_eq_true rfl)) | ((with_reducible refine' dp_S_ranges ?ho_ ?hv_ ?_); (case ho_ => first | assumption | exact upd_same); (case hv_ => exact Nat.le_of_ble_eq_true rfl)) | ((with_reducible refine' dp_S_stamp ?ho_ ?hv_ ?_); (case ho_ => first | assumption | exact upd_same); (case hv_ => exact Nat.le_of_ble_eq_true rfl)) | ((with_reducible refine' dp_S_data ?ho_ ?hv_ ?_); (case ho_ => first | assumption | exact upd_same); (case hv_ => exact Nat.le_of_ble_eq_true rfl)))
local macro_rules | `(tactic| walk_at "use") => `(tactic| with_reducible first | refine g_dgetT ?_ | refine g_dputT ?_)
section
variable {P : Program} {w : World} {K : PySem.W.Frag} {mg : Str → Option Value} {base : Heap}
def sp_l_sum (K : PySem.W.Frag) : Sp := fun vs H Q _ => ∃ (s t : Int) (a : Addr) (ns : List Int), vs = [.int s, .int t, .ref a] ∧ SqL K H a (ns.map V.int) ∧ ns.length ≤ 5000 ∧ ∀ H', Same H H' → Q (.int (osum s t ns)) H'
theorem u_lsum {s t : Int} {a : Addr} {ns : List Int} {H Q E} (h : SqL K H a (ns.map V.int)) (hl : ns.length ≤ 5000) (q : ∀ H', Same H H' → Q (.int (osum s t ns)) H') : sp_l_sum K ([.int s, .int t, .ref a] ++ []) H Q E := ⟨s, t, a, ns, rfl, h, hl, q⟩
theorem ok_l_sum (T : Txt K mg) : FnOk P w K mg base CX0 1 T.f_l_sum T.d_l_sum ["sender", "target", "row"] (sp_l_sum K) := by
  refine T.F_l_sum.ok sc_l_sum (fun vs H Q E h => ?_) (fun cdv A outer s H vs Q E hr h => ?_)
  · obtain ⟨s0, t0, a, ns, rfl, h, hl, q⟩ := h
    rfl
  · obtain ⟨s0, t0, a, ns, rfl, h, hl, q⟩ := h
    have hu := hu_of hr
    refine ⟨_, (pss_cons (ps_set (i := 3) sc_l_sum.nd rfl (Or.inl rfl) (pe_op op_add (pe_op op_add (pe_op op_add (pv 0) (pv 1)) pe_int) (pe_callB call_len_seq (by rfl) T.n_len (by decide +kernel) (pa_cons (pv 2) pa_nil))))
        (pss_cons (ps_for PassesOwn.never rfl (pi_range1 (by rfl) T.n_range (pa_cons (pe_callB call_len_seq (by rfl) T.n_len (by decide +kernel) (pa_cons (pv 2) pa_nil)) pa_nil)) (pg_name (i := 4) sc_l_sum.nd rfl (Or.inl rfl)) (pss_one (ps_set (i := 3) sc_l_sum.nd rfl (Or.inl rfl) (pe_op op_add (pv 3) (pe_op op_mul (pe_ix ix_list (pe_lst (pa_cons pe_int (pa_cons pe_int pa_nil))) (pe_op op_mod (pv 4) pe_int) (fun _ _ => rfl)) (pe_ix ix_list (pv 2) (pv 4) (fun _ _ => rfl)))))))
        (pss_one (ps_ret (pv 3))))), ?_⟩
    dsimp only [cxOf, Cx.nox, Cx.wish, L2.start, List.map, List.cons_append, List.nil_append, List.length_cons, List.length_nil, Nat.reduceAdd, Nat.reduceSub, Nat.zero_add, List.replicate_succ, List.replicate_zero]
    walk_at "go"
    refine g_len (.inl h) ?_
    walk_at "go"
    rw [List.length_map]
    refine for_r (n := (ns.length : Int)) ns.length (by omega) (by omega) (by omega) (fun i σ H' => ∃ v, σ = [some (.int s0), some (.int t0), some (.ref a), some (.int (s0 + t0 + 6 + ns.length + ws (ns.take i))), v] ∧ Same H H') ⟨none, by rw [List.take_zero]; show _ = _; rw [show ws [] = 0 from rfl, Int.add_zero] <;> rfl, Same.refl H⟩ ?turn ?done ?ev
    case ev =>
      intro R r
      walk_at "go"
      refine g_len (.inl h) ?_
      walk_at "go"
      rw [List.length_map]
      exact r
    case done =>
      rintro σ H' ⟨v, rfl, sm⟩
      rw [List.take_length]
      walk_at "go"
      exact q H' sm
    case turn =>
      rintro i σ H' hi ⟨v, rfl, sm⟩
      obtain ⟨n, e, e2⟩ := atI_ints (xs := ns) (i := (i : Int)) (by omega) (by omega)
      walk_at "go"
      refine ⟨by decide, fun p hp => ?_⟩
      walk_at "go"
      have e3 : atI [V.int 256, V.int 1] ((i : Int) % 2) = some (.int (if i % 2 = 0 then 256 else 1)) := by
        by_cases hz : i % 2 = 0
        · rw [if_pos hz]
          refine at_of (j := 0) (by omega) rfl
        · rw [if_neg hz]
          refine at_of (j := 1) (by omega) rfl
      refine g_ixL (sl upd_same) e3 ?_
      walk_at "go"
      refine g_ixL (sq_upd hp (sm.seq h)) e ?_
      refine g_rI ?_ ?_
      · by_cases hz : i % 2 = 0
        · rw [if_pos hz]; exact .inl ⟨by decide, by decide⟩
        · rw [if_neg hz]; exact .inl ⟨by decide, by decide⟩
      walk_at "go"
      rw [Int.toNat_natCast] at e2
      refine ⟨some (.int (i : Int)), ?_, sm.trans (same_upd hp)⟩
      rw [ws_take e2, ← Int.add_assoc]
      all_goals rfl

theorem cut_lo {xs : List V} {k : Nat} : cutV xs none (some (k : Int)) = xs.take k := by
  unfold cutV
  rw [HT.sIx_none, HT.sIx_nat, List.drop_zero, Nat.sub_zero]
  rcases Nat.le_total k xs.length with z | z
  · rw [Nat.min_eq_left z]
  · rw [Nat.min_eq_right z, List.take_of_length_le (Nat.le_refl _), List.take_of_length_le z]
theorem cut_hi {xs : List V} {k : Nat} : cutV xs (some (k : Int)) none = xs.drop k := by
  unfold cutV
  rw [HT.sIx_none, HT.sIx_nat]
  rcases Nat.le_total k xs.length with z | z
  · rw [Nat.min_eq_left z, List.take_of_length_le (by rw [List.length_drop]; omega)]
  · rw [Nat.min_eq_right z, List.drop_of_length_le (Nat.le_refl _), List.drop_of_length_le z, List.take_nil]
def sld (s t : Int) (ns : List Int) : List Int := ns.take 16 ++ dg (-osum s t (ns.take 16 ++ [0, 0] ++ ns.drop 18) % 65535) 2 ++ ns.drop 18
def sp_l_sealed (K : PySem.W.Frag) : Sp := fun vs H Q _ => ∃ (s t : Int) (a : Addr) (ns : List Int), vs = [.int s, .int t, .ref a] ∧ H a = some (.lst (ns.map V.int)) ∧ ns.length ≤ 1100 ∧ ∀ o H', H o = none → Same H H' → H' o = some (.lst ((sld s t ns).map V.int)) → Q (.ref o) H'
theorem u_sealed {s t : Int} {a : Addr} {ns : List Int} {H Q E} (h : H a = some (.lst (ns.map V.int))) (hl : ns.length ≤ 1100) (q : ∀ o H', H o = none → Same H H' → H' o = some (.lst ((sld s t ns).map V.int)) → Q (.ref o) H') : sp_l_sealed K ([.int s, .int t, .ref a] ++ []) H Q E := ⟨s, t, a, ns, rfl, h, hl, q⟩
theorem ok_l_sealed (T : Txt K mg) : FnOk P w K mg base CX0 2 T.f_l_sealed T.d_l_sealed ["sender", "target", "octets"] (sp_l_sealed K) := by
  refine T.F_l_sealed.ok sc_l_sealed (fun vs H Q E h => ?_) (fun cdv A outer s H vs Q E hr h => ?_)
  · obtain ⟨s0, t0, a, ns, rfl, h, hl, q⟩ := h
    rfl
  · obtain ⟨s0, t0, a, ns, rfl, h, hl, q⟩ := h
    have hu := hu_of hr
    refine ⟨_, (pss_cons (ps_set (i := 3) sc_l_sealed.nd rfl (Or.inl rfl) (pe_op op_cat (pe_op op_cat (pe_slice sl_list (pv 2) po_none (po_some pe_int)) (pe_lst (pa_cons pe_int (pa_cons pe_int pa_nil)))) (pe_slice sl_list (pv 2) (po_some pe_int) po_none)))
        (pss_one (ps_ret (pe_op op_cat (pe_op op_cat (pe_slice sl_list (pv 2) po_none (po_some pe_int)) (pe_call (ok_l_digits T) (hr.mono (by decide)) rfl T.m_l_digits T.F_l_digits.kp T.b_l_digits .nil pass0 (pa_cons (pe_op op_mod (pe_op op_sub pe_int (pe_op op_mod (pe_callTy call_int1 (by rfl) T.n_int (by decide +kernel) (pa_cons (pe_call (ok_l_sum T) (hr.mono (by decide)) rfl T.m_l_sum T.F_l_sum.kp T.b_l_sum .nil pass0 (pa_cons (pv 0) (pa_cons (pv 1) (pa_cons (pv 3) pa_nil)))) pa_nil)) pe_int)) pe_int) (pa_cons pe_int pa_nil)))) (pe_slice sl_list (pv 2) (po_some pe_int) po_none))))), ?_⟩
    dsimp only [cxOf, Cx.nox, Cx.wish, L2.start, List.map, List.cons_append, List.nil_append, List.length_cons, List.length_nil, Nat.reduceAdd, Nat.reduceSub, Nat.zero_add, List.replicate_succ, List.replicate_zero]
    have l1 : (ns.take 16).length ≤ 16 := by rw [List.length_take]; omega
    have l2 : (ns.drop 18).length ≤ 1100 := by rw [List.length_drop]; omega
    walk_at "go"
    refine g_slL (sl h) fun p1 h1 => ?_
    generalize z1 : upd H p1 _ = H1
    have s1 : Same H H1 := by rw [← z1]; exact same_upd h1
    have k1 : H1 p1 = some (.lst ((ns.take 16).map V.int)) := (congrFun z1 p1).symm.trans (upd_same.trans (by rw [show ((16 : Int)) = ((16 : Nat) : Int) from rfl, cut_lo, List.map_take]))
    clear z1
    walk_at "go"
    refine ⟨by show 2 ≤ sizeLine; decide, fun p2 h2 => ?_⟩
    generalize z1 : upd H1 p2 _ = H2
    have s2 : Same H1 H2 := by rw [← z1]; exact same_upd h2
    have k2 : H2 p2 = some (.lst (([0, 0] : List Int).map V.int)) := (congrFun z1 p2).symm.trans upd_same
    clear z1
    walk_at "go"
    refine g_cat (s2 _ _ k1) k2 (by simp only [List.length_map, List.length_cons, List.length_nil]; exact sz (by omega)) fun p3 h3 => ?_
    generalize z1 : upd H2 p3 _ = H3
    have s3 : Same H2 H3 := by rw [← z1]; exact same_upd h3
    have k3 : H3 p3 = some (.lst ((ns.take 16 ++ [0, 0]).map V.int)) := (congrFun z1 p3).symm.trans (upd_same.trans (by rw [List.map_append]))
    clear z1
    have s03 := s1.trans (s2.trans s3)
    walk_at "go"
    refine g_slL (sl (s03 _ _ h)) fun p4 h4 => ?_
    generalize z1 : upd H3 p4 _ = H4
    have s4 : Same H3 H4 := by rw [← z1]; exact same_upd h4
    have k4 : H4 p4 = some (.lst ((ns.drop 18).map V.int)) := (congrFun z1 p4).symm.trans (upd_same.trans (by rw [show ((18 : Int)) = ((18 : Nat) : Int) from rfl, cut_hi, List.map_drop]))
    clear z1
    walk_at "go"
    refine g_cat (s4 _ _ k3) k4 (by simp only [List.length_map, List.length_append, List.length_cons, List.length_nil]; exact sz (by omega)) fun p5 h5 => ?_
    generalize z1 : upd H4 p5 _ = H5
    have s5 : Same H4 H5 := by rw [← z1]; exact same_upd h5
    have k5 : H5 p5 = some (.lst ((ns.take 16 ++ [0, 0] ++ ns.drop 18).map V.int)) := (congrFun z1 p5).symm.trans (upd_same.trans (by rw [← List.map_append]))
    clear z1
    have s05 := s03.trans (s4.trans s5)
    clear k1 k2 k3 k4
    walk_at "go"
    refine g_slL (sl (s05 _ _ h)) fun p6 h6 => ?_
    generalize z1 : upd H5 p6 _ = H6
    have s6 : Same H5 H6 := by rw [← z1]; exact same_upd h6
    have k6 : H6 p6 = some (.lst ((ns.take 16).map V.int)) := (congrFun z1 p6).symm.trans (upd_same.trans (by rw [show ((16 : Int)) = ((16 : Nat) : Int) from rfl, cut_lo, List.map_take]))
    clear z1
    walk_at "go"
    refine u_lsum (sl (s6 _ _ k5)) (by simp only [List.length_append, List.length_cons, List.length_nil]; omega) fun H7 s7 => ?_
    walk_at "go"
    have em : ∀ x : Int, (65535 - x % 65535) % 65535 = -x % 65535 := fun x => by omega
    rw [em]
    refine u_digits (by decide) fun p8 H8 n8 s8 k8 => ?_
    walk_at "go"
    refine g_cat (s8 _ _ (s7 _ _ k6)) k8 (by simp only [List.length_map, dg_len]; exact sz (by show _ + 2 ≤ _; omega)) fun p9 h9 => ?_
    generalize z1 : upd H8 p9 _ = H9
    have s9 : Same H8 H9 := by rw [← z1]; exact same_upd h9
    have k9 : H9 p9 = some (.lst ((ns.take 16 ++ dg (-osum s0 t0 (ns.take 16 ++ [0, 0] ++ ns.drop 18) % 65535) 2).map V.int)) := (congrFun z1 p9).symm.trans (upd_same.trans (by rw [List.map_append]; rfl))
    clear z1
    have s09 := s05.trans (s6.trans (s7.trans (s8.trans s9)))
    walk_at "go"
    refine g_slL (sl (s09 _ _ h)) fun p10 h10 => ?_
    generalize z1 : upd H9 p10 _ = H10
    have s10 : Same H9 H10 := by rw [← z1]; exact same_upd h10
    have k10 : H10 p10 = some (.lst ((ns.drop 18).map V.int)) := (congrFun z1 p10).symm.trans (upd_same.trans (by rw [show ((18 : Int)) = ((18 : Nat) : Int) from rfl, cut_hi, List.map_drop]))
    clear z1
    walk_at "go"
    refine g_cat (s10 _ _ k9) k10 (by simp only [List.length_map, List.length_append, dg_len]; exact sz (by omega)) fun p11 h11 => ?_
    have s010 := s09.trans s10
    refine q p11 _ (s010.free h11) (s010.trans (same_upd h11)) ?_
    rw [upd_same, ← List.map_append]
    rfl
theorem hak {g : Sg} : (g.ack = none ∧ akN g = 0) ∨ ∃ m, g.ack = some m ∧ akN g = m := by
  unfold akN
  cases g.ack with
  | none => exact .inl ⟨rfl, rfl⟩
  | some m => exact .inr ⟨m, rfl, rfl⟩
def sp_l_flags (K : PySem.W.Frag) : Sp := fun vs H Q _ => ∃ (p da ra : Addr) (g : Sg), vs = [.ref p] ∧ SegD H p g da ra ∧ Q (.int (flg g)) H
theorem u_lflags {p da ra : Addr} {g : Sg} {H Q E} (h : SegD H p g da ra) (q : Q (.int (flg g)) H) : sp_l_flags K ([.ref p] ++ []) H Q E := ⟨p, da, ra, g, rfl, h, q⟩
theorem ok_l_flags (T : Txt K mg) : FnOk P w K mg base CX0 1 T.f_l_flags T.d_l_flags ["parts"] (sp_l_flags K) := by
  refine T.F_l_flags.ok sc_l_flags (fun vs H Q E h => ?_) (fun cdv A outer s H vs Q E hr h => ?_)
  · obtain ⟨p, da, ra, g, rfl, hD, q⟩ := h
    rfl
  · obtain ⟨p, da, ra, g, rfl, hD, q⟩ := h
    have hu := hu_of hr
    refine ⟨_, (pss_cons (ps_set (i := 1) sc_l_flags.nd rfl (Or.inl rfl) (pe_op op_add (pe_op op_add (pe_op op_mul pe_int (pe_callTy call_int1 (by rfl) T.n_int (by decide +kernel) (pa_cons (pe_dget hu (pv 0) pe_str (fun _ _ => rfl)) pa_nil))) (pe_op op_mul pe_int (pe_callTy call_int1 (by rfl) T.n_int (by decide +kernel) (pa_cons (pe_dget hu (pv 0) pe_str (fun _ _ => rfl)) pa_nil)))) (pe_op op_mul pe_int (pe_callTy call_int1 (by rfl) T.n_int (by decide +kernel) (pa_cons (pe_cmpR op_notN (pe_dget hu (pv 0) pe_str (fun _ _ => rfl)) pe_non (nomark _)) pa_nil)))))
        (pss_cons (ps_set (i := 1) sc_l_flags.nd rfl (Or.inl rfl) (pe_op op_add (pe_op op_add (pv 1) (pe_op op_mul pe_int (pe_callTy call_int1 (by rfl) T.n_int (by decide +kernel) (pa_cons (pe_cmpR op_gt (pe_callB call_len_seq (by rfl) T.n_len (by decide +kernel) (pa_cons (pe_dget hu (pv 0) pe_str (fun _ _ => rfl)) pa_nil)) pe_int (nomark _)) pa_nil)))) (pe_op op_mul pe_int (pe_callTy call_int1 (by rfl) T.n_int (by decide +kernel) (pa_cons (pe_dget hu (pv 0) pe_str (fun _ _ => rfl)) pa_nil)))))
        (pss_one (ps_ret (pe_op op_add (pe_op op_add (pv 1) (pe_op op_mul pe_int (pe_callTy call_int1 (by rfl) T.n_int (by decide +kernel) (pa_cons (pe_dget hu (pv 0) pe_str (fun _ _ => rfl)) pa_nil)))) (pe_callTy call_int1 (by rfl) T.n_int (by decide +kernel) (pa_cons (pe_dget hu (pv 0) pe_str (fun _ _ => rfl)) pa_nil))))))), ?_⟩
    dsimp only [cxOf, Cx.nox, Cx.wish, L2.start, List.map, List.cons_append, List.nil_append, List.length_cons, List.length_nil, Nat.reduceAdd, Nat.reduceSub, Nat.zero_add, List.replicate_succ, List.replicate_zero]
    obtain ⟨sv, e, hda, hra, hsv⟩ := hD
    have z : ∀ x : Int, x = flg g → Q (.int x) H := fun x e => e ▸ q
    have hb : ∀ b : Bool, b2i b = if b = true then 1 else 0 := fun _ => rfl
    rcases hak (g := g) with ⟨hk, _⟩ | ⟨m, hk, _⟩
    · rw [hk] at e
      simp only [oV] at e
      walk_at "go"
      refine g_len (.inl (sl hda)) ?_
      walk_at "go"
      rw [List.length_map]
      refine z _ ?_
      unfold flg b2i
      rw [hk, show decide (V.non = V.non) = true from decide_eq_true rfl]
      simp only [Option.isSome, Bool.not_true, Bool.not_false, Bool.false_eq_true, if_false, if_true]
    · rw [hk] at e
      simp only [oV] at e
      walk_at "go"
      refine g_len (.inl (sl hda)) ?_
      walk_at "go"
      rw [List.length_map]
      refine z _ ?_
      unfold flg b2i
      rw [hk, show decide (V.int m = V.non) = false from decide_eq_false (fun h => nomatch h)]
      simp only [Option.isSome, Bool.not_true, Bool.not_false, Bool.false_eq_true, if_false, if_true]
theorem dg02 : dg 0 2 = [0, 0] := by decide
def wA (g : Sg) : List Int := dg g.src 2 ++ (dg g.tgt 2 ++ (dg g.seq 4 ++ (dg (akN g) 4 ++ (16 * ((20 + ((opts g).length : Int)) / 4) :: flg g :: dg g.window 2))))
theorem wA_len {g : Sg} : (wA g).length = 16 := by
  unfold wA
  simp only [List.length_append, List.length_cons, dg_len]
theorem wre_eq {g : Sg} : wre g = wA g ++ ([0, 0] ++ ([0, 0] ++ (opts g ++ g.ds))) := by
  unfold wre hdr wA
  rw [dg02]
  simp only [List.append_assoc, List.cons_append, List.nil_append]
theorem wre_take {g : Sg} : (wre g).take 16 = wA g := by rw [wre_eq, List.take_left' wA_len]
theorem wre_drop {g : Sg} : (wre g).drop 18 = [0, 0] ++ (opts g ++ g.ds) := by
  rw [wre_eq, ← List.append_assoc, List.drop_left' (by rw [List.length_append, wA_len]; rfl)]
theorem seal_wre {s t : Int} {g : Sg} : sld s t (wre g) = enc s t g := by
  unfold sld enc
  have e : wA g ++ [0, 0] ++ ([0, 0] ++ (opts g ++ g.ds)) = wre g := by rw [wre_eq, List.append_assoc]
  rw [wre_take, wre_drop, e]
def sp_l_written (K : PySem.W.Frag) : Sp := fun vs H Q _ => ∃ (s t : Int) (p da ra o : Addr) (g : Sg), vs = [.int s, .int t, .ref p, .ref o] ∧ SegD H p g da ra ∧ SgOk g ∧ H o = some (.lst ((opts g).map V.int)) ∧ ∀ o H', H o = none → Same H H' → H' o = some (.lst ((enc s t g).map V.int)) → Q (.ref o) H'
theorem u_lwritten {s t : Int} {p da ra o : Addr} {g : Sg} {H Q E} (h : SegD H p g da ra) (ok : SgOk g) (ho : H o = some (.lst ((opts g).map V.int))) (q : ∀ o H', H o = none → Same H H' → H' o = some (.lst ((enc s t g).map V.int)) → Q (.ref o) H') : sp_l_written K ([.int s, .int t, .ref p, .ref o] ++ []) H Q E := ⟨s, t, p, da, ra, o, g, rfl, h, ok, ho, q⟩
theorem ok_l_written (T : Txt K mg) : FnOk P w K mg base CX0 3 T.f_l_written T.d_l_written ["sender", "target", "parts", "options"] (sp_l_written K) := by
  refine T.F_l_written.ok sc_l_written (fun vs H Q E h => ?_) (fun cdv A outer s H vs Q E hr h => ?_)
  · obtain ⟨s0, t0, p, da, ra, o, g, rfl, hD, ok, ho, q⟩ := h
    rfl
  · obtain ⟨s0, t0, p, da, ra, o, g, rfl, hD, ok, ho, q⟩ := h
    have hu := hu_of hr
    refine ⟨_, (pss_cons (ps_set (i := 4) sc_l_written.nd rfl (Or.inl rfl) pe_int)
        (C8.pss_cut (ps_if (pt_cmpR op_notN (pe_dget hu (pv 2) pe_str (fun _ _ => rfl)) pe_non (nomark _)) (pss_one (ps_set (i := 4) sc_l_written.nd rfl (Or.inl rfl) (pe_dget hu (pv 2) pe_str (fun _ _ => rfl)))) pss_nil)
        (pss_cons (ps_set (i := 5) sc_l_written.nd rfl (Or.inl rfl) (pe_op op_cat (pe_op op_cat (pe_call (ok_l_digits T) (hr.mono (by decide)) rfl T.m_l_digits T.F_l_digits.kp T.b_l_digits .nil pass0 (pa_cons (pe_dget hu (pv 2) pe_str (fun _ _ => rfl)) (pa_cons pe_int pa_nil))) (pe_call (ok_l_digits T) (hr.mono (by decide)) rfl T.m_l_digits T.F_l_digits.kp T.b_l_digits .nil pass0 (pa_cons (pe_dget hu (pv 2) pe_str (fun _ _ => rfl)) (pa_cons pe_int pa_nil)))) (pe_call (ok_l_digits T) (hr.mono (by decide)) rfl T.m_l_digits T.F_l_digits.kp T.b_l_digits .nil pass0 (pa_cons (pe_dget hu (pv 2) pe_str (fun _ _ => rfl)) (pa_cons pe_int pa_nil)))))
        (pss_cons (ps_set (i := 5) sc_l_written.nd rfl (Or.inl rfl) (pe_op op_cat (pe_op op_cat (pv 5) (pe_call (ok_l_digits T) (hr.mono (by decide)) rfl T.m_l_digits T.F_l_digits.kp T.b_l_digits .nil pass0 (pa_cons (pv 4) (pa_cons pe_int pa_nil)))) (pe_lst (pa_cons (pe_op op_mul pe_int (pe_op op_add pe_int (pe_op op_fdiv (pe_callB call_len_seq (by rfl) T.n_len (by decide +kernel) (pa_cons (pv 3) pa_nil)) pe_int))) (pa_cons (pe_call (ok_l_flags T) (hr.mono (by decide)) rfl T.m_l_flags T.F_l_flags.kp T.b_l_flags .nil pass0 (pa_cons (pv 2) pa_nil)) pa_nil)))))
        (pss_cons (ps_set (i := 5) sc_l_written.nd rfl (Or.inl rfl) (pe_op op_cat (pe_op op_cat (pe_op op_cat (pe_op op_cat (pv 5) (pe_call (ok_l_digits T) (hr.mono (by decide)) rfl T.m_l_digits T.F_l_digits.kp T.b_l_digits .nil pass0 (pa_cons (pe_dget hu (pv 2) pe_str (fun _ _ => rfl)) (pa_cons pe_int pa_nil)))) (pe_lst (pa_cons pe_int (pa_cons pe_int (pa_cons pe_int (pa_cons pe_int pa_nil)))))) (pv 3)) (pe_dget hu (pv 2) pe_str (fun _ _ => rfl))))
        (pss_one (ps_ret (pe_call (ok_l_sealed T) (hr.mono (by decide)) rfl T.m_l_sealed T.F_l_sealed.kp T.b_l_sealed .nil pass0 (pa_cons (pv 0) (pa_cons (pv 1) (pa_cons (pv 5) pa_nil))))))))))), ?_⟩
    dsimp only [cxOf, Cx.nox, Cx.wish, L2.start, List.map, List.cons_append, List.nil_append, List.length_cons, List.length_nil, Nat.reduceAdd, Nat.reduceSub, Nat.zero_add, List.replicate_succ, List.replicate_zero]
    have ol := opts_len (g := g)
    have dl := ok.dl
    obtain ⟨sv, e, hda, hra, hsv⟩ := id hD
    walk_at "go"
    refine g_cut (fun σ' H' => H' = H ∧ σ' = [some (.int s0), some (.int t0), some (.ref p), some (.ref o), some (.int (akN g)), none]) ?_ ?_
    · rcases hak (g := g) with ⟨hk, hk2⟩ | ⟨m, hk, hk2⟩
      · rw [hk] at e
        simp only [oV] at e
        walk_at "go"
        rw [hk2]
        exact ⟨rfl, rfl⟩
      · rw [hk] at e
        simp only [oV] at e
        walk_at "go"
        rw [hk2]
        exact ⟨rfl, rfl⟩
    rintro σ' H' ⟨rfl, rfl⟩
    walk_at "go"
    refine u_digits (by decide) fun p1 H1 n1 s1 k1 => ?_
    have e1 := s1 _ _ e
    walk_at "go"
    refine u_digits (by decide) fun p2 H2 n2 s2 k2 => ?_
    have e2 := s2 _ _ e1
    walk_at "go"
    refine g_cat (s2 _ _ k1) k2 (by simp only [List.length_map, dg_len]; exact sz (by decide)) fun p3 h3 => ?_
    generalize z1 : upd H2 p3 _ = H3
    have s3 : Same H2 H3 := by rw [← z1]; exact same_upd h3
    have k3 : H3 p3 = some (.lst ((dg g.src 2 ++ dg g.tgt 2).map V.int)) := (congrFun z1 p3).symm.trans (upd_same.trans (by rw [List.map_append]; rfl))
    clear z1 k1 k2 e1
    have e3 := s3 _ _ e2
    clear e2
    walk_at "go"
    refine u_digits (by decide) fun p4 H4 n4 s4 k4 => ?_
    have e4 := s4 _ _ e3
    clear e3
    walk_at "go"
    refine g_cat (s4 _ _ k3) k4 (by simp only [List.length_map, List.length_append, dg_len]; exact sz (by decide)) fun p5 h5 => ?_
    generalize z1 : upd H4 p5 _ = H5
    have s5 : Same H4 H5 := by rw [← z1]; exact same_upd h5
    have k5 : H5 p5 = some (.lst ((dg g.src 2 ++ dg g.tgt 2 ++ dg g.seq 4).map V.int)) := (congrFun z1 p5).symm.trans (upd_same.trans (by rw [← List.map_append]; rfl))
    clear z1 k3 k4
    have e5 := s5 _ _ e4
    clear e4
    walk_at "go"
    refine u_digits (by decide) fun p6 H6 n6 s6 k6 => ?_
    have e6 := s6 _ _ e5
    clear e5
    walk_at "go"
    refine g_cat (s6 _ _ k5) k6 (by simp only [List.length_map, List.length_append, dg_len]; exact sz (by decide)) fun p7 h7 => ?_
    generalize z1 : upd H6 p7 _ = H7
    have s7 : Same H6 H7 := by rw [← z1]; exact same_upd h7
    have k7 : H7 p7 = some (.lst ((dg g.src 2 ++ dg g.tgt 2 ++ dg g.seq 4 ++ dg (akN g) 4).map V.int)) := (congrFun z1 p7).symm.trans (upd_same.trans (by rw [← List.map_append]; rfl))
    clear z1 k5 k6
    have e7 := s7 _ _ e6
    clear e6
    have s07 := s1.trans (s2.trans (s3.trans (s4.trans (s5.trans (s6.trans s7)))))
    walk_at "go"
    refine g_len (.inl (sl (s07 _ _ ho))) ?_
    walk_at "go"
    rw [List.length_map]
    refine u_lflags (hD.same s07) ?_
    walk_at "go"
    refine ⟨by show 2 ≤ sizeLine; decide, fun p8 h8 => ?_⟩
    generalize z1 : upd H7 p8 _ = H8
    have s8 : Same H7 H8 := by rw [← z1]; exact same_upd h8
    have k8 : H8 p8 = some (.lst (([16 * ((20 + ((opts g).length : Int)) / 4), flg g] : List Int).map V.int)) := (congrFun z1 p8).symm.trans (upd_same.trans (by rw [show (20 + ((opts g).length : Int)) / 4 = 5 + ((opts g).length : Int) / 4 by omega]; rfl))
    clear z1
    have e8 := s8 _ _ e7
    clear e7
    walk_at "go"
    refine g_cat (s8 _ _ k7) k8 (by simp only [List.length_map, List.length_append, List.length_cons, List.length_nil, dg_len]; exact sz (by decide)) fun p9 h9 => ?_
    generalize z1 : upd H8 p9 _ = H9
    have s9 : Same H8 H9 := by rw [← z1]; exact same_upd h9
    have k9 : H9 p9 = some (.lst ((dg g.src 2 ++ dg g.tgt 2 ++ dg g.seq 4 ++ dg (akN g) 4 ++ [16 * ((20 + ((opts g).length : Int)) / 4), flg g]).map V.int)) := (congrFun z1 p9).symm.trans (upd_same.trans (by rw [← List.map_append]))
    clear z1 k7 k8
    have e9 := s9 _ _ e8
    clear e8
    walk_at "go"
    refine u_digits (by decide) fun p10 H10 n10 s10 k10 => ?_
    have e10 := s10 _ _ e9
    clear e9
    walk_at "go"
    refine g_cat (s10 _ _ k9) k10 (by simp only [List.length_map, List.length_append, List.length_cons, List.length_nil, dg_len]; exact sz (by decide)) fun p11 h11 => ?_
    generalize z1 : upd H10 p11 _ = H11
    have s11 : Same H10 H11 := by rw [← z1]; exact same_upd h11
    have k11 : H11 p11 = some (.lst ((wA g).map V.int)) := (congrFun z1 p11).symm.trans (upd_same.trans (by rw [← List.map_append]; unfold wA; simp only [List.append_assoc, List.cons_append, List.nil_append]; rfl))
    clear z1 k9 k10
    have e11 := s11 _ _ e10
    clear e10
    walk_at "go"
    refine ⟨by show 4 ≤ sizeLine; decide, fun p12 h12 => ?_⟩
    generalize z1 : upd H11 p12 _ = H12
    have s12 : Same H11 H12 := by rw [← z1]; exact same_upd h12
    have k12 : H12 p12 = some (.lst (([0, 0, 0, 0] : List Int).map V.int)) := (congrFun z1 p12).symm.trans upd_same
    clear z1
    have e12 := s12 _ _ e11
    clear e11
    have wl := wA_len (g := g)
    walk_at "go"
    refine g_cat (s12 _ _ k11) k12 (by simp only [List.length_map, wl]; exact sz (by decide)) fun p13 h13 => ?_
    generalize z1 : upd H12 p13 _ = H13
    have s13 : Same H12 H13 := by rw [← z1]; exact same_upd h13
    have k13 : H13 p13 = some (.lst ((wA g ++ [0, 0, 0, 0]).map V.int)) := (congrFun z1 p13).symm.trans (upd_same.trans (by rw [← List.map_append]))
    clear z1 k11 k12
    have e13 := s13 _ _ e12
    clear e12
    have s713 := s8.trans (s9.trans (s10.trans (s11.trans (s12.trans s13))))
    have s013 := s07.trans s713
    walk_at "go"
    refine g_cat k13 (s013 _ _ ho) (by simp only [List.length_map, List.length_append, List.length_cons, List.length_nil, wl]; exact sz (by omega)) fun p14 h14 => ?_
    generalize z1 : upd H13 p14 _ = H14
    have s14 : Same H13 H14 := by rw [← z1]; exact same_upd h14
    have k14 : H14 p14 = some (.lst ((wA g ++ [0, 0, 0, 0] ++ opts g).map V.int)) := (congrFun z1 p14).symm.trans (upd_same.trans (by rw [← List.map_append]))
    clear z1 k13
    have e14 := s14 _ _ e13
    clear e13
    walk_at "go"
    refine g_cat k14 ((s013.trans s14) _ _ hda) (by simp only [List.length_map, List.length_append, List.length_cons, List.length_nil, wl]; exact sz (by omega)) fun p15 h15 => ?_
    generalize z1 : upd H14 p15 _ = H15
    have s15 : Same H14 H15 := by rw [← z1]; exact same_upd h15
    have k15 : H15 p15 = some (.lst ((wre g).map V.int)) := (congrFun z1 p15).symm.trans (upd_same.trans (by rw [← List.map_append, wre_eq]; simp only [List.append_assoc, List.cons_append, List.nil_append]))
    clear z1 k14
    have s015 := s013.trans (s14.trans s15)
    have hw : (wre g).length ≤ 1100 := by rw [wre_eq]; simp only [List.length_append, List.length_cons, List.length_nil, wl]; omega
    walk_at "go"
    refine u_sealed k15 hw fun p16 H16 n16 s16 k16 => ?_
    rw [seal_wre] at k16
    exact q p16 H16 (s015.free n16) (s015.trans s16) k16

end
end My
namespace My
open PySem PySem.Spec L2
local macro_rules | `(tactic| walk_at "side") => `(tactic| first | assumption | decide | omega | exact ⟨by decide, by decide⟩ | exact ⟨by decide, by decide, by decide⟩ | decide +kernel | exact cdivW (by decide +kernel) (by decide +kernel) | exact Or.inl ⟨by omega, by omega⟩ | exact Or.inr ⟨by omega, by omega⟩ | (simp only [List.length_map, List.length_cons, List.length_nil, List.length_append]; omega))
local macro_rules | `(tactic| walk_at "fact") => `(tactic| first | assumption | omega | with_reducible rfl)
local macro_rules | `(tactic| walk_at "use") => `(tactic| fail "use")
local macro_rules | `(tactic| walk_at "go1") => `(tactic| with_reducible first | refine g_seq ?_ | refine g_asg ?_ | refine g_ret ?_ | refine g_ifS ?_ | refine g_drop ?_ | refine g_star ?_ | refine g_nx ?_ | refine g_rt ?_ | refine g_bkE ?_ | refine g_ctE ?_ | refine g_next ?_ | refine g_retN ?_ | refine g_brk ?_ | refine g_ct ?_ | refine g_c ?_ | refine g_op ?_ | refine g_un ?_ | refine g_rI0 ?_ | refine g_rU ?_ | refine g_rEqI ?_ | refine g_rNeI ?_ | refine g_isN ?_ | refine g_rIsB ?_ | refine g_rNotB ?_ | refine g_test ?_ | refine g_B ?_ | refine g_bl ?_ | refine g_and ?_ | refine g_or ?_ | refine g_not ?_ | refine g_andV ?_ | refine g_orV ?_ | refine g_notV ?_ | refine g_if ?_ | refine g_chain ?_ | refine g_yes ?_ | refine g_lc ?_ | refine g_revR ?_ | refine g_rng1 ?_ | refine g_iList ?_ | refine g_nil ?_ | refine g_cons ?_ | refine g_tup ?_ | refine g_lst ?_ | refine g_call ?_ | refine g_CB ?_ | refine g_sl ?_ | refine g_noPart ?_ | refine g_part ?_ | refine g_intE ?_ | refine g_ref ?_ | refine g_fld ?_ | refine g_sfld ?_ | refine g_meth ?_ | refine g_make ?_ | refine g_prop ?_  | refine g_ipI ?_ | refine g_int1 ?_ | refine g_int1B ?_ | refine g_one ?_ | refine g_two ?_ | refine g_isiI ?_ | refine g_isiIB ?_ | refine g_isiB ?_ | refine g_BM ?_ | refine g_BM0 ?_ | refine g_sub ?_)
local macro_rules | `(tactic| walk_at "go") => `(tactic| repeat (first | walk_at "go1" | ((with_reducible refine' g_nameE ?sd_ ?_); case sd_ => dsimp only [List.set_cons_succ, List.set_cons_zero]) | ((with_reducible refine' g_var ?sd_ ?_); case sd_ => exact rfl) | ((with_reducible refine' g_aug ?sd_ ?_); case sd_ => exact rfl) | ((with_reducible refine' g_rI ?sd_ ?_); case sd_ => walk_at "side") | ((with_reducible refine' g_dT ?sd_ ?_); case sd_ => walk_at "fact") | ((with_reducible refine' g_dF ?sd_ ?_); case sd_ => walk_at "fact") | ((with_reducible refine' g_nT ?sd_ ?_); case sd_ => walk_at "fact") | ((with_reducible refine' g_nF ?sd_ ?_); case sd_ => walk_at "fact") | (with_reducible refine g_iT rfl ?_) | (with_reducible refine g_iF rfl ?_) | walk_at "use"))
local macro_rules | `(tactic| walk_at "use") => `(tactic| first | ((with_reducible refine' fd_Segment_source ?ho_ ?hv_ ?_); (case ho_ => first | assumption | exact upd_same); (case hv_ => exact rfl)) | ((with_reducible refine' fd_Segment_target ?ho_ ?hv_ ?_); (case ho_ => first | assumption | exact upd_same); (case hv_ => exact rfl)) | ((with_reducible refine' fd_Segment_seq ?ho_ ?hv_ ?_); (case ho_ => first | assumption | exact upd_same); (case hv_ => exact rfl)) | ((with_reducible refine' fd_Segment_count ?ho_ ?hv_ ?_); (case ho_ => first | assumption | exact upd_same); (case hv_ => exact rfl)) | ((with_reducible refine' fd_Segment_echo ?ho_ ?hv_ ?_); (case ho_ => first | assumption | exact upd_same); (case hv_ => exact rfl)) | ((with_reducible refine' fd_Segment_ack ?ho_ ?hv_ ?_); (case ho_ => first | assumption | exact upd_same); (case hv_ => exact rfl)) | ((with_reducible refine' fd_Segment_syn ?ho_ ?hv_ ?_); (case ho_ => first | assumption | exact upd_same); (case hv_ => exact rfl)) | ((with_reducible refine' fd_Segment_fin ?ho_ ?hv_ ?_); (case ho_ => first | assumption | exact upd_same); (case hv_ => exact rfl)) | ((with_reducible refine' fd_Segment_reset ?ho_ ?hv_ ?_); (case ho_ => first | assumption | exact upd_same); (case hv_ => exact rfl)) | ((with_reducible refine' fd_Segment_marked ?ho_ ?hv_ ?_); (case ho_ => first | assumption | exact upd_same); (case hv_ => exact rfl)) | ((with_reducible refine' fd_Segment_cut ?ho_ ?hv_ ?_); (case ho_ => first | assumption | exact upd_same); (case hv_ => exact rfl)) | ((with_reducible refine' fd_Segment_window ?ho_ ?hv_ ?_); (case ho_ => first | assumption | exact upd_same); (case hv_ => exact rfl)) | ((with_reducible refine' fd_Segment_mss ?ho_ ?hv_ ?_); (case ho_ => first | assumption | exact upd_same); (case hv_ => exact rfl)) | ((with_reducible refine' fd_Segment_scale ?ho_ ?hv_ ?_); (case ho_ => first | assumption | exact upd_same); (case hv_ => exact rfl)) | ((with_reducible refine' fd_Segment_ranges_known ?ho_ ?hv_ ?_); (case ho_ => first | assumption | exact upd_same); (case hv_ => exact rfl)) | ((with_reducible refine' fd_Segment_ranges ?ho_ ?hv_ ?_); (case ho_ => first | assumption | exact upd_same); (case hv_ => exact rfl)) | ((with_reducible refine' fd_Segment_stamp ?ho_ ?hv_ ?_); (case ho_ => first | assumption | exact upd_same); (case hv_ => exact rfl)) | ((with_reducible refine' fd_Segment_data ?ho_ ?hv_ ?_); (case ho_ => first | assumption | exact upd_same); (case hv_ => exact rfl)) | ((with_reducible refine' nw_Segment_source ?ho_ ?hv_ ?_); (case ho_ => first | assumption | exact upd_same); (case hv_ => exact rfl)) | ((with_reducible refine' nw_Segment_target ?ho_ ?hv_ ?_); (case ho_ => first | assumption | exact upd_same); (case hv_ => exact rfl)) | ((with_reducible refine' nw_Segment_seq ?ho_ ?hv_ ?_); (case ho_ => first | assumption | exact upd_same); (case hv_ => exact rfl)) | ((with_reducible refine' nw_Segment_count ?ho_ ?hv_ ?_); (case ho_ => first | assumption | exact upd_same); (case hv_ => exact rfl)) | ((with_reducible refine' nw_Segment_echo ?ho_ ?hv_ ?_); (case ho_ => first | assumption | exact upd_same); (case hv_ => exact rfl)) | ((with_reducible refine' nw_Segment_ack ?ho_ ?hv_ ?_); (case ho_ => first | assumption | exact upd_same); (case hv_ => exact rfl)) | ((with_reducible refine' nw_Segment_syn ?ho_ ?hv_ ?_); (case ho_ => first | assumption | exact upd_same); (case hv_ => exact rfl)) | ((with_reducible refine' nw_Segment_fin ?ho_ ?hv_ ?_); (case ho_ => first | assumption | exact upd_same); (case hv_ => exact rfl)) | ((with_reducible refine' nw_Segment_reset ?ho_ ?hv_ ?_); (case ho_ => first | assumption | exact upd_same); (case hv_ => exact rfl)) | ((with_reducible refine' nw_Segment_marked ?ho_ ?hv_ ?_); (case ho_ => first | assumption | exact upd_same); (case hv_ => exact rfl)) | ((with_reducible refine' nw_Segment_cut ?ho_ ?hv_ ?_); (case ho_ => first | assumption | exact upd_same); (case hv_ => exact rfl)) | ((with_reducible refine' nw_Segment_window ?ho_ ?hv_ ?_); (case ho_ => first | assumption | exact upd_same); (case hv_ => exact rfl)) | ((with_reducible refine' nw_Segment_mss ?ho_ ?hv_ ?_); (case ho_ => first | assumption | exact upd_same); (case hv_ => exact rfl)) | ((with_reducible refine' nw_Segment_scale ?ho_ ?hv_ ?_); (case ho_ => first | assumption | exact upd_same); (case hv_ => exact rfl)) | ((with_reducible refine' nw_Segment_ranges_known ?ho_ ?hv_ ?_); (case ho_ => first | assumption | exact upd_same); (case hv_ => exact rfl)) | ((with_reducible refine' nw_Segment_ranges ?ho_ ?hv_ ?_); (case ho_ => first | assumption | exact upd_same); (case hv_ => exact rfl)) | ((with_reducible refine' nw_Segment_stamp ?ho_ ?hv_ ?_); (case ho_ => first | assumption | exact upd_same); (case hv_ => exact rfl)) | ((with_reducible refine' nw_Segment_data ?ho_ ?hv_ ?_); (case ho_ => first | assumption | exact upd_same); (case hv_ => exact rfl)) | ((with_reducible refine' st_Segment_source ?ho_ ?hv_ ?_); (case ho_ => first | assumption | exact upd_same); (case hv_ => exact Nat.le_of_ble_eq_true rfl)) | ((with_reducible refine' st_Segment_target ?ho_ ?hv_ ?_); (case ho_ => first | assumption | exact upd_same); (case hv_ => exact Nat.le_of_ble_eq_true rfl)) | ((with_reducible refine' st_Segment_seq ?ho_ ?hv_ ?_); (case ho_ => first | assumption | exact upd_same); (case hv_ => exact Nat.le_of_ble_eq_true rfl)) | ((with_reducible refine' st_Segment_count ?ho_ ?hv_ ?_); (case ho_ => first | assumption | exact upd_same); (case hv_ => exact Nat.le_of_ble_eq_true rfl)) | ((with_reducible refine' st_Segment_echo ?ho_ ?hv_ ?_); (case ho_ => first | assumption | exact upd_same); (case hv_ => exact Nat.le_of_ble_eq_true rfl)) | ((with_reducible refine' st_Segment_ack ?ho_ ?hv_ ?_); (case ho_ => first | assumption | exact upd_same); (case hv_ => exact Nat.le_of_ble_eq_true rfl)) | ((with_reducible refine' st_Segment_syn ?ho_ ?hv_ ?_); (case ho_ => first | assumption | exact upd_same); (case hv_ => exact Nat.le_of_ble_eq_true rfl)) | ((with_reducible refine' st_Segment_fin ?ho_ ?hv_ ?_); (case ho_ => first | assumption | exact upd_same); (case hv_ => exact Nat.le_of_ble_eq_true rfl)) | ((with_reducible refine' st_Segment_reset ?ho_ ?hv_ ?_); (case ho_ => first | assumption | exact upd_same); (case hv_ => exact Nat.le_of_ble_eq_true rfl)) | ((with_reducible refine' st_Segment_marked ?ho_ ?hv_ ?_); (case ho_ => first | assumption | exact upd_same); (case hv_ => exact Nat.le_of_ble_eq_true rfl)) | ((with_reducible refine' st_Segment_cut ?ho_ ?hv_ ?_); (case ho_ => first | assumption | exact upd_same); (case hv_ => exact Nat.le_of_ble_eq_true rfl)) | ((with_reducible refine' st_Segment_window ?ho_ ?hv_ ?_); (case ho_ => first | assumption | exact upd_same); (case hv_ => exact Nat.le_of_ble_eq_true rfl)) | ((with_reducible refine' st_Segment_mss ?ho_ ?hv_ ?_); (case ho_ => first | assumption | exact upd_same); (case hv_ => exact Nat.le_of_ble_eq_true rfl)) | ((with_reducible refine' st_Segment_scale ?ho_ ?hv_ ?_); (case ho_ => first | assumption | exact upd_same); (case hv_ => exact Nat.le_of_ble_eq_true rfl)) | ((with_reducible refine' st_Segment_ranges_known ?ho_ ?hv_ ?_); (case ho_ => first | assumption | exact upd_same); (case hv_ => exact Nat.le_of_ble_eq_true rfl)) | ((with_reducible refine' st_Segment_ranges ?ho_ ?hv_ ?_); (case ho_ => first | assumption | exact upd_same); (case hv_ => exact Nat.le_of_ble_eq_true rfl)) | ((with_reducible refine' st_Segment_stamp ?ho_ ?hv_ ?_); (case ho_ => first | assumption | exact upd_same); (case hv_ => exact Nat.le_of_ble_eq_true rfl)) | ((with_reducible refine' st_Segment_data ?ho_ ?hv_ ?_); (case ho_ => first | assumption | exact upd_same); (case hv_ => exact Nat.le_of_ble_eq_true rfl)))
local macro_rules | `(tactic| walk_at "use") => `(tactic| first | ((with_reducible refine' dg_S_source ?ho_ ?hv_ ?_); (case ho_ => first | assumption | exact upd_same); (case hv_ => exact rfl)) | ((with_reducible refine' dg_S_target ?ho_ ?hv_ ?_); (case ho_ => first | assumption | exact upd_same); (case hv_ => exact rfl)) | ((with_reducible refine' dg_S_seq ?ho_ ?hv_ ?_); (case ho_ => first | assumption | exact upd_same); (case hv_ => exact rfl)) | ((with_reducible refine' dg_S_count ?ho_ ?hv_ ?_); (case ho_ => first | assumption | exact upd_same); (case hv_ => exact rfl)) | ((with_reducible refine' dg_S_echo ?ho_ ?hv_ ?_); (case ho_ => first | assumption | exact upd_same); (case hv_ => exact rfl)) | ((with_reducible refine' dg_S_ack ?ho_ ?hv_ ?_); (case ho_ => first | assumption | exact upd_same); (case hv_ => exact rfl)) | ((with_reducible refine' dg_S_syn ?ho_ ?hv_ ?_); (case ho_ => first | assumption | exact upd_same); (case hv_ => exact rfl)) | ((with_reducible refine' dg_S_fin ?ho_ ?hv_ ?_); (case ho_ => first | assumption | exact upd_same); (case hv_ => exact rfl)) | ((with_reducible refine' dg_S_reset ?ho_ ?hv_ ?_); (case ho_ => first | assumption | exact upd_same); (case hv_ => exact rfl)) | ((with_reducible refine' dg_S_marked ?ho_ ?hv_ ?_); (case ho_ => first | assumption | exact upd_same); (case hv_ => exact rfl)) | ((with_reducible refine' dg_S_cut ?ho_ ?hv_ ?_); (case ho_ => first | assumption | exact upd_same); (case hv_ => exact rfl)) | ((with_reducible refine' dg_S_ranges_known ?ho_ ?hv_ ?_); (case ho_ => first | assumption | exact upd_same); (case hv_ => exact rfl)) | ((with_reducible refine' dg_S_window ?ho_ ?hv_ ?_); (case ho_ => first | assumption | exact upd_same); (case hv_ => exact rfl)) | ((with_reducible refine' dg_S_mss ?ho_ ?hv_ ?_); (case ho_ => first | assumption | exact upd_same); (case hv_ => exact rfl)) | ((with_reducible refine' dg_S_scale ?ho_ ?hv_ ?_); (case ho_ => first | assumption | exact upd_same); (case hv_ => exact rfl)) | ((with_reducible refine' dg_S_ranges ?ho_ ?hv_ ?_); (case ho_ => first | assumption | exact upd_same); (case hv_ => exact rfl)) | ((with_reducible refine' dg_S_stamp ?ho_ ?hv_ ?_); (case ho_ => first | assumption | exact upd_same); (case hv_ => exact rfl)) | ((with_reducible refine' dg_S_data ?ho_ ?hv_ ?_); (case ho_ => first | assumption | exact upd_same); (case hv_ => exact rfl)) | ((with_reducible refine' dn_S_source ?ho_ ?hv_ ?_); (case ho_ => first | assumption | exact upd_same); (case hv_ => exact rfl)) | ((with_reducible refine' dn_S_target ?ho_ ?hv_ ?_); (case ho_ => first | assumption | exact upd_same); (case hv_ => exact rfl)) | ((with_reducible refine' dn_S_seq ?ho_ ?hv_ ?_); (case ho_ => first | assumption | exact upd_same); (case hv_ => exact rfl)) | ((with_reducible refine' dn_S_count ?ho_ ?hv_ ?_); (case ho_ => first | assumption | exact upd_same); (case hv_ => exact rfl)) | ((with_reducible refine' dn_S_echo ?ho_ ?hv_ ?_); (case ho_ => first | assumption | exact upd_same); (case hv_ => exact rfl)) | ((with_reducible refine' dn_S_ack ?ho_ ?hv_ ?_); (case ho_ => first | assumption | exact upd_same); (case hv_ => exact rfl)) | ((with_reducible refine' dn_S_syn ?ho_ ?hv_ ?_); (case ho_ => first | assumption | exact upd_same); (case hv_ => exact rfl)) | ((with_reducible refine' dn_S_fin ?ho_ ?hv_ ?_); (case ho_ => first | assumption | exact upd_same); (case hv_ => exact rfl)) | ((with_reducible refine' dn_S_reset ?ho_ ?hv_ ?_); (case ho_ => first | assumption | exact upd_same); (case hv_ => exact rfl)) | ((with_reducible refine' dn_S_marked ?ho_ ?hv_ ?_); (case ho_ => first | assumption | exact upd_same); (case hv_ => exact rfl)) | ((with_reducible refine' dn_S_cut ?ho_ ?hv_ ?_); (case ho_ => first | assumption | exact upd_same); (case hv_ => exact rfl)) | ((with_reducible refine' dn_S_ranges_known ?ho_ ?hv_ ?_); (case ho_ => first | assumption | exact upd_same); (case hv_ => exact rfl)) | ((with_reducible refine' dn_S_window ?ho_ ?hv_ ?_); (case ho_ => first | assumption | exact upd_same); (case hv_ => exact rfl)) | ((with_reducible refine' dn_S_mss ?ho_ ?hv_ ?_); (case ho_ => first | assumption | exact upd_same); (case hv_ => exact rfl)) | ((with_reducible refine' dn_S_scale ?ho_ ?hv_ ?_); (case ho_ => first | assumption | exact upd_same); (case hv_ => exact rfl)) | ((with_reducible refine' dn_S_ranges ?ho_ ?hv_ ?_); (case ho_ => first | assumption | exact upd_same); (case hv_ => exact rfl)) | ((with_reducible refine' dn_S_stamp ?ho_ ?hv_ ?_); (case ho_ => first | assumption | exact upd_same); (case hv_ => exact rfl)) | ((with_reducible refine' dn_S_data ?ho_ ?hv_ ?_); (case ho_ => first | assumption | exact upd_same); (case hv_ => exact rfl)) | ((with_reducible refine' dp_S_source ?ho_ ?hv_ ?_); (case ho_ => first | assumption | exact upd_same); (case hv_ => exact Nat.le_of_ble_eq_true rfl)) | ((with_reducible refine' dp_S_target ?ho_ ?hv_ ?_); (case ho_ => first | assumption | exact upd_same); (case hv_ => exact Nat.le_of_ble_eq_true rfl)) | ((with_reducible refine' dp_S_seq ?ho_ ?hv_ ?_); (case ho_ => first | assumption | exact upd_same); (case hv_ => exact Nat.le_of_ble_eq_true rfl)) | ((with_reducible refine' dp_S_count ?ho_ ?hv_ ?_); (case ho_ => first | assumption | exact upd_same); (case hv_ => exact Nat.le_of_ble_eq_true rfl)) | ((with_reducible refine' dp_S_echo ?ho_ ?hv_ ?_); (case ho_ => first | assumption | exact upd_same); (case hv_ => exact Nat.le_of_ble_eq_true rfl)) | ((with_reducible refine' dp_S_ack ?ho_ ?hv_ ?_); (case ho_ => first | assumption | exact upd_same); (case hv_ => exact Nat.le_of_ble_eq_true rfl)) | ((with_reducible refine' dp_S_syn ?ho_ ?hv_ ?_); (case ho_ => first | assumption | exact upd_same); (case hv_ => exact Nat.le_of_ble_eq_true rfl)) | ((with_reducible refine' dp_S_fin ?ho_ ?hv_ ?_); (case ho_ => first | assumption | exact upd_same); (case hv_ => exact Nat.le_of_ble_eq_true rfl)) | ((with_reducible refine' dp_S_reset ?ho_ ?hv_ ?_); (case ho_ => first | assumption | exact upd_same); (case hv_ => exact Nat.le_of_ble_eq_true rfl)) | ((with_reducible refine' dp_S_marked ?ho_ ?hv_ ?_); (case ho_ => first | assumption | exact upd_same); (case hv_ => exact Nat.le_of_ble_eq_true rfl)) | ((with_reducible refine' dp_S_cut ?ho_ ?hv_ ?_); (case ho_ => first | assumption | exact upd_same); (case hv_ => exact Nat.le_of_ble_eq_true rfl)) | ((with_reducible refine' dp_S_ranges_known ?ho_ ?hv_ ?_); (case ho_ => first | assumption | exact upd_same); (case hv_ => exact Nat.le_of_ble_eq_true rfl)) | ((with_reducible refine' dp_S_window ?ho_ ?hv_ ?_); (case ho_ => first | assumption | exact upd_same); (case hv_ => exact Nat.le_of_ble_eq_true rfl)) | ((with_reducible refine' dp_S_mss ?ho_ ?hv_ ?_); (case ho_ => first | assumption | exact upd_same); (case hv_ => exact Nat.le_of_ble_eq_true rfl)) | ((with_reducible refine' dp_S_scale ?ho_ ?hv_ ?_); (case ho_ => first | assumption | exact upd_same); (case hv_ => exact Nat.le_of_ble_eq_true rfl)) | ((with_reducible refine' dp_S_ranges ?ho_ ?hv_ ?_); (case ho_ => first | assumption | exact upd_same); (case hv_ => exact Nat.le_of_ble_eq_true rfl)) | ((with_reducible refine' dp_S_stamp ?ho_ ?hv_ ?_); (case ho_ => first | assumption | exact upd_same); (case hv_ => exact Nat.le_of_ble_eq_true rfl)) | ((with_reducible refine' dp_S_data ?ho_ ?hv_ ?_); (case ho_ => first | assumption | exact upd_same); (case hv_ => exact Nat.le_of_ble_eq_true rfl)))
local macro_rules | `(tactic| walk_at "use") => `(tactic| with_reducible first | refine g_dgetT ?_ | refine g_dputT ?_)
section
variable {P : Program} {w : World} {K : PySem.W.Frag} {mg : Str → Option Value} {base : Heap}
local macro_rules | `(tactic| walk_at "use") => `(tactic| with_reducible refine u_cell (by assumption) (by decide) ?_)
theorem enc_len {s t : Int} {g : Sg} (h : g.ds.length ≤ 30) : (enc s t g).length ≤ 100 := by
  have ol := opts_len (g := g)
  unfold enc
  rw [wre_take, wre_drop]
  simp only [List.length_append, List.length_cons, List.length_nil, dg_len, wA_len]
  omega
def sp_law (K : PySem.W.Frag) : Sp := fun vs H Q _ => ∃ (a : Addr) (ns : List Int), vs = [.ref a] ∧ SqL K H a (ns.map V.int) ∧ ns.length ≤ 63 ∧ ∀ H', Q (.bl true) H'

theorem ok_law (T : Txt K mg) : FnOk P w K mg base CX0 7 T.f_law T.d_law ["script"] (sp_law K) := by
  refine T.F_law.ok sc_law (fun vs H Q E h => ?_) (fun cdv A outer s H vs Q E hr h => ?_)
  · obtain ⟨a, ns, rfl, hS, hlen, q⟩ := h
    rfl
  · obtain ⟨a, ns, rfl, hS, hlen, q⟩ := h
    have hu := hu_of hr
    refine ⟨_, (pss_cons (ps_set (i := 1) sc_law.nd rfl (Or.inl rfl) (pe_op op_mod (pe_callTy call_int1 (by rfl) T.n_int (by decide +kernel) (pa_cons (pe_call (ok_l_cell T) (hr.mono (by decide)) rfl T.m_l_cell T.F_l_cell.kp T.b_l_cell .nil pass0 (pa_cons (pv 0) (pa_cons pe_int pa_nil))) pa_nil)) pe_int))
        (pss_cons (ps_set (i := 2) sc_law.nd rfl (Or.inl rfl) (pe_op op_mod (pe_callTy call_int1 (by rfl) T.n_int (by decide +kernel) (pa_cons (pe_call (ok_l_cell T) (hr.mono (by decide)) rfl T.m_l_cell T.F_l_cell.kp T.b_l_cell .nil pass0 (pa_cons (pv 0) (pa_cons pe_int pa_nil))) pa_nil)) pe_int))
        (pss_cons (ps_set (i := 3) sc_law.nd rfl (Or.inl rfl) (pe_call (ok_l_parts T) (hr.mono (by decide)) rfl T.m_l_parts T.F_l_parts.kp T.b_l_parts .nil pass0 (pa_cons (pv 0) (pa_cons pe_int pa_nil))))
        (pss_cons (ps_set (i := 4) sc_law.nd rfl (Or.inl rfl) (pe_call (ok_l_made T) (hr.mono (by decide)) rfl T.m_l_made T.F_l_made.kp T.b_l_made .nil pass0 (pa_cons (pv 3) pa_nil)))
        (pss_cons (ps_if (pt_not (pt_val (pe_call (ok_l_octets T) (hr.mono (by decide)) rfl T.m_l_octets T.F_l_octets.kp T.b_l_octets .nil pass0 (pa_cons (pe_call (ok_encode T) (hr.mono (by decide)) rfl T.m_encode T.F_encode.kp T.b_encode .nil pass0 (pa_cons (pv 1) (pa_cons (pv 2) (pa_cons (pv 4) pa_nil)))) (pa_cons (pe_call (ok_l_written T) (hr.mono (by decide)) rfl T.m_l_written T.F_l_written.kp T.b_l_written .nil pass0 (pa_cons (pv 1) (pa_cons (pv 2) (pa_cons (pv 3) (pa_cons (pe_call (ok_l_options T) (hr.mono (by decide)) rfl T.m_l_options T.F_l_options.kp T.b_l_options .nil pass0 (pa_cons (pv 3) pa_nil)) pa_nil))))) pa_nil))))) (pss_one (ps_ret pe_bl)) pss_nil)
        (pss_one (ps_ret (pe_call (ok_l_same T) (hr.mono (by decide)) rfl T.m_l_same T.F_l_same.kp T.b_l_same .nil pass0 (pa_cons (pv 4) (pa_cons (pv 3) pa_nil)))))))))), ?_⟩
    dsimp only [cxOf, Cx.nox, Cx.wish, L2.start, List.map, List.cons_append, List.nil_append, List.length_cons, List.length_nil, Nat.reduceAdd, Nat.reduceSub, Nat.zero_add, List.replicate_succ, List.replicate_zero]
    walk_at "go"
    refine u_parts hS (by decide) fun p da ra g H1 ok np nda nra ndr s1 hD => ?_
    walk_at "go"
    refine u_made hD fun x d r H2 nx nd nr ndx nrx ndr2 s2 hO => ?_
    have hD2 := hD.same s2
    have dl := ok.dl
    have rl := ok.rl
    walk_at "go"
    refine u_encode hO (by omega) fun o H3 no s3 eo => ?_
    have hO3 := hO.same s3
    have hD3 := hD2.same s3
    walk_at "go"
    refine u_lopts hD3 ok fun e H4 ne s4 ee => ?_
    walk_at "go"
    refine u_lwritten (hD3.same s4) ok ee fun w H5 nw s5 ew => ?_
    have el := fun s t => enc_len (s := s) (t := t) dl
    walk_at "go"
    refine u_octets (s5 _ _ (s4 _ _ eo)) (sl ew) (Nat.le_trans (el _ _) (by decide)) ?_
    walk_at "go"
    refine u_same ((hO3.same s4).same s5) ((hD3.same s4).same s5) (by omega) (by omega) ?_
    exact q _

end
end My
namespace My
open PySem PySem.Spec L2
local macro_rules | `(tactic| walk_at "side") => `(tactic| first | assumption | decide | omega | exact ⟨by decide, by decide⟩ | exact ⟨by decide, by decide, by decide⟩ | decide +kernel | exact cdivW (by decide +kernel) (by decide +kernel) | exact Or.inl ⟨by omega, by omega⟩ | exact Or.inr ⟨by omega, by omega⟩ | (simp only [List.length_map, List.length_cons, List.length_nil, List.length_append]; omega))
local macro_rules | `(tactic| walk_at "fact") => `(tactic| first | assumption | omega | with_reducible rfl)
local macro_rules | `(tactic| walk_at "use") => `(tactic| fail "use")
local macro_rules | `(tactic| walk_at "go1") => `(tactic| with_reducible first | refine g_seq ?_ | refine g_asg ?_ | refine g_ret ?_ | refine g_ifS ?_ | refine g_drop ?_ | refine g_star ?_ | refine g_nx ?_ | refine g_rt ?_ | refine g_bkE ?_ | refine g_ctE ?_ | refine g_next ?_ | refine g_retN ?_ | refine g_brk ?_ | refine g_ct ?_ | refine g_c ?_ | refine g_op ?_ | refine g_un ?_ | refine g_rI0 ?_ | refine g_rU ?_ | refine g_rEqI ?_ | refine g_rNeI ?_ | refine g_isN ?_ | refine g_rIsB ?_ | refine g_rNotB ?_ | refine g_test ?_ | refine g_B ?_ | refine g_bl ?_ | refine g_and ?_ | refine g_or ?_ | refine g_not ?_ | refine g_andV ?_ | refine g_orV ?_ | refine g_notV ?_ | refine g_if ?_ | refine g_chain ?_ | refine g_yes ?_ | refine g_lc ?_ | refine g_revR ?_ | refine g_rng1 ?_ | refine g_iList ?_ | refine g_nil ?_ | refine g_cons ?_ | refine g_tup ?_ | refine g_lst ?_ | refine g_call ?_ | refine g_CB ?_ | refine g_sl ?_ | refine g_noPart ?_ | refine g_part ?_ | refine g_intE ?_ | refine g_ref ?_ | refine g_fld ?_ | refine g_sfld ?_ | refine g_meth ?_ | refine g_make ?_ | refine g_prop ?_  | refine g_ipI ?_ | refine g_int1 ?_ | refine g_int1B ?_ | refine g_one ?_ | refine g_two ?_ | refine g_isiI ?_ | refine g_isiIB ?_ | refine g_isiB ?_ | refine g_BM ?_ | refine g_BM0 ?_ | refine g_sub ?_)
local macro_rules | `(tactic| walk_at "go") => `(tactic| repeat (first | walk_at "go1" | ((with_reducible refine' g_nameE ?sd_ ?_); case sd_ => dsimp only [List.set_cons_succ, List.set_cons_zero]) | ((with_reducible refine' g_var ?sd_ ?_); case sd_ => exact rfl) | ((with_reducible refine' g_aug ?sd_ ?_); case sd_ => exact rfl) | ((with_reducible refine' g_rI ?sd_ ?_); case sd_ => walk_at "side") | ((with_reducible refine' g_dT ?sd_ ?_); case sd_ => walk_at "fact") | ((with_reducible refine' g_dF ?sd_ ?_); case sd_ => walk_at "fact") | ((with_reducible refine' g_nT ?sd_ ?_); case sd_ => walk_at "fact") | ((with_reducible refine' g_nF ?sd_ ?_); case sd_ => walk_at "fact") | (with_reducible refine g_iT rfl ?_) | (with_reducible refine g_iF rfl ?_) | walk_at "use"))
theorem all_mk {l : PySem.W.OpenLaw} {w : World} {K : PySem.W.Frag} {h : Heap} {mg : Str → Option Value} {fa : Addr} (X : K.In h) (G : h.Ns mainGlobals mg) (hfa : mg "law" = some (.ref fa))
    {t_MODULUS : Tok} {t_PROTOCOL : Tok} {t_END : Tok} {t_MSS : Tok} {t_SCALE : Tok} {t_RANGES_KNOWN : Tok} {t_RANGES : Tok} {t_STAMP : Tok} {t_COUNT : Tok} {tt_COUNT_MARK_0 : Tok} {tt_COUNT_MARK_1 : Tok} {t_COUNT_MARK : Addr} {to_COUNT_MARK : Option Addr} {tn_COUNT_MARK : Nat} {tl_COUNT_MARK : Array (Option Value)} {t_ROOM_FOR_RANGES : Tok} {t_HEADER_SIZE : Tok} {t_CUT : Tok} {t_MARKED : Tok} {t_ACK : Tok} {t_DATA : Tok} {t_RESET : Tok} {t_SYN : Tok} {t_FIN : Tok} {C_Segment : Addr} {f_octet_sum : Addr} {od_octet_sum an_octet_sum : Option Addr} {sl_octet_sum : Array (Option Value)} {oc_octet_sum kV_octet_sum dc_octet_sum pm_octet_sum cd_octet_sum ct_octet_sum : Value} {f_checksum : Addr} {od_checksum an_checksum : Option Addr} {sl_checksum : Array (Option Value)} {oc_checksum kV_checksum dc_checksum pm_checksum cd_checksum ct_checksum : Value} {f_write_number : Addr} {od_write_number an_write_number : Option Addr} {sl_write_number : Array (Option Value)} {oc_write_number kV_write_number dc_write_number pm_write_number cd_write_number ct_write_number : Value} {f_Segment_init__ : Addr} {od_Segment_init__ an_Segment_init__ : Option Addr} {sl_Segment_init__ : Array (Option Value)} {oc_Segment_init__ dc_Segment_init__ pm_Segment_init__ cd_Segment_init__ ct_Segment_init__ : Value} {kd_Segment_init__ : Addr} {tk_Segment_init___window : Tok} {e_Segment_init___ranges : Addr} {eo_Segment_init___ranges : Option Addr} {en_Segment_init___ranges : Nat} {el_Segment_init___ranges : Array (Option Value)} {e_Segment_init___data : Addr} {eo_Segment_init___data : Option Addr} {en_Segment_init___data : Nat} {el_Segment_init___data : Array (Option Value)} {f_write_options : Addr} {od_write_options an_write_options : Option Addr} {sl_write_options : Array (Option Value)} {oc_write_options kV_write_options dc_write_options pm_write_options cd_write_options ct_write_options : Value} {f_option : Addr} {od_option an_option : Option Addr} {sl_option : Array (Option Value)} {oc_option kV_option dc_option pm_option cd_option ct_option : Value} {f_write_pairs : Addr} {od_write_pairs an_write_pairs : Option Addr} {sl_write_pairs : Array (Option Value)} {oc_write_pairs kV_write_pairs dc_write_pairs pm_write_pairs cd_write_pairs ct_write_pairs : Value} {f_write_single_options : Addr} {od_write_single_options an_write_single_options : Option Addr} {sl_write_single_options : Array (Option Value)} {oc_write_single_options kV_write_single_options dc_write_single_options pm_write_single_options cd_write_single_options ct_write_single_options : Value} {f_fitting_ranges : Addr} {od_fitting_ranges an_fitting_ranges : Option Addr} {sl_fitting_ranges : Array (Option Value)} {oc_fitting_ranges kV_fitting_ranges dc_fitting_ranges pm_fitting_ranges cd_fitting_ranges ct_fitting_ranges : Value} {f_encode : Addr} {od_encode an_encode : Option Addr} {sl_encode : Array (Option Value)} {oc_encode kV_encode dc_encode pm_encode cd_encode ct_encode : Value} {f_write_header : Addr} {od_write_header an_write_header : Option Addr} {sl_write_header : Array (Option Value)} {oc_write_header kV_write_header dc_write_header pm_write_header cd_write_header ct_write_header : Value} {f_flags : Addr} {od_flags an_flags : Option Addr} {sl_flags : Array (Option Value)} {oc_flags kV_flags dc_flags pm_flags cd_flags ct_flags : Value} {f_l_is_integer : Addr} {od_l_is_integer an_l_is_integer : Option Addr} {sl_l_is_integer : Array (Option Value)} {oc_l_is_integer kV_l_is_integer dc_l_is_integer pm_l_is_integer cd_l_is_integer ct_l_is_integer : Value} {f_l_cell : Addr} {od_l_cell an_l_cell : Option Addr} {sl_l_cell : Array (Option Value)} {oc_l_cell kV_l_cell dc_l_cell pm_l_cell cd_l_cell ct_l_cell : Value} {f_l_row : Addr} {od_l_row an_l_row : Option Addr} {sl_l_row : Array (Option Value)} {oc_l_row kV_l_row dc_l_row pm_l_row cd_l_row ct_l_row : Value} {f_l_octets : Addr} {od_l_octets an_l_octets : Option Addr} {sl_l_octets : Array (Option Value)} {oc_l_octets kV_l_octets dc_l_octets pm_l_octets cd_l_octets ct_l_octets : Value} {f_l_wire : Addr} {od_l_wire an_l_wire : Option Addr} {sl_l_wire : Array (Option Value)} {oc_l_wire kV_l_wire dc_l_wire pm_l_wire cd_l_wire ct_l_wire : Value} {f_l_optional : Addr} {od_l_optional an_l_optional : Option Addr} {sl_l_optional : Array (Option Value)} {oc_l_optional kV_l_optional dc_l_optional pm_l_optional cd_l_optional ct_l_optional : Value} {f_l_pairs : Addr} {od_l_pairs an_l_pairs : Option Addr} {sl_l_pairs : Array (Option Value)} {oc_l_pairs kV_l_pairs dc_l_pairs pm_l_pairs cd_l_pairs ct_l_pairs : Value} {f_l_parts : Addr} {od_l_parts an_l_parts : Option Addr} {sl_l_parts : Array (Option Value)} {oc_l_parts kV_l_parts dc_l_parts pm_l_parts cd_l_parts ct_l_parts : Value} {f_l_made : Addr} {od_l_made an_l_made : Option Addr} {sl_l_made : Array (Option Value)} {oc_l_made kV_l_made dc_l_made pm_l_made cd_l_made ct_l_made : Value} {f_l_number : Addr} {od_l_number an_l_number : Option Addr} {sl_l_number : Array (Option Value)} {oc_l_number kV_l_number dc_l_number pm_l_number cd_l_number ct_l_number : Value} {f_l_pair : Addr} {od_l_pair an_l_pair : Option Addr} {sl_l_pair : Array (Option Value)} {oc_l_pair kV_l_pair dc_l_pair pm_l_pair cd_l_pair ct_l_pair : Value} {f_l_all_pairs : Addr} {od_l_all_pairs an_l_all_pairs : Option Addr} {sl_l_all_pairs : Array (Option Value)} {oc_l_all_pairs kV_l_all_pairs dc_l_all_pairs pm_l_all_pairs cd_l_all_pairs ct_l_all_pairs : Value} {f_l_flag : Addr} {od_l_flag an_l_flag : Option Addr} {sl_l_flag : Array (Option Value)} {oc_l_flag kV_l_flag dc_l_flag pm_l_flag cd_l_flag ct_l_flag : Value} {f_l_same : Addr} {od_l_same an_l_same : Option Addr} {sl_l_same : Array (Option Value)} {oc_l_same kV_l_same dc_l_same pm_l_same cd_l_same ct_l_same : Value} {f_l_digits : Addr} {od_l_digits an_l_digits : Option Addr} {sl_l_digits : Array (Option Value)} {oc_l_digits kV_l_digits dc_l_digits pm_l_digits cd_l_digits ct_l_digits : Value} {f_l_option : Addr} {od_l_option an_l_option : Option Addr} {sl_l_option : Array (Option Value)} {oc_l_option kV_l_option dc_l_option pm_l_option cd_l_option ct_l_option : Value} {f_l_plain_options : Addr} {od_l_plain_options an_l_plain_options : Option Addr} {sl_l_plain_options : Array (Option Value)} {oc_l_plain_options kV_l_plain_options dc_l_plain_options pm_l_plain_options cd_l_plain_options ct_l_plain_options : Value} {f_l_fitting : Addr} {od_l_fitting an_l_fitting : Option Addr} {sl_l_fitting : Array (Option Value)} {oc_l_fitting kV_l_fitting dc_l_fitting pm_l_fitting cd_l_fitting ct_l_fitting : Value} {f_l_options : Addr} {od_l_options an_l_options : Option Addr} {sl_l_options : Array (Option Value)} {oc_l_options kV_l_options dc_l_options pm_l_options cd_l_options ct_l_options : Value} {f_l_sum : Addr} {od_l_sum an_l_sum : Option Addr} {sl_l_sum : Array (Option Value)} {oc_l_sum kV_l_sum dc_l_sum pm_l_sum cd_l_sum ct_l_sum : Value} {f_l_sealed : Addr} {od_l_sealed an_l_sealed : Option Addr} {sl_l_sealed : Array (Option Value)} {oc_l_sealed kV_l_sealed dc_l_sealed pm_l_sealed cd_l_sealed ct_l_sealed : Value} {f_l_flags : Addr} {od_l_flags an_l_flags : Option Addr} {sl_l_flags : Array (Option Value)} {oc_l_flags kV_l_flags dc_l_flags pm_l_flags cd_l_flags ct_l_flags : Value} {f_l_written : Addr} {od_l_written an_l_written : Option Addr} {sl_l_written : Array (Option Value)} {oc_l_written kV_l_written dc_l_written pm_l_written cd_l_written ct_l_written : Value} {f_law : Addr} {od_law an_law : Option Addr} {sl_law : Array (Option Value)} {oc_law kV_law dc_law pm_law cd_law ct_law : Value}
    (v_MODULUS : PySem.W.nsIn K mainGlobals "MODULUS" = some (some (.int 65535 t_MODULUS)))
    (v_PROTOCOL : PySem.W.nsIn K mainGlobals "PROTOCOL" = some (some (.int 6 t_PROTOCOL)))
    (v_END : PySem.W.nsIn K mainGlobals "END" = some (some (.int 0 t_END)))
    (v_MSS : PySem.W.nsIn K mainGlobals "MSS" = some (some (.int 2 t_MSS)))
    (v_SCALE : PySem.W.nsIn K mainGlobals "SCALE" = some (some (.int 3 t_SCALE)))
    (v_RANGES_KNOWN : PySem.W.nsIn K mainGlobals "RANGES_KNOWN" = some (some (.int 4 t_RANGES_KNOWN)))
    (v_RANGES : PySem.W.nsIn K mainGlobals "RANGES" = some (some (.int 5 t_RANGES)))
    (v_STAMP : PySem.W.nsIn K mainGlobals "STAMP" = some (some (.int 8 t_STAMP)))
    (v_COUNT : PySem.W.nsIn K mainGlobals "COUNT" = some (some (.int 253 t_COUNT)))
    (v_COUNT_MARK : PySem.W.nsIn K mainGlobals "COUNT_MARK" = some (some (.ref t_COUNT_MARK)))
    (tk_COUNT_MARK : K.lookup t_COUNT_MARK = some ⟨.type "tuple", to_COUNT_MARK, .seq #[.int 83 tt_COUNT_MARK_0, .int 85 tt_COUNT_MARK_1] tn_COUNT_MARK, tl_COUNT_MARK⟩)
    (v_ROOM_FOR_RANGES : PySem.W.nsIn K mainGlobals "ROOM_FOR_RANGES" = some (some (.int 38 t_ROOM_FOR_RANGES)))
    (v_HEADER_SIZE : PySem.W.nsIn K mainGlobals "HEADER_SIZE" = some (some (.int 20 t_HEADER_SIZE)))
    (v_CUT : PySem.W.nsIn K mainGlobals "CUT" = some (some (.int 128 t_CUT)))
    (v_MARKED : PySem.W.nsIn K mainGlobals "MARKED" = some (some (.int 64 t_MARKED)))
    (v_ACK : PySem.W.nsIn K mainGlobals "ACK" = some (some (.int 16 t_ACK)))
    (v_DATA : PySem.W.nsIn K mainGlobals "DATA" = some (some (.int 8 t_DATA)))
    (v_RESET : PySem.W.nsIn K mainGlobals "RESET" = some (some (.int 4 t_RESET)))
    (v_SYN : PySem.W.nsIn K mainGlobals "SYN" = some (some (.int 2 t_SYN)))
    (v_FIN : PySem.W.nsIn K mainGlobals "FIN" = some (some (.int 1 t_FIN)))
    (c_Segment : PySem.W.nsIn K mainGlobals "Segment" = some (some (.ref C_Segment)))
    (pg_Segment : PySem.W.plainGet K C_Segment Str.empty = true)
    (hd_Segment : PySem.W.hasDictIn K C_Segment = true)
    (po_Segment : PySem.W.plainOver K C_Segment = true)
    (sa_Segment : PySem.W.findIn K (.ref C_Segment) "__setattr__" = some (some (.builtin "object.__setattr__")))
    (mk0_Segment : PySem.W.makesIn K C_Segment = true)
    (kc_Segment : PySem.W.keepIn K (.ref C_Segment) = true)
    (ha_Segment : PySem.W.findIn K (.ref C_Segment) "__class__" = some (some (.builtin "object.__class__")))
    (hm_Segment : PySem.W.mroIn K C_Segment (.type "object") = some true)
    (hn_all : PySem.W.specialIn K (.builtin "object.__class__") "__get__" = some (some (.builtin "getset_descriptor.__get__")))
    (ht_all : PySem.W.takesIn K (.builtin "object.__class__") = some true)
    (n_Segment_source : PySem.W.findIn K (.ref C_Segment) "source" = some none)
    (n_Segment_target : PySem.W.findIn K (.ref C_Segment) "target" = some none)
    (n_Segment_seq : PySem.W.findIn K (.ref C_Segment) "seq" = some none)
    (n_Segment_count : PySem.W.findIn K (.ref C_Segment) "count" = some none)
    (n_Segment_echo : PySem.W.findIn K (.ref C_Segment) "echo" = some none)
    (n_Segment_ack : PySem.W.findIn K (.ref C_Segment) "ack" = some none)
    (n_Segment_syn : PySem.W.findIn K (.ref C_Segment) "syn" = some none)
    (n_Segment_fin : PySem.W.findIn K (.ref C_Segment) "fin" = some none)
    (n_Segment_reset : PySem.W.findIn K (.ref C_Segment) "reset" = some none)
    (n_Segment_marked : PySem.W.findIn K (.ref C_Segment) "marked" = some none)
    (n_Segment_cut : PySem.W.findIn K (.ref C_Segment) "cut" = some none)
    (n_Segment_window : PySem.W.findIn K (.ref C_Segment) "window" = some none)
    (n_Segment_mss : PySem.W.findIn K (.ref C_Segment) "mss" = some none)
    (n_Segment_scale : PySem.W.findIn K (.ref C_Segment) "scale" = some none)
    (n_Segment_ranges_known : PySem.W.findIn K (.ref C_Segment) "ranges_known" = some none)
    (n_Segment_ranges : PySem.W.findIn K (.ref C_Segment) "ranges" = some none)
    (n_Segment_stamp : PySem.W.findIn K (.ref C_Segment) "stamp" = some none)
    (n_Segment_data : PySem.W.findIn K (.ref C_Segment) "data" = some none)
    (a_octet_sum : PySem.W.nsIn K mainGlobals "octet_sum" = some (some (.ref f_octet_sum)))
    (l_octet_sum : K.lookup f_octet_sum = some ⟨oc_octet_sum, od_octet_sum, .func (PySem.W.fnOf "octet_sum" "octet_sum" (defArgs s_octet_sum) (defBody s_octet_sum) (defScope s_octet_sum) .none kV_octet_sum dc_octet_sum pm_octet_sum an_octet_sum cd_octet_sum ct_octet_sum), sl_octet_sum⟩)
    (cc_octet_sum : PySem.W.codeIn K cd_octet_sum "octet_sum" = true)
    (kk_octet_sum : PySem.W.keepIn K (.ref f_octet_sum) = true)
    (a_checksum : PySem.W.nsIn K mainGlobals "checksum" = some (some (.ref f_checksum)))
    (l_checksum : K.lookup f_checksum = some ⟨oc_checksum, od_checksum, .func (PySem.W.fnOf "checksum" "checksum" (defArgs s_checksum) (defBody s_checksum) (defScope s_checksum) .none kV_checksum dc_checksum pm_checksum an_checksum cd_checksum ct_checksum), sl_checksum⟩)
    (cc_checksum : PySem.W.codeIn K cd_checksum "checksum" = true)
    (kk_checksum : PySem.W.keepIn K (.ref f_checksum) = true)
    (a_write_number : PySem.W.nsIn K mainGlobals "write_number" = some (some (.ref f_write_number)))
    (l_write_number : K.lookup f_write_number = some ⟨oc_write_number, od_write_number, .func (PySem.W.fnOf "write_number" "write_number" (defArgs s_write_number) (defBody s_write_number) (defScope s_write_number) .none kV_write_number dc_write_number pm_write_number an_write_number cd_write_number ct_write_number), sl_write_number⟩)
    (cc_write_number : PySem.W.codeIn K cd_write_number "write_number" = true)
    (kk_write_number : PySem.W.keepIn K (.ref f_write_number) = true)
    (a_Segment_init__ : PySem.W.findIn K (.ref C_Segment) "__init__" = some (some (.ref f_Segment_init__)))
    (i_Segment_init__ : PySem.W.isFn K (.ref f_Segment_init__) = true)
    (l_Segment_init__ : K.lookup f_Segment_init__ = some ⟨oc_Segment_init__, od_Segment_init__, .func (PySem.W.fnOf "__init__" "Segment.__init__" (defArgs s_Segment_init__) (defBody s_Segment_init__) (defScope s_Segment_init__) .none (.ref kd_Segment_init__) dc_Segment_init__ pm_Segment_init__ an_Segment_init__ cd_Segment_init__ ct_Segment_init__), sl_Segment_init__⟩)
    (kw_Segment_init___echo : PySem.W.nsIn K kd_Segment_init__ "echo" = some (some .none))
    (kw_Segment_init___ack : PySem.W.nsIn K kd_Segment_init__ "ack" = some (some .none))
    (kw_Segment_init___syn : PySem.W.nsIn K kd_Segment_init__ "syn" = some (some (.bool false)))
    (kw_Segment_init___fin : PySem.W.nsIn K kd_Segment_init__ "fin" = some (some (.bool false)))
    (kw_Segment_init___reset : PySem.W.nsIn K kd_Segment_init__ "reset" = some (some (.bool false)))
    (kw_Segment_init___marked : PySem.W.nsIn K kd_Segment_init__ "marked" = some (some (.bool false)))
    (kw_Segment_init___cut : PySem.W.nsIn K kd_Segment_init__ "cut" = some (some (.bool false)))
    (kw_Segment_init___window : PySem.W.nsIn K kd_Segment_init__ "window" = some (some (.int 0 tk_Segment_init___window)))
    (kw_Segment_init___mss : PySem.W.nsIn K kd_Segment_init__ "mss" = some (some .none))
    (kw_Segment_init___scale : PySem.W.nsIn K kd_Segment_init__ "scale" = some (some .none))
    (kw_Segment_init___ranges_known : PySem.W.nsIn K kd_Segment_init__ "ranges_known" = some (some (.bool false)))
    (kw_Segment_init___ranges : PySem.W.nsIn K kd_Segment_init__ "ranges" = some (some (.ref e_Segment_init___ranges)))
    (el0_Segment_init___ranges : K.lookup e_Segment_init___ranges = some ⟨.type "tuple", eo_Segment_init___ranges, .seq #[] en_Segment_init___ranges, el_Segment_init___ranges⟩)
    (kw_Segment_init___stamp : PySem.W.nsIn K kd_Segment_init__ "stamp" = some (some .none))
    (kw_Segment_init___data : PySem.W.nsIn K kd_Segment_init__ "data" = some (some (.ref e_Segment_init___data)))
    (el0_Segment_init___data : K.lookup e_Segment_init___data = some ⟨.type "tuple", eo_Segment_init___data, .seq #[] en_Segment_init___data, el_Segment_init___data⟩)
    (cc_Segment_init__ : PySem.W.codeIn K cd_Segment_init__ "Segment.__init__" = true)
    (kk_Segment_init__ : PySem.W.keepIn K (.ref f_Segment_init__) = true)
    (a_write_options : PySem.W.nsIn K mainGlobals "write_options" = some (some (.ref f_write_options)))
    (l_write_options : K.lookup f_write_options = some ⟨oc_write_options, od_write_options, .func (PySem.W.fnOf "write_options" "write_options" (defArgs s_write_options) (defBody s_write_options) (defScope s_write_options) .none kV_write_options dc_write_options pm_write_options an_write_options cd_write_options ct_write_options), sl_write_options⟩)
    (cc_write_options : PySem.W.codeIn K cd_write_options "write_options" = true)
    (kk_write_options : PySem.W.keepIn K (.ref f_write_options) = true)
    (a_option : PySem.W.nsIn K mainGlobals "_option" = some (some (.ref f_option)))
    (l_option : K.lookup f_option = some ⟨oc_option, od_option, .func (PySem.W.fnOf "_option" "_option" (defArgs s_option) (defBody s_option) (defScope s_option) .none kV_option dc_option pm_option an_option cd_option ct_option), sl_option⟩)
    (cc_option : PySem.W.codeIn K cd_option "_option" = true)
    (kk_option : PySem.W.keepIn K (.ref f_option) = true)
    (a_write_pairs : PySem.W.nsIn K mainGlobals "_write_pairs" = some (some (.ref f_write_pairs)))
    (l_write_pairs : K.lookup f_write_pairs = some ⟨oc_write_pairs, od_write_pairs, .func (PySem.W.fnOf "_write_pairs" "_write_pairs" (defArgs s_write_pairs) (defBody s_write_pairs) (defScope s_write_pairs) .none kV_write_pairs dc_write_pairs pm_write_pairs an_write_pairs cd_write_pairs ct_write_pairs), sl_write_pairs⟩)
    (cc_write_pairs : PySem.W.codeIn K cd_write_pairs "_write_pairs" = true)
    (kk_write_pairs : PySem.W.keepIn K (.ref f_write_pairs) = true)
    (a_write_single_options : PySem.W.nsIn K mainGlobals "_write_single_options" = some (some (.ref f_write_single_options)))
    (l_write_single_options : K.lookup f_write_single_options = some ⟨oc_write_single_options, od_write_single_options, .func (PySem.W.fnOf "_write_single_options" "_write_single_options" (defArgs s_write_single_options) (defBody s_write_single_options) (defScope s_write_single_options) .none kV_write_single_options dc_write_single_options pm_write_single_options an_write_single_options cd_write_single_options ct_write_single_options), sl_write_single_options⟩)
    (cc_write_single_options : PySem.W.codeIn K cd_write_single_options "_write_single_options" = true)
    (kk_write_single_options : PySem.W.keepIn K (.ref f_write_single_options) = true)
    (a_fitting_ranges : PySem.W.nsIn K mainGlobals "_fitting_ranges" = some (some (.ref f_fitting_ranges)))
    (l_fitting_ranges : K.lookup f_fitting_ranges = some ⟨oc_fitting_ranges, od_fitting_ranges, .func (PySem.W.fnOf "_fitting_ranges" "_fitting_ranges" (defArgs s_fitting_ranges) (defBody s_fitting_ranges) (defScope s_fitting_ranges) .none kV_fitting_ranges dc_fitting_ranges pm_fitting_ranges an_fitting_ranges cd_fitting_ranges ct_fitting_ranges), sl_fitting_ranges⟩)
    (cc_fitting_ranges : PySem.W.codeIn K cd_fitting_ranges "_fitting_ranges" = true)
    (kk_fitting_ranges : PySem.W.keepIn K (.ref f_fitting_ranges) = true)
    (a_encode : PySem.W.nsIn K mainGlobals "encode" = some (some (.ref f_encode)))
    (l_encode : K.lookup f_encode = some ⟨oc_encode, od_encode, .func (PySem.W.fnOf "encode" "encode" (defArgs s_encode) (defBody s_encode) (defScope s_encode) .none kV_encode dc_encode pm_encode an_encode cd_encode ct_encode), sl_encode⟩)
    (cc_encode : PySem.W.codeIn K cd_encode "encode" = true)
    (kk_encode : PySem.W.keepIn K (.ref f_encode) = true)
    (a_write_header : PySem.W.nsIn K mainGlobals "_write_header" = some (some (.ref f_write_header)))
    (l_write_header : K.lookup f_write_header = some ⟨oc_write_header, od_write_header, .func (PySem.W.fnOf "_write_header" "_write_header" (defArgs s_write_header) (defBody s_write_header) (defScope s_write_header) .none kV_write_header dc_write_header pm_write_header an_write_header cd_write_header ct_write_header), sl_write_header⟩)
    (cc_write_header : PySem.W.codeIn K cd_write_header "_write_header" = true)
    (kk_write_header : PySem.W.keepIn K (.ref f_write_header) = true)
    (a_flags : PySem.W.nsIn K mainGlobals "_flags" = some (some (.ref f_flags)))
    (l_flags : K.lookup f_flags = some ⟨oc_flags, od_flags, .func (PySem.W.fnOf "_flags" "_flags" (defArgs s_flags) (defBody s_flags) (defScope s_flags) .none kV_flags dc_flags pm_flags an_flags cd_flags ct_flags), sl_flags⟩)
    (cc_flags : PySem.W.codeIn K cd_flags "_flags" = true)
    (kk_flags : PySem.W.keepIn K (.ref f_flags) = true)
    (a_l_is_integer : PySem.W.nsIn K mainGlobals "_law_is_integer" = some (some (.ref f_l_is_integer)))
    (l_l_is_integer : K.lookup f_l_is_integer = some ⟨oc_l_is_integer, od_l_is_integer, .func (PySem.W.fnOf "_law_is_integer" "_law_is_integer" (defArgs s_l_is_integer) (defBody s_l_is_integer) (defScope s_l_is_integer) .none kV_l_is_integer dc_l_is_integer pm_l_is_integer an_l_is_integer cd_l_is_integer ct_l_is_integer), sl_l_is_integer⟩)
    (cc_l_is_integer : PySem.W.codeIn K cd_l_is_integer "_law_is_integer" = true)
    (kk_l_is_integer : PySem.W.keepIn K (.ref f_l_is_integer) = true)
    (a_l_cell : PySem.W.nsIn K mainGlobals "_law_cell" = some (some (.ref f_l_cell)))
    (l_l_cell : K.lookup f_l_cell = some ⟨oc_l_cell, od_l_cell, .func (PySem.W.fnOf "_law_cell" "_law_cell" (defArgs s_l_cell) (defBody s_l_cell) (defScope s_l_cell) .none kV_l_cell dc_l_cell pm_l_cell an_l_cell cd_l_cell ct_l_cell), sl_l_cell⟩)
    (cc_l_cell : PySem.W.codeIn K cd_l_cell "_law_cell" = true)
    (kk_l_cell : PySem.W.keepIn K (.ref f_l_cell) = true)
    (a_l_row : PySem.W.nsIn K mainGlobals "_law_row" = some (some (.ref f_l_row)))
    (l_l_row : K.lookup f_l_row = some ⟨oc_l_row, od_l_row, .func (PySem.W.fnOf "_law_row" "_law_row" (defArgs s_l_row) (defBody s_l_row) (defScope s_l_row) .none kV_l_row dc_l_row pm_l_row an_l_row cd_l_row ct_l_row), sl_l_row⟩)
    (cc_l_row : PySem.W.codeIn K cd_l_row "_law_row" = true)
    (kk_l_row : PySem.W.keepIn K (.ref f_l_row) = true)
    (a_l_octets : PySem.W.nsIn K mainGlobals "_law_octets" = some (some (.ref f_l_octets)))
    (l_l_octets : K.lookup f_l_octets = some ⟨oc_l_octets, od_l_octets, .func (PySem.W.fnOf "_law_octets" "_law_octets" (defArgs s_l_octets) (defBody s_l_octets) (defScope s_l_octets) .none kV_l_octets dc_l_octets pm_l_octets an_l_octets cd_l_octets ct_l_octets), sl_l_octets⟩)
    (cc_l_octets : PySem.W.codeIn K cd_l_octets "_law_octets" = true)
    (kk_l_octets : PySem.W.keepIn K (.ref f_l_octets) = true)
    (a_l_wire : PySem.W.nsIn K mainGlobals "_law_wire" = some (some (.ref f_l_wire)))
    (l_l_wire : K.lookup f_l_wire = some ⟨oc_l_wire, od_l_wire, .func (PySem.W.fnOf "_law_wire" "_law_wire" (defArgs s_l_wire) (defBody s_l_wire) (defScope s_l_wire) .none kV_l_wire dc_l_wire pm_l_wire an_l_wire cd_l_wire ct_l_wire), sl_l_wire⟩)
    (cc_l_wire : PySem.W.codeIn K cd_l_wire "_law_wire" = true)
    (kk_l_wire : PySem.W.keepIn K (.ref f_l_wire) = true)
    (a_l_optional : PySem.W.nsIn K mainGlobals "_law_optional" = some (some (.ref f_l_optional)))
    (l_l_optional : K.lookup f_l_optional = some ⟨oc_l_optional, od_l_optional, .func (PySem.W.fnOf "_law_optional" "_law_optional" (defArgs s_l_optional) (defBody s_l_optional) (defScope s_l_optional) .none kV_l_optional dc_l_optional pm_l_optional an_l_optional cd_l_optional ct_l_optional), sl_l_optional⟩)
    (cc_l_optional : PySem.W.codeIn K cd_l_optional "_law_optional" = true)
    (kk_l_optional : PySem.W.keepIn K (.ref f_l_optional) = true)
    (a_l_pairs : PySem.W.nsIn K mainGlobals "_law_pairs" = some (some (.ref f_l_pairs)))
    (l_l_pairs : K.lookup f_l_pairs = some ⟨oc_l_pairs, od_l_pairs, .func (PySem.W.fnOf "_law_pairs" "_law_pairs" (defArgs s_l_pairs) (defBody s_l_pairs) (defScope s_l_pairs) .none kV_l_pairs dc_l_pairs pm_l_pairs an_l_pairs cd_l_pairs ct_l_pairs), sl_l_pairs⟩)
    (cc_l_pairs : PySem.W.codeIn K cd_l_pairs "_law_pairs" = true)
    (kk_l_pairs : PySem.W.keepIn K (.ref f_l_pairs) = true)
    (a_l_parts : PySem.W.nsIn K mainGlobals "_law_parts" = some (some (.ref f_l_parts)))
    (l_l_parts : K.lookup f_l_parts = some ⟨oc_l_parts, od_l_parts, .func (PySem.W.fnOf "_law_parts" "_law_parts" (defArgs s_l_parts) (defBody s_l_parts) (defScope s_l_parts) .none kV_l_parts dc_l_parts pm_l_parts an_l_parts cd_l_parts ct_l_parts), sl_l_parts⟩)
    (cc_l_parts : PySem.W.codeIn K cd_l_parts "_law_parts" = true)
    (kk_l_parts : PySem.W.keepIn K (.ref f_l_parts) = true)
    (a_l_made : PySem.W.nsIn K mainGlobals "_law_made" = some (some (.ref f_l_made)))
    (l_l_made : K.lookup f_l_made = some ⟨oc_l_made, od_l_made, .func (PySem.W.fnOf "_law_made" "_law_made" (defArgs s_l_made) (defBody s_l_made) (defScope s_l_made) .none kV_l_made dc_l_made pm_l_made an_l_made cd_l_made ct_l_made), sl_l_made⟩)
    (cc_l_made : PySem.W.codeIn K cd_l_made "_law_made" = true)
    (kk_l_made : PySem.W.keepIn K (.ref f_l_made) = true)
    (a_l_number : PySem.W.nsIn K mainGlobals "_law_number" = some (some (.ref f_l_number)))
    (l_l_number : K.lookup f_l_number = some ⟨oc_l_number, od_l_number, .func (PySem.W.fnOf "_law_number" "_law_number" (defArgs s_l_number) (defBody s_l_number) (defScope s_l_number) .none kV_l_number dc_l_number pm_l_number an_l_number cd_l_number ct_l_number), sl_l_number⟩)
    (cc_l_number : PySem.W.codeIn K cd_l_number "_law_number" = true)
    (kk_l_number : PySem.W.keepIn K (.ref f_l_number) = true)
    (a_l_pair : PySem.W.nsIn K mainGlobals "_law_pair" = some (some (.ref f_l_pair)))
    (l_l_pair : K.lookup f_l_pair = some ⟨oc_l_pair, od_l_pair, .func (PySem.W.fnOf "_law_pair" "_law_pair" (defArgs s_l_pair) (defBody s_l_pair) (defScope s_l_pair) .none kV_l_pair dc_l_pair pm_l_pair an_l_pair cd_l_pair ct_l_pair), sl_l_pair⟩)
    (cc_l_pair : PySem.W.codeIn K cd_l_pair "_law_pair" = true)
    (kk_l_pair : PySem.W.keepIn K (.ref f_l_pair) = true)
    (a_l_all_pairs : PySem.W.nsIn K mainGlobals "_law_all_pairs" = some (some (.ref f_l_all_pairs)))
    (l_l_all_pairs : K.lookup f_l_all_pairs = some ⟨oc_l_all_pairs, od_l_all_pairs, .func (PySem.W.fnOf "_law_all_pairs" "_law_all_pairs" (defArgs s_l_all_pairs) (defBody s_l_all_pairs) (defScope s_l_all_pairs) .none kV_l_all_pairs dc_l_all_pairs pm_l_all_pairs an_l_all_pairs cd_l_all_pairs ct_l_all_pairs), sl_l_all_pairs⟩)
    (cc_l_all_pairs : PySem.W.codeIn K cd_l_all_pairs "_law_all_pairs" = true)
    (kk_l_all_pairs : PySem.W.keepIn K (.ref f_l_all_pairs) = true)
    (a_l_flag : PySem.W.nsIn K mainGlobals "_law_flag" = some (some (.ref f_l_flag)))
    (l_l_flag : K.lookup f_l_flag = some ⟨oc_l_flag, od_l_flag, .func (PySem.W.fnOf "_law_flag" "_law_flag" (defArgs s_l_flag) (defBody s_l_flag) (defScope s_l_flag) .none kV_l_flag dc_l_flag pm_l_flag an_l_flag cd_l_flag ct_l_flag), sl_l_flag⟩)
    (cc_l_flag : PySem.W.codeIn K cd_l_flag "_law_flag" = true)
    (kk_l_flag : PySem.W.keepIn K (.ref f_l_flag) = true)
    (a_l_same : PySem.W.nsIn K mainGlobals "_law_same" = some (some (.ref f_l_same)))
    (l_l_same : K.lookup f_l_same = some ⟨oc_l_same, od_l_same, .func (PySem.W.fnOf "_law_same" "_law_same" (defArgs s_l_same) (defBody s_l_same) (defScope s_l_same) .none kV_l_same dc_l_same pm_l_same an_l_same cd_l_same ct_l_same), sl_l_same⟩)
    (cc_l_same : PySem.W.codeIn K cd_l_same "_law_same" = true)
    (kk_l_same : PySem.W.keepIn K (.ref f_l_same) = true)
    (a_l_digits : PySem.W.nsIn K mainGlobals "_law_digits" = some (some (.ref f_l_digits)))
    (l_l_digits : K.lookup f_l_digits = some ⟨oc_l_digits, od_l_digits, .func (PySem.W.fnOf "_law_digits" "_law_digits" (defArgs s_l_digits) (defBody s_l_digits) (defScope s_l_digits) .none kV_l_digits dc_l_digits pm_l_digits an_l_digits cd_l_digits ct_l_digits), sl_l_digits⟩)
    (cc_l_digits : PySem.W.codeIn K cd_l_digits "_law_digits" = true)
    (kk_l_digits : PySem.W.keepIn K (.ref f_l_digits) = true)
    (a_l_option : PySem.W.nsIn K mainGlobals "_law_option" = some (some (.ref f_l_option)))
    (l_l_option : K.lookup f_l_option = some ⟨oc_l_option, od_l_option, .func (PySem.W.fnOf "_law_option" "_law_option" (defArgs s_l_option) (defBody s_l_option) (defScope s_l_option) .none kV_l_option dc_l_option pm_l_option an_l_option cd_l_option ct_l_option), sl_l_option⟩)
    (cc_l_option : PySem.W.codeIn K cd_l_option "_law_option" = true)
    (kk_l_option : PySem.W.keepIn K (.ref f_l_option) = true)
    (a_l_plain_options : PySem.W.nsIn K mainGlobals "_law_plain_options" = some (some (.ref f_l_plain_options)))
    (l_l_plain_options : K.lookup f_l_plain_options = some ⟨oc_l_plain_options, od_l_plain_options, .func (PySem.W.fnOf "_law_plain_options" "_law_plain_options" (defArgs s_l_plain_options) (defBody s_l_plain_options) (defScope s_l_plain_options) .none kV_l_plain_options dc_l_plain_options pm_l_plain_options an_l_plain_options cd_l_plain_options ct_l_plain_options), sl_l_plain_options⟩)
    (cc_l_plain_options : PySem.W.codeIn K cd_l_plain_options "_law_plain_options" = true)
    (kk_l_plain_options : PySem.W.keepIn K (.ref f_l_plain_options) = true)
    (a_l_fitting : PySem.W.nsIn K mainGlobals "_law_fitting" = some (some (.ref f_l_fitting)))
    (l_l_fitting : K.lookup f_l_fitting = some ⟨oc_l_fitting, od_l_fitting, .func (PySem.W.fnOf "_law_fitting" "_law_fitting" (defArgs s_l_fitting) (defBody s_l_fitting) (defScope s_l_fitting) .none kV_l_fitting dc_l_fitting pm_l_fitting an_l_fitting cd_l_fitting ct_l_fitting), sl_l_fitting⟩)
    (cc_l_fitting : PySem.W.codeIn K cd_l_fitting "_law_fitting" = true)
    (kk_l_fitting : PySem.W.keepIn K (.ref f_l_fitting) = true)
    (a_l_options : PySem.W.nsIn K mainGlobals "_law_options" = some (some (.ref f_l_options)))
    (l_l_options : K.lookup f_l_options = some ⟨oc_l_options, od_l_options, .func (PySem.W.fnOf "_law_options" "_law_options" (defArgs s_l_options) (defBody s_l_options) (defScope s_l_options) .none kV_l_options dc_l_options pm_l_options an_l_options cd_l_options ct_l_options), sl_l_options⟩)
    (cc_l_options : PySem.W.codeIn K cd_l_options "_law_options" = true)
    (kk_l_options : PySem.W.keepIn K (.ref f_l_options) = true)
    (a_l_sum : PySem.W.nsIn K mainGlobals "_law_sum" = some (some (.ref f_l_sum)))
    (l_l_sum : K.lookup f_l_sum = some ⟨oc_l_sum, od_l_sum, .func (PySem.W.fnOf "_law_sum" "_law_sum" (defArgs s_l_sum) (defBody s_l_sum) (defScope s_l_sum) .none kV_l_sum dc_l_sum pm_l_sum an_l_sum cd_l_sum ct_l_sum), sl_l_sum⟩)
    (cc_l_sum : PySem.W.codeIn K cd_l_sum "_law_sum" = true)
    (kk_l_sum : PySem.W.keepIn K (.ref f_l_sum) = true)
    (a_l_sealed : PySem.W.nsIn K mainGlobals "_law_sealed" = some (some (.ref f_l_sealed)))
    (l_l_sealed : K.lookup f_l_sealed = some ⟨oc_l_sealed, od_l_sealed, .func (PySem.W.fnOf "_law_sealed" "_law_sealed" (defArgs s_l_sealed) (defBody s_l_sealed) (defScope s_l_sealed) .none kV_l_sealed dc_l_sealed pm_l_sealed an_l_sealed cd_l_sealed ct_l_sealed), sl_l_sealed⟩)
    (cc_l_sealed : PySem.W.codeIn K cd_l_sealed "_law_sealed" = true)
    (kk_l_sealed : PySem.W.keepIn K (.ref f_l_sealed) = true)
    (a_l_flags : PySem.W.nsIn K mainGlobals "_law_flags" = some (some (.ref f_l_flags)))
    (l_l_flags : K.lookup f_l_flags = some ⟨oc_l_flags, od_l_flags, .func (PySem.W.fnOf "_law_flags" "_law_flags" (defArgs s_l_flags) (defBody s_l_flags) (defScope s_l_flags) .none kV_l_flags dc_l_flags pm_l_flags an_l_flags cd_l_flags ct_l_flags), sl_l_flags⟩)
    (cc_l_flags : PySem.W.codeIn K cd_l_flags "_law_flags" = true)
    (kk_l_flags : PySem.W.keepIn K (.ref f_l_flags) = true)
    (a_l_written : PySem.W.nsIn K mainGlobals "_law_written" = some (some (.ref f_l_written)))
    (l_l_written : K.lookup f_l_written = some ⟨oc_l_written, od_l_written, .func (PySem.W.fnOf "_law_written" "_law_written" (defArgs s_l_written) (defBody s_l_written) (defScope s_l_written) .none kV_l_written dc_l_written pm_l_written an_l_written cd_l_written ct_l_written), sl_l_written⟩)
    (cc_l_written : PySem.W.codeIn K cd_l_written "_law_written" = true)
    (kk_l_written : PySem.W.keepIn K (.ref f_l_written) = true)
    (a_law : PySem.W.nsIn K mainGlobals "law" = some (some (.ref f_law)))
    (l_law : K.lookup f_law = some ⟨oc_law, od_law, .func (PySem.W.fnOf "law" "law" (defArgs s_law) (defBody s_law) (defScope s_law) .none kV_law dc_law pm_law an_law cd_law ct_law), sl_law⟩)
    (cc_law : PySem.W.codeIn K cd_law "law" = true)
    (kk_law : PySem.W.keepIn K (.ref f_law) = true)
    (z_bool : PySem.W.nsIn K mainGlobals "bool" = some none)
    (z_int : PySem.W.nsIn K mainGlobals "int" = some none)
    (z_isinstance : PySem.W.nsIn K mainGlobals "isinstance" = some none)
    (z_len : PySem.W.nsIn K mainGlobals "len" = some none)
    (z_list : PySem.W.nsIn K mainGlobals "list" = some none)
    (z_range : PySem.W.nsIn K mainGlobals "range" = some none)
    (z_reversed : PySem.W.nsIn K mainGlobals "reversed" = some none)
    (z_sum : PySem.W.nsIn K mainGlobals "sum" = some none)
    (z_tuple : PySem.W.nsIn K mainGlobals "tuple" = some none)
    : ∃ fd : FuncData, (∀ (s : Shared) (v : Value), BindsTo s fd ⟨[v], []⟩ [("script", v)]) ∧ ∀ base : Heap, K.In base → base.Ns mainGlobals mg → FnOk l.prog w K mg base CX0 7 fa fd ["script"] (sp_law K) := by
  have e := hfa.symm.trans (PySem.W.mg_of X G a_law)
  have e2 : f_law = fa := by
    injection e with e
    injection e with e
    exact e.symm
  subst e2
  have es_COUNT_MARK : ∀ H : Hp, SqT K H t_COUNT_MARK [.int 83, .int 85] := fun H => .inr ⟨_, _, _, tk_COUNT_MARK, rfl, rfl, (by show 2 ≤ sizeLine; decide), .cons ⟨_, rfl⟩ (.cons ⟨_, rfl⟩ (.nil))⟩
  have F_octet_sum := fun_mk (st := s_octet_sum) l_octet_sum cc_octet_sum kk_octet_sum
  have b_octet_sum := F_octet_sum.binds (ps := ["sender", "target", "octets"]) fun _ _ _ _ _ _ us hl => match us, hl with | [_, _, _], _ => rfl
  have F_checksum := fun_mk (st := s_checksum) l_checksum cc_checksum kk_checksum
  have b_checksum := F_checksum.binds (ps := ["sender", "target", "octets"]) fun _ _ _ _ _ _ us hl => match us, hl with | [_, _, _], _ => rfl
  have F_write_number := fun_mk (st := s_write_number) l_write_number cc_write_number kk_write_number
  have b_write_number := F_write_number.binds (ps := ["number", "size"]) fun _ _ _ _ _ _ us hl => match us, hl with | [_, _], _ => rfl
  have es_Segment_init___ranges : ∀ H : Hp, SqT K H e_Segment_init___ranges [] := fun H => .inr ⟨_, #[], _, el0_Segment_init___ranges, rfl, rfl, (by show 0 ≤ sizeLine; decide), .nil⟩
  have es_Segment_init___data : ∀ H : Hp, SqT K H e_Segment_init___data [] := fun H => .inr ⟨_, #[], _, el0_Segment_init___data, rfl, rfl, (by show 0 ≤ sizeLine; decide), .nil⟩
  have F_Segment_init__ : FunD K "__init__" "Segment.__init__" (defArgs s_Segment_init__) (defBody s_Segment_init__) (defScope s_Segment_init__) [] [("echo", .non), ("ack", .non), ("syn", .bl false), ("fin", .bl false), ("reset", .bl false), ("marked", .bl false), ("cut", .bl false), ("window", .int 0), ("mss", .non), ("scale", .non), ("ranges_known", .bl false), ("ranges", .ref e_Segment_init___ranges), ("stamp", .non), ("data", .ref e_Segment_init___data)] f_Segment_init__ _ := ⟨⟨_, _, _, _, _, _, _, _, _, _, rfl, l_Segment_init__, cc_Segment_init__, .inl ⟨rfl, rfl⟩, .inr ⟨kd_Segment_init__, rfl, fun q hq => by
      simp only [List.mem_cons, List.not_mem_nil, or_false] at hq
      rcases hq with rfl | rfl | rfl | rfl | rfl | rfl | rfl | rfl | rfl | rfl | rfl | rfl | rfl | rfl
      · exact ⟨_, kw_Segment_init___echo, by first | exact rfl | exact ⟨_, rfl⟩⟩
      · exact ⟨_, kw_Segment_init___ack, by first | exact rfl | exact ⟨_, rfl⟩⟩
      · exact ⟨_, kw_Segment_init___syn, by first | exact rfl | exact ⟨_, rfl⟩⟩
      · exact ⟨_, kw_Segment_init___fin, by first | exact rfl | exact ⟨_, rfl⟩⟩
      · exact ⟨_, kw_Segment_init___reset, by first | exact rfl | exact ⟨_, rfl⟩⟩
      · exact ⟨_, kw_Segment_init___marked, by first | exact rfl | exact ⟨_, rfl⟩⟩
      · exact ⟨_, kw_Segment_init___cut, by first | exact rfl | exact ⟨_, rfl⟩⟩
      · exact ⟨_, kw_Segment_init___window, by first | exact rfl | exact ⟨_, rfl⟩⟩
      · exact ⟨_, kw_Segment_init___mss, by first | exact rfl | exact ⟨_, rfl⟩⟩
      · exact ⟨_, kw_Segment_init___scale, by first | exact rfl | exact ⟨_, rfl⟩⟩
      · exact ⟨_, kw_Segment_init___ranges_known, by first | exact rfl | exact ⟨_, rfl⟩⟩
      · exact ⟨_, kw_Segment_init___ranges, by first | exact rfl | exact ⟨_, rfl⟩⟩
      · exact ⟨_, kw_Segment_init___stamp, by first | exact rfl | exact ⟨_, rfl⟩⟩
      · exact ⟨_, kw_Segment_init___data, by first | exact rfl | exact ⟨_, rfl⟩⟩⟩⟩, kk_Segment_init__⟩
  have F_write_options := fun_mk (st := s_write_options) l_write_options cc_write_options kk_write_options
  have b_write_options := F_write_options.binds (ps := ["segment"]) fun _ _ _ _ _ _ us hl => match us, hl with | [_], _ => rfl
  have F_option := fun_mk (st := s_option) l_option cc_option kk_option
  have b_option := F_option.binds (ps := ["kind", "body"]) fun _ _ _ _ _ _ us hl => match us, hl with | [_, _], _ => rfl
  have F_write_pairs := fun_mk (st := s_write_pairs) l_write_pairs cc_write_pairs kk_write_pairs
  have b_write_pairs := F_write_pairs.binds (ps := ["pairs"]) fun _ _ _ _ _ _ us hl => match us, hl with | [_], _ => rfl
  have F_write_single_options := fun_mk (st := s_write_single_options) l_write_single_options cc_write_single_options kk_write_single_options
  have b_write_single_options := F_write_single_options.binds (ps := ["segment"]) fun _ _ _ _ _ _ us hl => match us, hl with | [_], _ => rfl
  have F_fitting_ranges := fun_mk (st := s_fitting_ranges) l_fitting_ranges cc_fitting_ranges kk_fitting_ranges
  have b_fitting_ranges := F_fitting_ranges.binds (ps := ["segment"]) fun _ _ _ _ _ _ us hl => match us, hl with | [_], _ => rfl
  have F_encode := fun_mk (st := s_encode) l_encode cc_encode kk_encode
  have b_encode := F_encode.binds (ps := ["sender", "target", "segment"]) fun _ _ _ _ _ _ us hl => match us, hl with | [_, _, _], _ => rfl
  have F_write_header := fun_mk (st := s_write_header) l_write_header cc_write_header kk_write_header
  have b_write_header := F_write_header.binds (ps := ["segment", "options_size"]) fun _ _ _ _ _ _ us hl => match us, hl with | [_, _], _ => rfl
  have F_flags := fun_mk (st := s_flags) l_flags cc_flags kk_flags
  have b_flags := F_flags.binds (ps := ["segment"]) fun _ _ _ _ _ _ us hl => match us, hl with | [_], _ => rfl
  have F_l_is_integer := fun_mk (st := s_l_is_integer) l_l_is_integer cc_l_is_integer kk_l_is_integer
  have b_l_is_integer := F_l_is_integer.binds (ps := ["actual"]) fun _ _ _ _ _ _ us hl => match us, hl with | [_], _ => rfl
  have F_l_cell := fun_mk (st := s_l_cell) l_l_cell cc_l_cell kk_l_cell
  have b_l_cell := F_l_cell.binds (ps := ["script", "k"]) fun _ _ _ _ _ _ us hl => match us, hl with | [_, _], _ => rfl
  have F_l_row := fun_mk (st := s_l_row) l_l_row cc_l_row kk_l_row
  have b_l_row := F_l_row.binds (ps := ["cell", "size", "base"]) fun _ _ _ _ _ _ us hl => match us, hl with | [_, _, _], _ => rfl
  have F_l_octets := fun_mk (st := s_l_octets) l_l_octets cc_l_octets kk_l_octets
  have b_l_octets := F_l_octets.binds (ps := ["actual", "expected"]) fun _ _ _ _ _ _ us hl => match us, hl with | [_, _], _ => rfl
  have F_l_wire := fun_mk (st := s_l_wire) l_l_wire cc_l_wire kk_l_wire
  have b_l_wire := F_l_wire.binds (ps := ["cell"]) fun _ _ _ _ _ _ us hl => match us, hl with | [_], _ => rfl
  have F_l_optional := fun_mk (st := s_l_optional) l_l_optional cc_l_optional kk_l_optional
  have b_l_optional := F_l_optional.binds (ps := ["cell", "worth"]) fun _ _ _ _ _ _ us hl => match us, hl with | [_, _], _ => rfl
  have F_l_pairs := fun_mk (st := s_l_pairs) l_l_pairs cc_l_pairs kk_l_pairs
  have b_l_pairs := F_l_pairs.binds (ps := ["cell", "size"]) fun _ _ _ _ _ _ us hl => match us, hl with | [_, _], _ => rfl
  have F_l_parts := fun_mk (st := s_l_parts) l_l_parts cc_l_parts kk_l_parts
  have b_l_parts := F_l_parts.binds (ps := ["script", "at"]) fun _ _ _ _ _ _ us hl => match us, hl with | [_, _], _ => rfl
  have F_l_made := fun_mk (st := s_l_made) l_l_made cc_l_made kk_l_made
  have b_l_made := F_l_made.binds (ps := ["parts"]) fun _ _ _ _ _ _ us hl => match us, hl with | [_], _ => rfl
  have F_l_number := fun_mk (st := s_l_number) l_l_number cc_l_number kk_l_number
  have b_l_number := F_l_number.binds (ps := ["actual", "expected"]) fun _ _ _ _ _ _ us hl => match us, hl with | [_, _], _ => rfl
  have F_l_pair := fun_mk (st := s_l_pair) l_l_pair cc_l_pair kk_l_pair
  have b_l_pair := F_l_pair.binds (ps := ["actual", "expected"]) fun _ _ _ _ _ _ us hl => match us, hl with | [_, _], _ => rfl
  have F_l_all_pairs := fun_mk (st := s_l_all_pairs) l_l_all_pairs cc_l_all_pairs kk_l_all_pairs
  have b_l_all_pairs := F_l_all_pairs.binds (ps := ["actual", "expected"]) fun _ _ _ _ _ _ us hl => match us, hl with | [_, _], _ => rfl
  have F_l_flag := fun_mk (st := s_l_flag) l_l_flag cc_l_flag kk_l_flag
  have b_l_flag := F_l_flag.binds (ps := ["actual", "expected"]) fun _ _ _ _ _ _ us hl => match us, hl with | [_, _], _ => rfl
  have F_l_same := fun_mk (st := s_l_same) l_l_same cc_l_same kk_l_same
  have b_l_same := F_l_same.binds (ps := ["actual", "parts"]) fun _ _ _ _ _ _ us hl => match us, hl with | [_, _], _ => rfl
  have F_l_digits := fun_mk (st := s_l_digits) l_l_digits cc_l_digits kk_l_digits
  have b_l_digits := F_l_digits.binds (ps := ["number", "size"]) fun _ _ _ _ _ _ us hl => match us, hl with | [_, _], _ => rfl
  have F_l_option := fun_mk (st := s_l_option) l_l_option cc_l_option kk_l_option
  have b_l_option := F_l_option.binds (ps := ["kind", "body"]) fun _ _ _ _ _ _ us hl => match us, hl with | [_, _], _ => rfl
  have F_l_plain_options := fun_mk (st := s_l_plain_options) l_l_plain_options cc_l_plain_options kk_l_plain_options
  have b_l_plain_options := F_l_plain_options.binds (ps := ["parts"]) fun _ _ _ _ _ _ us hl => match us, hl with | [_], _ => rfl
  have F_l_fitting := fun_mk (st := s_l_fitting) l_l_fitting cc_l_fitting kk_l_fitting
  have b_l_fitting := F_l_fitting.binds (ps := ["parts"]) fun _ _ _ _ _ _ us hl => match us, hl with | [_], _ => rfl
  have F_l_options := fun_mk (st := s_l_options) l_l_options cc_l_options kk_l_options
  have b_l_options := F_l_options.binds (ps := ["parts"]) fun _ _ _ _ _ _ us hl => match us, hl with | [_], _ => rfl
  have F_l_sum := fun_mk (st := s_l_sum) l_l_sum cc_l_sum kk_l_sum
  have b_l_sum := F_l_sum.binds (ps := ["sender", "target", "row"]) fun _ _ _ _ _ _ us hl => match us, hl with | [_, _, _], _ => rfl
  have F_l_sealed := fun_mk (st := s_l_sealed) l_l_sealed cc_l_sealed kk_l_sealed
  have b_l_sealed := F_l_sealed.binds (ps := ["sender", "target", "octets"]) fun _ _ _ _ _ _ us hl => match us, hl with | [_, _, _], _ => rfl
  have F_l_flags := fun_mk (st := s_l_flags) l_l_flags cc_l_flags kk_l_flags
  have b_l_flags := F_l_flags.binds (ps := ["parts"]) fun _ _ _ _ _ _ us hl => match us, hl with | [_], _ => rfl
  have F_l_written := fun_mk (st := s_l_written) l_l_written cc_l_written kk_l_written
  have b_l_written := F_l_written.binds (ps := ["sender", "target", "parts", "options"]) fun _ _ _ _ _ _ us hl => match us, hl with | [_, _, _, _], _ => rfl
  have F_law := fun_mk (st := s_law) l_law cc_law kk_law
  have b_law := F_law.binds (ps := ["script"]) fun _ _ _ _ _ _ us hl => match us, hl with | [_], _ => rfl
  let T : Txt K mg := { t_MODULUS := t_MODULUS, t_PROTOCOL := t_PROTOCOL, t_END := t_END, t_MSS := t_MSS, t_SCALE := t_SCALE, t_RANGES_KNOWN := t_RANGES_KNOWN, t_RANGES := t_RANGES, t_STAMP := t_STAMP, t_COUNT := t_COUNT, t_COUNT_MARK := t_COUNT_MARK, t_ROOM_FOR_RANGES := t_ROOM_FOR_RANGES, t_HEADER_SIZE := t_HEADER_SIZE, t_CUT := t_CUT, t_MARKED := t_MARKED, t_ACK := t_ACK, t_DATA := t_DATA, t_RESET := t_RESET, t_SYN := t_SYN, t_FIN := t_FIN, C_Segment := C_Segment, f_octet_sum := f_octet_sum, d_octet_sum := _, f_checksum := f_checksum, d_checksum := _, f_write_number := f_write_number, d_write_number := _, f_Segment_init__ := f_Segment_init__, d_Segment_init__ := _, e_Segment_init___ranges := e_Segment_init___ranges, e_Segment_init___data := e_Segment_init___data, f_write_options := f_write_options, d_write_options := _, f_option := f_option, d_option := _, f_write_pairs := f_write_pairs, d_write_pairs := _, f_write_single_options := f_write_single_options, d_write_single_options := _, f_fitting_ranges := f_fitting_ranges, d_fitting_ranges := _, f_encode := f_encode, d_encode := _, f_write_header := f_write_header, d_write_header := _, f_flags := f_flags, d_flags := _, f_l_is_integer := f_l_is_integer, d_l_is_integer := _, f_l_cell := f_l_cell, d_l_cell := _, f_l_row := f_l_row, d_l_row := _, f_l_octets := f_l_octets, d_l_octets := _, f_l_wire := f_l_wire, d_l_wire := _, f_l_optional := f_l_optional, d_l_optional := _, f_l_pairs := f_l_pairs, d_l_pairs := _, f_l_parts := f_l_parts, d_l_parts := _, f_l_made := f_l_made, d_l_made := _, f_l_number := f_l_number, d_l_number := _, f_l_pair := f_l_pair, d_l_pair := _, f_l_all_pairs := f_l_all_pairs, d_l_all_pairs := _, f_l_flag := f_l_flag, d_l_flag := _, f_l_same := f_l_same, d_l_same := _, f_l_digits := f_l_digits, d_l_digits := _, f_l_option := f_l_option, d_l_option := _, f_l_plain_options := f_l_plain_options, d_l_plain_options := _, f_l_fitting := f_l_fitting, d_l_fitting := _, f_l_options := f_l_options, d_l_options := _, f_l_sum := f_l_sum, d_l_sum := _, f_l_sealed := f_l_sealed, d_l_sealed := _, f_l_flags := f_l_flags, d_l_flags := _, f_l_written := f_l_written, d_l_written := _, f_law := f_law, d_law := _, v_MODULUS := PySem.W.mg_of X G v_MODULUS, v_PROTOCOL := PySem.W.mg_of X G v_PROTOCOL, v_END := PySem.W.mg_of X G v_END, v_MSS := PySem.W.mg_of X G v_MSS, v_SCALE := PySem.W.mg_of X G v_SCALE, v_RANGES_KNOWN := PySem.W.mg_of X G v_RANGES_KNOWN, v_RANGES := PySem.W.mg_of X G v_RANGES, v_STAMP := PySem.W.mg_of X G v_STAMP, v_COUNT := PySem.W.mg_of X G v_COUNT, v_COUNT_MARK := PySem.W.mg_of X G v_COUNT_MARK, es_COUNT_MARK := es_COUNT_MARK, v_ROOM_FOR_RANGES := PySem.W.mg_of X G v_ROOM_FOR_RANGES, v_HEADER_SIZE := PySem.W.mg_of X G v_HEADER_SIZE, v_CUT := PySem.W.mg_of X G v_CUT, v_MARKED := PySem.W.mg_of X G v_MARKED, v_ACK := PySem.W.mg_of X G v_ACK, v_DATA := PySem.W.mg_of X G v_DATA, v_RESET := PySem.W.mg_of X G v_RESET, v_SYN := PySem.W.mg_of X G v_SYN, v_FIN := PySem.W.mg_of X G v_FIN, c_Segment := PySem.W.mg_of X G c_Segment, k_Segment := ⟨pg_Segment, hd_Segment, po_Segment, sa_Segment⟩, i_Segment := fun e => .ins e ⟨pg_Segment, hd_Segment, po_Segment, sa_Segment⟩ ha_Segment hn_all ht_all hm_Segment, n_Segment_source := n_Segment_source, n_Segment_target := n_Segment_target, n_Segment_seq := n_Segment_seq, n_Segment_count := n_Segment_count, n_Segment_echo := n_Segment_echo, n_Segment_ack := n_Segment_ack, n_Segment_syn := n_Segment_syn, n_Segment_fin := n_Segment_fin, n_Segment_reset := n_Segment_reset, n_Segment_marked := n_Segment_marked, n_Segment_cut := n_Segment_cut, n_Segment_window := n_Segment_window, n_Segment_mss := n_Segment_mss, n_Segment_scale := n_Segment_scale, n_Segment_ranges_known := n_Segment_ranges_known, n_Segment_ranges := n_Segment_ranges, n_Segment_stamp := n_Segment_stamp, n_Segment_data := n_Segment_data, F_octet_sum := F_octet_sum, b_octet_sum := b_octet_sum, m_octet_sum := PySem.W.mg_of X G a_octet_sum, F_checksum := F_checksum, b_checksum := b_checksum, m_checksum := PySem.W.mg_of X G a_checksum, F_write_number := F_write_number, b_write_number := b_write_number, m_write_number := PySem.W.mg_of X G a_write_number, es_Segment_init___ranges := es_Segment_init___ranges, es_Segment_init___data := es_Segment_init___data, F_Segment_init__ := F_Segment_init__, mk_Segment := ⟨mk0_Segment, a_Segment_init__, i_Segment_init__, kc_Segment⟩, F_write_options := F_write_options, b_write_options := b_write_options, m_write_options := PySem.W.mg_of X G a_write_options, F_option := F_option, b_option := b_option, m_option := PySem.W.mg_of X G a_option, F_write_pairs := F_write_pairs, b_write_pairs := b_write_pairs, m_write_pairs := PySem.W.mg_of X G a_write_pairs, F_write_single_options := F_write_single_options, b_write_single_options := b_write_single_options, m_write_single_options := PySem.W.mg_of X G a_write_single_options, F_fitting_ranges := F_fitting_ranges, b_fitting_ranges := b_fitting_ranges, m_fitting_ranges := PySem.W.mg_of X G a_fitting_ranges, F_encode := F_encode, b_encode := b_encode, m_encode := PySem.W.mg_of X G a_encode, F_write_header := F_write_header, b_write_header := b_write_header, m_write_header := PySem.W.mg_of X G a_write_header, F_flags := F_flags, b_flags := b_flags, m_flags := PySem.W.mg_of X G a_flags, F_l_is_integer := F_l_is_integer, b_l_is_integer := b_l_is_integer, m_l_is_integer := PySem.W.mg_of X G a_l_is_integer, F_l_cell := F_l_cell, b_l_cell := b_l_cell, m_l_cell := PySem.W.mg_of X G a_l_cell, F_l_row := F_l_row, b_l_row := b_l_row, m_l_row := PySem.W.mg_of X G a_l_row, F_l_octets := F_l_octets, b_l_octets := b_l_octets, m_l_octets := PySem.W.mg_of X G a_l_octets, F_l_wire := F_l_wire, b_l_wire := b_l_wire, m_l_wire := PySem.W.mg_of X G a_l_wire, F_l_optional := F_l_optional, b_l_optional := b_l_optional, m_l_optional := PySem.W.mg_of X G a_l_optional, F_l_pairs := F_l_pairs, b_l_pairs := b_l_pairs, m_l_pairs := PySem.W.mg_of X G a_l_pairs, F_l_parts := F_l_parts, b_l_parts := b_l_parts, m_l_parts := PySem.W.mg_of X G a_l_parts, F_l_made := F_l_made, b_l_made := b_l_made, m_l_made := PySem.W.mg_of X G a_l_made, F_l_number := F_l_number, b_l_number := b_l_number, m_l_number := PySem.W.mg_of X G a_l_number, F_l_pair := F_l_pair, b_l_pair := b_l_pair, m_l_pair := PySem.W.mg_of X G a_l_pair, F_l_all_pairs := F_l_all_pairs, b_l_all_pairs := b_l_all_pairs, m_l_all_pairs := PySem.W.mg_of X G a_l_all_pairs, F_l_flag := F_l_flag, b_l_flag := b_l_flag, m_l_flag := PySem.W.mg_of X G a_l_flag, F_l_same := F_l_same, b_l_same := b_l_same, m_l_same := PySem.W.mg_of X G a_l_same, F_l_digits := F_l_digits, b_l_digits := b_l_digits, m_l_digits := PySem.W.mg_of X G a_l_digits, F_l_option := F_l_option, b_l_option := b_l_option, m_l_option := PySem.W.mg_of X G a_l_option, F_l_plain_options := F_l_plain_options, b_l_plain_options := b_l_plain_options, m_l_plain_options := PySem.W.mg_of X G a_l_plain_options, F_l_fitting := F_l_fitting, b_l_fitting := b_l_fitting, m_l_fitting := PySem.W.mg_of X G a_l_fitting, F_l_options := F_l_options, b_l_options := b_l_options, m_l_options := PySem.W.mg_of X G a_l_options, F_l_sum := F_l_sum, b_l_sum := b_l_sum, m_l_sum := PySem.W.mg_of X G a_l_sum, F_l_sealed := F_l_sealed, b_l_sealed := b_l_sealed, m_l_sealed := PySem.W.mg_of X G a_l_sealed, F_l_flags := F_l_flags, b_l_flags := b_l_flags, m_l_flags := PySem.W.mg_of X G a_l_flags, F_l_written := F_l_written, b_l_written := b_l_written, m_l_written := PySem.W.mg_of X G a_l_written, F_law := F_law, b_law := b_law, m_law := PySem.W.mg_of X G a_law, n_bool := PySem.W.mg_none_of X G z_bool, n_int := PySem.W.mg_none_of X G z_int, n_isinstance := PySem.W.mg_none_of X G z_isinstance, n_len := PySem.W.mg_none_of X G z_len, n_list := PySem.W.mg_none_of X G z_list, n_range := PySem.W.mg_none_of X G z_range, n_reversed := PySem.W.mg_none_of X G z_reversed, n_sum := PySem.W.mg_none_of X G z_sum, n_tuple := PySem.W.mg_none_of X G z_tuple }
  exact ⟨PySem.W.fnOf "law" "law" (defArgs s_law) (defBody s_law) (defScope s_law) .none kV_law dc_law pm_law an_law cd_law ct_law, fun s v => .of_eq rfl, fun base _ _ => ok_law T⟩
theorem walk {l : PySem.W.OpenLaw} {q : Program} {loose : List Str} {XP : (Str → Option Value) → Heap → Prop} {YP : World → Heap → Prop} {d : DefRec} {K : Params → PySem.W.Frag} (hn : l.most = some 63) (hdf : d.params.defaults = [])
    (hY : ∀ (w : World) (h : Heap), YP w h → (K w.params).In h)
    (F : ∀ (w : World) (mg : Str → Option Value) (fa : Addr) (h : Heap), (K w.params).In h → h.Ns mainGlobals mg → mg d.name = some (.ref fa) →
      ∃ fd : FuncData, (∀ (s : Shared) (u : Value), BindsTo s fd ⟨[u], []⟩ [("script", u)]) ∧ ∀ base : Heap, (K w.params).In base → base.Ns mainGlobals mg → FnOk l.prog w (K w.params) mg base CX0 7 fa fd ["script"] (sp_law (K w.params))) :
    PySem.W.WalkO q loose XP YP l.row.toRowW d [] (fun f vs => PySem.call f vs) :=
  L2.walk_of (n := 63) (k := 7) (x := "script") (CX := fun _ => CX0) (sp := fun w => sp_law (K w.params)) hn (by decide) hdf ⟨rfl, by decide, by decide⟩ hY F (fun _ _ a ns hl _ hS => ⟨a, ns, rfl, hS, hl, fun _ => rfl⟩) fun _ _ _ _ _ z => z
end My
open PySem PySem.W PyProof.Rows
set_option maxRecDepth 100000 in
set_option maxHeartbeats 0 in
theorem PySem.Challenge.cw_throughline_k08_encoded_segments_holds : PySem.Challenge.rw_throughline_k08_encoded_segments.Holds := by
  w_on; o_law; k_head; (case hw => w_witness2)
  k_fill
  refine My.walk (l := PySem.Challenge.rw_throughline_k08_encoded_segments) rfl rfl (fun w h Y => PySem.W.kIn_of Y) ?F
  case F =>
    intro w mg fa h KX G hmg
    refine' My.all_mk KX G hmg ?v_MODULUS ?v_PROTOCOL ?v_END ?v_MSS ?v_SCALE ?v_RANGES_KNOWN ?v_RANGES ?v_STAMP ?v_COUNT ?v_COUNT_MARK ?tk_COUNT_MARK ?v_ROOM_FOR_RANGES ?v_HEADER_SIZE ?v_CUT ?v_MARKED ?v_ACK ?v_DATA ?v_RESET ?v_SYN ?v_FIN ?c_Segment ?pg_Segment ?hd_Segment ?po_Segment ?sa_Segment ?mk0_Segment ?kc_Segment ?ha_Segment ?hm_Segment ?hn_all ?ht_all ?n_Segment_source ?n_Segment_target ?n_Segment_seq ?n_Segment_count ?n_Segment_echo ?n_Segment_ack ?n_Segment_syn ?n_Segment_fin ?n_Segment_reset ?n_Segment_marked ?n_Segment_cut ?n_Segment_window ?n_Segment_mss ?n_Segment_scale ?n_Segment_ranges_known ?n_Segment_ranges ?n_Segment_stamp ?n_Segment_data ?a_octet_sum ?l_octet_sum ?cc_octet_sum ?kk_octet_sum ?a_checksum ?l_checksum ?cc_checksum ?kk_checksum ?a_write_number ?l_write_number ?cc_write_number ?kk_write_number ?a_Segment_init__ ?i_Segment_init__ ?l_Segment_init__ ?kw_Segment_init___echo ?kw_Segment_init___ack ?kw_Segment_init___syn ?kw_Segment_init___fin ?kw_Segment_init___reset ?kw_Segment_init___marked ?kw_Segment_init___cut ?kw_Segment_init___window ?kw_Segment_init___mss ?kw_Segment_init___scale ?kw_Segment_init___ranges_known ?kw_Segment_init___ranges ?el0_Segment_init___ranges ?kw_Segment_init___stamp ?kw_Segment_init___data ?el0_Segment_init___data ?cc_Segment_init__ ?kk_Segment_init__ ?a_write_options ?l_write_options ?cc_write_options ?kk_write_options ?a_option ?l_option ?cc_option ?kk_option ?a_write_pairs ?l_write_pairs ?cc_write_pairs ?kk_write_pairs ?a_write_single_options ?l_write_single_options ?cc_write_single_options ?kk_write_single_options ?a_fitting_ranges ?l_fitting_ranges ?cc_fitting_ranges ?kk_fitting_ranges ?a_encode ?l_encode ?cc_encode ?kk_encode ?a_write_header ?l_write_header ?cc_write_header ?kk_write_header ?a_flags ?l_flags ?cc_flags ?kk_flags ?a_l_is_integer ?l_l_is_integer ?cc_l_is_integer ?kk_l_is_integer ?a_l_cell ?l_l_cell ?cc_l_cell ?kk_l_cell ?a_l_row ?l_l_row ?cc_l_row ?kk_l_row ?a_l_octets ?l_l_octets ?cc_l_octets ?kk_l_octets ?a_l_wire ?l_l_wire ?cc_l_wire ?kk_l_wire ?a_l_optional ?l_l_optional ?cc_l_optional ?kk_l_optional ?a_l_pairs ?l_l_pairs ?cc_l_pairs ?kk_l_pairs ?a_l_parts ?l_l_parts ?cc_l_parts ?kk_l_parts ?a_l_made ?l_l_made ?cc_l_made ?kk_l_made ?a_l_number ?l_l_number ?cc_l_number ?kk_l_number ?a_l_pair ?l_l_pair ?cc_l_pair ?kk_l_pair ?a_l_all_pairs ?l_l_all_pairs ?cc_l_all_pairs ?kk_l_all_pairs ?a_l_flag ?l_l_flag ?cc_l_flag ?kk_l_flag ?a_l_same ?l_l_same ?cc_l_same ?kk_l_same ?a_l_digits ?l_l_digits ?cc_l_digits ?kk_l_digits ?a_l_option ?l_l_option ?cc_l_option ?kk_l_option ?a_l_plain_options ?l_l_plain_options ?cc_l_plain_options ?kk_l_plain_options ?a_l_fitting ?l_l_fitting ?cc_l_fitting ?kk_l_fitting ?a_l_options ?l_l_options ?cc_l_options ?kk_l_options ?a_l_sum ?l_l_sum ?cc_l_sum ?kk_l_sum ?a_l_sealed ?l_l_sealed ?cc_l_sealed ?kk_l_sealed ?a_l_flags ?l_l_flags ?cc_l_flags ?kk_l_flags ?a_l_written ?l_l_written ?cc_l_written ?kk_l_written ?a_law ?l_law ?cc_law ?kk_law ?z_bool ?z_int ?z_isinstance ?z_len ?z_list ?z_range ?z_reversed ?z_sum ?z_tuple
    (case v_MODULUS => k_is)
    (case v_PROTOCOL => k_is)
    (case v_END => k_is)
    (case v_MSS => k_is)
    (case v_SCALE => k_is)
    (case v_RANGES_KNOWN => k_is)
    (case v_RANGES => k_is)
    (case v_STAMP => k_is)
    (case v_COUNT => k_is)
    (case v_COUNT_MARK => k_is)
    (case tk_COUNT_MARK => k_is)
    (case v_ROOM_FOR_RANGES => k_is)
    (case v_HEADER_SIZE => k_is)
    (case v_CUT => k_is)
    (case v_MARKED => k_is)
    (case v_ACK => k_is)
    (case v_DATA => k_is)
    (case v_RESET => k_is)
    (case v_SYN => k_is)
    (case v_FIN => k_is)
    (case c_Segment => k_is)
    (case pg_Segment => k_is)
    (case hd_Segment => k_is)
    (case po_Segment => k_is)
    (case sa_Segment => k_is)
    (case mk0_Segment => k_is)
    (case kc_Segment => k_is)
    (case ha_Segment => k_is)
    (case hm_Segment => k_is)
    (case hn_all => k_is)
    (case ht_all => k_is)
    (case n_Segment_source => k_is)
    (case n_Segment_target => k_is)
    (case n_Segment_seq => k_is)
    (case n_Segment_count => k_is)
    (case n_Segment_echo => k_is)
    (case n_Segment_ack => k_is)
    (case n_Segment_syn => k_is)
    (case n_Segment_fin => k_is)
    (case n_Segment_reset => k_is)
    (case n_Segment_marked => k_is)
    (case n_Segment_cut => k_is)
    (case n_Segment_window => k_is)
    (case n_Segment_mss => k_is)
    (case n_Segment_scale => k_is)
    (case n_Segment_ranges_known => k_is)
    (case n_Segment_ranges => k_is)
    (case n_Segment_stamp => k_is)
    (case n_Segment_data => k_is)
    (case a_octet_sum => k_is)
    (case l_octet_sum => k_is)
    (case cc_octet_sum => k_is)
    (case kk_octet_sum => k_is)
    (case a_checksum => k_is)
    (case l_checksum => k_is)
    (case cc_checksum => k_is)
    (case kk_checksum => k_is)
    (case a_write_number => k_is)
    (case l_write_number => k_is)
    (case cc_write_number => k_is)
    (case kk_write_number => k_is)
    (case a_Segment_init__ => k_is)
    (case i_Segment_init__ => k_is)
    (case l_Segment_init__ => k_is)
    (case kw_Segment_init___echo => k_is)
    (case kw_Segment_init___ack => k_is)
    (case kw_Segment_init___syn => k_is)
    (case kw_Segment_init___fin => k_is)
    (case kw_Segment_init___reset => k_is)
    (case kw_Segment_init___marked => k_is)
    (case kw_Segment_init___cut => k_is)
    (case kw_Segment_init___window => k_is)
    (case kw_Segment_init___mss => k_is)
    (case kw_Segment_init___scale => k_is)
    (case kw_Segment_init___ranges_known => k_is)
    (case kw_Segment_init___ranges => k_is)
    (case el0_Segment_init___ranges => k_is)
    (case kw_Segment_init___stamp => k_is)
    (case kw_Segment_init___data => k_is)
    (case el0_Segment_init___data => k_is)
    (case cc_Segment_init__ => k_is)
    (case kk_Segment_init__ => k_is)
    (case a_write_options => k_is)
    (case l_write_options => k_is)
    (case cc_write_options => k_is)
    (case kk_write_options => k_is)
    (case a_option => k_is)
    (case l_option => k_is)
    (case cc_option => k_is)
    (case kk_option => k_is)
    (case a_write_pairs => k_is)
    (case l_write_pairs => k_is)
    (case cc_write_pairs => k_is)
    (case kk_write_pairs => k_is)
    (case a_write_single_options => k_is)
    (case l_write_single_options => k_is)
    (case cc_write_single_options => k_is)
    (case kk_write_single_options => k_is)
    (case a_fitting_ranges => k_is)
    (case l_fitting_ranges => k_is)
    (case cc_fitting_ranges => k_is)
    (case kk_fitting_ranges => k_is)
    (case a_encode => k_is)
    (case l_encode => k_is)
    (case cc_encode => k_is)
    (case kk_encode => k_is)
    (case a_write_header => k_is)
    (case l_write_header => k_is)
    (case cc_write_header => k_is)
    (case kk_write_header => k_is)
    (case a_flags => k_is)
    (case l_flags => k_is)
    (case cc_flags => k_is)
    (case kk_flags => k_is)
    (case a_l_is_integer => k_is)
    (case l_l_is_integer => k_is)
    (case cc_l_is_integer => k_is)
    (case kk_l_is_integer => k_is)
    (case a_l_cell => k_is)
    (case l_l_cell => k_is)
    (case cc_l_cell => k_is)
    (case kk_l_cell => k_is)
    (case a_l_row => k_is)
    (case l_l_row => k_is)
    (case cc_l_row => k_is)
    (case kk_l_row => k_is)
    (case a_l_octets => k_is)
    (case l_l_octets => k_is)
    (case cc_l_octets => k_is)
    (case kk_l_octets => k_is)
    (case a_l_wire => k_is)
    (case l_l_wire => k_is)
    (case cc_l_wire => k_is)
    (case kk_l_wire => k_is)
    (case a_l_optional => k_is)
    (case l_l_optional => k_is)
    (case cc_l_optional => k_is)
    (case kk_l_optional => k_is)
    (case a_l_pairs => k_is)
    (case l_l_pairs => k_is)
    (case cc_l_pairs => k_is)
    (case kk_l_pairs => k_is)
    (case a_l_parts => k_is)
    (case l_l_parts => k_is)
    (case cc_l_parts => k_is)
    (case kk_l_parts => k_is)
    (case a_l_made => k_is)
    (case l_l_made => k_is)
    (case cc_l_made => k_is)
    (case kk_l_made => k_is)
    (case a_l_number => k_is)
    (case l_l_number => k_is)
    (case cc_l_number => k_is)
    (case kk_l_number => k_is)
    (case a_l_pair => k_is)
    (case l_l_pair => k_is)
    (case cc_l_pair => k_is)
    (case kk_l_pair => k_is)
    (case a_l_all_pairs => k_is)
    (case l_l_all_pairs => k_is)
    (case cc_l_all_pairs => k_is)
    (case kk_l_all_pairs => k_is)
    (case a_l_flag => k_is)
    (case l_l_flag => k_is)
    (case cc_l_flag => k_is)
    (case kk_l_flag => k_is)
    (case a_l_same => k_is)
    (case l_l_same => k_is)
    (case cc_l_same => k_is)
    (case kk_l_same => k_is)
    (case a_l_digits => k_is)
    (case l_l_digits => k_is)
    (case cc_l_digits => k_is)
    (case kk_l_digits => k_is)
    (case a_l_option => k_is)
    (case l_l_option => k_is)
    (case cc_l_option => k_is)
    (case kk_l_option => k_is)
    (case a_l_plain_options => k_is)
    (case l_l_plain_options => k_is)
    (case cc_l_plain_options => k_is)
    (case kk_l_plain_options => k_is)
    (case a_l_fitting => k_is)
    (case l_l_fitting => k_is)
    (case cc_l_fitting => k_is)
    (case kk_l_fitting => k_is)
    (case a_l_options => k_is)
    (case l_l_options => k_is)
    (case cc_l_options => k_is)
    (case kk_l_options => k_is)
    (case a_l_sum => k_is)
    (case l_l_sum => k_is)
    (case cc_l_sum => k_is)
    (case kk_l_sum => k_is)
    (case a_l_sealed => k_is)
    (case l_l_sealed => k_is)
    (case cc_l_sealed => k_is)
    (case kk_l_sealed => k_is)
    (case a_l_flags => k_is)
    (case l_l_flags => k_is)
    (case cc_l_flags => k_is)
    (case kk_l_flags => k_is)
    (case a_l_written => k_is)
    (case l_l_written => k_is)
    (case cc_l_written => k_is)
    (case kk_l_written => k_is)
    (case a_law => k_is)
    (case l_law => k_is)
    (case cc_law => k_is)
    (case kk_law => k_is)
    (case z_bool => k_is)
    (case z_int => k_is)
    (case z_isinstance => k_is)
    (case z_len => k_is)
    (case z_list => k_is)
    (case z_range => k_is)
    (case z_reversed => k_is)
    (case z_sum => k_is)
    (case z_tuple => k_is)
#print axioms PySem.Challenge.cw_throughline_k08_encoded_segments_holds

