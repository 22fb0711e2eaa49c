import PyProof.Rows.All
import Wide.All
import OpenK.AllK
import Wide.FinOn
import HandS.ForMost
import HandS.IsInst
import HandS.Wide
import HandS.Style
import HandS.Conv
import HandS.RevRange
import HandS.Walk
import HandS.Property
import HandS.Star
import HandS.Codes
import HandS.TupAny
import HandS.WideBits
import HandS.MakeKwOnly
import HandS.Defaults
import HandS.Rev
import HandS.Iter
import HandS.Dict
import PySem.Challenge.RW_throughline_k05_segments
set_option Elab.async false
set_option linter.all false
set_option maxRecDepth 100000
set_option maxHeartbeats 4000000
namespace My
open PySem PySem.Spec L2
/-! ### readings, one rule a construct -/
section
variable {K : PySem.W.Frag} {σ : St} {H : Hp} {Q : VK} {v x y z : V} {ta tb te tc : TE} {tt tu : TT} {r : R2} {D : Ends} {ts us : TS} {P : Bool → Hp → Prop} {i j : Int}
theorem g_var {i : Nat} (h : σ[i]? = some (some v)) (q : Q v H) : tVar i σ H Q := ⟨v, h, q⟩
theorem g_c (q : Q v H) : tC v σ H Q := q
theorem g_op (h : ta σ H fun x H1 => tb σ H1 fun y H2 => r x y H2 Q) : tOp r ta tb σ H Q := h
theorem g_un {r : V → Hp → VK → Prop} (h : ta σ H fun x H1 => r x H1 Q) : tUn r ta σ H Q := h
theorem g_rI0 {g : Int → Int → V} (q : Q (g i j) H) : rI0 g (.int i) (.int j) H Q := ⟨i, j, rfl, rfl, q⟩
theorem g_rI {C : Int → Int → Prop} {g : Int → Int → V} (c : C i j) (q : Q (g i j) H) : rI C g (.int i) (.int j) H Q := ⟨i, j, rfl, rfl, c, q⟩
theorem g_rU {g : Int → V} (q : Q (g i) H) : rU g (.int i) H Q := ⟨i, rfl, q⟩
theorem g_rEqI (q : Q (.bl (decide (i = j))) H) : rEq (.int i) (.int j) H Q := ⟨rfl, by rw [dec_int]; exact q⟩
theorem g_rNeI (q : Q (.bl (!decide (i = j))) H) : rNe (.int i) (.int j) H Q := ⟨rfl, by rw [dec_int]; exact q⟩
theorem g_rEq (s : scal x y = true) (q : Q (.bl (decide (x = y))) H) : rEq x y H Q := ⟨s, q⟩
theorem g_rNe (s : scal x y = true) (q : Q (.bl (!decide (x = y))) H) : rNe x y H Q := ⟨s, q⟩
theorem g_isN {A : Prop} (q : A) : V.non = V.non ∧ A := ⟨rfl, q⟩
theorem g_rIsB {a b : Bool} (q : Q (.bl (decide (a = b))) H) : rIsB (.bl a) (.bl b) H Q := ⟨a, b, rfl, rfl, q⟩
theorem g_rNotB {a b : Bool} (q : Q (.bl (!decide (a = b))) H) : rNotB (.bl a) (.bl b) H Q := ⟨a, b, rfl, rfl, q⟩
theorem g_test {t : TE} (h : t σ H fun x H' => ∃ k, x = .bl k ∧ P k H') : tTest t σ H P := h
theorem g_B {t : TE} (h : t σ H fun x H' => ∃ k, x = .bl k ∧ P k H') : tB t σ H P := h
theorem g_bl {b : Bool} {A : Bool → Prop} (q : A b) : ∃ k, V.bl b = .bl k ∧ A k := ⟨b, rfl, q⟩
theorem g_and (h : tt σ H fun c H1 => if c = true then tu σ H1 P else P false H1) : tAnd tt tu σ H P := h
theorem g_or (h : tt σ H fun c H1 => if c = true then P true H1 else tu σ H1 P) : tOr tt tu σ H P := h
theorem g_not (h : tt σ H fun c H1 => P (!c) H1) : tNot tt σ H P := h
theorem g_andV (h : ta σ H fun x H1 => ∃ c, x = .bl c ∧ if c = true then tb σ H1 Q else Q (.bl false) H1) : tAndV ta tb σ H Q := h
theorem g_orV (h : ta σ H fun x H1 => ∃ c, x = .bl c ∧ if c = true then Q (.bl true) H1 else tb σ H1 Q) : tOrV ta tb σ H Q := h
theorem g_notV (h : ta σ H fun x H1 => ∃ c, x = .bl c ∧ Q (.bl (!c)) H1) : tNotV ta σ H Q := h
theorem g_if (h : tt σ H fun c H1 => if c = true then ta σ H1 Q else tb σ H1 Q) : tIf tt ta tb σ H Q := h
theorem g_chain {r' : R2} (h : ta σ H fun x H1 => tb σ H1 fun y H2 => r x y H2 fun z H3 => ∃ k, z = .bl k ∧ (if k = true then tc σ H3 fun w' H4 => r' y w' H4 Q else Q (.bl false) H3)) : tChain r r' ta tb tc σ H Q := h
theorem g_nil {A : List V → Hp → Prop} (q : A [] H) : tNil σ H A := q
theorem g_cons {tr : TA} {A : List V → Hp → Prop} (h : ta σ H fun x H1 => tr σ H1 fun xs H2 => A (x :: xs) H2) : tCons ta tr σ H A := h
theorem g_tup {t : TA} (h : t σ H fun xs H1 => xs.length ≤ sizeLine ∧ ∀ p, H1 p = none → Q (.ref p) (upd H1 p (.tup xs))) : tTup t σ H Q := h
theorem g_lst {t : TA} (h : t σ H fun xs H1 => xs.length ≤ sizeLine ∧ ∀ p, H1 p = none → Q (.ref p) (upd H1 p (.lst xs))) : tLst t σ H Q := h
theorem g_call {sp : Sp} {dvs : List V} {E : XK} {t : TA} (h : t σ H fun vs H1 => sp (vs ++ dvs) H1 Q E) : tCall sp dvs E t σ H Q := h
theorem g_CB {r : List V → Hp → VK → Prop} {t : TA} (h : t σ H fun vs H1 => r vs H1 Q) : tCB r t σ H Q := h
theorem g_sl {r : V → Option Int → Option Int → Hp → VK → Prop} {tl th : TO} (h : te σ H fun x H1 => tl σ H1 fun l H2 => th σ H2 fun u H3 => r x l u H3 Q) : tSl r te tl th σ H Q := h
theorem g_noPart {A : Option Int → Hp → Prop} (q : A none H) : tNoPart σ H A := q
theorem g_part {A : Option Int → Hp → Prop} (h : te σ H fun x H1 => ∃ i, x = .int i ∧ A (some i) H1) : tPart te σ H A := h
theorem g_intE {A : Int → Prop} (q : A i) : ∃ k, V.int i = .int k ∧ A k := ⟨i, rfl, q⟩
theorem g_seq (h : ts { D with nx := us D } σ H) : tSeq ts us D σ H := h
theorem g_next (q : D.nx σ H) : tNext D σ H := q
theorem g_brk (q : D.bk σ H) : tBreak D σ H := q
theorem g_ct (q : D.ct σ H) : tCont D σ H := q
theorem g_asg {g : TG} (h : te σ H fun x H1 => g x σ H1 D.nx) : tAsg te g D σ H := h
theorem g_name {i : Nat} {A : St → Hp → Prop} (q : A (σ.set i (some v)) H) : gName i v σ H A := q
theorem g_aug {i : Nat} {ti : TIp} (h : σ[i]? = some (some x)) (q : te σ H fun y H1 => ti x y H1 fun z H2 => D.nx (σ.set i (some z)) H2) : tAug i te ti D σ H := ⟨x, h, q⟩
theorem g_ipI {f : Int → Int → Int} (q : Q (.int (f i j)) H) : ipI f (.int i) (.int j) H Q := ⟨i, j, rfl, rfl, q⟩
theorem g_drop (h : te σ H fun _ H1 => D.nx σ H1) : tDrop te D σ H := h
theorem g_ret (h : te σ H D.rt) : tRet te D σ H := h
theorem g_retN (q : D.rt .non H) : tRetN D σ H := q
theorem g_ifS (h : tt σ H fun b H1 => if b = true then ts D σ H1 else us D σ H1) : tIfS tt ts us D σ H := h
theorem g_for {wi : TI} {g : TG} {tb : TS} (h : wi σ H fun J H1 => ∃ W : Nat → Nat → St → Hp → Prop, (∃ m, W 0 m σ H1) ∧ ∀ i m σ H, W i m σ H →
    (J.stop i H ∧ D.nx σ H) ∨ (J.go i H ∧ ∃ N : St → Hp → Prop, (∀ σ' H', N σ' H' → ∃ m', m' < m ∧ W (i + 1) m' σ' H') ∧ ∀ x H', J.yld i H x H' → g x σ H' fun σ2 H2 => tb { D with nx := N, ct := N, bk := D.nx } σ2 H2)) : tFor wi g tb D σ H := h
theorem g_iT {c : Bool} {A B : Prop} (e : c = true) (h : A) : if c = true then A else B := by rw [if_pos e]; exact h
theorem g_iF {c : Bool} {A B : Prop} (e : c = false) (h : B) : if c = true then A else B := by rw [e]; exact iteF h
theorem g_ite {p A B : Prop} [Decidable p] (h1 : p → A) (h2 : ¬ p → B) : if decide p = true then A else B := by
  by_cases h : p
  · rw [decide_eq_true h]; exact iteT (h1 h)
  · rw [decide_eq_false h]; exact iteF (h2 h)
theorem g_iteN {p A B : Prop} [Decidable p] (h1 : ¬ p → A) (h2 : p → B) : if (!decide p) = true then A else B := by
  by_cases h : p
  · rw [decide_eq_true h]; exact iteF (h2 h)
  · rw [decide_eq_false h]; exact iteT (h1 h)
theorem g_iteB {b : Bool} {A B : Prop} (h1 : b = true → A) (h2 : b = false → B) : if b = true then A else B := by
  cases b with
  | true => exact iteT (h1 rfl)
  | false => exact iteF (h2 rfl)
theorem g_iteNB {b : Bool} {A B : Prop} (h1 : b = false → A) (h2 : b = true → B) : if (!b) = true then A else B := by
  cases b with
  | true => exact iteF (h2 rfl)
  | false => exact iteT (h1 rfl)
/-! calls of built-ins, by values -/
theorem g_int1 {A : Int → Prop} {B : Bool → Prop} (q : A i) : (∃ i', [V.int i] = [V.int i'] ∧ A i') ∨ ∃ k, [V.int i] = [V.bl k] ∧ B k := .inl ⟨i, rfl, q⟩
theorem g_int1B {b : Bool} {A : Int → Prop} {B : Bool → Prop} (q : B b) : (∃ i', [V.bl b] = [V.int i'] ∧ A i') ∨ ∃ k, [V.bl b] = [V.bl k] ∧ B k := .inr ⟨b, rfl, q⟩
theorem g_one {A : Int → Prop} (q : A i) : ∃ i', [V.int i] = [V.int i'] ∧ A i' := ⟨i, rfl, q⟩
theorem g_two {A : Int → Int → Prop} (q : A i j) : ∃ i' j', [V.int i, V.int j] = [V.int i', V.int j'] ∧ A i' j' := ⟨i, j, rfl, q⟩
theorem g_isi {c : V} {t u : Value} {b : Bool} (hc : ClsV c u) (ht : TyX K H x t) (e : PySem.W.kitOne K t u = some b) (q : Q (.bl b) H) : rIsi K [x, c] H Q := ⟨x, c, t, u, b, rfl, hc, ht, e, q⟩
theorem g_isiI (q : Q (.bl true) H) : rIsi K [.int i, .ty "int"] H Q := g_isi (.ty _) (.base (.int _)) (kit_ty (by decide +kernel)) q
theorem g_isiB {b : Bool} (q : Q (.bl true) H) : rIsi K [.bl b, .ty "bool"] H Q := g_isi (.ty _) (.base (.bl _)) (kit_ty (by decide +kernel)) q
theorem g_isiIB (q : Q (.bl false) H) : rIsi K [.int i, .ty "bool"] H Q := g_isi (.ty _) (.base (.int _)) (kit_ty (by decide +kernel)) q
theorem g_isiL {p : Addr} {xs : List V} (h : H p = some (.lst xs)) (q : Q (.bl true) H) : rIsi K [.ref p, .ty "list"] H Q := g_isi (.ty _) (.base (.lst h)) (kit_ty (by decide +kernel)) q
theorem g_isiU {p : Addr} {xs : List V} (h : H p = some (.tup xs)) (q : Q (.bl true) H) : rIsi K [.ref p, .ty "tuple"] H Q := g_isi (.ty _) (.base (.tup h)) (kit_ty (by decide +kernel)) q
theorem g_ixL {p : Addr} {xs : List V} (h : SqL K H p xs) (e : atI xs i = some v) (q : Q v H) : rIxL K (.ref p) (.int i) H Q := ⟨p, xs, i, v, rfl, rfl, h, e, q⟩
theorem g_ixT {p : Addr} {xs : List V} (h : SqT K H p xs) (e : atI xs i = some v) (q : Q v H) : rIxT K (.ref p) (.int i) H Q := ⟨p, xs, i, v, rfl, rfl, h, e, q⟩
theorem g_append {p : Addr} {xs : List V} (h : H p = some (.lst xs)) (l : xs.length < sizeLine) (q : Q .non (upd H p (.lst (xs ++ [y])))) : rAppend (.ref p) [y] H Q := ⟨p, xs, y, rfl, rfl, h, l, q⟩
theorem g_BM {T : String} {r : V → List V → Hp → VK → Prop} {t : TA} (h : te σ H fun x H1 => tyV K T x H1 ∧ t σ H1 fun xs H2 => r x xs H2 Q) : tBM K T r te t σ H Q := h
theorem g_BM0 {T : String} {r : V → List V → Hp → VK → Prop} (h : te σ H fun x H1 => tyV K T x H1 ∧ r x [] H1 Q) : tBM0 K T r te σ H Q := h
theorem ty_l {p : Addr} {xs : List V} (h : H p = some (.lst xs)) : tyV K "list" (.ref p) H := Or.inl ⟨rfl, _, Or.inl (Or.inl h)⟩
theorem g_setL {p : Addr} {xs : List V} {k : Int} {j : Nat} {A : Hp → Prop} (h : H p = some (.lst xs)) (e : ixN xs.length k = some j) (q : A (upd H p (.lst (xs.set j v)))) : rSetL (.ref p) (.int k) v H A := ⟨p, xs, k, j, rfl, rfl, h, e, q⟩
theorem g_sub {to ti : TE} {t : TSet} {A : St → Hp → Prop} (h : to σ H fun o H1 => ti σ H1 fun i H2 => t o i v H2 fun H3 => A σ H3) : gSub to ti t v σ H A := h
theorem g_len {p : Addr} {xs : List V} {A : Addr → List V → Prop} (h : SqL K H p xs ∨ SqT K H p xs) (q : A p xs) : ∃ p' ys, [V.ref p] = [V.ref p'] ∧ (SqL K H p' ys ∨ SqT K H p' ys) ∧ A p' ys := ⟨p, xs, rfl, h, q⟩
theorem g_slL {p : Addr} {xs : List V} {lo hi : Option Int} (h : SqL K H p xs) (q : ∀ l, H l = none → Q (.ref l) (upd H l (.lst (cutV xs lo hi)))) : rSlL K (.ref p) lo hi H Q := ⟨p, xs, rfl, h, q⟩
theorem g_cat {p q : Addr} {xs ys : List V} (h : H p = some (.lst xs)) (h2 : H q = some (.lst ys)) (l : xs.length + ys.length ≤ sizeLine) (k : ∀ l, H l = none → Q (.ref l) (upd H l (.lst (xs ++ ys)))) : rCat (.ref p) (.ref q) H Q := ⟨p, q, xs, ys, rfl, rfl, h, h2, l, k⟩
end
/-! ### heaps -/
theorem same_upd {H : Hp} {p : Addr} {o : HO} (h : H p = none) : Same H (upd H p o) := fun b x e => by
  rw [upd_ne (ne_of_none e h)]
  exact e
theorem sm {H H' : Hp} {p : Addr} {o : HO} (s : Same H H') (h : H p = some o) : H' p = some o := s p o h
theorem sq_upd {K : PySem.W.Frag} {H : Hp} {p a : Addr} {o : HO} {xs : List V} (n : H p = none) (h : SqL K H a xs) : SqL K (upd H p o) a xs := (same_upd n).seq h
theorem sl {K : PySem.W.Frag} {H : Hp} {a : Addr} {xs : List V} (h : H a = some (.lst xs)) : SqL K H a xs := Or.inl (Or.inl h)
theorem st {K : PySem.W.Frag} {H : Hp} {a : Addr} {xs : List V} (h : H a = some (.tup xs)) : SqT K H a xs := Or.inl (Or.inl h)
theorem Same.sqt {K : PySem.W.Frag} {H H' : Hp} {a : Addr} {xs : List V} (e : Same H H') (h : SqT K H a xs) : SqT K H' a xs := by
  rcases h with (h | ⟨o, h⟩) | h
  · exact .inl (.inl (e _ _ h))
  · exact .inl (.inr ⟨o, e _ _ h⟩)
  · exact .inr h
theorem upd_keep {H : Hp} {p b : Addr} {o o' : HO} (n : H p = none) (h : H b = some o') : upd H p o b = some o' := (same_upd n) b o' h
theorem ne_new {H : Hp} {p b : Addr} {o : HO} (h : H b = some o) (n : H p = none) : b ≠ p := ne_of_none h n
/-- H' is H but at p -/
def But (p : Addr) (H H' : Hp) : Prop := ∀ b o, b ≠ p → H b = some o → H' b = some o
theorem But.refl {p : Addr} {H : Hp} : But p H H := fun _ _ _ h => h
theorem But.of {p : Addr} {H H' : Hp} (s : Same H H') : But p H H' := fun b o _ h => s b o h
theorem But.trans {p : Addr} {H H1 H2 : Hp} (a : But p H H1) (b : But p H1 H2) : But p H H2 := fun c o n h => b c o n (a c o n h)
theorem But.upd {p : Addr} {H H' : Hp} {o : HO} (a : But p H H') : But p H (upd H' p o) := fun b o n h => by rw [upd_ne n]; exact a b o n h
theorem But.same {p : Addr} {H H' : Hp} (a : But p H H') (n : H p = none) : Same H H' := fun b o h => a b o (ne_of_none h n) h
theorem But.tr2 {p : Addr} {H H1 H2 : Hp} (s : Same H H1) (n : H p = none) (a : But p H1 H2) : Same H H2 := fun b o h => a b o (ne_of_none h n) (s b o h)
/-! ### numbers -/
theorem cdivW {a b : Int} (h : 0 < b) (h2 : b < 2 ^ 8000) : CDivW a b := by
  refine ⟨h, ?_⟩
  have e : b.natAbs < 2 ^ 8000 := by
    have : ((b.natAbs : Nat) : Int) < ((2 ^ 8000 : Nat) : Int) := by
      rw [Int.natAbs_of_nonneg (Int.le_of_lt h)]
      exact_mod_cast h2
    exact_mod_cast this
  by_cases z : b.natAbs = 0
  · rw [z]; decide
  · exact Nat.lt_of_lt_of_le (Nat.log2_lt z |>.mpr e) (by decide)
theorem sz {n : Nat} (h : n ≤ 100000) : n ≤ sizeLine := Nat.le_trans h (by decide)
theorem szl {n : Nat} (h : n < 100000) : n < sizeLine := Nat.lt_of_lt_of_le h (by decide)
/-! ### loops -/
theorem for_l {K : PySem.W.Frag} {tl : TE} {g : TG} {tb : TS} {D : Ends} {σ : St} {H : Hp} {a : Addr} {xs : List V} (Pv : Nat → St → Hp → Prop) (hs : SqL K H a xs) (h0 : Pv 0 σ H) (hl : ∀ i σ H, i ≤ xs.length → Pv i σ H → SqL K H a xs)
    (turn : ∀ i x σ H, xs[i]? = some x → Pv i σ H → g x σ H fun σ2 H2 => tb { D with nx := Pv (i + 1), ct := Pv (i + 1), bk := D.nx } σ2 H2) (hd : ∀ σ H, Pv xs.length σ H → D.nx σ H) (e : ∀ R : V → Hp → Prop, R (.ref a) H → tl σ H R) : tFor (iList K tl) g tb D σ H := by
  refine g_for ?_
  refine e _ ⟨a, rfl, ⟨_, hs⟩, ?_⟩
  exact for_list (xs := xs) Pv h0 hl turn hd
theorem for_r {ta : TA} {g : TG} {tb : TS} {D : Ends} {σ : St} {H : Hp} {n : Int} (N : Nat) (en : n.toNat = N) (b1 : -(2 ^ 62) ≤ n) (b2 : n < 2 ^ 62) (Pv : Nat → St → Hp → Prop) (h0 : Pv 0 σ H)
    (turn : ∀ (i : Nat) σ H, i < N → Pv i σ H → g (.int (i : Int)) σ H fun σ2 H2 => tb { D with nx := Pv (i + 1), ct := Pv (i + 1), bk := D.nx } σ2 H2) (hd : ∀ σ H, Pv N σ H → D.nx σ H) (e : ∀ R : List V → Hp → Prop, R [.int n] H → ta σ H R) : tFor (iRng1 ta) g tb D σ H := by
  subst en
  refine g_for ?_
  refine e _ ⟨n, rfl, b1, b2, ?_⟩
  refine for_range (lo := 0) Pv h0 (fun i σ H hi p => ?_) hd
  have z := turn i σ H hi p
  rw [Int.zero_add]
  exact z
theorem g_nx {nx : St → Hp → Prop} {rt : VK} {bk ct : St → Hp → Prop} {σ : St} {H : Hp} (q : nx σ H) : (Ends.mk nx rt bk ct).nx σ H := q
theorem g_bkE {nx : St → Hp → Prop} {rt : VK} {bk ct : St → Hp → Prop} {σ : St} {H : Hp} (q : bk σ H) : (Ends.mk nx rt bk ct).bk σ H := q
theorem g_ctE {nx : St → Hp → Prop} {rt : VK} {bk ct : St → Hp → Prop} {σ : St} {H : Hp} (q : ct σ H) : (Ends.mk nx rt bk ct).ct σ H := q
theorem g_rt {nx : St → Hp → Prop} {rt : VK} {bk ct : St → Hp → Prop} {v : V} {H : Hp} (q : rt v H) : (Ends.mk nx rt bk ct).rt v H := q
/-- a cell of the script -/
def cell (ns : List Int) (k : Int) : Int := ns.getD k.toNat 0
theorem atI_map {ns : List Int} {k : Int} (h0 : 0 ≤ k) (h : k < (ns.length : Int)) : atI (ns.map V.int) k = some (.int (cell ns k)) := by
  have e : k = ((k.toNat : Nat) : Int) := by omega
  have hl : k.toNat < ns.length := by omega
  have e2 : cell ns k = ns[k.toNat] := by
    unfold cell
    rw [List.getD_eq_getElem?_getD, List.getElem?_eq_getElem hl]; rfl
  rw [e2]
  refine at_of e ?_
  rw [List.getElem?_map, List.getElem?_eq_getElem hl]; rfl
theorem cell_out {ns : List Int} {k : Int} (h : ¬ k < (ns.length : Int)) : cell ns k = 0 := by
  unfold cell
  rw [List.getD_eq_getElem?_getD, List.getElem?_eq_none (by omega)]; rfl
theorem atI_some {xs : List V} {i : Int} (h0 : 0 ≤ i) (h : i < (xs.length : Int)) : ∃ v, xs[i.toNat]? = some v ∧ atI xs i = some v := by
  have hl : i.toNat < xs.length := by omega
  exact ⟨xs[i.toNat], List.getElem?_eq_getElem hl, at_of (by omega) (List.getElem?_eq_getElem hl)⟩
theorem atI_ints {xs : List Int} {i : Int} (h0 : 0 ≤ i) (h : i < (xs.length : Int)) : ∃ n, atI (xs.map V.int) i = some (.int n) ∧ xs[i.toNat]? = some n := by
  have hl : i.toNat < xs.length := by omega
  refine ⟨xs[i.toNat], at_of (j := i.toNat) (by omega) ?_, List.getElem?_eq_getElem hl⟩
  rw [List.getElem?_map, List.getElem?_eq_getElem hl]; rfl
theorem g_dT {p A B : Prop} [Decidable p] (h : p) (q : A) : if decide p = true then A else B := by rw [decide_eq_true h]; exact iteT q
theorem g_dF {p A B : Prop} [Decidable p] (h : ¬ p) (q : B) : if decide p = true then A else B := by rw [decide_eq_false h]; exact iteF q
theorem g_nT {p A B : Prop} [Decidable p] (h : ¬ p) (q : A) : if (!decide p) = true then A else B := by rw [decide_eq_false h]; exact iteT q
theorem g_nF {p A B : Prop} [Decidable p] (h : p) (q : B) : if (!decide p) = true then A else B := by rw [decide_eq_true h]; exact iteF q
/-! ### comprehensions: the list ys, value by value -/
theorem g_yes {σ : St} {H : Hp} {P : Bool → Hp → Prop} (q : P true H) : tYes σ H P := q
theorem g_lc {wi : TI} {g : TG} {tt : TT} {te : TE} {vs : List Nat} {σ : St} {H : Hp} {Q : VK} (h : wi σ H fun J H1 => ∀ D, H1 D = none → ∃ W : Nat → Nat → Hp → Prop, (∃ m, W 0 m (upd H1 D (.lst []))) ∧ ∀ i m H, W i m H →
  (J.stop i H ∧ Q (.ref D) H) ∨ (J.go i H ∧ ∃ Nx : Hp → Prop, (∀ H', Nx H' → ∃ m', m' < m ∧ W (i + 1) m' H') ∧ ∀ x H', J.yld i H x H' → g x (wipe σ vs) H' fun σ2 H2 => wipe σ2 vs = wipe σ vs ∧ tt σ2 H2 fun b H3 =>
    if b = true then te σ2 H3 fun y H4 => ∃ acc, H4 D = some (.lst acc) ∧ acc.length < sizeLine ∧ Nx (upd H4 D (.lst (acc ++ [y]))) else Nx H3)) : tLc wi g tt te vs σ H Q := h
theorem g_revR {ta : TE} {σ : St} {H : Hp} {R : It → Hp → Prop} (h : ta σ H fun x H1 => ∃ n : Int, x = .int n ∧ -(2 ^ 62) ≤ (0 : Int) ∧ (0 : Int) < 2 ^ 62 ∧ -(2 ^ 62) ≤ n ∧ n < 2 ^ 62 ∧ R (Itc (0 + (((n - 0).toNat : Nat) : Int) - 1) (-1) (n - 0).toNat) H1) : iRevR (tRg1 ta) σ H R := h
theorem g_rng1 {ta : TA} {σ : St} {H : Hp} {R : It → Hp → Prop} (h : ta σ H fun vs H1 => ∃ j : Int, vs = [.int j] ∧ -(2 ^ 62) ≤ j ∧ j < 2 ^ 62 ∧ R (Itr 0 j.toNat) H1) : iRng1 ta σ H R := h
theorem g_iList {K : PySem.W.Frag} {tl : TE} {σ : St} {H : Hp} {R : It → Hp → Prop} (h : tl σ H fun x H1 => ∃ a, x = .ref a ∧ (∃ xs, SqL K H1 a xs) ∧ R (Itl K a) H1) : iList K tl σ H R := h
def LcP (H1 : Hp) (D : Addr) (ys : List V) (i : Nat) (H : Hp) : Prop := Same H1 H ∧ H D = some (.lst (ys.take i))
theorem lc_vals {J : It} {n : Nat} {G : Hp → Prop} {Y : Nat → Hp → V → Hp → Prop} (w : Walk J n G Y) (ys : List V) {g : TG} {tt : TT} {te : TE} {vs : List Nat} {σ : St} {H1 : Hp} {D : Addr} {Qd : Hp → Prop} (hD : H1 D = none) (hlen : ys.length = n) (hG : ∀ H, Same H1 H → G H)
    (hs : ∀ i x H H', i < n → LcP H1 D ys i H → Y i H x H' → g x (wipe σ vs) H' fun σ2 H2 => wipe σ2 vs = wipe σ vs ∧ tt σ2 H2 fun b H3 =>
      if b = true then te σ2 H3 fun y H4 => ∃ acc, H4 D = some (.lst acc) ∧ acc.length < sizeLine ∧ LcP H1 D ys (i + 1) (upd H4 D (.lst (acc ++ [y]))) else LcP H1 D ys (i + 1) H3)
    (hd : ∀ H, Same H1 H → H D = some (.lst ys) → Qd H) :
    ∃ W : Nat → Nat → Hp → Prop, (∃ m, W 0 m (upd H1 D (.lst []))) ∧ ∀ i m H, W i m H →
      (J.stop i H ∧ Qd H) ∨ (J.go i H ∧ ∃ Nx : Hp → Prop, (∀ H', Nx H' → ∃ m', m' < m ∧ W (i + 1) m' H') ∧ ∀ x H', J.yld i H x H' → g x (wipe σ vs) H' fun σ2 H2 => wipe σ2 vs = wipe σ vs ∧ tt σ2 H2 fun b H3 =>
        if b = true then te σ2 H3 fun y H4 => ∃ acc, H4 D = some (.lst acc) ∧ acc.length < sizeLine ∧ Nx (upd H4 D (.lst (acc ++ [y]))) else Nx H3) := by
  refine lc_it w (LcP H1 D ys) ⟨same_upd hD, by rw [upd_same]; rfl⟩ (fun i H _ p => hG H p.1) hs (fun H p => hd H p.1 ?_)
  have e := p.2
  rw [← hlen, List.take_length] at e
  exact e
theorem lc_next {H1 H4 : Hp} {D : Addr} {ys : List V} {i : Nat} {y : V} (hD : H1 D = none) (p : LcP H1 D ys i H4) (hz : ys.length ≤ 100000) (hy : ys[i]? = some y) :
    ∃ acc, H4 D = some (.lst acc) ∧ acc.length < sizeLine ∧ LcP H1 D ys (i + 1) (upd H4 D (.lst (acc ++ [y]))) := by
  refine ⟨_, p.2, ?_, ?_, ?_⟩
  · rw [List.length_take]
    obtain ⟨h, _⟩ := List.getElem?_eq_some_iff.mp hy
    exact szl (by omega)
  · exact (But.of p.1).upd.same hD
  · rw [upd_same, List.take_add_one, hy]
    rfl
theorem LcP.same {H1 H4 H5 : Hp} {D : Addr} {ys : List V} {i : Nat} (p : LcP H1 D ys i H4) (s : Same H4 H5) : LcP H1 D ys i H5 := ⟨p.1.trans s, s _ _ p.2⟩
theorem map_get {α : Type} {f : α → V} {xs : List α} {i : Nat} {y : V} (h : (xs.map f)[i]? = some y) : ∃ z, xs[i]? = some z ∧ y = f z := by
  rw [List.getElem?_map] at h
  cases e : xs[i]? with
  | none => rw [e] at h; cases h
  | some z => rw [e] at h; exact ⟨z, rfl, (Option.some.inj h).symm⟩
/-! ### == of lists of ints -/
section
variable {K : PySem.W.Frag} {H : Hp} {Q : VK}
theorem dpAll_ints : ∀ {ns : List Int}, DpAll K H (ns.map V.int) (ns.map PyData.int)
  | [] => .nil
  | n :: _ => .cons (.int n) dpAll_ints
theorem lay_ints : ∀ {ns : List Int}, PyData.canLayAll0 (ns.map PyData.int) = true
  | [] => rfl
  | _ :: ns => by
    show (true && PyData.canLayAll0 (ns.map PyData.int)) = true
    rw [lay_ints]; rfl
theorem depth_ints : ∀ {ns : List Int}, PyData.depthAll (ns.map PyData.int) = 0
  | [] => rfl
  | _ :: ns => by
    show max 0 (PyData.depthAll (ns.map PyData.int)) = 0
    rw [depth_ints]; rfl
theorem shaped_ints {ns : List Int} : SeqAt.shaped (.list (ns.map PyData.int)) = true := by
  show (PyData.canLayAll0 (ns.map PyData.int) && decide (PyData.depthAll (ns.map PyData.int) + 1 ≤ 64)) = true
  rw [lay_ints, depth_ints]; rfl
theorem eqvAll_ints : ∀ {ns ms : List Int}, PyData.eqvAll (ns.map PyData.int) (ms.map PyData.int) = decide (ns = ms)
  | [], [] => rfl
  | [], _ :: _ => rfl
  | _ :: _, [] => rfl
  | n :: ns, m :: ms => by
    show ((n == m) && PyData.eqvAll (ns.map PyData.int) (ms.map PyData.int)) = decide (n :: ns = m :: ms)
    rw [eqvAll_ints, Bool.eq_iff_iff]
    simp
theorem dp_ints {a : Addr} {ns : List Int} (h : SqL K H a (ns.map V.int)) : Dp K H (.ref a) (.list (ns.map PyData.int)) := .lst h dpAll_ints
theorem g_eqL {a b : Addr} {ns ms : List Int} (h1 : SqL K H a (ns.map V.int)) (h2 : SqL K H b (ms.map V.int)) (q : Q (.bl (decide (ns = ms))) H) : rEqD K (.ref a) (.ref b) H Q :=
  ⟨_, _, dp_ints h1, dp_ints h2, shaped_ints, shaped_ints, by rw [show PyData.eqv (.list (ns.map PyData.int)) (.list (ms.map PyData.int)) = decide (ns = ms) from eqvAll_ints]; exact q⟩
theorem g_neL {a b : Addr} {ns ms : List Int} (h1 : SqL K H a (ns.map V.int)) (h2 : SqL K H b (ms.map V.int)) (q : Q (.bl (!decide (ns = ms))) H) : rNeD K (.ref a) (.ref b) H Q :=
  ⟨_, _, dp_ints h1, dp_ints h2, shaped_ints, shaped_ints, by rw [show PyData.eqv (.list (ns.map PyData.int)) (.list (ms.map PyData.int)) = decide (ns = ms) from eqvAll_ints]; exact q⟩
theorem g_sum {a : Addr} {ns : List Int} (h : SqL K H a (ns.map V.int)) (q : Q (.int ns.sum) H) : rSum K [.ref a] H Q := ⟨a, ns, rfl, h, q⟩
end
theorem ixN_nat {n : Nat} {k : Int} (h0 : 0 ≤ k) (h : k < (n : Int)) : ixN n k = some k.toNat := by
  unfold ixN
  rw [if_pos h0, if_pos h]
theorem g_ref {a : Addr} {A : Addr → Prop} (q : A a) : ∃ b, V.ref a = .ref b ∧ A b := ⟨a, rfl, q⟩
/-! ### objects: the attributes by their places -/
def obj : List Str → List V → List (Str × V)
  | k :: ks, v :: vs => (k, v) :: obj ks vs
  | _, _ => []
theorem obj_len : ∀ (ks : List Str) (vs : List V), (obj ks vs).length ≤ ks.length
  | [], _ => Nat.zero_le _
  | _ :: _, [] => Nat.zero_le _
  | _ :: ks, _ :: vs => Nat.succ_le_succ (obj_len ks vs)
theorem obj_get : ∀ {ks : List Str} {vs : List V} {i : Nat} {k : Str}, ks.Nodup → ks[i]? = some k → (obj ks vs).lookup k = vs[i]?
  | [], _, _, _, _, h => by cases h
  | k0 :: ks, [], i, k, _, _ => by simp [obj]
  | k0 :: ks, v :: vs, 0, k, _, h => by
    have e : k0 = k := Option.some.inj h
    subst e
    simp [obj]
  | k0 :: ks, v :: vs, i + 1, k, nd, h => by
    have nd' := List.nodup_cons.mp nd
    have hk : k ∈ ks := List.mem_of_getElem? h
    have ne : (k == k0) = false := by
      rw [beq_eq_false_iff_ne]
      intro e
      subst e
      exact nd'.1 hk
    show List.lookup k ((k0, v) :: obj ks vs) = vs[i]?
    rw [List.lookup_cons, ne]
    exact obj_get nd'.2 h
theorem obj_none : ∀ {ks : List Str} {vs : List V} {k : Str}, k ∉ ks → (obj ks vs).lookup k = none
  | [], _, _, _ => rfl
  | _ :: _, [], _, _ => rfl
  | k0 :: ks, v :: vs, k, h => by
    have ne : (k == k0) = false := by
      rw [beq_eq_false_iff_ne]
      intro e
      subst e
      exact h (List.mem_cons_self ..)
    show List.lookup k ((k0, v) :: obj ks vs) = none
    rw [List.lookup_cons, ne]
    exact obj_none fun z => h (List.mem_cons_of_mem _ z)
theorem obj_put : ∀ {ks : List Str} {vs : List V} {i : Nat} {k : Str} {y : V}, ks.Nodup → ks[i]? = some k → i < vs.length → putF k y (obj ks vs) = obj ks (vs.set i y)
  | [], _, _, _, _, _, h, _ => by cases h
  | _ :: _, [], _, _, _, _, _, h => by simp at h
  | k0 :: ks, v :: vs, 0, k, y, _, h, _ => by
    have e : k0 = k := Option.some.inj h
    subst e
    show (if k0 = k0 then _ else _) = _
    rw [if_pos rfl]
    rfl
  | k0 :: ks, v :: vs, i + 1, k, y, nd, h, hl => by
    have nd' := List.nodup_cons.mp nd
    have hk : k ∈ ks := List.mem_of_getElem? h
    have ne : ¬ k0 = k := by
      intro e
      subst e
      exact nd'.1 hk
    show (if k0 = k then _ else (k0, v) :: putF k y (obj ks vs)) = (k0, v) :: obj ks (vs.set i y)
    rw [if_neg ne, obj_put nd'.2 h (by simpa using hl)]
theorem obj_new : ∀ {ks : List Str} {vs : List V} {k : Str} {y : V}, ks.Nodup → ks[vs.length]? = some k → putF k y (obj ks vs) = obj ks (vs ++ [y])
  | [], _, _, _, _, h => by simp at h
  | k0 :: ks, [], k, y, _, h => by
    have e : k0 = k := Option.some.inj h
    subst e
    show [(k0, y)] = obj (k0 :: ks) [y]
    cases ks <;> rfl
  | k0 :: ks, v :: vs, k, y, nd, h => by
    have nd' := List.nodup_cons.mp nd
    have h' : ks[vs.length]? = some k := h
    have hk : k ∈ ks := List.mem_of_getElem? h'
    have ne : ¬ k0 = k := by
      intro e
      subst e
      exact nd'.1 hk
    show (if k0 = k then _ else (k0, v) :: putF k y (obj ks vs)) = (k0, v) :: obj ks (vs ++ [y])
    rw [if_neg ne, obj_new nd'.2 h']
section
variable {K : PySem.W.Frag} {σ : St} {H : Hp} {Q : VK} {v y : V} {ta tv : TE} {D : Ends} {f m : Str} {a C dx : Addr} {ks : List Str} {vs : List V} {i : Nat}
theorem g_fld (h : ta σ H fun x H1 => ∃ a C dx fs v, x = .ref a ∧ H1 a = some (.ins C dx fs) ∧ Cls K C ∧ NoAttr K C f ∧ fs.lookup f = some v ∧ Q v H1) : tFld K ta f σ H Q := h
theorem g_fldE {A : V → Prop} (ho : H a = some (.ins C dx (obj ks vs))) (c : Cls K C) (n : NoAttr K C f) (nd : ks.Nodup) (hk : ks[i]? = some f) (hv : vs[i]? = some v) (q : A v) :
    ∃ a' C' dx' fs v', V.ref a = .ref a' ∧ H a' = some (.ins C' dx' fs) ∧ Cls K C' ∧ NoAttr K C' f ∧ fs.lookup f = some v' ∧ A v' := ⟨a, C, dx, _, v, rfl, ho, c, n, (obj_get nd hk).trans hv, q⟩
theorem g_sfld (h : tv σ H fun y H1 => ta σ H1 fun x H2 => ∃ a C dx fs, x = .ref a ∧ H2 a = some (.ins C dx fs) ∧ Cls K C ∧ NoAttr K C f ∧ fs.length < 1000 ∧ D.nx σ (upd H2 a (.ins C dx (putF f y fs)))) : sFld K ta tv f D σ H := h
theorem g_putE {A : Hp → Prop} (ho : H a = some (.ins C dx (obj ks vs))) (c : Cls K C) (n : NoAttr K C f) (nd : ks.Nodup) (h1 : ks.length < 1000) (hk : ks[i]? = some f) (hv : i < vs.length) (q : A (upd H a (.ins C dx (obj ks (vs.set i y))))) :
    ∃ a' C' dx' fs, V.ref a = .ref a' ∧ H a' = some (.ins C' dx' fs) ∧ Cls K C' ∧ NoAttr K C' f ∧ fs.length < 1000 ∧ A (upd H a' (.ins C' dx' (putF f y fs))) :=
  ⟨a, C, dx, _, rfl, ho, c, n, Nat.lt_of_le_of_lt (obj_len ks vs) h1, by rw [obj_put nd hk hv]; exact q⟩
theorem g_newE {A : Hp → Prop} (ho : H a = some (.ins C dx (obj ks vs))) (c : Cls K C) (n : NoAttr K C f) (nd : ks.Nodup) (h1 : ks.length < 1000) (hk : ks[vs.length]? = some f) (q : A (upd H a (.ins C dx (obj ks (vs ++ [y]))))) :
    ∃ a' C' dx' fs, V.ref a = .ref a' ∧ H a' = some (.ins C' dx' fs) ∧ Cls K C' ∧ NoAttr K C' f ∧ fs.length < 1000 ∧ A (upd H a' (.ins C' dx' (putF f y fs))) :=
  ⟨a, C, dx, _, rfl, ho, c, n, Nat.lt_of_le_of_lt (obj_len ks vs) h1, by rw [obj_new nd hk]; exact q⟩
theorem g_meth {sp : Sp} {dvs : List V} {E : XK} {t : TA} (h : ta σ H fun x H1 => ∃ a dx fs, x = .ref a ∧ H1 a = some (.ins C dx fs) ∧ fs.lookup m = none ∧ t σ H1 fun vs H2 => sp (x :: (vs ++ dvs)) H2 Q E) : tMeth C m sp dvs E ta t σ H Q := h
theorem g_methE {A : Prop} (ho : H a = some (.ins C dx (obj ks vs))) (no : m ∉ ks) (q : A) : ∃ a' dx' fs, V.ref a = .ref a' ∧ H a' = some (.ins C dx' fs) ∧ fs.lookup m = none ∧ A := ⟨a, dx, _, rfl, ho, obj_none no, q⟩
theorem g_make {sp : Sp} {dvs : List V} {E : XK} {t : TA} (h : t σ H fun vs H1 => ∀ x dx, H1 x = none → H1 dx = none → dx ≠ x → sp (.ref x :: (vs ++ dvs)) (upd (upd H1 dx (.own x)) x (.ins C dx [])) (fun v H2 => v = .non ∧ Q (.ref x) H2) E) : tMake C sp dvs E t σ H Q := h
theorem g_prop {sp : Sp} {dvs : List V} {E : XK} (h : ta σ H fun x H1 => ∃ a dx fs, x = .ref a ∧ H1 a = some (.ins C dx fs) ∧ sp (.ref a :: dvs) H1 Q E) : tProp C sp dvs E ta σ H Q := h
theorem g_propE {A : Addr → Prop} (ho : H a = some (.ins C dx (obj ks vs))) (q : A a) : ∃ a' dx' fs, V.ref a = .ref a' ∧ H a' = some (.ins C dx' fs) ∧ A a' := ⟨a, dx, _, rfl, ho, q⟩
theorem g_absE {A : Int → Prop} {n : Int} (q : A n) : ∃ i, [V.int n] = [V.int i] ∧ A i := ⟨n, rfl, q⟩
end
/-- a slice of ints -/
theorem cut_ints (ns : List Int) (lo hi : Option Int) : ∃ ms : List Int, cutV (ns.map V.int) lo hi = ms.map V.int ∧ ms.length ≤ ns.length := by
  unfold cutV
  refine ⟨(ns.drop (HT.sIx (ns.map V.int).length 0 lo)).take (HT.sIx (ns.map V.int).length (ns.map V.int).length hi - HT.sIx (ns.map V.int).length 0 lo), ?_, ?_⟩
  · rw [List.map_take, List.map_drop]
  · rw [List.length_take, List.length_drop]
    omega
theorem g_nameE {i : Nat} {v : V} {σ σ' : St} {H : Hp} {A : St → Hp → Prop} (e : σ.set i (some v) = σ') (q : A σ' H) : gName i v σ H A := by
  subst e
  exact q
theorem but_sq {K : PySem.W.Frag} {p : Addr} {H H' : Hp} {a : Addr} {xs : List V} (e : But p H H') (n : a ≠ p) (h : SqL K H a xs) : SqL K H' a xs := by
  rcases h with (h | ⟨o, h⟩) | h
  · exact .inl (.inl (e _ _ n h))
  · exact .inl (.inr ⟨o, e _ _ n h⟩)
  · exact .inr h
theorem g_star {K : PySem.W.Frag} {te : TE} {t : TA} {σ : St} {H : Hp} {Q : List V → Hp → Prop} (h : te σ H fun x H1 => ∃ p xs, x = V.ref p ∧ (SqT K H1 p xs ∨ SqL K H1 p xs) ∧ t σ H1 fun ys H2 => Q (xs ++ ys) H2) : StX.tStar K te t σ H Q := h
theorem g_while {c : TT} {tb : TS} {D : Ends} {σ : St} {H : Hp} (W : Nat → St → Hp → Prop) (h0 : ∃ m, W m σ H) (h : ∀ m σ H, W m σ H → c σ H fun b H1 => if b = true then ∃ N : St → Hp → Prop, (∀ σ' H', N σ' H' → ∃ m', m' < m ∧ W m' σ' H') ∧ tb { D with nx := N, ct := N, bk := D.nx } σ H1 else D.nx σ H1) : tWhile c tb D σ H := ⟨W, h0, h⟩
theorem g_cut {t u : TS} {D : Ends} {σ : St} {H : Hp} (Mid : St → Hp → Prop) (h1 : t { D with nx := Mid } σ H) (h2 : ∀ σ' H', Mid σ' H' → u D σ' H') : C8.tCut t u D σ H := ⟨Mid, h1, h2⟩
theorem g_min {K : PySem.W.Frag} {a : Addr} {ns : List Int} {H : Hp} {Q : VK} (h : SqL K H a (ns.map V.int)) (h0 : 0 < ns.length) (q : ∀ m, m ∈ ns → (∀ y, y ∈ ns → m ≤ y) → Q (.int m) H) : rMin K [.ref a] H Q := ⟨a, ns, rfl, h, h0, q⟩
theorem g_max {K : PySem.W.Frag} {a : Addr} {ns : List Int} {H : Hp} {Q : VK} (h : SqL K H a (ns.map V.int)) (h0 : 0 < ns.length) (q : ∀ m, m ∈ ns → (∀ y, y ∈ ns → y ≤ m) → Q (.int m) H) : rMax K [.ref a] H Q := ⟨a, ns, rfl, h, h0, q⟩
theorem atI_nat' {xs : List V} {i : Int} {j : Nat} {v : V} (e : i = (j : Int)) (h : xs[j]? = some v) : atI xs i = some v := at_of e h
theorem ixN_last {n : Nat} (h : 0 < n) : ixN n (-1) = some (n - 1) := by
  unfold ixN
  rw [if_neg (by decide), if_pos (by omega)]
  congr 1
  omega
theorem atI_neg1 {xs : List V} {v : V} (h : xs[xs.length - 1]? = some v) : atI xs (-1) = some v := by
  obtain ⟨hl, _⟩ := List.getElem?_eq_some_iff.mp h
  unfold atI
  rw [ixN_last (by omega)]
  exact h
theorem snoc_of {α : Type} {xs : List α} (h : 0 < xs.length) : ∃ a x, xs = a ++ [x] :=
  ⟨xs.dropLast, xs.getLast (List.ne_nil_of_length_pos h), (List.dropLast_concat_getLast _).symm⟩
theorem set_last {α : Type} {a : List α} {x y : α} : (a ++ [x]).set a.length y = a ++ [y] := by
  rw [List.set_append_right _ _ (Nat.le_refl _), Nat.sub_self]
  rfl
end My
namespace My
open PySem PySem.Spec L2
local macro_rules | `(tactic| walk_at "side") => `(tactic| first | assumption | decide | omega | exact ⟨by decide, by decide⟩ | exact ⟨by decide, by decide, by decide⟩ | decide +kernel | exact cdivW (by decide +kernel) (by decide +kernel) | exact Or.inl ⟨by omega, by omega⟩ | exact Or.inr ⟨by omega, by omega⟩ | (simp only [List.length_map, List.length_cons, List.length_nil, List.length_append]; omega))
local macro_rules | `(tactic| walk_at "fact") => `(tactic| first | assumption | omega | with_reducible rfl)
local macro_rules | `(tactic| walk_at "use") => `(tactic| fail "use")
local macro_rules | `(tactic| walk_at "go1") => `(tactic| with_reducible first | refine g_seq ?_ | refine g_asg ?_ | refine g_ret ?_ | refine g_ifS ?_ | refine g_drop ?_ | refine g_star ?_ | refine g_nx ?_ | refine g_rt ?_ | refine g_bkE ?_ | refine g_ctE ?_ | refine g_next ?_ | refine g_retN ?_ | refine g_brk ?_ | refine g_ct ?_ | refine g_c ?_ | refine g_op ?_ | refine g_un ?_ | refine g_rI0 ?_ | refine g_rU ?_ | refine g_rEqI ?_ | refine g_rNeI ?_ | refine g_isN ?_ | refine g_rIsB ?_ | refine g_rNotB ?_ | refine g_test ?_ | refine g_B ?_ | refine g_bl ?_ | refine g_and ?_ | refine g_or ?_ | refine g_not ?_ | refine g_andV ?_ | refine g_orV ?_ | refine g_notV ?_ | refine g_if ?_ | refine g_chain ?_ | refine g_yes ?_ | refine g_lc ?_ | refine g_revR ?_ | refine g_rng1 ?_ | refine g_iList ?_ | refine g_nil ?_ | refine g_cons ?_ | refine g_tup ?_ | refine g_lst ?_ | refine g_call ?_ | refine g_CB ?_ | refine g_sl ?_ | refine g_noPart ?_ | refine g_part ?_ | refine g_intE ?_ | refine g_ref ?_ | refine g_fld ?_ | refine g_sfld ?_ | refine g_meth ?_ | refine g_make ?_ | refine g_prop ?_  | refine g_ipI ?_ | refine g_int1 ?_ | refine g_int1B ?_ | refine g_one ?_ | refine g_two ?_ | refine g_isiI ?_ | refine g_isiIB ?_ | refine g_isiB ?_ | refine g_BM ?_ | refine g_BM0 ?_ | refine g_sub ?_)
local macro_rules | `(tactic| walk_at "go") => `(tactic| repeat (first | walk_at "go1" | ((with_reducible refine' g_nameE ?sd_ ?_); case sd_ => dsimp only [List.set_cons_succ, List.set_cons_zero]) | ((with_reducible refine' g_var ?sd_ ?_); case sd_ => exact rfl) | ((with_reducible refine' g_aug ?sd_ ?_); case sd_ => exact rfl) | ((with_reducible refine' g_rI ?sd_ ?_); case sd_ => walk_at "side") | ((with_reducible refine' g_dT ?sd_ ?_); case sd_ => walk_at "fact") | ((with_reducible refine' g_dF ?sd_ ?_); case sd_ => walk_at "fact") | ((with_reducible refine' g_nT ?sd_ ?_); case sd_ => walk_at "fact") | ((with_reducible refine' g_nF ?sd_ ?_); case sd_ => walk_at "fact") | (with_reducible refine g_iT rfl ?_) | (with_reducible refine g_iF rfl ?_) | walk_at "use"))
def topS (i : Nat) : Stmt := PySem.Challenge.pw_throughline_k05_segments.main.body.getD i (.Pass ⟨0, 0, 0, 0⟩)
abbrev s_Segment_init__ : Stmt := inClass (topS 1) 0
abbrev s_Segment_size : Stmt := inClass (topS 1) 1
abbrev s_Segment_eq__ : Stmt := inClass (topS 1) 2
abbrev s_Segment_parts : Stmt := inClass (topS 1) 3
abbrev s_l_is_integer : Stmt := topS 3
abbrev s_l_cell : Stmt := topS 4
abbrev s_l_row : Stmt := topS 5
abbrev s_l_octets : Stmt := topS 6
abbrev s_l_wire : Stmt := topS 7
abbrev s_l_optional : Stmt := topS 8
abbrev s_l_pairs : Stmt := topS 9
abbrev s_l_parts : Stmt := topS 10
abbrev s_l_made : Stmt := topS 11
abbrev s_l_number : Stmt := topS 12
abbrev s_l_pair : Stmt := topS 13
abbrev s_l_all_pairs : Stmt := topS 14
abbrev s_l_flag : Stmt := topS 15
abbrev s_l_same : Stmt := topS 16
abbrev s_l_other : Stmt := topS 17
abbrev s_l_changed : Stmt := topS 18
abbrev s_law : Stmt := topS 19
theorem sc_Segment_init__ : FnScope ["self", "source", "target", "seq", "count", "echo", "ack", "syn", "fin", "reset", "marked", "cut", "window", "mss", "scale", "ranges_known", "ranges", "stamp", "data"] ["self", "source", "target", "seq", "count", "echo", "ack", "syn", "fin", "reset", "marked", "cut", "window", "mss", "scale", "ranges_known", "ranges", "stamp", "data"] (defScope s_Segment_init__) := ⟨rfl, rfl, rfl, by decide +kernel, rfl, by decide +kernel, by decide +kernel⟩
theorem sc_Segment_size : FnScope ["self"] ["self"] (defScope s_Segment_size) := ⟨rfl, rfl, rfl, by decide +kernel, rfl, by decide +kernel, by decide +kernel⟩
theorem sc_Segment_eq__ : FnScope ["self", "other"] ["self", "other"] (defScope s_Segment_eq__) := ⟨rfl, rfl, rfl, by decide +kernel, rfl, by decide +kernel, by decide +kernel⟩
theorem sc_Segment_parts : FnScope ["self"] ["self"] (defScope s_Segment_parts) := ⟨rfl, rfl, rfl, by decide +kernel, rfl, by decide +kernel, by decide +kernel⟩
theorem sc_l_is_integer : FnScope ["actual"] ["actual"] (defScope s_l_is_integer) := ⟨rfl, rfl, rfl, by decide +kernel, rfl, by decide +kernel, by decide +kernel⟩
theorem sc_l_cell : FnScope ["script", "k"] ["script", "k"] (defScope s_l_cell) := ⟨rfl, rfl, rfl, by decide +kernel, rfl, by decide +kernel, by decide +kernel⟩
theorem sc_l_row : FnScope ["cell", "size", "base", "row", "number", "k", "mixed"] ["cell", "size", "base"] (defScope s_l_row) := ⟨rfl, rfl, rfl, by decide +kernel, rfl, by decide +kernel, by decide +kernel⟩
theorem sc_l_octets : FnScope ["actual", "expected", "k"] ["actual", "expected"] (defScope s_l_octets) := ⟨rfl, rfl, rfl, by decide +kernel, rfl, by decide +kernel, by decide +kernel⟩
theorem sc_l_wire : FnScope ["cell"] ["cell"] (defScope s_l_wire) := ⟨rfl, rfl, rfl, by decide +kernel, rfl, by decide +kernel, by decide +kernel⟩
theorem sc_l_optional : FnScope ["cell", "worth"] ["cell", "worth"] (defScope s_l_optional) := ⟨rfl, rfl, rfl, by decide +kernel, rfl, by decide +kernel, by decide +kernel⟩
theorem sc_l_pairs : FnScope ["cell", "size", "row", "k"] ["cell", "size"] (defScope s_l_pairs) := ⟨rfl, rfl, rfl, by decide +kernel, rfl, by decide +kernel, by decide +kernel⟩
theorem sc_l_parts : FnScope ["script", "at", "cells", "parts", "k"] ["script", "at"] (defScope s_l_parts) := ⟨rfl, rfl, rfl, by decide +kernel, rfl, by decide +kernel, by decide +kernel⟩
theorem sc_l_made : FnScope ["parts"] ["parts"] (defScope s_l_made) := ⟨rfl, rfl, rfl, by decide +kernel, rfl, by decide +kernel, by decide +kernel⟩
theorem sc_l_number : FnScope ["actual", "expected"] ["actual", "expected"] (defScope s_l_number) := ⟨rfl, rfl, rfl, by decide +kernel, rfl, by decide +kernel, by decide +kernel⟩
theorem sc_l_pair : FnScope ["actual", "expected"] ["actual", "expected"] (defScope s_l_pair) := ⟨rfl, rfl, rfl, by decide +kernel, rfl, by decide +kernel, by decide +kernel⟩
theorem sc_l_all_pairs : FnScope ["actual", "expected", "k"] ["actual", "expected"] (defScope s_l_all_pairs) := ⟨rfl, rfl, rfl, by decide +kernel, rfl, by decide +kernel, by decide +kernel⟩
theorem sc_l_flag : FnScope ["actual", "expected"] ["actual", "expected"] (defScope s_l_flag) := ⟨rfl, rfl, rfl, by decide +kernel, rfl, by decide +kernel, by decide +kernel⟩
theorem sc_l_same : FnScope ["actual", "parts"] ["actual", "parts"] (defScope s_l_same) := ⟨rfl, rfl, rfl, by decide +kernel, rfl, by decide +kernel, by decide +kernel⟩
theorem sc_l_other : FnScope ["value"] ["value"] (defScope s_l_other) := ⟨rfl, rfl, rfl, by decide +kernel, rfl, by decide +kernel, by decide +kernel⟩
theorem sc_l_changed : FnScope ["parts", "choice", "names", "name", "changed", "key"] ["parts", "choice"] (defScope s_l_changed) := ⟨rfl, rfl, rfl, by decide +kernel, rfl, by decide +kernel, by decide +kernel⟩
theorem sc_law : FnScope ["script", "parts", "segment", "length", "octets", "pairs", "own", "plain", "name", "bare", "changed"] ["script"] (defScope s_law) := ⟨rfl, rfl, rfl, by decide +kernel, rfl, by decide +kernel, by decide +kernel⟩
structure Txt (K : PySem.W.Frag) (mg : Str → Option Value) where
  C_Segment : Addr
  f_Segment_init__ : Addr
  d_Segment_init__ : FuncData
  e_Segment_init___ranges : Addr
  e_Segment_init___data : Addr
  f_Segment_size : Addr
  d_Segment_size : FuncData
  p0_Segment_size : Addr
  f_Segment_eq__ : Addr
  d_Segment_eq__ : FuncData
  f_Segment_parts : Addr
  d_Segment_parts : FuncData
  f_l_is_integer : Addr
  d_l_is_integer : FuncData
  f_l_cell : Addr
  d_l_cell : FuncData
  f_l_row : Addr
  d_l_row : FuncData
  f_l_octets : Addr
  d_l_octets : FuncData
  f_l_wire : Addr
  d_l_wire : FuncData
  f_l_optional : Addr
  d_l_optional : FuncData
  f_l_pairs : Addr
  d_l_pairs : FuncData
  f_l_parts : Addr
  d_l_parts : FuncData
  f_l_made : Addr
  d_l_made : FuncData
  f_l_number : Addr
  d_l_number : FuncData
  f_l_pair : Addr
  d_l_pair : FuncData
  f_l_all_pairs : Addr
  d_l_all_pairs : FuncData
  f_l_flag : Addr
  d_l_flag : FuncData
  f_l_same : Addr
  d_l_same : FuncData
  f_l_other : Addr
  d_l_other : FuncData
  f_l_changed : Addr
  d_l_changed : FuncData
  f_law : Addr
  d_law : FuncData
  c_Segment : mg "Segment" = some (.ref C_Segment)
  k_Segment : Cls K C_Segment
  i_Segment : ∀ {H : Hp} {a dx : Addr} {fs : List (Str × V)}, H a = some (.ins C_Segment dx fs) → TyOf K H (.ref a) (.ref C_Segment)
  q_Segment : PySem.W.subIn K (.type "int") (.ref C_Segment) = some false
  ki_Segment : PySem.W.kitOne K (.type "int") (.ref C_Segment) = some false
  n_Segment_source : NoAttr K C_Segment "source"
  n_Segment_target : NoAttr K C_Segment "target"
  n_Segment_seq : NoAttr K C_Segment "seq"
  n_Segment_count : NoAttr K C_Segment "count"
  n_Segment_echo : NoAttr K C_Segment "echo"
  n_Segment_ack : NoAttr K C_Segment "ack"
  n_Segment_syn : NoAttr K C_Segment "syn"
  n_Segment_fin : NoAttr K C_Segment "fin"
  n_Segment_reset : NoAttr K C_Segment "reset"
  n_Segment_marked : NoAttr K C_Segment "marked"
  n_Segment_cut : NoAttr K C_Segment "cut"
  n_Segment_window : NoAttr K C_Segment "window"
  n_Segment_mss : NoAttr K C_Segment "mss"
  n_Segment_scale : NoAttr K C_Segment "scale"
  n_Segment_ranges_known : NoAttr K C_Segment "ranges_known"
  n_Segment_ranges : NoAttr K C_Segment "ranges"
  n_Segment_stamp : NoAttr K C_Segment "stamp"
  n_Segment_data : NoAttr K C_Segment "data"
  es_Segment_init___ranges : ∀ H : Hp, SqT K H e_Segment_init___ranges []
  es_Segment_init___data : ∀ H : Hp, SqT K H e_Segment_init___data []
  F_Segment_init__ : FunD K "__init__" "Segment.__init__" (defArgs s_Segment_init__) (defBody s_Segment_init__) (defScope s_Segment_init__) [] [("echo", .non), ("ack", .non), ("syn", .bl false), ("fin", .bl false), ("reset", .bl false), ("marked", .bl false), ("cut", .bl false), ("window", .int 0), ("mss", .non), ("scale", .non), ("ranges_known", .bl false), ("ranges", .ref e_Segment_init___ranges), ("stamp", .non), ("data", .ref e_Segment_init___data)] f_Segment_init__ d_Segment_init__
  mk_Segment : Mk K C_Segment f_Segment_init__
  F_Segment_size : Fun K "size" "Segment.size" s_Segment_size f_Segment_size d_Segment_size
  b_Segment_size : Binds K d_Segment_size ["self"] []
  p_Segment_size : PropOf K C_Segment "size" p0_Segment_size f_Segment_size
  F_Segment_eq__ : Fun K "__eq__" "Segment.__eq__" s_Segment_eq__ f_Segment_eq__ d_Segment_eq__
  b_Segment_eq__ : Binds K d_Segment_eq__ ["self", "other"] []
  a_Segment_eq__ : Meth K C_Segment "__eq__" f_Segment_eq__
  F_Segment_parts : Fun K "_parts" "Segment._parts" s_Segment_parts f_Segment_parts d_Segment_parts
  b_Segment_parts : Binds K d_Segment_parts ["self"] []
  a_Segment_parts : Meth K C_Segment "_parts" f_Segment_parts
  F_l_is_integer : Fun K "_law_is_integer" "_law_is_integer" s_l_is_integer f_l_is_integer d_l_is_integer
  b_l_is_integer : Binds K d_l_is_integer ["actual"] []
  m_l_is_integer : mg "_law_is_integer" = some (.ref f_l_is_integer)
  F_l_cell : Fun K "_law_cell" "_law_cell" s_l_cell f_l_cell d_l_cell
  b_l_cell : Binds K d_l_cell ["script", "k"] []
  m_l_cell : mg "_law_cell" = some (.ref f_l_cell)
  F_l_row : Fun K "_law_row" "_law_row" s_l_row f_l_row d_l_row
  b_l_row : Binds K d_l_row ["cell", "size", "base"] []
  m_l_row : mg "_law_row" = some (.ref f_l_row)
  F_l_octets : Fun K "_law_octets" "_law_octets" s_l_octets f_l_octets d_l_octets
  b_l_octets : Binds K d_l_octets ["actual", "expected"] []
  m_l_octets : mg "_law_octets" = some (.ref f_l_octets)
  F_l_wire : Fun K "_law_wire" "_law_wire" s_l_wire f_l_wire d_l_wire
  b_l_wire : Binds K d_l_wire ["cell"] []
  m_l_wire : mg "_law_wire" = some (.ref f_l_wire)
  F_l_optional : Fun K "_law_optional" "_law_optional" s_l_optional f_l_optional d_l_optional
  b_l_optional : Binds K d_l_optional ["cell", "worth"] []
  m_l_optional : mg "_law_optional" = some (.ref f_l_optional)
  F_l_pairs : Fun K "_law_pairs" "_law_pairs" s_l_pairs f_l_pairs d_l_pairs
  b_l_pairs : Binds K d_l_pairs ["cell", "size"] []
  m_l_pairs : mg "_law_pairs" = some (.ref f_l_pairs)
  F_l_parts : Fun K "_law_parts" "_law_parts" s_l_parts f_l_parts d_l_parts
  b_l_parts : Binds K d_l_parts ["script", "at"] []
  m_l_parts : mg "_law_parts" = some (.ref f_l_parts)
  F_l_made : Fun K "_law_made" "_law_made" s_l_made f_l_made d_l_made
  b_l_made : Binds K d_l_made ["parts"] []
  m_l_made : mg "_law_made" = some (.ref f_l_made)
  F_l_number : Fun K "_law_number" "_law_number" s_l_number f_l_number d_l_number
  b_l_number : Binds K d_l_number ["actual", "expected"] []
  m_l_number : mg "_law_number" = some (.ref f_l_number)
  F_l_pair : Fun K "_law_pair" "_law_pair" s_l_pair f_l_pair d_l_pair
  b_l_pair : Binds K d_l_pair ["actual", "expected"] []
  m_l_pair : mg "_law_pair" = some (.ref f_l_pair)
  F_l_all_pairs : Fun K "_law_all_pairs" "_law_all_pairs" s_l_all_pairs f_l_all_pairs d_l_all_pairs
  b_l_all_pairs : Binds K d_l_all_pairs ["actual", "expected"] []
  m_l_all_pairs : mg "_law_all_pairs" = some (.ref f_l_all_pairs)
  F_l_flag : Fun K "_law_flag" "_law_flag" s_l_flag f_l_flag d_l_flag
  b_l_flag : Binds K d_l_flag ["actual", "expected"] []
  m_l_flag : mg "_law_flag" = some (.ref f_l_flag)
  F_l_same : Fun K "_law_same" "_law_same" s_l_same f_l_same d_l_same
  b_l_same : Binds K d_l_same ["actual", "parts"] []
  m_l_same : mg "_law_same" = some (.ref f_l_same)
  F_l_other : Fun K "_law_other" "_law_other" s_l_other f_l_other d_l_other
  b_l_other : Binds K d_l_other ["value"] []
  m_l_other : mg "_law_other" = some (.ref f_l_other)
  F_l_changed : Fun K "_law_changed" "_law_changed" s_l_changed f_l_changed d_l_changed
  b_l_changed : Binds K d_l_changed ["parts", "choice"] []
  m_l_changed : mg "_law_changed" = some (.ref f_l_changed)
  F_law : Fun K "law" "law" s_law f_law d_law
  b_law : Binds K d_law ["script"] []
  m_law : mg "law" = some (.ref f_law)
  n_bool : mg "bool" = none
  n_int : mg "int" = none
  n_isinstance : mg "isinstance" = none
  n_len : mg "len" = none
  n_list : mg "list" = none
  n_range : mg "range" = none
  n_tuple : mg "tuple" = none
def ky_Segment : List Str := ["source", "target", "seq", "count", "echo", "ack", "syn", "fin", "reset", "marked", "cut", "window", "mss", "scale", "ranges_known", "ranges", "stamp", "data"]
theorem nd_Segment : ky_Segment.Nodup := by decide +kernel
section
variable {K : PySem.W.Frag} {mg : Str → Option Value} {T : Txt K mg} {H : Hp} {a dx : Addr} {vs : List V} {v y : V}
theorem fd_Segment_source {A : V → Prop} (ho : H a = some (.ins T.C_Segment dx (obj ky_Segment vs))) (hv : vs[0]? = some v) (q : A v) : ∃ a' C' dx' fs v', V.ref a = .ref a' ∧ H a' = some (.ins C' dx' fs) ∧ Cls K C' ∧ NoAttr K C' "source" ∧ fs.lookup ("source" : Str) = some v' ∧ A v' := g_fldE ho T.k_Segment T.n_Segment_source nd_Segment rfl hv q
theorem st_Segment_source {A : Hp → Prop} (ho : H a = some (.ins T.C_Segment dx (obj ky_Segment vs))) (hv : 0 < vs.length) (q : A (upd H a (.ins T.C_Segment dx (obj ky_Segment (vs.set 0 y))))) : ∃ a' C' dx' fs, V.ref a = .ref a' ∧ H a' = some (.ins C' dx' fs) ∧ Cls K C' ∧ NoAttr K C' "source" ∧ fs.length < 1000 ∧ A (upd H a' (.ins C' dx' (putF "source" y fs))) := g_putE ho T.k_Segment T.n_Segment_source nd_Segment (by decide) rfl hv q
theorem nw_Segment_source {A : Hp → Prop} (ho : H a = some (.ins T.C_Segment dx (obj ky_Segment vs))) (hv : vs.length = 0) (q : A (upd H a (.ins T.C_Segment dx (obj ky_Segment (vs ++ [y]))))) : ∃ a' C' dx' fs, V.ref a = .ref a' ∧ H a' = some (.ins C' dx' fs) ∧ Cls K C' ∧ NoAttr K C' "source" ∧ fs.length < 1000 ∧ A (upd H a' (.ins C' dx' (putF "source" y fs))) := g_newE ho T.k_Segment T.n_Segment_source nd_Segment (by decide) (by rw [hv]; rfl) q
theorem fd_Segment_target {A : V → Prop} (ho : H a = some (.ins T.C_Segment dx (obj ky_Segment vs))) (hv : vs[1]? = some v) (q : A v) : ∃ a' C' dx' fs v', V.ref a = .ref a' ∧ H a' = some (.ins C' dx' fs) ∧ Cls K C' ∧ NoAttr K C' "target" ∧ fs.lookup ("target" : Str) = some v' ∧ A v' := g_fldE ho T.k_Segment T.n_Segment_target nd_Segment rfl hv q
theorem st_Segment_target {A : Hp → Prop} (ho : H a = some (.ins T.C_Segment dx (obj ky_Segment vs))) (hv : 1 < vs.length) (q : A (upd H a (.ins T.C_Segment dx (obj ky_Segment (vs.set 1 y))))) : ∃ a' C' dx' fs, V.ref a = .ref a' ∧ H a' = some (.ins C' dx' fs) ∧ Cls K C' ∧ NoAttr K C' "target" ∧ fs.length < 1000 ∧ A (upd H a' (.ins C' dx' (putF "target" y fs))) := g_putE ho T.k_Segment T.n_Segment_target nd_Segment (by decide) rfl hv q
theorem nw_Segment_target {A : Hp → Prop} (ho : H a = some (.ins T.C_Segment dx (obj ky_Segment vs))) (hv : vs.length = 1) (q : A (upd H a (.ins T.C_Segment dx (obj ky_Segment (vs ++ [y]))))) : ∃ a' C' dx' fs, V.ref a = .ref a' ∧ H a' = some (.ins C' dx' fs) ∧ Cls K C' ∧ NoAttr K C' "target" ∧ fs.length < 1000 ∧ A (upd H a' (.ins C' dx' (putF "target" y fs))) := g_newE ho T.k_Segment T.n_Segment_target nd_Segment (by decide) (by rw [hv]; rfl) q
theorem fd_Segment_seq {A : V → Prop} (ho : H a = some (.ins T.C_Segment dx (obj ky_Segment vs))) (hv : vs[2]? = some v) (q : A v) : ∃ a' C' dx' fs v', V.ref a = .ref a' ∧ H a' = some (.ins C' dx' fs) ∧ Cls K C' ∧ NoAttr K C' "seq" ∧ fs.lookup ("seq" : Str) = some v' ∧ A v' := g_fldE ho T.k_Segment T.n_Segment_seq nd_Segment rfl hv q
theorem st_Segment_seq {A : Hp → Prop} (ho : H a = some (.ins T.C_Segment dx (obj ky_Segment vs))) (hv : 2 < vs.length) (q : A (upd H a (.ins T.C_Segment dx (obj ky_Segment (vs.set 2 y))))) : ∃ a' C' dx' fs, V.ref a = .ref a' ∧ H a' = some (.ins C' dx' fs) ∧ Cls K C' ∧ NoAttr K C' "seq" ∧ fs.length < 1000 ∧ A (upd H a' (.ins C' dx' (putF "seq" y fs))) := g_putE ho T.k_Segment T.n_Segment_seq nd_Segment (by decide) rfl hv q
theorem nw_Segment_seq {A : Hp → Prop} (ho : H a = some (.ins T.C_Segment dx (obj ky_Segment vs))) (hv : vs.length = 2) (q : A (upd H a (.ins T.C_Segment dx (obj ky_Segment (vs ++ [y]))))) : ∃ a' C' dx' fs, V.ref a = .ref a' ∧ H a' = some (.ins C' dx' fs) ∧ Cls K C' ∧ NoAttr K C' "seq" ∧ fs.length < 1000 ∧ A (upd H a' (.ins C' dx' (putF "seq" y fs))) := g_newE ho T.k_Segment T.n_Segment_seq nd_Segment (by decide) (by rw [hv]; rfl) q
theorem fd_Segment_count {A : V → Prop} (ho : H a = some (.ins T.C_Segment dx (obj ky_Segment vs))) (hv : vs[3]? = some v) (q : A v) : ∃ a' C' dx' fs v', V.ref a = .ref a' ∧ H a' = some (.ins C' dx' fs) ∧ Cls K C' ∧ NoAttr K C' "count" ∧ fs.lookup ("count" : Str) = some v' ∧ A v' := g_fldE ho T.k_Segment T.n_Segment_count nd_Segment rfl hv q
theorem st_Segment_count {A : Hp → Prop} (ho : H a = some (.ins T.C_Segment dx (obj ky_Segment vs))) (hv : 3 < vs.length) (q : A (upd H a (.ins T.C_Segment dx (obj ky_Segment (vs.set 3 y))))) : ∃ a' C' dx' fs, V.ref a = .ref a' ∧ H a' = some (.ins C' dx' fs) ∧ Cls K C' ∧ NoAttr K C' "count" ∧ fs.length < 1000 ∧ A (upd H a' (.ins C' dx' (putF "count" y fs))) := g_putE ho T.k_Segment T.n_Segment_count nd_Segment (by decide) rfl hv q
theorem nw_Segment_count {A : Hp → Prop} (ho : H a = some (.ins T.C_Segment dx (obj ky_Segment vs))) (hv : vs.length = 3) (q : A (upd H a (.ins T.C_Segment dx (obj ky_Segment (vs ++ [y]))))) : ∃ a' C' dx' fs, V.ref a = .ref a' ∧ H a' = some (.ins C' dx' fs) ∧ Cls K C' ∧ NoAttr K C' "count" ∧ fs.length < 1000 ∧ A (upd H a' (.ins C' dx' (putF "count" y fs))) := g_newE ho T.k_Segment T.n_Segment_count nd_Segment (by decide) (by rw [hv]; rfl) q
theorem fd_Segment_echo {A : V → Prop} (ho : H a = some (.ins T.C_Segment dx (obj ky_Segment vs))) (hv : vs[4]? = some v) (q : A v) : ∃ a' C' dx' fs v', V.ref a = .ref a' ∧ H a' = some (.ins C' dx' fs) ∧ Cls K C' ∧ NoAttr K C' "echo" ∧ fs.lookup ("echo" : Str) = some v' ∧ A v' := g_fldE ho T.k_Segment T.n_Segment_echo nd_Segment rfl hv q
theorem st_Segment_echo {A : Hp → Prop} (ho : H a = some (.ins T.C_Segment dx (obj ky_Segment vs))) (hv : 4 < vs.length) (q : A (upd H a (.ins T.C_Segment dx (obj ky_Segment (vs.set 4 y))))) : ∃ a' C' dx' fs, V.ref a = .ref a' ∧ H a' = some (.ins C' dx' fs) ∧ Cls K C' ∧ NoAttr K C' "echo" ∧ fs.length < 1000 ∧ A (upd H a' (.ins C' dx' (putF "echo" y fs))) := g_putE ho T.k_Segment T.n_Segment_echo nd_Segment (by decide) rfl hv q
theorem nw_Segment_echo {A : Hp → Prop} (ho : H a = some (.ins T.C_Segment dx (obj ky_Segment vs))) (hv : vs.length = 4) (q : A (upd H a (.ins T.C_Segment dx (obj ky_Segment (vs ++ [y]))))) : ∃ a' C' dx' fs, V.ref a = .ref a' ∧ H a' = some (.ins C' dx' fs) ∧ Cls K C' ∧ NoAttr K C' "echo" ∧ fs.length < 1000 ∧ A (upd H a' (.ins C' dx' (putF "echo" y fs))) := g_newE ho T.k_Segment T.n_Segment_echo nd_Segment (by decide) (by rw [hv]; rfl) q
theorem fd_Segment_ack {A : V → Prop} (ho : H a = some (.ins T.C_Segment dx (obj ky_Segment vs))) (hv : vs[5]? = some v) (q : A v) : ∃ a' C' dx' fs v', V.ref a = .ref a' ∧ H a' = some (.ins C' dx' fs) ∧ Cls K C' ∧ NoAttr K C' "ack" ∧ fs.lookup ("ack" : Str) = some v' ∧ A v' := g_fldE ho T.k_Segment T.n_Segment_ack nd_Segment rfl hv q
theorem st_Segment_ack {A : Hp → Prop} (ho : H a = some (.ins T.C_Segment dx (obj ky_Segment vs))) (hv : 5 < vs.length) (q : A (upd H a (.ins T.C_Segment dx (obj ky_Segment (vs.set 5 y))))) : ∃ a' C' dx' fs, V.ref a = .ref a' ∧ H a' = some (.ins C' dx' fs) ∧ Cls K C' ∧ NoAttr K C' "ack" ∧ fs.length < 1000 ∧ A (upd H a' (.ins C' dx' (putF "ack" y fs))) := g_putE ho T.k_Segment T.n_Segment_ack nd_Segment (by decide) rfl hv q
theorem nw_Segment_ack {A : Hp → Prop} (ho : H a = some (.ins T.C_Segment dx (obj ky_Segment vs))) (hv : vs.length = 5) (q : A (upd H a (.ins T.C_Segment dx (obj ky_Segment (vs ++ [y]))))) : ∃ a' C' dx' fs, V.ref a = .ref a' ∧ H a' = some (.ins C' dx' fs) ∧ Cls K C' ∧ NoAttr K C' "ack" ∧ fs.length < 1000 ∧ A (upd H a' (.ins C' dx' (putF "ack" y fs))) := g_newE ho T.k_Segment T.n_Segment_ack nd_Segment (by decide) (by rw [hv]; rfl) q
theorem fd_Segment_syn {A : V → Prop} (ho : H a = some (.ins T.C_Segment dx (obj ky_Segment vs))) (hv : vs[6]? = some v) (q : A v) : ∃ a' C' dx' fs v', V.ref a = .ref a' ∧ H a' = some (.ins C' dx' fs) ∧ Cls K C' ∧ NoAttr K C' "syn" ∧ fs.lookup ("syn" : Str) = some v' ∧ A v' := g_fldE ho T.k_Segment T.n_Segment_syn nd_Segment rfl hv q
theorem st_Segment_syn {A : Hp → Prop} (ho : H a = some (.ins T.C_Segment dx (obj ky_Segment vs))) (hv : 6 < vs.length) (q : A (upd H a (.ins T.C_Segment dx (obj ky_Segment (vs.set 6 y))))) : ∃ a' C' dx' fs, V.ref a = .ref a' ∧ H a' = some (.ins C' dx' fs) ∧ Cls K C' ∧ NoAttr K C' "syn" ∧ fs.length < 1000 ∧ A (upd H a' (.ins C' dx' (putF "syn" y fs))) := g_putE ho T.k_Segment T.n_Segment_syn nd_Segment (by decide) rfl hv q
theorem nw_Segment_syn {A : Hp → Prop} (ho : H a = some (.ins T.C_Segment dx (obj ky_Segment vs))) (hv : vs.length = 6) (q : A (upd H a (.ins T.C_Segment dx (obj ky_Segment (vs ++ [y]))))) : ∃ a' C' dx' fs, V.ref a = .ref a' ∧ H a' = some (.ins C' dx' fs) ∧ Cls K C' ∧ NoAttr K C' "syn" ∧ fs.length < 1000 ∧ A (upd H a' (.ins C' dx' (putF "syn" y fs))) := g_newE ho T.k_Segment T.n_Segment_syn nd_Segment (by decide) (by rw [hv]; rfl) q
theorem fd_Segment_fin {A : V → Prop} (ho : H a = some (.ins T.C_Segment dx (obj ky_Segment vs))) (hv : vs[7]? = some v) (q : A v) : ∃ a' C' dx' fs v', V.ref a = .ref a' ∧ H a' = some (.ins C' dx' fs) ∧ Cls K C' ∧ NoAttr K C' "fin" ∧ fs.lookup ("fin" : Str) = some v' ∧ A v' := g_fldE ho T.k_Segment T.n_Segment_fin nd_Segment rfl hv q
theorem st_Segment_fin {A : Hp → Prop} (ho : H a = some (.ins T.C_Segment dx (obj ky_Segment vs))) (hv : 7 < vs.length) (q : A (upd H a (.ins T.C_Segment dx (obj ky_Segment (vs.set 7 y))))) : ∃ a' C' dx' fs, V.ref a = .ref a' ∧ H a' = some (.ins C' dx' fs) ∧ Cls K C' ∧ NoAttr K C' "fin" ∧ fs.length < 1000 ∧ A (upd H a' (.ins C' dx' (putF "fin" y fs))) := g_putE ho T.k_Segment T.n_Segment_fin nd_Segment (by decide) rfl hv q
theorem nw_Segment_fin {A : Hp → Prop} (ho : H a = some (.ins T.C_Segment dx (obj ky_Segment vs))) (hv : vs.length = 7) (q : A (upd H a (.ins T.C_Segment dx (obj ky_Segment (vs ++ [y]))))) : ∃ a' C' dx' fs, V.ref a = .ref a' ∧ H a' = some (.ins C' dx' fs) ∧ Cls K C' ∧ NoAttr K C' "fin" ∧ fs.length < 1000 ∧ A (upd H a' (.ins C' dx' (putF "fin" y fs))) := g_newE ho T.k_Segment T.n_Segment_fin nd_Segment (by decide) (by rw [hv]; rfl) q
theorem fd_Segment_reset {A : V → Prop} (ho : H a = some (.ins T.C_Segment dx (obj ky_Segment vs))) (hv : vs[8]? = some v) (q : A v) : ∃ a' C' dx' fs v', V.ref a = .ref a' ∧ H a' = some (.ins C' dx' fs) ∧ Cls K C' ∧ NoAttr K C' "reset" ∧ fs.lookup ("reset" : Str) = some v' ∧ A v' := g_fldE ho T.k_Segment T.n_Segment_reset nd_Segment rfl hv q
theorem st_Segment_reset {A : Hp → Prop} (ho : H a = some (.ins T.C_Segment dx (obj ky_Segment vs))) (hv : 8 < vs.length) (q : A (upd H a (.ins T.C_Segment dx (obj ky_Segment (vs.set 8 y))))) : ∃ a' C' dx' fs, V.ref a = .ref a' ∧ H a' = some (.ins C' dx' fs) ∧ Cls K C' ∧ NoAttr K C' "reset" ∧ fs.length < 1000 ∧ A (upd H a' (.ins C' dx' (putF "reset" y fs))) := g_putE ho T.k_Segment T.n_Segment_reset nd_Segment (by decide) rfl hv q
theorem nw_Segment_reset {A : Hp → Prop} (ho : H a = some (.ins T.C_Segment dx (obj ky_Segment vs))) (hv : vs.length = 8) (q : A (upd H a (.ins T.C_Segment dx (obj ky_Segment (vs ++ [y]))))) : ∃ a' C' dx' fs, V.ref a = .ref a' ∧ H a' = some (.ins C' dx' fs) ∧ Cls K C' ∧ NoAttr K C' "reset" ∧ fs.length < 1000 ∧ A (upd H a' (.ins C' dx' (putF "reset" y fs))) := g_newE ho T.k_Segment T.n_Segment_reset nd_Segment (by decide) (by rw [hv]; rfl) q
theorem fd_Segment_marked {A : V → Prop} (ho : H a = some (.ins T.C_Segment dx (obj ky_Segment vs))) (hv : vs[9]? = some v) (q : A v) : ∃ a' C' dx' fs v', V.ref a = .ref a' ∧ H a' = some (.ins C' dx' fs) ∧ Cls K C' ∧ NoAttr K C' "marked" ∧ fs.lookup ("marked" : Str) = some v' ∧ A v' := g_fldE ho T.k_Segment T.n_Segment_marked nd_Segment rfl hv q
theorem st_Segment_marked {A : Hp → Prop} (ho : H a = some (.ins T.C_Segment dx (obj ky_Segment vs))) (hv : 9 < vs.length) (q : A (upd H a (.ins T.C_Segment dx (obj ky_Segment (vs.set 9 y))))) : ∃ a' C' dx' fs, V.ref a = .ref a' ∧ H a' = some (.ins C' dx' fs) ∧ Cls K C' ∧ NoAttr K C' "marked" ∧ fs.length < 1000 ∧ A (upd H a' (.ins C' dx' (putF "marked" y fs))) := g_putE ho T.k_Segment T.n_Segment_marked nd_Segment (by decide) rfl hv q
theorem nw_Segment_marked {A : Hp → Prop} (ho : H a = some (.ins T.C_Segment dx (obj ky_Segment vs))) (hv : vs.length = 9) (q : A (upd H a (.ins T.C_Segment dx (obj ky_Segment (vs ++ [y]))))) : ∃ a' C' dx' fs, V.ref a = .ref a' ∧ H a' = some (.ins C' dx' fs) ∧ Cls K C' ∧ NoAttr K C' "marked" ∧ fs.length < 1000 ∧ A (upd H a' (.ins C' dx' (putF "marked" y fs))) := g_newE ho T.k_Segment T.n_Segment_marked nd_Segment (by decide) (by rw [hv]; rfl) q
theorem fd_Segment_cut {A : V → Prop} (ho : H a = some (.ins T.C_Segment dx (obj ky_Segment vs))) (hv : vs[10]? = some v) (q : A v) : ∃ a' C' dx' fs v', V.ref a = .ref a' ∧ H a' = some (.ins C' dx' fs) ∧ Cls K C' ∧ NoAttr K C' "cut" ∧ fs.lookup ("cut" : Str) = some v' ∧ A v' := g_fldE ho T.k_Segment T.n_Segment_cut nd_Segment rfl hv q
theorem st_Segment_cut {A : Hp → Prop} (ho : H a = some (.ins T.C_Segment dx (obj ky_Segment vs))) (hv : 10 < vs.length) (q : A (upd H a (.ins T.C_Segment dx (obj ky_Segment (vs.set 10 y))))) : ∃ a' C' dx' fs, V.ref a = .ref a' ∧ H a' = some (.ins C' dx' fs) ∧ Cls K C' ∧ NoAttr K C' "cut" ∧ fs.length < 1000 ∧ A (upd H a' (.ins C' dx' (putF "cut" y fs))) := g_putE ho T.k_Segment T.n_Segment_cut nd_Segment (by decide) rfl hv q
theorem nw_Segment_cut {A : Hp → Prop} (ho : H a = some (.ins T.C_Segment dx (obj ky_Segment vs))) (hv : vs.length = 10) (q : A (upd H a (.ins T.C_Segment dx (obj ky_Segment (vs ++ [y]))))) : ∃ a' C' dx' fs, V.ref a = .ref a' ∧ H a' = some (.ins C' dx' fs) ∧ Cls K C' ∧ NoAttr K C' "cut" ∧ fs.length < 1000 ∧ A (upd H a' (.ins C' dx' (putF "cut" y fs))) := g_newE ho T.k_Segment T.n_Segment_cut nd_Segment (by decide) (by rw [hv]; rfl) q
theorem fd_Segment_window {A : V → Prop} (ho : H a = some (.ins T.C_Segment dx (obj ky_Segment vs))) (hv : vs[11]? = some v) (q : A v) : ∃ a' C' dx' fs v', V.ref a = .ref a' ∧ H a' = some (.ins C' dx' fs) ∧ Cls K C' ∧ NoAttr K C' "window" ∧ fs.lookup ("window" : Str) = some v' ∧ A v' := g_fldE ho T.k_Segment T.n_Segment_window nd_Segment rfl hv q
theorem st_Segment_window {A : Hp → Prop} (ho : H a = some (.ins T.C_Segment dx (obj ky_Segment vs))) (hv : 11 < vs.length) (q : A (upd H a (.ins T.C_Segment dx (obj ky_Segment (vs.set 11 y))))) : ∃ a' C' dx' fs, V.ref a = .ref a' ∧ H a' = some (.ins C' dx' fs) ∧ Cls K C' ∧ NoAttr K C' "window" ∧ fs.length < 1000 ∧ A (upd H a' (.ins C' dx' (putF "window" y fs))) := g_putE ho T.k_Segment T.n_Segment_window nd_Segment (by decide) rfl hv q
theorem nw_Segment_window {A : Hp → Prop} (ho : H a = some (.ins T.C_Segment dx (obj ky_Segment vs))) (hv : vs.length = 11) (q : A (upd H a (.ins T.C_Segment dx (obj ky_Segment (vs ++ [y]))))) : ∃ a' C' dx' fs, V.ref a = .ref a' ∧ H a' = some (.ins C' dx' fs) ∧ Cls K C' ∧ NoAttr K C' "window" ∧ fs.length < 1000 ∧ A (upd H a' (.ins C' dx' (putF "window" y fs))) := g_newE ho T.k_Segment T.n_Segment_window nd_Segment (by decide) (by rw [hv]; rfl) q
theorem fd_Segment_mss {A : V → Prop} (ho : H a = some (.ins T.C_Segment dx (obj ky_Segment vs))) (hv : vs[12]? = some v) (q : A v) : ∃ a' C' dx' fs v', V.ref a = .ref a' ∧ H a' = some (.ins C' dx' fs) ∧ Cls K C' ∧ NoAttr K C' "mss" ∧ fs.lookup ("mss" : Str) = some v' ∧ A v' := g_fldE ho T.k_Segment T.n_Segment_mss nd_Segment rfl hv q
theorem st_Segment_mss {A : Hp → Prop} (ho : H a = some (.ins T.C_Segment dx (obj ky_Segment vs))) (hv : 12 < vs.length) (q : A (upd H a (.ins T.C_Segment dx (obj ky_Segment (vs.set 12 y))))) : ∃ a' C' dx' fs, V.ref a = .ref a' ∧ H a' = some (.ins C' dx' fs) ∧ Cls K C' ∧ NoAttr K C' "mss" ∧ fs.length < 1000 ∧ A (upd H a' (.ins C' dx' (putF "mss" y fs))) := g_putE ho T.k_Segment T.n_Segment_mss nd_Segment (by decide) rfl hv q
theorem nw_Segment_mss {A : Hp → Prop} (ho : H a = some (.ins T.C_Segment dx (obj ky_Segment vs))) (hv : vs.length = 12) (q : A (upd H a (.ins T.C_Segment dx (obj ky_Segment (vs ++ [y]))))) : ∃ a' C' dx' fs, V.ref a = .ref a' ∧ H a' = some (.ins C' dx' fs) ∧ Cls K C' ∧ NoAttr K C' "mss" ∧ fs.length < 1000 ∧ A (upd H a' (.ins C' dx' (putF "mss" y fs))) := g_newE ho T.k_Segment T.n_Segment_mss nd_Segment (by decide) (by rw [hv]; rfl) q
theorem fd_Segment_scale {A : V → Prop} (ho : H a = some (.ins T.C_Segment dx (obj ky_Segment vs))) (hv : vs[13]? = some v) (q : A v) : ∃ a' C' dx' fs v', V.ref a = .ref a' ∧ H a' = some (.ins C' dx' fs) ∧ Cls K C' ∧ NoAttr K C' "scale" ∧ fs.lookup ("scale" : Str) = some v' ∧ A v' := g_fldE ho T.k_Segment T.n_Segment_scale nd_Segment rfl hv q
theorem st_Segment_scale {A : Hp → Prop} (ho : H a = some (.ins T.C_Segment dx (obj ky_Segment vs))) (hv : 13 < vs.length) (q : A (upd H a (.ins T.C_Segment dx (obj ky_Segment (vs.set 13 y))))) : ∃ a' C' dx' fs, V.ref a = .ref a' ∧ H a' = some (.ins C' dx' fs) ∧ Cls K C' ∧ NoAttr K C' "scale" ∧ fs.length < 1000 ∧ A (upd H a' (.ins C' dx' (putF "scale" y fs))) := g_putE ho T.k_Segment T.n_Segment_scale nd_Segment (by decide) rfl hv q
theorem nw_Segment_scale {A : Hp → Prop} (ho : H a = some (.ins T.C_Segment dx (obj ky_Segment vs))) (hv : vs.length = 13) (q : A (upd H a (.ins T.C_Segment dx (obj ky_Segment (vs ++ [y]))))) : ∃ a' C' dx' fs, V.ref a = .ref a' ∧ H a' = some (.ins C' dx' fs) ∧ Cls K C' ∧ NoAttr K C' "scale" ∧ fs.length < 1000 ∧ A (upd H a' (.ins C' dx' (putF "scale" y fs))) := g_newE ho T.k_Segment T.n_Segment_scale nd_Segment (by decide) (by rw [hv]; rfl) q
theorem fd_Segment_ranges_known {A : V → Prop} (ho : H a = some (.ins T.C_Segment dx (obj ky_Segment vs))) (hv : vs[14]? = some v) (q : A v) : ∃ a' C' dx' fs v', V.ref a = .ref a' ∧ H a' = some (.ins C' dx' fs) ∧ Cls K C' ∧ NoAttr K C' "ranges_known" ∧ fs.lookup ("ranges_known" : Str) = some v' ∧ A v' := g_fldE ho T.k_Segment T.n_Segment_ranges_known nd_Segment rfl hv q
theorem st_Segment_ranges_known {A : Hp → Prop} (ho : H a = some (.ins T.C_Segment dx (obj ky_Segment vs))) (hv : 14 < vs.length) (q : A (upd H a (.ins T.C_Segment dx (obj ky_Segment (vs.set 14 y))))) : ∃ a' C' dx' fs, V.ref a = .ref a' ∧ H a' = some (.ins C' dx' fs) ∧ Cls K C' ∧ NoAttr K C' "ranges_known" ∧ fs.length < 1000 ∧ A (upd H a' (.ins C' dx' (putF "ranges_known" y fs))) := g_putE ho T.k_Segment T.n_Segment_ranges_known nd_Segment (by decide) rfl hv q
theorem nw_Segment_ranges_known {A : Hp → Prop} (ho : H a = some (.ins T.C_Segment dx (obj ky_Segment vs))) (hv : vs.length = 14) (q : A (upd H a (.ins T.C_Segment dx (obj ky_Segment (vs ++ [y]))))) : ∃ a' C' dx' fs, V.ref a = .ref a' ∧ H a' = some (.ins C' dx' fs) ∧ Cls K C' ∧ NoAttr K C' "ranges_known" ∧ fs.length < 1000 ∧ A (upd H a' (.ins C' dx' (putF "ranges_known" y fs))) := g_newE ho T.k_Segment T.n_Segment_ranges_known nd_Segment (by decide) (by rw [hv]; rfl) q
theorem fd_Segment_ranges {A : V → Prop} (ho : H a = some (.ins T.C_Segment dx (obj ky_Segment vs))) (hv : vs[15]? = some v) (q : A v) : ∃ a' C' dx' fs v', V.ref a = .ref a' ∧ H a' = some (.ins C' dx' fs) ∧ Cls K C' ∧ NoAttr K C' "ranges" ∧ fs.lookup ("ranges" : Str) = some v' ∧ A v' := g_fldE ho T.k_Segment T.n_Segment_ranges nd_Segment rfl hv q
theorem st_Segment_ranges {A : Hp → Prop} (ho : H a = some (.ins T.C_Segment dx (obj ky_Segment vs))) (hv : 15 < vs.length) (q : A (upd H a (.ins T.C_Segment dx (obj ky_Segment (vs.set 15 y))))) : ∃ a' C' dx' fs, V.ref a = .ref a' ∧ H a' = some (.ins C' dx' fs) ∧ Cls K C' ∧ NoAttr K C' "ranges" ∧ fs.length < 1000 ∧ A (upd H a' (.ins C' dx' (putF "ranges" y fs))) := g_putE ho T.k_Segment T.n_Segment_ranges nd_Segment (by decide) rfl hv q
theorem nw_Segment_ranges {A : Hp → Prop} (ho : H a = some (.ins T.C_Segment dx (obj ky_Segment vs))) (hv : vs.length = 15) (q : A (upd H a (.ins T.C_Segment dx (obj ky_Segment (vs ++ [y]))))) : ∃ a' C' dx' fs, V.ref a = .ref a' ∧ H a' = some (.ins C' dx' fs) ∧ Cls K C' ∧ NoAttr K C' "ranges" ∧ fs.length < 1000 ∧ A (upd H a' (.ins C' dx' (putF "ranges" y fs))) := g_newE ho T.k_Segment T.n_Segment_ranges nd_Segment (by decide) (by rw [hv]; rfl) q
theorem fd_Segment_stamp {A : V → Prop} (ho : H a = some (.ins T.C_Segment dx (obj ky_Segment vs))) (hv : vs[16]? = some v) (q : A v) : ∃ a' C' dx' fs v', V.ref a = .ref a' ∧ H a' = some (.ins C' dx' fs) ∧ Cls K C' ∧ NoAttr K C' "stamp" ∧ fs.lookup ("stamp" : Str) = some v' ∧ A v' := g_fldE ho T.k_Segment T.n_Segment_stamp nd_Segment rfl hv q
theorem st_Segment_stamp {A : Hp → Prop} (ho : H a = some (.ins T.C_Segment dx (obj ky_Segment vs))) (hv : 16 < vs.length) (q : A (upd H a (.ins T.C_Segment dx (obj ky_Segment (vs.set 16 y))))) : ∃ a' C' dx' fs, V.ref a = .ref a' ∧ H a' = some (.ins C' dx' fs) ∧ Cls K C' ∧ NoAttr K C' "stamp" ∧ fs.length < 1000 ∧ A (upd H a' (.ins C' dx' (putF "stamp" y fs))) := g_putE ho T.k_Segment T.n_Segment_stamp nd_Segment (by decide) rfl hv q
theorem nw_Segment_stamp {A : Hp → Prop} (ho : H a = some (.ins T.C_Segment dx (obj ky_Segment vs))) (hv : vs.length = 16) (q : A (upd H a (.ins T.C_Segment dx (obj ky_Segment (vs ++ [y]))))) : ∃ a' C' dx' fs, V.ref a = .ref a' ∧ H a' = some (.ins C' dx' fs) ∧ Cls K C' ∧ NoAttr K C' "stamp" ∧ fs.length < 1000 ∧ A (upd H a' (.ins C' dx' (putF "stamp" y fs))) := g_newE ho T.k_Segment T.n_Segment_stamp nd_Segment (by decide) (by rw [hv]; rfl) q
theorem fd_Segment_data {A : V → Prop} (ho : H a = some (.ins T.C_Segment dx (obj ky_Segment vs))) (hv : vs[17]? = some v) (q : A v) : ∃ a' C' dx' fs v', V.ref a = .ref a' ∧ H a' = some (.ins C' dx' fs) ∧ Cls K C' ∧ NoAttr K C' "data" ∧ fs.lookup ("data" : Str) = some v' ∧ A v' := g_fldE ho T.k_Segment T.n_Segment_data nd_Segment rfl hv q
theorem st_Segment_data {A : Hp → Prop} (ho : H a = some (.ins T.C_Segment dx (obj ky_Segment vs))) (hv : 17 < vs.length) (q : A (upd H a (.ins T.C_Segment dx (obj ky_Segment (vs.set 17 y))))) : ∃ a' C' dx' fs, V.ref a = .ref a' ∧ H a' = some (.ins C' dx' fs) ∧ Cls K C' ∧ NoAttr K C' "data" ∧ fs.length < 1000 ∧ A (upd H a' (.ins C' dx' (putF "data" y fs))) := g_putE ho T.k_Segment T.n_Segment_data nd_Segment (by decide) rfl hv q
theorem nw_Segment_data {A : Hp → Prop} (ho : H a = some (.ins T.C_Segment dx (obj ky_Segment vs))) (hv : vs.length = 17) (q : A (upd H a (.ins T.C_Segment dx (obj ky_Segment (vs ++ [y]))))) : ∃ a' C' dx' fs, V.ref a = .ref a' ∧ H a' = some (.ins C' dx' fs) ∧ Cls K C' ∧ NoAttr K C' "data" ∧ fs.length < 1000 ∧ A (upd H a' (.ins C' dx' (putF "data" y fs))) := g_newE ho T.k_Segment T.n_Segment_data nd_Segment (by decide) (by rw [hv]; rfl) q
theorem me_Segment_eq__ {A : Prop} (ho : H a = some (.ins T.C_Segment dx (obj ky_Segment vs))) (q : A) : ∃ a' dx' fs, V.ref a = .ref a' ∧ H a' = some (.ins T.C_Segment dx' fs) ∧ fs.lookup ("__eq__" : Str) = none ∧ A := g_methE ho (by decide +kernel) q
theorem me_Segment_parts {A : Prop} (ho : H a = some (.ins T.C_Segment dx (obj ky_Segment vs))) (q : A) : ∃ a' dx' fs, V.ref a = .ref a' ∧ H a' = some (.ins T.C_Segment dx' fs) ∧ fs.lookup ("_parts" : Str) = none ∧ A := g_methE ho (by decide +kernel) q
end
local macro_rules | `(tactic| walk_at "use") => `(tactic| first | ((with_reducible refine' fd_Segment_source ?ho_ ?hv_ ?_); (case ho_ => first | assumption | exact upd_same); (case hv_ => exact rfl)) | ((with_reducible refine' fd_Segment_target ?ho_ ?hv_ ?_); (case ho_ => first | assumption | exact upd_same); (case hv_ => exact rfl)) | ((with_reducible refine' fd_Segment_seq ?ho_ ?hv_ ?_); (case ho_ => first | assumption | exact upd_same); (case hv_ => exact rfl)) | ((with_reducible refine' fd_Segment_count ?ho_ ?hv_ ?_); (case ho_ => first | assumption | exact upd_same); (case hv_ => exact rfl)) | ((with_reducible refine' fd_Segment_echo ?ho_ ?hv_ ?_); (case ho_ => first | assumption | exact upd_same); (case hv_ => exact rfl)) | ((with_reducible refine' fd_Segment_ack ?ho_ ?hv_ ?_); (case ho_ => first | assumption | exact upd_same); (case hv_ => exact rfl)) | ((with_reducible refine' fd_Segment_syn ?ho_ ?hv_ ?_); (case ho_ => first | assumption | exact upd_same); (case hv_ => exact rfl)) | ((with_reducible refine' fd_Segment_fin ?ho_ ?hv_ ?_); (case ho_ => first | assumption | exact upd_same); (case hv_ => exact rfl)) | ((with_reducible refine' fd_Segment_reset ?ho_ ?hv_ ?_); (case ho_ => first | assumption | exact upd_same); (case hv_ => exact rfl)) | ((with_reducible refine' fd_Segment_marked ?ho_ ?hv_ ?_); (case ho_ => first | assumption | exact upd_same); (case hv_ => exact rfl)) | ((with_reducible refine' fd_Segment_cut ?ho_ ?hv_ ?_); (case ho_ => first | assumption | exact upd_same); (case hv_ => exact rfl)) | ((with_reducible refine' fd_Segment_window ?ho_ ?hv_ ?_); (case ho_ => first | assumption | exact upd_same); (case hv_ => exact rfl)) | ((with_reducible refine' fd_Segment_mss ?ho_ ?hv_ ?_); (case ho_ => first | assumption | exact upd_same); (case hv_ => exact rfl)) | ((with_reducible refine' fd_Segment_scale ?ho_ ?hv_ ?_); (case ho_ => first | assumption | exact upd_same); (case hv_ => exact rfl)) | ((with_reducible refine' fd_Segment_ranges_known ?ho_ ?hv_ ?_); (case ho_ => first | assumption | exact upd_same); (case hv_ => exact rfl)) | ((with_reducible refine' fd_Segment_ranges ?ho_ ?hv_ ?_); (case ho_ => first | assumption | exact upd_same); (case hv_ => exact rfl)) | ((with_reducible refine' fd_Segment_stamp ?ho_ ?hv_ ?_); (case ho_ => first | assumption | exact upd_same); (case hv_ => exact rfl)) | ((with_reducible refine' fd_Segment_data ?ho_ ?hv_ ?_); (case ho_ => first | assumption | exact upd_same); (case hv_ => exact rfl)) | ((with_reducible refine' nw_Segment_source ?ho_ ?hv_ ?_); (case ho_ => first | assumption | exact upd_same); (case hv_ => exact rfl)) | ((with_reducible refine' nw_Segment_target ?ho_ ?hv_ ?_); (case ho_ => first | assumption | exact upd_same); (case hv_ => exact rfl)) | ((with_reducible refine' nw_Segment_seq ?ho_ ?hv_ ?_); (case ho_ => first | assumption | exact upd_same); (case hv_ => exact rfl)) | ((with_reducible refine' nw_Segment_count ?ho_ ?hv_ ?_); (case ho_ => first | assumption | exact upd_same); (case hv_ => exact rfl)) | ((with_reducible refine' nw_Segment_echo ?ho_ ?hv_ ?_); (case ho_ => first | assumption | exact upd_same); (case hv_ => exact rfl)) | ((with_reducible refine' nw_Segment_ack ?ho_ ?hv_ ?_); (case ho_ => first | assumption | exact upd_same); (case hv_ => exact rfl)) | ((with_reducible refine' nw_Segment_syn ?ho_ ?hv_ ?_); (case ho_ => first | assumption | exact upd_same); (case hv_ => exact rfl)) | ((with_reducible refine' nw_Segment_fin ?ho_ ?hv_ ?_); (case ho_ => first | assumption | exact upd_same); (case hv_ => exact rfl)) | ((with_reducible refine' nw_Segment_reset ?ho_ ?hv_ ?_); (case ho_ => first | assumption | exact upd_same); (case hv_ => exact rfl)) | ((with_reducible refine' nw_Segment_marked ?ho_ ?hv_ ?_); (case ho_ => first | assumption | exact upd_same); (case hv_ => exact rfl)) | ((with_reducible refine' nw_Segment_cut ?ho_ ?hv_ ?_); (case ho_ => first | assumption | exact upd_same); (case hv_ => exact rfl)) | ((with_reducible refine' nw_Segment_window ?ho_ ?hv_ ?_); (case ho_ => first | assumption | exact upd_same); (case hv_ => exact rfl)) | ((with_reducible refine' nw_Segment_mss ?ho_ ?hv_ ?_); (case ho_ => first | assumption | exact upd_same); (case hv_ => exact rfl)) | ((with_reducible refine' nw_Segment_scale ?ho_ ?hv_ ?_); (case ho_ => first | assumption | exact upd_same); (case hv_ => exact rfl)) | ((with_reducible refine' nw_Segment_ranges_known ?ho_ ?hv_ ?_); (case ho_ => first | assumption | exact upd_same); (case hv_ => exact rfl)) | ((with_reducible refine' nw_Segment_ranges ?ho_ ?hv_ ?_); (case ho_ => first | assumption | exact upd_same); (case hv_ => exact rfl)) | ((with_reducible refine' nw_Segment_stamp ?ho_ ?hv_ ?_); (case ho_ => first | assumption | exact upd_same); (case hv_ => exact rfl)) | ((with_reducible refine' nw_Segment_data ?ho_ ?hv_ ?_); (case ho_ => first | assumption | exact upd_same); (case hv_ => exact rfl)) | ((with_reducible refine' st_Segment_source ?ho_ ?hv_ ?_); (case ho_ => first | assumption | exact upd_same); (case hv_ => exact Nat.le_of_ble_eq_true rfl)) | ((with_reducible refine' st_Segment_target ?ho_ ?hv_ ?_); (case ho_ => first | assumption | exact upd_same); (case hv_ => exact Nat.le_of_ble_eq_true rfl)) | ((with_reducible refine' st_Segment_seq ?ho_ ?hv_ ?_); (case ho_ => first | assumption | exact upd_same); (case hv_ => exact Nat.le_of_ble_eq_true rfl)) | ((with_reducible refine' st_Segment_count ?ho_ ?hv_ ?_); (case ho_ => first | assumption | exact upd_same); (case hv_ => exact Nat.le_of_ble_eq_true rfl)) | ((with_reducible refine' st_Segment_echo ?ho_ ?hv_ ?_); (case ho_ => first | assumption | exact upd_same); (case hv_ => exact Nat.le_of_ble_eq_true rfl)) | ((with_reducible refine' st_Segment_ack ?ho_ ?hv_ ?_); (case ho_ => first | assumption | exact upd_same); (case hv_ => exact Nat.le_of_ble_eq_true rfl)) | ((with_reducible refine' st_Segment_syn ?ho_ ?hv_ ?_); (case ho_ => first | assumption | exact upd_same); (case hv_ => exact Nat.le_of_ble_eq_true rfl)) | ((with_reducible refine' st_Segment_fin ?ho_ ?hv_ ?_); (case ho_ => first | assumption | exact upd_same); (case hv_ => exact Nat.le_of_ble_eq_true rfl)) | ((with_reducible refine' st_Segment_reset ?ho_ ?hv_ ?_); (case ho_ => first | assumption | exact upd_same); (case hv_ => exact Nat.le_of_ble_eq_true rfl)) | ((with_reducible refine' st_Segment_marked ?ho_ ?hv_ ?_); (case ho_ => first | assumption | exact upd_same); (case hv_ => exact Nat.le_of_ble_eq_true rfl)) | ((with_reducible refine' st_Segment_cut ?ho_ ?hv_ ?_); (case ho_ => first | assumption | exact upd_same); (case hv_ => exact Nat.le_of_ble_eq_true rfl)) | ((with_reducible refine' st_Segment_window ?ho_ ?hv_ ?_); (case ho_ => first | assumption | exact upd_same); (case hv_ => exact Nat.le_of_ble_eq_true rfl)) | ((with_reducible refine' st_Segment_mss ?ho_ ?hv_ ?_); (case ho_ => first | assumption | exact upd_same); (case hv_ => exact Nat.le_of_ble_eq_true rfl)) | ((with_reducible refine' st_Segment_scale ?ho_ ?hv_ ?_); (case ho_ => first | assumption | exact upd_same); (case hv_ => exact Nat.le_of_ble_eq_true rfl)) | ((with_reducible refine' st_Segment_ranges_known ?ho_ ?hv_ ?_); (case ho_ => first | assumption | exact upd_same); (case hv_ => exact Nat.le_of_ble_eq_true rfl)) | ((with_reducible refine' st_Segment_ranges ?ho_ ?hv_ ?_); (case ho_ => first | assumption | exact upd_same); (case hv_ => exact Nat.le_of_ble_eq_true rfl)) | ((with_reducible refine' st_Segment_stamp ?ho_ ?hv_ ?_); (case ho_ => first | assumption | exact upd_same); (case hv_ => exact Nat.le_of_ble_eq_true rfl)) | ((with_reducible refine' st_Segment_data ?ho_ ?hv_ ?_); (case ho_ => first | assumption | exact upd_same); (case hv_ => exact Nat.le_of_ble_eq_true rfl)) | ((with_reducible refine' me_Segment_eq__ ?ho_ ?_); (case ho_ => first | assumption | exact upd_same)) | ((with_reducible refine' me_Segment_parts ?ho_ ?_); (case ho_ => first | assumption | exact upd_same)))
/-! ### dicts with written texts as keys, by place -/
def dk (ks : List Str) (vs : List V) : List (Key × V) := (obj ks vs).map fun p => (Sum.inr p.1, p.2)
theorem val_map : ∀ {l : List (Str × V)} {k : Str}, valV (l.map fun p => ((Sum.inr p.1 : Key), p.2)) (.inr k) = l.lookup k
  | [], _ => rfl
  | p :: r, k => by
    by_cases e : k = p.1
    · subst e
      rw [List.map_cons, valV_pos (p := ((Sum.inr p.1 : Key), p.2)) rfl, List.lookup_cons_self]
    · rw [List.map_cons, valV_neg (p := ((Sum.inr p.1 : Key), p.2)) (fun z => e (Sum.inr.inj z).symm), List.lookup_cons, beq_eq_false_iff_ne.mpr e]
      exact val_map
theorem g_dgetT {td ty : TE} {σ : St} {H : Hp} {Q : VK} (h : td σ H fun x H1 => ty σ H1 fun y H2 => ∃ a v, x = .ref a ∧ DGet H2 a y (some v) ∧ Q v H2) : tDGet td ty σ H Q := h
theorem g_dputT {td ty tv : TE} {D : Ends} {σ : St} {H : Hp} (h : tv σ H fun v H1 => td σ H1 fun x H2 => ty σ H2 fun y H3 => ∃ a H4, x = .ref a ∧ DPut H3 a y v H4 ∧ D.nx σ H4) : sDPut td ty tv D σ H := h
theorem g_dget {H : Hp} {a : Addr} {ks : List Str} {vs : List V} {i : Nat} {k : Str} {v : V} {A : V → Prop} (ho : H a = some (.dK (dk ks vs))) (nd : ks.Nodup) (hk : ks[i]? = some k) (hv : vs[i]? = some v) (q : A v) : ∃ a' v', V.ref a = .ref a' ∧ DGet H a' (.str k) (some v') ∧ A v' := by
  refine ⟨a, v, rfl, ?_, q⟩
  have z := DGet.k (k := .inr k) ho
  rw [show valV (dk ks vs) (.inr k) = some v by unfold dk; rw [val_map, obj_get nd hk, hv]] at z
  exact z
theorem map_any {l : List (Str × V)} {k : Str} : ((l.map fun p => ((Sum.inr p.1 : Key), p.2)).any fun kv => decide (kv.1 = .inr k)) = (l.lookup k).isSome := by
  rw [valV_any, val_map]
theorem dk_put {ks : List Str} {vs : List V} {i : Nat} {k : Str} {y : V} (nd : ks.Nodup) (hk : ks[i]? = some k) (hv : i < vs.length) : putK (dk ks vs) (.inr k) y = dk ks (vs.set i y) := by
  have e1 : ((dk ks vs).any fun kv => decide (kv.1 = .inr k)) = true := by
    unfold dk
    rw [map_any, obj_get nd hk, List.getElem?_eq_getElem hv]
    rfl
  have e2 : dk ks (vs.set i y) = (putF k y (obj ks vs)).map fun p => ((Sum.inr p.1 : Key), p.2) := by rw [obj_put nd hk hv]; rfl
  rw [e2]
  unfold putK
  rw [if_pos e1]
  clear e1 e2
  unfold dk
  have nk : ((obj ks vs).map (·.1)).Nodup := by
    clear hv hk
    induction ks generalizing vs with
    | nil => exact List.nodup_nil
    | cons k0 ks ih =>
      cases vs with
      | nil => exact List.nodup_nil
      | cons v vs =>
        have nd' := List.nodup_cons.mp nd
        refine List.nodup_cons.mpr ⟨fun z => nd'.1 ?_, ih nd'.2⟩
        clear ih nd nd'
        induction ks generalizing vs with
        | nil => simp [obj] at z
        | cons k1 ks ih2 =>
          cases vs with
          | nil => simp [obj] at z
          | cons v1 vs =>
            rcases List.mem_cons.mp z with e | z
            · rw [show k0 = k1 from e]; exact List.mem_cons_self ..
            · exact List.mem_cons_of_mem _ (ih2 (vs := vs) z)
  have hm : k ∈ (obj ks vs).map (·.1) := by
    have : ((obj ks vs).lookup k).isSome = true := by rw [obj_get nd hk, List.getElem?_eq_getElem hv]; rfl
    clear nk hv hk nd
    generalize obj ks vs = l at this ⊢
    induction l with
    | nil => cases this
    | cons p r ih =>
      by_cases e : k = p.1
      · rw [e]; exact List.mem_cons_self ..
      · rw [List.lookup_cons, beq_eq_false_iff_ne.mpr e] at this
        exact List.mem_cons_of_mem _ (ih this)
  generalize obj ks vs = l at nk hm ⊢
  clear nd hk hv
  induction l with
  | nil => cases hm
  | cons p r ih =>
    obtain ⟨n1, n2⟩ := List.nodup_cons.mp nk
    show _ = (if p.1 = k then (p.1, y) :: r else p :: putF k y r).map _
    by_cases e : p.1 = k
    · rw [if_pos e, List.map_cons, List.map_cons, List.map_cons]
      subst e
      rw [if_pos rfl]
      congr 1
      rw [List.map_map]
      refine List.map_congr_left fun q hq => ?_
      show (if (Sum.inr q.1 : Key) = Sum.inr p.1 then ((Sum.inr q.1 : Key), y) else (Sum.inr q.1, q.2)) = (Sum.inr q.1, q.2)
      rw [if_neg]
      intro z
      have w : p.1 ∈ r.map (·.1) := by
        rw [← Sum.inr.inj z]
        exact List.mem_map_of_mem (f := (·.1)) hq
      exact n1 w
    · rw [if_neg e, List.map_cons, List.map_cons, List.map_cons, if_neg (fun z => e (Sum.inr.inj z))]
      congr 1
      refine ih n2 ?_
      rcases List.mem_cons.mp hm with z | z
      · exact absurd z.symm e
      · exact z
theorem dk_new {ks : List Str} {vs : List V} {k : Str} {y : V} (nd : ks.Nodup) (hk : ks[vs.length]? = some k) : putK (dk ks vs) (.inr k) y = dk ks (vs ++ [y]) := by
  have e0 : (obj ks vs).lookup k = none := by rw [obj_get nd hk, List.getElem?_eq_none (Nat.le_refl _)]
  have e1 : ((dk ks vs).any fun kv => decide (kv.1 = .inr k)) = false := by
    unfold dk
    rw [map_any, e0]
    rfl
  unfold putK
  rw [e1, if_neg (by decide)]
  unfold dk
  have : obj ks (vs ++ [y]) = obj ks vs ++ [(k, y)] := by
    clear e0 e1 nd
    induction ks generalizing vs with
    | nil => cases hk
    | cons k0 ks ih =>
      cases vs with
      | nil =>
        have e : k0 = k := Option.some.inj hk
        subst e
        cases ks <;> rfl
      | cons v vs =>
        show (k0, v) :: obj ks (vs ++ [y]) = (k0, v) :: (obj ks vs ++ [(k, y)])
        rw [ih hk]
  rw [this, List.map_append]
  rfl
theorem dk_len {ks : List Str} {vs : List V} : (dk ks vs).length ≤ ks.length := by
  unfold dk
  rw [List.length_map]
  exact obj_len ks vs
theorem g_dput {H : Hp} {a : Addr} {ks : List Str} {vs : List V} {i : Nat} {k : Str} {v : V} {A : Hp → Prop} (ho : H a = some (.dK (dk ks vs))) (nd : ks.Nodup) (hl : ks.length < 100000) (hk : ks[i]? = some k) (hv : i < vs.length) (q : A (upd H a (.dK (dk ks (vs.set i v))))) : ∃ a' H', V.ref a = .ref a' ∧ DPut H a' (.str k) v H' ∧ A H' := by
  refine ⟨a, _, rfl, DPut.k (k := .inr k) ho (szl (Nat.lt_of_le_of_lt dk_len hl)), ?_⟩
  rw [dk_put nd hk hv]
  exact q
theorem g_dnew {H : Hp} {a : Addr} {ks : List Str} {vs : List V} {k : Str} {v : V} {A : Hp → Prop} (ho : H a = some (.dK (dk ks vs))) (nd : ks.Nodup) (hl : ks.length < 100000) (hk : ks[vs.length]? = some k) (q : A (upd H a (.dK (dk ks (vs ++ [v]))))) : ∃ a' H', V.ref a = .ref a' ∧ DPut H a' (.str k) v H' ∧ A H' := by
  refine ⟨a, _, rfl, DPut.k (k := .inr k) ho (szl (Nat.lt_of_le_of_lt dk_len hl)), ?_⟩
  rw [dk_new nd hk]
  exact q
local macro_rules | `(tactic| walk_at "use") => `(tactic| with_reducible first | refine g_dgetT ?_ | refine g_dputT ?_)

def kd_S : List Str := ["source", "target", "seq", "count", "echo", "ack", "syn", "fin", "reset", "marked", "cut", "ranges_known", "window", "mss", "scale", "ranges", "stamp", "data"]
theorem ndd_S : kd_S.Nodup := by decide +kernel
section
variable {H : Hp} {a : Addr} {vs : List V} {v y : V}
theorem dg_S_source {A : V → Prop} (ho : H a = some (.dK (dk kd_S vs))) (hv : vs[0]? = some v) (q : A v) : ∃ a' v', V.ref a = .ref a' ∧ DGet H a' (.str "source") (some v') ∧ A v' := g_dget ho ndd_S rfl hv q
theorem dp_S_source {A : Hp → Prop} (ho : H a = some (.dK (dk kd_S vs))) (hv : 0 < vs.length) (q : A (upd H a (.dK (dk kd_S (vs.set 0 y))))) : ∃ a' H', V.ref a = .ref a' ∧ DPut H a' (.str "source") y H' ∧ A H' := g_dput ho ndd_S (by decide) rfl hv q
theorem dn_S_source {A : Hp → Prop} (ho : H a = some (.dK (dk kd_S vs))) (hv : vs.length = 0) (q : A (upd H a (.dK (dk kd_S (vs ++ [y]))))) : ∃ a' H', V.ref a = .ref a' ∧ DPut H a' (.str "source") y H' ∧ A H' := g_dnew ho ndd_S (by decide) (by rw [hv]; rfl) q
theorem dg_S_target {A : V → Prop} (ho : H a = some (.dK (dk kd_S vs))) (hv : vs[1]? = some v) (q : A v) : ∃ a' v', V.ref a = .ref a' ∧ DGet H a' (.str "target") (some v') ∧ A v' := g_dget ho ndd_S rfl hv q
theorem dp_S_target {A : Hp → Prop} (ho : H a = some (.dK (dk kd_S vs))) (hv : 1 < vs.length) (q : A (upd H a (.dK (dk kd_S (vs.set 1 y))))) : ∃ a' H', V.ref a = .ref a' ∧ DPut H a' (.str "target") y H' ∧ A H' := g_dput ho ndd_S (by decide) rfl hv q
theorem dn_S_target {A : Hp → Prop} (ho : H a = some (.dK (dk kd_S vs))) (hv : vs.length = 1) (q : A (upd H a (.dK (dk kd_S (vs ++ [y]))))) : ∃ a' H', V.ref a = .ref a' ∧ DPut H a' (.str "target") y H' ∧ A H' := g_dnew ho ndd_S (by decide) (by rw [hv]; rfl) q
theorem dg_S_seq {A : V → Prop} (ho : H a = some (.dK (dk kd_S vs))) (hv : vs[2]? = some v) (q : A v) : ∃ a' v', V.ref a = .ref a' ∧ DGet H a' (.str "seq") (some v') ∧ A v' := g_dget ho ndd_S rfl hv q
theorem dp_S_seq {A : Hp → Prop} (ho : H a = some (.dK (dk kd_S vs))) (hv : 2 < vs.length) (q : A (upd H a (.dK (dk kd_S (vs.set 2 y))))) : ∃ a' H', V.ref a = .ref a' ∧ DPut H a' (.str "seq") y H' ∧ A H' := g_dput ho ndd_S (by decide) rfl hv q
theorem dn_S_seq {A : Hp → Prop} (ho : H a = some (.dK (dk kd_S vs))) (hv : vs.length = 2) (q : A (upd H a (.dK (dk kd_S (vs ++ [y]))))) : ∃ a' H', V.ref a = .ref a' ∧ DPut H a' (.str "seq") y H' ∧ A H' := g_dnew ho ndd_S (by decide) (by rw [hv]; rfl) q
theorem dg_S_count {A : V → Prop} (ho : H a = some (.dK (dk kd_S vs))) (hv : vs[3]? = some v) (q : A v) : ∃ a' v', V.ref a = .ref a' ∧ DGet H a' (.str "count") (some v') ∧ A v' := g_dget ho ndd_S rfl hv q
theorem dp_S_count {A : Hp → Prop} (ho : H a = some (.dK (dk kd_S vs))) (hv : 3 < vs.length) (q : A (upd H a (.dK (dk kd_S (vs.set 3 y))))) : ∃ a' H', V.ref a = .ref a' ∧ DPut H a' (.str "count") y H' ∧ A H' := g_dput ho ndd_S (by decide) rfl hv q
theorem dn_S_count {A : Hp → Prop} (ho : H a = some (.dK (dk kd_S vs))) (hv : vs.length = 3) (q : A (upd H a (.dK (dk kd_S (vs ++ [y]))))) : ∃ a' H', V.ref a = .ref a' ∧ DPut H a' (.str "count") y H' ∧ A H' := g_dnew ho ndd_S (by decide) (by rw [hv]; rfl) q
theorem dg_S_echo {A : V → Prop} (ho : H a = some (.dK (dk kd_S vs))) (hv : vs[4]? = some v) (q : A v) : ∃ a' v', V.ref a = .ref a' ∧ DGet H a' (.str "echo") (some v') ∧ A v' := g_dget ho ndd_S rfl hv q
theorem dp_S_echo {A : Hp → Prop} (ho : H a = some (.dK (dk kd_S vs))) (hv : 4 < vs.length) (q : A (upd H a (.dK (dk kd_S (vs.set 4 y))))) : ∃ a' H', V.ref a = .ref a' ∧ DPut H a' (.str "echo") y H' ∧ A H' := g_dput ho ndd_S (by decide) rfl hv q
theorem dn_S_echo {A : Hp → Prop} (ho : H a = some (.dK (dk kd_S vs))) (hv : vs.length = 4) (q : A (upd H a (.dK (dk kd_S (vs ++ [y]))))) : ∃ a' H', V.ref a = .ref a' ∧ DPut H a' (.str "echo") y H' ∧ A H' := g_dnew ho ndd_S (by decide) (by rw [hv]; rfl) q
theorem dg_S_ack {A : V → Prop} (ho : H a = some (.dK (dk kd_S vs))) (hv : vs[5]? = some v) (q : A v) : ∃ a' v', V.ref a = .ref a' ∧ DGet H a' (.str "ack") (some v') ∧ A v' := g_dget ho ndd_S rfl hv q
theorem dp_S_ack {A : Hp → Prop} (ho : H a = some (.dK (dk kd_S vs))) (hv : 5 < vs.length) (q : A (upd H a (.dK (dk kd_S (vs.set 5 y))))) : ∃ a' H', V.ref a = .ref a' ∧ DPut H a' (.str "ack") y H' ∧ A H' := g_dput ho ndd_S (by decide) rfl hv q
theorem dn_S_ack {A : Hp → Prop} (ho : H a = some (.dK (dk kd_S vs))) (hv : vs.length = 5) (q : A (upd H a (.dK (dk kd_S (vs ++ [y]))))) : ∃ a' H', V.ref a = .ref a' ∧ DPut H a' (.str "ack") y H' ∧ A H' := g_dnew ho ndd_S (by decide) (by rw [hv]; rfl) q
theorem dg_S_syn {A : V → Prop} (ho : H a = some (.dK (dk kd_S vs))) (hv : vs[6]? = some v) (q : A v) : ∃ a' v', V.ref a = .ref a' ∧ DGet H a' (.str "syn") (some v') ∧ A v' := g_dget ho ndd_S rfl hv q
theorem dp_S_syn {A : Hp → Prop} (ho : H a = some (.dK (dk kd_S vs))) (hv : 6 < vs.length) (q : A (upd H a (.dK (dk kd_S (vs.set 6 y))))) : ∃ a' H', V.ref a = .ref a' ∧ DPut H a' (.str "syn") y H' ∧ A H' := g_dput ho ndd_S (by decide) rfl hv q
theorem dn_S_syn {A : Hp → Prop} (ho : H a = some (.dK (dk kd_S vs))) (hv : vs.length = 6) (q : A (upd H a (.dK (dk kd_S (vs ++ [y]))))) : ∃ a' H', V.ref a = .ref a' ∧ DPut H a' (.str "syn") y H' ∧ A H' := g_dnew ho ndd_S (by decide) (by rw [hv]; rfl) q
theorem dg_S_fin {A : V → Prop} (ho : H a = some (.dK (dk kd_S vs))) (hv : vs[7]? = some v) (q : A v) : ∃ a' v', V.ref a = .ref a' ∧ DGet H a' (.str "fin") (some v') ∧ A v' := g_dget ho ndd_S rfl hv q
theorem dp_S_fin {A : Hp → Prop} (ho : H a = some (.dK (dk kd_S vs))) (hv : 7 < vs.length) (q : A (upd H a (.dK (dk kd_S (vs.set 7 y))))) : ∃ a' H', V.ref a = .ref a' ∧ DPut H a' (.str "fin") y H' ∧ A H' := g_dput ho ndd_S (by decide) rfl hv q
theorem dn_S_fin {A : Hp → Prop} (ho : H a = some (.dK (dk kd_S vs))) (hv : vs.length = 7) (q : A (upd H a (.dK (dk kd_S (vs ++ [y]))))) : ∃ a' H', V.ref a = .ref a' ∧ DPut H a' (.str "fin") y H' ∧ A H' := g_dnew ho ndd_S (by decide) (by rw [hv]; rfl) q
theorem dg_S_reset {A : V → Prop} (ho : H a = some (.dK (dk kd_S vs))) (hv : vs[8]? = some v) (q : A v) : ∃ a' v', V.ref a = .ref a' ∧ DGet H a' (.str "reset") (some v') ∧ A v' := g_dget ho ndd_S rfl hv q
theorem dp_S_reset {A : Hp → Prop} (ho : H a = some (.dK (dk kd_S vs))) (hv : 8 < vs.length) (q : A (upd H a (.dK (dk kd_S (vs.set 8 y))))) : ∃ a' H', V.ref a = .ref a' ∧ DPut H a' (.str "reset") y H' ∧ A H' := g_dput ho ndd_S (by decide) rfl hv q
theorem dn_S_reset {A : Hp → Prop} (ho : H a = some (.dK (dk kd_S vs))) (hv : vs.length = 8) (q : A (upd H a (.dK (dk kd_S (vs ++ [y]))))) : ∃ a' H', V.ref a = .ref a' ∧ DPut H a' (.str "reset") y H' ∧ A H' := g_dnew ho ndd_S (by decide) (by rw [hv]; rfl) q
theorem dg_S_marked {A : V → Prop} (ho : H a = some (.dK (dk kd_S vs))) (hv : vs[9]? = some v) (q : A v) : ∃ a' v', V.ref a = .ref a' ∧ DGet H a' (.str "marked") (some v') ∧ A v' := g_dget ho ndd_S rfl hv q
theorem dp_S_marked {A : Hp → Prop} (ho : H a = some (.dK (dk kd_S vs))) (hv : 9 < vs.length) (q : A (upd H a (.dK (dk kd_S (vs.set 9 y))))) : ∃ a' H', V.ref a = .ref a' ∧ DPut H a' (.str "marked") y H' ∧ A H' := g_dput ho ndd_S (by decide) rfl hv q
theorem dn_S_marked {A : Hp → Prop} (ho : H a = some (.dK (dk kd_S vs))) (hv : vs.length = 9) (q : A (upd H a (.dK (dk kd_S (vs ++ [y]))))) : ∃ a' H', V.ref a = .ref a' ∧ DPut H a' (.str "marked") y H' ∧ A H' := g_dnew ho ndd_S (by decide) (by rw [hv]; rfl) q
theorem dg_S_cut {A : V → Prop} (ho : H a = some (.dK (dk kd_S vs))) (hv : vs[10]? = some v) (q : A v) : ∃ a' v', V.ref a = .ref a' ∧ DGet H a' (.str "cut") (some v') ∧ A v' := g_dget ho ndd_S rfl hv q
theorem dp_S_cut {A : Hp → Prop} (ho : H a = some (.dK (dk kd_S vs))) (hv : 10 < vs.length) (q : A (upd H a (.dK (dk kd_S (vs.set 10 y))))) : ∃ a' H', V.ref a = .ref a' ∧ DPut H a' (.str "cut") y H' ∧ A H' := g_dput ho ndd_S (by decide) rfl hv q
theorem dn_S_cut {A : Hp → Prop} (ho : H a = some (.dK (dk kd_S vs))) (hv : vs.length = 10) (q : A (upd H a (.dK (dk kd_S (vs ++ [y]))))) : ∃ a' H', V.ref a = .ref a' ∧ DPut H a' (.str "cut") y H' ∧ A H' := g_dnew ho ndd_S (by decide) (by rw [hv]; rfl) q
theorem dg_S_ranges_known {A : V → Prop} (ho : H a = some (.dK (dk kd_S vs))) (hv : vs[11]? = some v) (q : A v) : ∃ a' v', V.ref a = .ref a' ∧ DGet H a' (.str "ranges_known") (some v') ∧ A v' := g_dget ho ndd_S rfl hv q
theorem dp_S_ranges_known {A : Hp → Prop} (ho : H a = some (.dK (dk kd_S vs))) (hv : 11 < vs.length) (q : A (upd H a (.dK (dk kd_S (vs.set 11 y))))) : ∃ a' H', V.ref a = .ref a' ∧ DPut H a' (.str "ranges_known") y H' ∧ A H' := g_dput ho ndd_S (by decide) rfl hv q
theorem dn_S_ranges_known {A : Hp → Prop} (ho : H a = some (.dK (dk kd_S vs))) (hv : vs.length = 11) (q : A (upd H a (.dK (dk kd_S (vs ++ [y]))))) : ∃ a' H', V.ref a = .ref a' ∧ DPut H a' (.str "ranges_known") y H' ∧ A H' := g_dnew ho ndd_S (by decide) (by rw [hv]; rfl) q
theorem dg_S_window {A : V → Prop} (ho : H a = some (.dK (dk kd_S vs))) (hv : vs[12]? = some v) (q : A v) : ∃ a' v', V.ref a = .ref a' ∧ DGet H a' (.str "window") (some v') ∧ A v' := g_dget ho ndd_S rfl hv q
theorem dp_S_window {A : Hp → Prop} (ho : H a = some (.dK (dk kd_S vs))) (hv : 12 < vs.length) (q : A (upd H a (.dK (dk kd_S (vs.set 12 y))))) : ∃ a' H', V.ref a = .ref a' ∧ DPut H a' (.str "window") y H' ∧ A H' := g_dput ho ndd_S (by decide) rfl hv q
theorem dn_S_window {A : Hp → Prop} (ho : H a = some (.dK (dk kd_S vs))) (hv : vs.length = 12) (q : A (upd H a (.dK (dk kd_S (vs ++ [y]))))) : ∃ a' H', V.ref a = .ref a' ∧ DPut H a' (.str "window") y H' ∧ A H' := g_dnew ho ndd_S (by decide) (by rw [hv]; rfl) q
theorem dg_S_mss {A : V → Prop} (ho : H a = some (.dK (dk kd_S vs))) (hv : vs[13]? = some v) (q : A v) : ∃ a' v', V.ref a = .ref a' ∧ DGet H a' (.str "mss") (some v') ∧ A v' := g_dget ho ndd_S rfl hv q
theorem dp_S_mss {A : Hp → Prop} (ho : H a = some (.dK (dk kd_S vs))) (hv : 13 < vs.length) (q : A (upd H a (.dK (dk kd_S (vs.set 13 y))))) : ∃ a' H', V.ref a = .ref a' ∧ DPut H a' (.str "mss") y H' ∧ A H' := g_dput ho ndd_S (by decide) rfl hv q
theorem dn_S_mss {A : Hp → Prop} (ho : H a = some (.dK (dk kd_S vs))) (hv : vs.length = 13) (q : A (upd H a (.dK (dk kd_S (vs ++ [y]))))) : ∃ a' H', V.ref a = .ref a' ∧ DPut H a' (.str "mss") y H' ∧ A H' := g_dnew ho ndd_S (by decide) (by rw [hv]; rfl) q
theorem dg_S_scale {A : V → Prop} (ho : H a = some (.dK (dk kd_S vs))) (hv : vs[14]? = some v) (q : A v) : ∃ a' v', V.ref a = .ref a' ∧ DGet H a' (.str "scale") (some v') ∧ A v' := g_dget ho ndd_S rfl hv q
theorem dp_S_scale {A : Hp → Prop} (ho : H a = some (.dK (dk kd_S vs))) (hv : 14 < vs.length) (q : A (upd H a (.dK (dk kd_S (vs.set 14 y))))) : ∃ a' H', V.ref a = .ref a' ∧ DPut H a' (.str "scale") y H' ∧ A H' := g_dput ho ndd_S (by decide) rfl hv q
theorem dn_S_scale {A : Hp → Prop} (ho : H a = some (.dK (dk kd_S vs))) (hv : vs.length = 14) (q : A (upd H a (.dK (dk kd_S (vs ++ [y]))))) : ∃ a' H', V.ref a = .ref a' ∧ DPut H a' (.str "scale") y H' ∧ A H' := g_dnew ho ndd_S (by decide) (by rw [hv]; rfl) q
theorem dg_S_ranges {A : V → Prop} (ho : H a = some (.dK (dk kd_S vs))) (hv : vs[15]? = some v) (q : A v) : ∃ a' v', V.ref a = .ref a' ∧ DGet H a' (.str "ranges") (some v') ∧ A v' := g_dget ho ndd_S rfl hv q
theorem dp_S_ranges {A : Hp → Prop} (ho : H a = some (.dK (dk kd_S vs))) (hv : 15 < vs.length) (q : A (upd H a (.dK (dk kd_S (vs.set 15 y))))) : ∃ a' H', V.ref a = .ref a' ∧ DPut H a' (.str "ranges") y H' ∧ A H' := g_dput ho ndd_S (by decide) rfl hv q
theorem dn_S_ranges {A : Hp → Prop} (ho : H a = some (.dK (dk kd_S vs))) (hv : vs.length = 15) (q : A (upd H a (.dK (dk kd_S (vs ++ [y]))))) : ∃ a' H', V.ref a = .ref a' ∧ DPut H a' (.str "ranges") y H' ∧ A H' := g_dnew ho ndd_S (by decide) (by rw [hv]; rfl) q
theorem dg_S_stamp {A : V → Prop} (ho : H a = some (.dK (dk kd_S vs))) (hv : vs[16]? = some v) (q : A v) : ∃ a' v', V.ref a = .ref a' ∧ DGet H a' (.str "stamp") (some v') ∧ A v' := g_dget ho ndd_S rfl hv q
theorem dp_S_stamp {A : Hp → Prop} (ho : H a = some (.dK (dk kd_S vs))) (hv : 16 < vs.length) (q : A (upd H a (.dK (dk kd_S (vs.set 16 y))))) : ∃ a' H', V.ref a = .ref a' ∧ DPut H a' (.str "stamp") y H' ∧ A H' := g_dput ho ndd_S (by decide) rfl hv q
theorem dn_S_stamp {A : Hp → Prop} (ho : H a = some (.dK (dk kd_S vs))) (hv : vs.length = 16) (q : A (upd H a (.dK (dk kd_S (vs ++ [y]))))) : ∃ a' H', V.ref a = .ref a' ∧ DPut H a' (.str "stamp") y H' ∧ A H' := g_dnew ho ndd_S (by decide) (by rw [hv]; rfl) q
theorem dg_S_data {A : V → Prop} (ho : H a = some (.dK (dk kd_S vs))) (hv : vs[17]? = some v) (q : A v) : ∃ a' v', V.ref a = .ref a' ∧ DGet H a' (.str "data") (some v') ∧ A v' := g_dget ho ndd_S rfl hv q
theorem dp_S_data {A : Hp → Prop} (ho : H a = some (.dK (dk kd_S vs))) (hv : 17 < vs.length) (q : A (upd H a (.dK (dk kd_S (vs.set 17 y))))) : ∃ a' H', V.ref a = .ref a' ∧ DPut H a' (.str "data") y H' ∧ A H' := g_dput ho ndd_S (by decide) rfl hv q
theorem dn_S_data {A : Hp → Prop} (ho : H a = some (.dK (dk kd_S vs))) (hv : vs.length = 17) (q : A (upd H a (.dK (dk kd_S (vs ++ [y]))))) : ∃ a' H', V.ref a = .ref a' ∧ DPut H a' (.str "data") y H' ∧ A H' := g_dnew ho ndd_S (by decide) (by rw [hv]; rfl) q
end
local macro_rules | `(tactic| walk_at "use") => `(tactic| first | ((with_reducible refine' dg_S_source ?ho_ ?hv_ ?_); (case ho_ => first | assumption | exact upd_same); (case hv_ => exact rfl)) | ((with_reducible refine' dg_S_target ?ho_ ?hv_ ?_); (case ho_ => first | assumption | exact upd_same); (case hv_ => exact rfl)) | ((with_reducible refine' dg_S_seq ?ho_ ?hv_ ?_); (case ho_ => first | assumption | exact upd_same); (case hv_ => exact rfl)) | ((with_reducible refine' dg_S_count ?ho_ ?hv_ ?_); (case ho_ => first | assumption | exact upd_same); (case hv_ => exact rfl)) | ((with_reducible refine' dg_S_echo ?ho_ ?hv_ ?_); (case ho_ => first | assumption | exact upd_same); (case hv_ => exact rfl)) | ((with_reducible refine' dg_S_ack ?ho_ ?hv_ ?_); (case ho_ => first | assumption | exact upd_same); (case hv_ => exact rfl)) | ((with_reducible refine' dg_S_syn ?ho_ ?hv_ ?_); (case ho_ => first | assumption | exact upd_same); (case hv_ => exact rfl)) | ((with_reducible refine' dg_S_fin ?ho_ ?hv_ ?_); (case ho_ => first | assumption | exact upd_same); (case hv_ => exact rfl)) | ((with_reducible refine' dg_S_reset ?ho_ ?hv_ ?_); (case ho_ => first | assumption | exact upd_same); (case hv_ => exact rfl)) | ((with_reducible refine' dg_S_marked ?ho_ ?hv_ ?_); (case ho_ => first | assumption | exact upd_same); (case hv_ => exact rfl)) | ((with_reducible refine' dg_S_cut ?ho_ ?hv_ ?_); (case ho_ => first | assumption | exact upd_same); (case hv_ => exact rfl)) | ((with_reducible refine' dg_S_ranges_known ?ho_ ?hv_ ?_); (case ho_ => first | assumption | exact upd_same); (case hv_ => exact rfl)) | ((with_reducible refine' dg_S_window ?ho_ ?hv_ ?_); (case ho_ => first | assumption | exact upd_same); (case hv_ => exact rfl)) | ((with_reducible refine' dg_S_mss ?ho_ ?hv_ ?_); (case ho_ => first | assumption | exact upd_same); (case hv_ => exact rfl)) | ((with_reducible refine' dg_S_scale ?ho_ ?hv_ ?_); (case ho_ => first | assumption | exact upd_same); (case hv_ => exact rfl)) | ((with_reducible refine' dg_S_ranges ?ho_ ?hv_ ?_); (case ho_ => first | assumption | exact upd_same); (case hv_ => exact rfl)) | ((with_reducible refine' dg_S_stamp ?ho_ ?hv_ ?_); (case ho_ => first | assumption | exact upd_same); (case hv_ => exact rfl)) | ((with_reducible refine' dg_S_data ?ho_ ?hv_ ?_); (case ho_ => first | assumption | exact upd_same); (case hv_ => exact rfl)) | ((with_reducible refine' dn_S_source ?ho_ ?hv_ ?_); (case ho_ => first | assumption | exact upd_same); (case hv_ => exact rfl)) | ((with_reducible refine' dn_S_target ?ho_ ?hv_ ?_); (case ho_ => first | assumption | exact upd_same); (case hv_ => exact rfl)) | ((with_reducible refine' dn_S_seq ?ho_ ?hv_ ?_); (case ho_ => first | assumption | exact upd_same); (case hv_ => exact rfl)) | ((with_reducible refine' dn_S_count ?ho_ ?hv_ ?_); (case ho_ => first | assumption | exact upd_same); (case hv_ => exact rfl)) | ((with_reducible refine' dn_S_echo ?ho_ ?hv_ ?_); (case ho_ => first | assumption | exact upd_same); (case hv_ => exact rfl)) | ((with_reducible refine' dn_S_ack ?ho_ ?hv_ ?_); (case ho_ => first | assumption | exact upd_same); (case hv_ => exact rfl)) | ((with_reducible refine' dn_S_syn ?ho_ ?hv_ ?_); (case ho_ => first | assumption | exact upd_same); (case hv_ => exact rfl)) | ((with_reducible refine' dn_S_fin ?ho_ ?hv_ ?_); (case ho_ => first | assumption | exact upd_same); (case hv_ => exact rfl)) | ((with_reducible refine' dn_S_reset ?ho_ ?hv_ ?_); (case ho_ => first | assumption | exact upd_same); (case hv_ => exact rfl)) | ((with_reducible refine' dn_S_marked ?ho_ ?hv_ ?_); (case ho_ => first | assumption | exact upd_same); (case hv_ => exact rfl)) | ((with_reducible refine' dn_S_cut ?ho_ ?hv_ ?_); (case ho_ => first | assumption | exact upd_same); (case hv_ => exact rfl)) | ((with_reducible refine' dn_S_ranges_known ?ho_ ?hv_ ?_); (case ho_ => first | assumption | exact upd_same); (case hv_ => exact rfl)) | ((with_reducible refine' dn_S_window ?ho_ ?hv_ ?_); (case ho_ => first | assumption | exact upd_same); (case hv_ => exact rfl)) | ((with_reducible refine' dn_S_mss ?ho_ ?hv_ ?_); (case ho_ => first | assumption | exact upd_same); (case hv_ => exact rfl)) | ((with_reducible refine' dn_S_scale ?ho_ ?hv_ ?_); (case ho_ => first | assumption | exact upd_same); (case hv_ => exact rfl)) | ((with_reducible refine' dn_S_ranges ?ho_ ?hv_ ?_); (case ho_ => first | assumption | exact upd_same); (case hv_ => exact rfl)) | ((with_reducible refine' dn_S_stamp ?ho_ ?hv_ ?_); (case ho_ => first | assumption | exact upd_same); (case hv_ => exact rfl)) | ((with_reducible refine' dn_S_data ?ho_ ?hv_ ?_); (case ho_ => first | assumption | exact upd_same); (case hv_ => exact rfl)) | ((with_reducible refine' dp_S_source ?ho_ ?hv_ ?_); (case ho_ => first | assumption | exact upd_same); (case hv_ => exact Nat.le_of_ble_eq_true rfl)) | ((with_reducible refine' dp_S_target ?ho_ ?hv_ ?_); (case ho_ => first | assumption | exact upd_same); (case hv_ => exact Nat.le_of_ble_eq_true rfl)) | ((with_reducible refine' dp_S_seq ?ho_ ?hv_ ?_); (case ho_ => first | assumption | exact upd_same); (case hv_ => exact Nat.le_of_ble_eq_true rfl)) | ((with_reducible refine' dp_S_count ?ho_ ?hv_ ?_); (case ho_ => first | assumption | exact upd_same); (case hv_ => exact Nat.le_of_ble_eq_true rfl)) | ((with_reducible refine' dp_S_echo ?ho_ ?hv_ ?_); (case ho_ => first | assumption | exact upd_same); (case hv_ => exact Nat.le_of_ble_eq_true rfl)) | ((with_reducible refine' dp_S_ack ?ho_ ?hv_ ?_); (case ho_ => first | assumption | exact upd_same); (case hv_ => exact Nat.le_of_ble_eq_true rfl)) | ((with_reducible refine' dp_S_syn ?ho_ ?hv_ ?_); (case ho_ => first | assumption | exact upd_same); (case hv_ => exact Nat.le_of_ble_eq_true rfl)) | ((with_reducible refine' dp_S_fin ?ho_ ?hv_ ?_); (case ho_ => first | assumption | exact upd_same); (case hv_ => exact Nat.le_of_ble_eq_true rfl)) | ((with_reducible refine' dp_S_reset ?ho_ ?hv_ ?_); (case ho_ => first | assumption | exact upd_same); (case hv_ => exact Nat.le_of_ble_eq_true rfl)) | ((with_reducible refine' dp_S_marked ?ho_ ?hv_ ?_); (case ho_ => first | assumption | exact upd_same); (case hv_ => exact Nat.le_of_ble_eq_true rfl)) | ((with_reducible refine' dp_S_cut ?ho_ ?hv_ ?_); (case ho_ => first | assumption | exact upd_same); (case hv_ => exact Nat.le_of_ble_eq_true rfl)) | ((with_reducible refine' dp_S_ranges_known ?ho_ ?hv_ ?_); (case ho_ => first | assumption | exact upd_same); (case hv_ => exact Nat.le_of_ble_eq_true rfl)) | ((with_reducible refine' dp_S_window ?ho_ ?hv_ ?_); (case ho_ => first | assumption | exact upd_same); (case hv_ => exact Nat.le_of_ble_eq_true rfl)) | ((with_reducible refine' dp_S_mss ?ho_ ?hv_ ?_); (case ho_ => first | assumption | exact upd_same); (case hv_ => exact Nat.le_of_ble_eq_true rfl)) | ((with_reducible refine' dp_S_scale ?ho_ ?hv_ ?_); (case ho_ => first | assumption | exact upd_same); (case hv_ => exact Nat.le_of_ble_eq_true rfl)) | ((with_reducible refine' dp_S_ranges ?ho_ ?hv_ ?_); (case ho_ => first | assumption | exact upd_same); (case hv_ => exact Nat.le_of_ble_eq_true rfl)) | ((with_reducible refine' dp_S_stamp ?ho_ ?hv_ ?_); (case ho_ => first | assumption | exact upd_same); (case hv_ => exact Nat.le_of_ble_eq_true rfl)) | ((with_reducible refine' dp_S_data ?ho_ ?hv_ ?_); (case ho_ => first | assumption | exact upd_same); (case hv_ => exact Nat.le_of_ble_eq_true rfl)))
local macro_rules | `(tactic| walk_at "use") => `(tactic| with_reducible first | refine g_dgetT ?_ | refine g_dputT ?_)
def kd_N : List Str := ["source", "target", "seq", "count", "echo", "ack", "syn", "fin", "reset", "marked", "cut", "window", "mss", "scale", "ranges_known", "ranges", "stamp", "data"]
theorem ndd_N : kd_N.Nodup := by decide +kernel
section
variable {H : Hp} {a : Addr} {vs : List V} {v y : V}
theorem dg_N_source {A : V → Prop} (ho : H a = some (.dK (dk kd_N vs))) (hv : vs[0]? = some v) (q : A v) : ∃ a' v', V.ref a = .ref a' ∧ DGet H a' (.str "source") (some v') ∧ A v' := g_dget ho ndd_N rfl hv q
theorem dp_N_source {A : Hp → Prop} (ho : H a = some (.dK (dk kd_N vs))) (hv : 0 < vs.length) (q : A (upd H a (.dK (dk kd_N (vs.set 0 y))))) : ∃ a' H', V.ref a = .ref a' ∧ DPut H a' (.str "source") y H' ∧ A H' := g_dput ho ndd_N (by decide) rfl hv q
theorem dn_N_source {A : Hp → Prop} (ho : H a = some (.dK (dk kd_N vs))) (hv : vs.length = 0) (q : A (upd H a (.dK (dk kd_N (vs ++ [y]))))) : ∃ a' H', V.ref a = .ref a' ∧ DPut H a' (.str "source") y H' ∧ A H' := g_dnew ho ndd_N (by decide) (by rw [hv]; rfl) q
theorem dg_N_target {A : V → Prop} (ho : H a = some (.dK (dk kd_N vs))) (hv : vs[1]? = some v) (q : A v) : ∃ a' v', V.ref a = .ref a' ∧ DGet H a' (.str "target") (some v') ∧ A v' := g_dget ho ndd_N rfl hv q
theorem dp_N_target {A : Hp → Prop} (ho : H a = some (.dK (dk kd_N vs))) (hv : 1 < vs.length) (q : A (upd H a (.dK (dk kd_N (vs.set 1 y))))) : ∃ a' H', V.ref a = .ref a' ∧ DPut H a' (.str "target") y H' ∧ A H' := g_dput ho ndd_N (by decide) rfl hv q
theorem dn_N_target {A : Hp → Prop} (ho : H a = some (.dK (dk kd_N vs))) (hv : vs.length = 1) (q : A (upd H a (.dK (dk kd_N (vs ++ [y]))))) : ∃ a' H', V.ref a = .ref a' ∧ DPut H a' (.str "target") y H' ∧ A H' := g_dnew ho ndd_N (by decide) (by rw [hv]; rfl) q
theorem dg_N_seq {A : V → Prop} (ho : H a = some (.dK (dk kd_N vs))) (hv : vs[2]? = some v) (q : A v) : ∃ a' v', V.ref a = .ref a' ∧ DGet H a' (.str "seq") (some v') ∧ A v' := g_dget ho ndd_N rfl hv q
theorem dp_N_seq {A : Hp → Prop} (ho : H a = some (.dK (dk kd_N vs))) (hv : 2 < vs.length) (q : A (upd H a (.dK (dk kd_N (vs.set 2 y))))) : ∃ a' H', V.ref a = .ref a' ∧ DPut H a' (.str "seq") y H' ∧ A H' := g_dput ho ndd_N (by decide) rfl hv q
theorem dn_N_seq {A : Hp → Prop} (ho : H a = some (.dK (dk kd_N vs))) (hv : vs.length = 2) (q : A (upd H a (.dK (dk kd_N (vs ++ [y]))))) : ∃ a' H', V.ref a = .ref a' ∧ DPut H a' (.str "seq") y H' ∧ A H' := g_dnew ho ndd_N (by decide) (by rw [hv]; rfl) q
theorem dg_N_count {A : V → Prop} (ho : H a = some (.dK (dk kd_N vs))) (hv : vs[3]? = some v) (q : A v) : ∃ a' v', V.ref a = .ref a' ∧ DGet H a' (.str "count") (some v') ∧ A v' := g_dget ho ndd_N rfl hv q
theorem dp_N_count {A : Hp → Prop} (ho : H a = some (.dK (dk kd_N vs))) (hv : 3 < vs.length) (q : A (upd H a (.dK (dk kd_N (vs.set 3 y))))) : ∃ a' H', V.ref a = .ref a' ∧ DPut H a' (.str "count") y H' ∧ A H' := g_dput ho ndd_N (by decide) rfl hv q
theorem dn_N_count {A : Hp → Prop} (ho : H a = some (.dK (dk kd_N vs))) (hv : vs.length = 3) (q : A (upd H a (.dK (dk kd_N (vs ++ [y]))))) : ∃ a' H', V.ref a = .ref a' ∧ DPut H a' (.str "count") y H' ∧ A H' := g_dnew ho ndd_N (by decide) (by rw [hv]; rfl) q
theorem dg_N_echo {A : V → Prop} (ho : H a = some (.dK (dk kd_N vs))) (hv : vs[4]? = some v) (q : A v) : ∃ a' v', V.ref a = .ref a' ∧ DGet H a' (.str "echo") (some v') ∧ A v' := g_dget ho ndd_N rfl hv q
theorem dp_N_echo {A : Hp → Prop} (ho : H a = some (.dK (dk kd_N vs))) (hv : 4 < vs.length) (q : A (upd H a (.dK (dk kd_N (vs.set 4 y))))) : ∃ a' H', V.ref a = .ref a' ∧ DPut H a' (.str "echo") y H' ∧ A H' := g_dput ho ndd_N (by decide) rfl hv q
theorem dn_N_echo {A : Hp → Prop} (ho : H a = some (.dK (dk kd_N vs))) (hv : vs.length = 4) (q : A (upd H a (.dK (dk kd_N (vs ++ [y]))))) : ∃ a' H', V.ref a = .ref a' ∧ DPut H a' (.str "echo") y H' ∧ A H' := g_dnew ho ndd_N (by decide) (by rw [hv]; rfl) q
theorem dg_N_ack {A : V → Prop} (ho : H a = some (.dK (dk kd_N vs))) (hv : vs[5]? = some v) (q : A v) : ∃ a' v', V.ref a = .ref a' ∧ DGet H a' (.str "ack") (some v') ∧ A v' := g_dget ho ndd_N rfl hv q
theorem dp_N_ack {A : Hp → Prop} (ho : H a = some (.dK (dk kd_N vs))) (hv : 5 < vs.length) (q : A (upd H a (.dK (dk kd_N (vs.set 5 y))))) : ∃ a' H', V.ref a = .ref a' ∧ DPut H a' (.str "ack") y H' ∧ A H' := g_dput ho ndd_N (by decide) rfl hv q
theorem dn_N_ack {A : Hp → Prop} (ho : H a = some (.dK (dk kd_N vs))) (hv : vs.length = 5) (q : A (upd H a (.dK (dk kd_N (vs ++ [y]))))) : ∃ a' H', V.ref a = .ref a' ∧ DPut H a' (.str "ack") y H' ∧ A H' := g_dnew ho ndd_N (by decide) (by rw [hv]; rfl) q
theorem dg_N_syn {A : V → Prop} (ho : H a = some (.dK (dk kd_N vs))) (hv : vs[6]? = some v) (q : A v) : ∃ a' v', V.ref a = .ref a' ∧ DGet H a' (.str "syn") (some v') ∧ A v' := g_dget ho ndd_N rfl hv q
theorem dp_N_syn {A : Hp → Prop} (ho : H a = some (.dK (dk kd_N vs))) (hv : 6 < vs.length) (q : A (upd H a (.dK (dk kd_N (vs.set 6 y))))) : ∃ a' H', V.ref a = .ref a' ∧ DPut H a' (.str "syn") y H' ∧ A H' := g_dput ho ndd_N (by decide) rfl hv q
theorem dn_N_syn {A : Hp → Prop} (ho : H a = some (.dK (dk kd_N vs))) (hv : vs.length = 6) (q : A (upd H a (.dK (dk kd_N (vs ++ [y]))))) : ∃ a' H', V.ref a = .ref a' ∧ DPut H a' (.str "syn") y H' ∧ A H' := g_dnew ho ndd_N (by decide) (by rw [hv]; rfl) q
theorem dg_N_fin {A : V → Prop} (ho : H a = some (.dK (dk kd_N vs))) (hv : vs[7]? = some v) (q : A v) : ∃ a' v', V.ref a = .ref a' ∧ DGet H a' (.str "fin") (some v') ∧ A v' := g_dget ho ndd_N rfl hv q
theorem dp_N_fin {A : Hp → Prop} (ho : H a = some (.dK (dk kd_N vs))) (hv : 7 < vs.length) (q : A (upd H a (.dK (dk kd_N (vs.set 7 y))))) : ∃ a' H', V.ref a = .ref a' ∧ DPut H a' (.str "fin") y H' ∧ A H' := g_dput ho ndd_N (by decide) rfl hv q
theorem dn_N_fin {A : Hp → Prop} (ho : H a = some (.dK (dk kd_N vs))) (hv : vs.length = 7) (q : A (upd H a (.dK (dk kd_N (vs ++ [y]))))) : ∃ a' H', V.ref a = .ref a' ∧ DPut H a' (.str "fin") y H' ∧ A H' := g_dnew ho ndd_N (by decide) (by rw [hv]; rfl) q
theorem dg_N_reset {A : V → Prop} (ho : H a = some (.dK (dk kd_N vs))) (hv : vs[8]? = some v) (q : A v) : ∃ a' v', V.ref a = .ref a' ∧ DGet H a' (.str "reset") (some v') ∧ A v' := g_dget ho ndd_N rfl hv q
theorem dp_N_reset {A : Hp → Prop} (ho : H a = some (.dK (dk kd_N vs))) (hv : 8 < vs.length) (q : A (upd H a (.dK (dk kd_N (vs.set 8 y))))) : ∃ a' H', V.ref a = .ref a' ∧ DPut H a' (.str "reset") y H' ∧ A H' := g_dput ho ndd_N (by decide) rfl hv q
theorem dn_N_reset {A : Hp → Prop} (ho : H a = some (.dK (dk kd_N vs))) (hv : vs.length = 8) (q : A (upd H a (.dK (dk kd_N (vs ++ [y]))))) : ∃ a' H', V.ref a = .ref a' ∧ DPut H a' (.str "reset") y H' ∧ A H' := g_dnew ho ndd_N (by decide) (by rw [hv]; rfl) q
theorem dg_N_marked {A : V → Prop} (ho : H a = some (.dK (dk kd_N vs))) (hv : vs[9]? = some v) (q : A v) : ∃ a' v', V.ref a = .ref a' ∧ DGet H a' (.str "marked") (some v') ∧ A v' := g_dget ho ndd_N rfl hv q
theorem dp_N_marked {A : Hp → Prop} (ho : H a = some (.dK (dk kd_N vs))) (hv : 9 < vs.length) (q : A (upd H a (.dK (dk kd_N (vs.set 9 y))))) : ∃ a' H', V.ref a = .ref a' ∧ DPut H a' (.str "marked") y H' ∧ A H' := g_dput ho ndd_N (by decide) rfl hv q
theorem dn_N_marked {A : Hp → Prop} (ho : H a = some (.dK (dk kd_N vs))) (hv : vs.length = 9) (q : A (upd H a (.dK (dk kd_N (vs ++ [y]))))) : ∃ a' H', V.ref a = .ref a' ∧ DPut H a' (.str "marked") y H' ∧ A H' := g_dnew ho ndd_N (by decide) (by rw [hv]; rfl) q
theorem dg_N_cut {A : V → Prop} (ho : H a = some (.dK (dk kd_N vs))) (hv : vs[10]? = some v) (q : A v) : ∃ a' v', V.ref a = .ref a' ∧ DGet H a' (.str "cut") (some v') ∧ A v' := g_dget ho ndd_N rfl hv q
theorem dp_N_cut {A : Hp → Prop} (ho : H a = some (.dK (dk kd_N vs))) (hv : 10 < vs.length) (q : A (upd H a (.dK (dk kd_N (vs.set 10 y))))) : ∃ a' H', V.ref a = .ref a' ∧ DPut H a' (.str "cut") y H' ∧ A H' := g_dput ho ndd_N (by decide) rfl hv q
theorem dn_N_cut {A : Hp → Prop} (ho : H a = some (.dK (dk kd_N vs))) (hv : vs.length = 10) (q : A (upd H a (.dK (dk kd_N (vs ++ [y]))))) : ∃ a' H', V.ref a = .ref a' ∧ DPut H a' (.str "cut") y H' ∧ A H' := g_dnew ho ndd_N (by decide) (by rw [hv]; rfl) q
theorem dg_N_window {A : V → Prop} (ho : H a = some (.dK (dk kd_N vs))) (hv : vs[11]? = some v) (q : A v) : ∃ a' v', V.ref a = .ref a' ∧ DGet H a' (.str "window") (some v') ∧ A v' := g_dget ho ndd_N rfl hv q
theorem dp_N_window {A : Hp → Prop} (ho : H a = some (.dK (dk kd_N vs))) (hv : 11 < vs.length) (q : A (upd H a (.dK (dk kd_N (vs.set 11 y))))) : ∃ a' H', V.ref a = .ref a' ∧ DPut H a' (.str "window") y H' ∧ A H' := g_dput ho ndd_N (by decide) rfl hv q
theorem dn_N_window {A : Hp → Prop} (ho : H a = some (.dK (dk kd_N vs))) (hv : vs.length = 11) (q : A (upd H a (.dK (dk kd_N (vs ++ [y]))))) : ∃ a' H', V.ref a = .ref a' ∧ DPut H a' (.str "window") y H' ∧ A H' := g_dnew ho ndd_N (by decide) (by rw [hv]; rfl) q
theorem dg_N_mss {A : V → Prop} (ho : H a = some (.dK (dk kd_N vs))) (hv : vs[12]? = some v) (q : A v) : ∃ a' v', V.ref a = .ref a' ∧ DGet H a' (.str "mss") (some v') ∧ A v' := g_dget ho ndd_N rfl hv q
theorem dp_N_mss {A : Hp → Prop} (ho : H a = some (.dK (dk kd_N vs))) (hv : 12 < vs.length) (q : A (upd H a (.dK (dk kd_N (vs.set 12 y))))) : ∃ a' H', V.ref a = .ref a' ∧ DPut H a' (.str "mss") y H' ∧ A H' := g_dput ho ndd_N (by decide) rfl hv q
theorem dn_N_mss {A : Hp → Prop} (ho : H a = some (.dK (dk kd_N vs))) (hv : vs.length = 12) (q : A (upd H a (.dK (dk kd_N (vs ++ [y]))))) : ∃ a' H', V.ref a = .ref a' ∧ DPut H a' (.str "mss") y H' ∧ A H' := g_dnew ho ndd_N (by decide) (by rw [hv]; rfl) q
theorem dg_N_scale {A : V → Prop} (ho : H a = some (.dK (dk kd_N vs))) (hv : vs[13]? = some v) (q : A v) : ∃ a' v', V.ref a = .ref a' ∧ DGet H a' (.str "scale") (some v') ∧ A v' := g_dget ho ndd_N rfl hv q
theorem dp_N_scale {A : Hp → Prop} (ho : H a = some (.dK (dk kd_N vs))) (hv : 13 < vs.length) (q : A (upd H a (.dK (dk kd_N (vs.set 13 y))))) : ∃ a' H', V.ref a = .ref a' ∧ DPut H a' (.str "scale") y H' ∧ A H' := g_dput ho ndd_N (by decide) rfl hv q
theorem dn_N_scale {A : Hp → Prop} (ho : H a = some (.dK (dk kd_N vs))) (hv : vs.length = 13) (q : A (upd H a (.dK (dk kd_N (vs ++ [y]))))) : ∃ a' H', V.ref a = .ref a' ∧ DPut H a' (.str "scale") y H' ∧ A H' := g_dnew ho ndd_N (by decide) (by rw [hv]; rfl) q
theorem dg_N_ranges_known {A : V → Prop} (ho : H a = some (.dK (dk kd_N vs))) (hv : vs[14]? = some v) (q : A v) : ∃ a' v', V.ref a = .ref a' ∧ DGet H a' (.str "ranges_known") (some v') ∧ A v' := g_dget ho ndd_N rfl hv q
theorem dp_N_ranges_known {A : Hp → Prop} (ho : H a = some (.dK (dk kd_N vs))) (hv : 14 < vs.length) (q : A (upd H a (.dK (dk kd_N (vs.set 14 y))))) : ∃ a' H', V.ref a = .ref a' ∧ DPut H a' (.str "ranges_known") y H' ∧ A H' := g_dput ho ndd_N (by decide) rfl hv q
theorem dn_N_ranges_known {A : Hp → Prop} (ho : H a = some (.dK (dk kd_N vs))) (hv : vs.length = 14) (q : A (upd H a (.dK (dk kd_N (vs ++ [y]))))) : ∃ a' H', V.ref a = .ref a' ∧ DPut H a' (.str "ranges_known") y H' ∧ A H' := g_dnew ho ndd_N (by decide) (by rw [hv]; rfl) q
theorem dg_N_ranges {A : V → Prop} (ho : H a = some (.dK (dk kd_N vs))) (hv : vs[15]? = some v) (q : A v) : ∃ a' v', V.ref a = .ref a' ∧ DGet H a' (.str "ranges") (some v') ∧ A v' := g_dget ho ndd_N rfl hv q
theorem dp_N_ranges {A : Hp → Prop} (ho : H a = some (.dK (dk kd_N vs))) (hv : 15 < vs.length) (q : A (upd H a (.dK (dk kd_N (vs.set 15 y))))) : ∃ a' H', V.ref a = .ref a' ∧ DPut H a' (.str "ranges") y H' ∧ A H' := g_dput ho ndd_N (by decide) rfl hv q
theorem dn_N_ranges {A : Hp → Prop} (ho : H a = some (.dK (dk kd_N vs))) (hv : vs.length = 15) (q : A (upd H a (.dK (dk kd_N (vs ++ [y]))))) : ∃ a' H', V.ref a = .ref a' ∧ DPut H a' (.str "ranges") y H' ∧ A H' := g_dnew ho ndd_N (by decide) (by rw [hv]; rfl) q
theorem dg_N_stamp {A : V → Prop} (ho : H a = some (.dK (dk kd_N vs))) (hv : vs[16]? = some v) (q : A v) : ∃ a' v', V.ref a = .ref a' ∧ DGet H a' (.str "stamp") (some v') ∧ A v' := g_dget ho ndd_N rfl hv q
theorem dp_N_stamp {A : Hp → Prop} (ho : H a = some (.dK (dk kd_N vs))) (hv : 16 < vs.length) (q : A (upd H a (.dK (dk kd_N (vs.set 16 y))))) : ∃ a' H', V.ref a = .ref a' ∧ DPut H a' (.str "stamp") y H' ∧ A H' := g_dput ho ndd_N (by decide) rfl hv q
theorem dn_N_stamp {A : Hp → Prop} (ho : H a = some (.dK (dk kd_N vs))) (hv : vs.length = 16) (q : A (upd H a (.dK (dk kd_N (vs ++ [y]))))) : ∃ a' H', V.ref a = .ref a' ∧ DPut H a' (.str "stamp") y H' ∧ A H' := g_dnew ho ndd_N (by decide) (by rw [hv]; rfl) q
theorem dg_N_data {A : V → Prop} (ho : H a = some (.dK (dk kd_N vs))) (hv : vs[17]? = some v) (q : A v) : ∃ a' v', V.ref a = .ref a' ∧ DGet H a' (.str "data") (some v') ∧ A v' := g_dget ho ndd_N rfl hv q
theorem dp_N_data {A : Hp → Prop} (ho : H a = some (.dK (dk kd_N vs))) (hv : 17 < vs.length) (q : A (upd H a (.dK (dk kd_N (vs.set 17 y))))) : ∃ a' H', V.ref a = .ref a' ∧ DPut H a' (.str "data") y H' ∧ A H' := g_dput ho ndd_N (by decide) rfl hv q
theorem dn_N_data {A : Hp → Prop} (ho : H a = some (.dK (dk kd_N vs))) (hv : vs.length = 17) (q : A (upd H a (.dK (dk kd_N (vs ++ [y]))))) : ∃ a' H', V.ref a = .ref a' ∧ DPut H a' (.str "data") y H' ∧ A H' := g_dnew ho ndd_N (by decide) (by rw [hv]; rfl) q
end
local macro_rules | `(tactic| walk_at "use") => `(tactic| first | ((with_reducible refine' dg_N_source ?ho_ ?hv_ ?_); (case ho_ => first | assumption | exact upd_same); (case hv_ => exact rfl)) | ((with_reducible refine' dg_N_target ?ho_ ?hv_ ?_); (case ho_ => first | assumption | exact upd_same); (case hv_ => exact rfl)) | ((with_reducible refine' dg_N_seq ?ho_ ?hv_ ?_); (case ho_ => first | assumption | exact upd_same); (case hv_ => exact rfl)) | ((with_reducible refine' dg_N_count ?ho_ ?hv_ ?_); (case ho_ => first | assumption | exact upd_same); (case hv_ => exact rfl)) | ((with_reducible refine' dg_N_echo ?ho_ ?hv_ ?_); (case ho_ => first | assumption | exact upd_same); (case hv_ => exact rfl)) | ((with_reducible refine' dg_N_ack ?ho_ ?hv_ ?_); (case ho_ => first | assumption | exact upd_same); (case hv_ => exact rfl)) | ((with_reducible refine' dg_N_syn ?ho_ ?hv_ ?_); (case ho_ => first | assumption | exact upd_same); (case hv_ => exact rfl)) | ((with_reducible refine' dg_N_fin ?ho_ ?hv_ ?_); (case ho_ => first | assumption | exact upd_same); (case hv_ => exact rfl)) | ((with_reducible refine' dg_N_reset ?ho_ ?hv_ ?_); (case ho_ => first | assumption | exact upd_same); (case hv_ => exact rfl)) | ((with_reducible refine' dg_N_marked ?ho_ ?hv_ ?_); (case ho_ => first | assumption | exact upd_same); (case hv_ => exact rfl)) | ((with_reducible refine' dg_N_cut ?ho_ ?hv_ ?_); (case ho_ => first | assumption | exact upd_same); (case hv_ => exact rfl)) | ((with_reducible refine' dg_N_window ?ho_ ?hv_ ?_); (case ho_ => first | assumption | exact upd_same); (case hv_ => exact rfl)) | ((with_reducible refine' dg_N_mss ?ho_ ?hv_ ?_); (case ho_ => first | assumption | exact upd_same); (case hv_ => exact rfl)) | ((with_reducible refine' dg_N_scale ?ho_ ?hv_ ?_); (case ho_ => first | assumption | exact upd_same); (case hv_ => exact rfl)) | ((with_reducible refine' dg_N_ranges_known ?ho_ ?hv_ ?_); (case ho_ => first | assumption | exact upd_same); (case hv_ => exact rfl)) | ((with_reducible refine' dg_N_ranges ?ho_ ?hv_ ?_); (case ho_ => first | assumption | exact upd_same); (case hv_ => exact rfl)) | ((with_reducible refine' dg_N_stamp ?ho_ ?hv_ ?_); (case ho_ => first | assumption | exact upd_same); (case hv_ => exact rfl)) | ((with_reducible refine' dg_N_data ?ho_ ?hv_ ?_); (case ho_ => first | assumption | exact upd_same); (case hv_ => exact rfl)) | ((with_reducible refine' dn_N_source ?ho_ ?hv_ ?_); (case ho_ => first | assumption | exact upd_same); (case hv_ => exact rfl)) | ((with_reducible refine' dn_N_target ?ho_ ?hv_ ?_); (case ho_ => first | assumption | exact upd_same); (case hv_ => exact rfl)) | ((with_reducible refine' dn_N_seq ?ho_ ?hv_ ?_); (case ho_ => first | assumption | exact upd_same); (case hv_ => exact rfl)) | ((with_reducible refine' dn_N_count ?ho_ ?hv_ ?_); (case ho_ => first | assumption | exact upd_same); (case hv_ => exact rfl)) | ((with_reducible refine' dn_N_echo ?ho_ ?hv_ ?_); (case ho_ => first | assumption | exact upd_same); (case hv_ => exact rfl)) | ((with_reducible refine' dn_N_ack ?ho_ ?hv_ ?_); (case ho_ => first | assumption | exact upd_same); (case hv_ => exact rfl)) | ((with_reducible refine' dn_N_syn ?ho_ ?hv_ ?_); (case ho_ => first | assumption | exact upd_same); (case hv_ => exact rfl)) | ((with_reducible refine' dn_N_fin ?ho_ ?hv_ ?_); (case ho_ => first | assumption | exact upd_same); (case hv_ => exact rfl)) | ((with_reducible refine' dn_N_reset ?ho_ ?hv_ ?_); (case ho_ => first | assumption | exact upd_same); (case hv_ => exact rfl)) | ((with_reducible refine' dn_N_marked ?ho_ ?hv_ ?_); (case ho_ => first | assumption | exact upd_same); (case hv_ => exact rfl)) | ((with_reducible refine' dn_N_cut ?ho_ ?hv_ ?_); (case ho_ => first | assumption | exact upd_same); (case hv_ => exact rfl)) | ((with_reducible refine' dn_N_window ?ho_ ?hv_ ?_); (case ho_ => first | assumption | exact upd_same); (case hv_ => exact rfl)) | ((with_reducible refine' dn_N_mss ?ho_ ?hv_ ?_); (case ho_ => first | assumption | exact upd_same); (case hv_ => exact rfl)) | ((with_reducible refine' dn_N_scale ?ho_ ?hv_ ?_); (case ho_ => first | assumption | exact upd_same); (case hv_ => exact rfl)) | ((with_reducible refine' dn_N_ranges_known ?ho_ ?hv_ ?_); (case ho_ => first | assumption | exact upd_same); (case hv_ => exact rfl)) | ((with_reducible refine' dn_N_ranges ?ho_ ?hv_ ?_); (case ho_ => first | assumption | exact upd_same); (case hv_ => exact rfl)) | ((with_reducible refine' dn_N_stamp ?ho_ ?hv_ ?_); (case ho_ => first | assumption | exact upd_same); (case hv_ => exact rfl)) | ((with_reducible refine' dn_N_data ?ho_ ?hv_ ?_); (case ho_ => first | assumption | exact upd_same); (case hv_ => exact rfl)) | ((with_reducible refine' dp_N_source ?ho_ ?hv_ ?_); (case ho_ => first | assumption | exact upd_same); (case hv_ => exact Nat.le_of_ble_eq_true rfl)) | ((with_reducible refine' dp_N_target ?ho_ ?hv_ ?_); (case ho_ => first | assumption | exact upd_same); (case hv_ => exact Nat.le_of_ble_eq_true rfl)) | ((with_reducible refine' dp_N_seq ?ho_ ?hv_ ?_); (case ho_ => first | assumption | exact upd_same); (case hv_ => exact Nat.le_of_ble_eq_true rfl)) | ((with_reducible refine' dp_N_count ?ho_ ?hv_ ?_); (case ho_ => first | assumption | exact upd_same); (case hv_ => exact Nat.le_of_ble_eq_true rfl)) | ((with_reducible refine' dp_N_echo ?ho_ ?hv_ ?_); (case ho_ => first | assumption | exact upd_same); (case hv_ => exact Nat.le_of_ble_eq_true rfl)) | ((with_reducible refine' dp_N_ack ?ho_ ?hv_ ?_); (case ho_ => first | assumption | exact upd_same); (case hv_ => exact Nat.le_of_ble_eq_true rfl)) | ((with_reducible refine' dp_N_syn ?ho_ ?hv_ ?_); (case ho_ => first | assumption | exact upd_same); (case hv_ => exact Nat.le_of_ble_eq_true rfl)) | ((with_reducible refine' dp_N_fin ?ho_ ?hv_ ?_); (case ho_ => first | assumption | exact upd_same); (case hv_ => exact Nat.le_of_ble_eq_true rfl)) | ((with_reducible refine' dp_N_reset ?ho_ ?hv_ ?_); (case ho_ => first | assumption | exact upd_same); (case hv_ => exact Nat.le_of_ble_eq_true rfl)) | ((with_reducible refine' dp_N_marked ?ho_ ?hv_ ?_); (case ho_ => first | assumption | exact upd_same); (case hv_ => exact Nat.le_of_ble_eq_true rfl)) | ((with_reducible refine' dp_N_cut ?ho_ ?hv_ ?_); (case ho_ => first | assumption | exact upd_same); (case hv_ => exact Nat.le_of_ble_eq_true rfl)) | ((with_reducible refine' dp_N_window ?ho_ ?hv_ ?_); (case ho_ => first | assumption | exact upd_same); (case hv_ => exact Nat.le_of_ble_eq_true rfl)) | ((with_reducible refine' dp_N_mss ?ho_ ?hv_ ?_); (case ho_ => first | assumption | exact upd_same); (case hv_ => exact Nat.le_of_ble_eq_true rfl)) | ((with_reducible refine' dp_N_scale ?ho_ ?hv_ ?_); (case ho_ => first | assumption | exact upd_same); (case hv_ => exact Nat.le_of_ble_eq_true rfl)) | ((with_reducible refine' dp_N_ranges_known ?ho_ ?hv_ ?_); (case ho_ => first | assumption | exact upd_same); (case hv_ => exact Nat.le_of_ble_eq_true rfl)) | ((with_reducible refine' dp_N_ranges ?ho_ ?hv_ ?_); (case ho_ => first | assumption | exact upd_same); (case hv_ => exact Nat.le_of_ble_eq_true rfl)) | ((with_reducible refine' dp_N_stamp ?ho_ ?hv_ ?_); (case ho_ => first | assumption | exact upd_same); (case hv_ => exact Nat.le_of_ble_eq_true rfl)) | ((with_reducible refine' dp_N_data ?ho_ ?hv_ ?_); (case ho_ => first | assumption | exact upd_same); (case hv_ => exact Nat.le_of_ble_eq_true rfl)))
local macro_rules | `(tactic| walk_at "use") => `(tactic| with_reducible first | refine g_dgetT ?_ | refine g_dputT ?_)
def kd_L : List Str := ["source", "target", "seq", "count", "echo", "ack", "mss", "scale", "stamp", "syn", "fin", "reset", "marked", "cut", "ranges_known", "window", "ranges", "data"]
theorem ndd_L : kd_L.Nodup := by decide +kernel
section
variable {H : Hp} {a : Addr} {vs : List V} {v y : V}
theorem dg_L_source {A : V → Prop} (ho : H a = some (.dK (dk kd_L vs))) (hv : vs[0]? = some v) (q : A v) : ∃ a' v', V.ref a = .ref a' ∧ DGet H a' (.str "source") (some v') ∧ A v' := g_dget ho ndd_L rfl hv q
theorem dp_L_source {A : Hp → Prop} (ho : H a = some (.dK (dk kd_L vs))) (hv : 0 < vs.length) (q : A (upd H a (.dK (dk kd_L (vs.set 0 y))))) : ∃ a' H', V.ref a = .ref a' ∧ DPut H a' (.str "source") y H' ∧ A H' := g_dput ho ndd_L (by decide) rfl hv q
theorem dn_L_source {A : Hp → Prop} (ho : H a = some (.dK (dk kd_L vs))) (hv : vs.length = 0) (q : A (upd H a (.dK (dk kd_L (vs ++ [y]))))) : ∃ a' H', V.ref a = .ref a' ∧ DPut H a' (.str "source") y H' ∧ A H' := g_dnew ho ndd_L (by decide) (by rw [hv]; rfl) q
theorem dg_L_target {A : V → Prop} (ho : H a = some (.dK (dk kd_L vs))) (hv : vs[1]? = some v) (q : A v) : ∃ a' v', V.ref a = .ref a' ∧ DGet H a' (.str "target") (some v') ∧ A v' := g_dget ho ndd_L rfl hv q
theorem dp_L_target {A : Hp → Prop} (ho : H a = some (.dK (dk kd_L vs))) (hv : 1 < vs.length) (q : A (upd H a (.dK (dk kd_L (vs.set 1 y))))) : ∃ a' H', V.ref a = .ref a' ∧ DPut H a' (.str "target") y H' ∧ A H' := g_dput ho ndd_L (by decide) rfl hv q
theorem dn_L_target {A : Hp → Prop} (ho : H a = some (.dK (dk kd_L vs))) (hv : vs.length = 1) (q : A (upd H a (.dK (dk kd_L (vs ++ [y]))))) : ∃ a' H', V.ref a = .ref a' ∧ DPut H a' (.str "target") y H' ∧ A H' := g_dnew ho ndd_L (by decide) (by rw [hv]; rfl) q
theorem dg_L_seq {A : V → Prop} (ho : H a = some (.dK (dk kd_L vs))) (hv : vs[2]? = some v) (q : A v) : ∃ a' v', V.ref a = .ref a' ∧ DGet H a' (.str "seq") (some v') ∧ A v' := g_dget ho ndd_L rfl hv q
theorem dp_L_seq {A : Hp → Prop} (ho : H a = some (.dK (dk kd_L vs))) (hv : 2 < vs.length) (q : A (upd H a (.dK (dk kd_L (vs.set 2 y))))) : ∃ a' H', V.ref a = .ref a' ∧ DPut H a' (.str "seq") y H' ∧ A H' := g_dput ho ndd_L (by decide) rfl hv q
theorem dn_L_seq {A : Hp → Prop} (ho : H a = some (.dK (dk kd_L vs))) (hv : vs.length = 2) (q : A (upd H a (.dK (dk kd_L (vs ++ [y]))))) : ∃ a' H', V.ref a = .ref a' ∧ DPut H a' (.str "seq") y H' ∧ A H' := g_dnew ho ndd_L (by decide) (by rw [hv]; rfl) q
theorem dg_L_count {A : V → Prop} (ho : H a = some (.dK (dk kd_L vs))) (hv : vs[3]? = some v) (q : A v) : ∃ a' v', V.ref a = .ref a' ∧ DGet H a' (.str "count") (some v') ∧ A v' := g_dget ho ndd_L rfl hv q
theorem dp_L_count {A : Hp → Prop} (ho : H a = some (.dK (dk kd_L vs))) (hv : 3 < vs.length) (q : A (upd H a (.dK (dk kd_L (vs.set 3 y))))) : ∃ a' H', V.ref a = .ref a' ∧ DPut H a' (.str "count") y H' ∧ A H' := g_dput ho ndd_L (by decide) rfl hv q
theorem dn_L_count {A : Hp → Prop} (ho : H a = some (.dK (dk kd_L vs))) (hv : vs.length = 3) (q : A (upd H a (.dK (dk kd_L (vs ++ [y]))))) : ∃ a' H', V.ref a = .ref a' ∧ DPut H a' (.str "count") y H' ∧ A H' := g_dnew ho ndd_L (by decide) (by rw [hv]; rfl) q
theorem dg_L_echo {A : V → Prop} (ho : H a = some (.dK (dk kd_L vs))) (hv : vs[4]? = some v) (q : A v) : ∃ a' v', V.ref a = .ref a' ∧ DGet H a' (.str "echo") (some v') ∧ A v' := g_dget ho ndd_L rfl hv q
theorem dp_L_echo {A : Hp → Prop} (ho : H a = some (.dK (dk kd_L vs))) (hv : 4 < vs.length) (q : A (upd H a (.dK (dk kd_L (vs.set 4 y))))) : ∃ a' H', V.ref a = .ref a' ∧ DPut H a' (.str "echo") y H' ∧ A H' := g_dput ho ndd_L (by decide) rfl hv q
theorem dn_L_echo {A : Hp → Prop} (ho : H a = some (.dK (dk kd_L vs))) (hv : vs.length = 4) (q : A (upd H a (.dK (dk kd_L (vs ++ [y]))))) : ∃ a' H', V.ref a = .ref a' ∧ DPut H a' (.str "echo") y H' ∧ A H' := g_dnew ho ndd_L (by decide) (by rw [hv]; rfl) q
theorem dg_L_ack {A : V → Prop} (ho : H a = some (.dK (dk kd_L vs))) (hv : vs[5]? = some v) (q : A v) : ∃ a' v', V.ref a = .ref a' ∧ DGet H a' (.str "ack") (some v') ∧ A v' := g_dget ho ndd_L rfl hv q
theorem dp_L_ack {A : Hp → Prop} (ho : H a = some (.dK (dk kd_L vs))) (hv : 5 < vs.length) (q : A (upd H a (.dK (dk kd_L (vs.set 5 y))))) : ∃ a' H', V.ref a = .ref a' ∧ DPut H a' (.str "ack") y H' ∧ A H' := g_dput ho ndd_L (by decide) rfl hv q
theorem dn_L_ack {A : Hp → Prop} (ho : H a = some (.dK (dk kd_L vs))) (hv : vs.length = 5) (q : A (upd H a (.dK (dk kd_L (vs ++ [y]))))) : ∃ a' H', V.ref a = .ref a' ∧ DPut H a' (.str "ack") y H' ∧ A H' := g_dnew ho ndd_L (by decide) (by rw [hv]; rfl) q
theorem dg_L_mss {A : V → Prop} (ho : H a = some (.dK (dk kd_L vs))) (hv : vs[6]? = some v) (q : A v) : ∃ a' v', V.ref a = .ref a' ∧ DGet H a' (.str "mss") (some v') ∧ A v' := g_dget ho ndd_L rfl hv q
theorem dp_L_mss {A : Hp → Prop} (ho : H a = some (.dK (dk kd_L vs))) (hv : 6 < vs.length) (q : A (upd H a (.dK (dk kd_L (vs.set 6 y))))) : ∃ a' H', V.ref a = .ref a' ∧ DPut H a' (.str "mss") y H' ∧ A H' := g_dput ho ndd_L (by decide) rfl hv q
theorem dn_L_mss {A : Hp → Prop} (ho : H a = some (.dK (dk kd_L vs))) (hv : vs.length = 6) (q : A (upd H a (.dK (dk kd_L (vs ++ [y]))))) : ∃ a' H', V.ref a = .ref a' ∧ DPut H a' (.str "mss") y H' ∧ A H' := g_dnew ho ndd_L (by decide) (by rw [hv]; rfl) q
theorem dg_L_scale {A : V → Prop} (ho : H a = some (.dK (dk kd_L vs))) (hv : vs[7]? = some v) (q : A v) : ∃ a' v', V.ref a = .ref a' ∧ DGet H a' (.str "scale") (some v') ∧ A v' := g_dget ho ndd_L rfl hv q
theorem dp_L_scale {A : Hp → Prop} (ho : H a = some (.dK (dk kd_L vs))) (hv : 7 < vs.length) (q : A (upd H a (.dK (dk kd_L (vs.set 7 y))))) : ∃ a' H', V.ref a = .ref a' ∧ DPut H a' (.str "scale") y H' ∧ A H' := g_dput ho ndd_L (by decide) rfl hv q
theorem dn_L_scale {A : Hp → Prop} (ho : H a = some (.dK (dk kd_L vs))) (hv : vs.length = 7) (q : A (upd H a (.dK (dk kd_L (vs ++ [y]))))) : ∃ a' H', V.ref a = .ref a' ∧ DPut H a' (.str "scale") y H' ∧ A H' := g_dnew ho ndd_L (by decide) (by rw [hv]; rfl) q
theorem dg_L_stamp {A : V → Prop} (ho : H a = some (.dK (dk kd_L vs))) (hv : vs[8]? = some v) (q : A v) : ∃ a' v', V.ref a = .ref a' ∧ DGet H a' (.str "stamp") (some v') ∧ A v' := g_dget ho ndd_L rfl hv q
theorem dp_L_stamp {A : Hp → Prop} (ho : H a = some (.dK (dk kd_L vs))) (hv : 8 < vs.length) (q : A (upd H a (.dK (dk kd_L (vs.set 8 y))))) : ∃ a' H', V.ref a = .ref a' ∧ DPut H a' (.str "stamp") y H' ∧ A H' := g_dput ho ndd_L (by decide) rfl hv q
theorem dn_L_stamp {A : Hp → Prop} (ho : H a = some (.dK (dk kd_L vs))) (hv : vs.length = 8) (q : A (upd H a (.dK (dk kd_L (vs ++ [y]))))) : ∃ a' H', V.ref a = .ref a' ∧ DPut H a' (.str "stamp") y H' ∧ A H' := g_dnew ho ndd_L (by decide) (by rw [hv]; rfl) q
theorem dg_L_syn {A : V → Prop} (ho : H a = some (.dK (dk kd_L vs))) (hv : vs[9]? = some v) (q : A v) : ∃ a' v', V.ref a = .ref a' ∧ DGet H a' (.str "syn") (some v') ∧ A v' := g_dget ho ndd_L rfl hv q
theorem dp_L_syn {A : Hp → Prop} (ho : H a = some (.dK (dk kd_L vs))) (hv : 9 < vs.length) (q : A (upd H a (.dK (dk kd_L (vs.set 9 y))))) : ∃ a' H', V.ref a = .ref a' ∧ DPut H a' (.str "syn") y H' ∧ A H' := g_dput ho ndd_L (by decide) rfl hv q
theorem dn_L_syn {A : Hp → Prop} (ho : H a = some (.dK (dk kd_L vs))) (hv : vs.length = 9) (q : A (upd H a (.dK (dk kd_L (vs ++ [y]))))) : ∃ a' H', V.ref a = .ref a' ∧ DPut H a' (.str "syn") y H' ∧ A H' := g_dnew ho ndd_L (by decide) (by rw [hv]; rfl) q
theorem dg_L_fin {A : V → Prop} (ho : H a = some (.dK (dk kd_L vs))) (hv : vs[10]? = some v) (q : A v) : ∃ a' v', V.ref a = .ref a' ∧ DGet H a' (.str "fin") (some v') ∧ A v' := g_dget ho ndd_L rfl hv q
theorem dp_L_fin {A : Hp → Prop} (ho : H a = some (.dK (dk kd_L vs))) (hv : 10 < vs.length) (q : A (upd H a (.dK (dk kd_L (vs.set 10 y))))) : ∃ a' H', V.ref a = .ref a' ∧ DPut H a' (.str "fin") y H' ∧ A H' := g_dput ho ndd_L (by decide) rfl hv q
theorem dn_L_fin {A : Hp → Prop} (ho : H a = some (.dK (dk kd_L vs))) (hv : vs.length = 10) (q : A (upd H a (.dK (dk kd_L (vs ++ [y]))))) : ∃ a' H', V.ref a = .ref a' ∧ DPut H a' (.str "fin") y H' ∧ A H' := g_dnew ho ndd_L (by decide) (by rw [hv]; rfl) q
theorem dg_L_reset {A : V → Prop} (ho : H a = some (.dK (dk kd_L vs))) (hv : vs[11]? = some v) (q : A v) : ∃ a' v', V.ref a = .ref a' ∧ DGet H a' (.str "reset") (some v') ∧ A v' := g_dget ho ndd_L rfl hv q
theorem dp_L_reset {A : Hp → Prop} (ho : H a = some (.dK (dk kd_L vs))) (hv : 11 < vs.length) (q : A (upd H a (.dK (dk kd_L (vs.set 11 y))))) : ∃ a' H', V.ref a = .ref a' ∧ DPut H a' (.str "reset") y H' ∧ A H' := g_dput ho ndd_L (by decide) rfl hv q
theorem dn_L_reset {A : Hp → Prop} (ho : H a = some (.dK (dk kd_L vs))) (hv : vs.length = 11) (q : A (upd H a (.dK (dk kd_L (vs ++ [y]))))) : ∃ a' H', V.ref a = .ref a' ∧ DPut H a' (.str "reset") y H' ∧ A H' := g_dnew ho ndd_L (by decide) (by rw [hv]; rfl) q
theorem dg_L_marked {A : V → Prop} (ho : H a = some (.dK (dk kd_L vs))) (hv : vs[12]? = some v) (q : A v) : ∃ a' v', V.ref a = .ref a' ∧ DGet H a' (.str "marked") (some v') ∧ A v' := g_dget ho ndd_L rfl hv q
theorem dp_L_marked {A : Hp → Prop} (ho : H a = some (.dK (dk kd_L vs))) (hv : 12 < vs.length) (q : A (upd H a (.dK (dk kd_L (vs.set 12 y))))) : ∃ a' H', V.ref a = .ref a' ∧ DPut H a' (.str "marked") y H' ∧ A H' := g_dput ho ndd_L (by decide) rfl hv q
theorem dn_L_marked {A : Hp → Prop} (ho : H a = some (.dK (dk kd_L vs))) (hv : vs.length = 12) (q : A (upd H a (.dK (dk kd_L (vs ++ [y]))))) : ∃ a' H', V.ref a = .ref a' ∧ DPut H a' (.str "marked") y H' ∧ A H' := g_dnew ho ndd_L (by decide) (by rw [hv]; rfl) q
theorem dg_L_cut {A : V → Prop} (ho : H a = some (.dK (dk kd_L vs))) (hv : vs[13]? = some v) (q : A v) : ∃ a' v', V.ref a = .ref a' ∧ DGet H a' (.str "cut") (some v') ∧ A v' := g_dget ho ndd_L rfl hv q
theorem dp_L_cut {A : Hp → Prop} (ho : H a = some (.dK (dk kd_L vs))) (hv : 13 < vs.length) (q : A (upd H a (.dK (dk kd_L (vs.set 13 y))))) : ∃ a' H', V.ref a = .ref a' ∧ DPut H a' (.str "cut") y H' ∧ A H' := g_dput ho ndd_L (by decide) rfl hv q
theorem dn_L_cut {A : Hp → Prop} (ho : H a = some (.dK (dk kd_L vs))) (hv : vs.length = 13) (q : A (upd H a (.dK (dk kd_L (vs ++ [y]))))) : ∃ a' H', V.ref a = .ref a' ∧ DPut H a' (.str "cut") y H' ∧ A H' := g_dnew ho ndd_L (by decide) (by rw [hv]; rfl) q
theorem dg_L_ranges_known {A : V → Prop} (ho : H a = some (.dK (dk kd_L vs))) (hv : vs[14]? = some v) (q : A v) : ∃ a' v', V.ref a = .ref a' ∧ DGet H a' (.str "ranges_known") (some v') ∧ A v' := g_dget ho ndd_L rfl hv q
theorem dp_L_ranges_known {A : Hp → Prop} (ho : H a = some (.dK (dk kd_L vs))) (hv : 14 < vs.length) (q : A (upd H a (.dK (dk kd_L (vs.set 14 y))))) : ∃ a' H', V.ref a = .ref a' ∧ DPut H a' (.str "ranges_known") y H' ∧ A H' := g_dput ho ndd_L (by decide) rfl hv q
theorem dn_L_ranges_known {A : Hp → Prop} (ho : H a = some (.dK (dk kd_L vs))) (hv : vs.length = 14) (q : A (upd H a (.dK (dk kd_L (vs ++ [y]))))) : ∃ a' H', V.ref a = .ref a' ∧ DPut H a' (.str "ranges_known") y H' ∧ A H' := g_dnew ho ndd_L (by decide) (by rw [hv]; rfl) q
theorem dg_L_window {A : V → Prop} (ho : H a = some (.dK (dk kd_L vs))) (hv : vs[15]? = some v) (q : A v) : ∃ a' v', V.ref a = .ref a' ∧ DGet H a' (.str "window") (some v') ∧ A v' := g_dget ho ndd_L rfl hv q
theorem dp_L_window {A : Hp → Prop} (ho : H a = some (.dK (dk kd_L vs))) (hv : 15 < vs.length) (q : A (upd H a (.dK (dk kd_L (vs.set 15 y))))) : ∃ a' H', V.ref a = .ref a' ∧ DPut H a' (.str "window") y H' ∧ A H' := g_dput ho ndd_L (by decide) rfl hv q
theorem dn_L_window {A : Hp → Prop} (ho : H a = some (.dK (dk kd_L vs))) (hv : vs.length = 15) (q : A (upd H a (.dK (dk kd_L (vs ++ [y]))))) : ∃ a' H', V.ref a = .ref a' ∧ DPut H a' (.str "window") y H' ∧ A H' := g_dnew ho ndd_L (by decide) (by rw [hv]; rfl) q
theorem dg_L_ranges {A : V → Prop} (ho : H a = some (.dK (dk kd_L vs))) (hv : vs[16]? = some v) (q : A v) : ∃ a' v', V.ref a = .ref a' ∧ DGet H a' (.str "ranges") (some v') ∧ A v' := g_dget ho ndd_L rfl hv q
theorem dp_L_ranges {A : Hp → Prop} (ho : H a = some (.dK (dk kd_L vs))) (hv : 16 < vs.length) (q : A (upd H a (.dK (dk kd_L (vs.set 16 y))))) : ∃ a' H', V.ref a = .ref a' ∧ DPut H a' (.str "ranges") y H' ∧ A H' := g_dput ho ndd_L (by decide) rfl hv q
theorem dn_L_ranges {A : Hp → Prop} (ho : H a = some (.dK (dk kd_L vs))) (hv : vs.length = 16) (q : A (upd H a (.dK (dk kd_L (vs ++ [y]))))) : ∃ a' H', V.ref a = .ref a' ∧ DPut H a' (.str "ranges") y H' ∧ A H' := g_dnew ho ndd_L (by decide) (by rw [hv]; rfl) q
theorem dg_L_data {A : V → Prop} (ho : H a = some (.dK (dk kd_L vs))) (hv : vs[17]? = some v) (q : A v) : ∃ a' v', V.ref a = .ref a' ∧ DGet H a' (.str "data") (some v') ∧ A v' := g_dget ho ndd_L rfl hv q
theorem dp_L_data {A : Hp → Prop} (ho : H a = some (.dK (dk kd_L vs))) (hv : 17 < vs.length) (q : A (upd H a (.dK (dk kd_L (vs.set 17 y))))) : ∃ a' H', V.ref a = .ref a' ∧ DPut H a' (.str "data") y H' ∧ A H' := g_dput ho ndd_L (by decide) rfl hv q
theorem dn_L_data {A : Hp → Prop} (ho : H a = some (.dK (dk kd_L vs))) (hv : vs.length = 17) (q : A (upd H a (.dK (dk kd_L (vs ++ [y]))))) : ∃ a' H', V.ref a = .ref a' ∧ DPut H a' (.str "data") y H' ∧ A H' := g_dnew ho ndd_L (by decide) (by rw [hv]; rfl) q
end
local macro_rules | `(tactic| walk_at "use") => `(tactic| first | ((with_reducible refine' dg_L_source ?ho_ ?hv_ ?_); (case ho_ => first | assumption | exact upd_same); (case hv_ => exact rfl)) | ((with_reducible refine' dg_L_target ?ho_ ?hv_ ?_); (case ho_ => first | assumption | exact upd_same); (case hv_ => exact rfl)) | ((with_reducible refine' dg_L_seq ?ho_ ?hv_ ?_); (case ho_ => first | assumption | exact upd_same); (case hv_ => exact rfl)) | ((with_reducible refine' dg_L_count ?ho_ ?hv_ ?_); (case ho_ => first | assumption | exact upd_same); (case hv_ => exact rfl)) | ((with_reducible refine' dg_L_echo ?ho_ ?hv_ ?_); (case ho_ => first | assumption | exact upd_same); (case hv_ => exact rfl)) | ((with_reducible refine' dg_L_ack ?ho_ ?hv_ ?_); (case ho_ => first | assumption | exact upd_same); (case hv_ => exact rfl)) | ((with_reducible refine' dg_L_mss ?ho_ ?hv_ ?_); (case ho_ => first | assumption | exact upd_same); (case hv_ => exact rfl)) | ((with_reducible refine' dg_L_scale ?ho_ ?hv_ ?_); (case ho_ => first | assumption | exact upd_same); (case hv_ => exact rfl)) | ((with_reducible refine' dg_L_stamp ?ho_ ?hv_ ?_); (case ho_ => first | assumption | exact upd_same); (case hv_ => exact rfl)) | ((with_reducible refine' dg_L_syn ?ho_ ?hv_ ?_); (case ho_ => first | assumption | exact upd_same); (case hv_ => exact rfl)) | ((with_reducible refine' dg_L_fin ?ho_ ?hv_ ?_); (case ho_ => first | assumption | exact upd_same); (case hv_ => exact rfl)) | ((with_reducible refine' dg_L_reset ?ho_ ?hv_ ?_); (case ho_ => first | assumption | exact upd_same); (case hv_ => exact rfl)) | ((with_reducible refine' dg_L_marked ?ho_ ?hv_ ?_); (case ho_ => first | assumption | exact upd_same); (case hv_ => exact rfl)) | ((with_reducible refine' dg_L_cut ?ho_ ?hv_ ?_); (case ho_ => first | assumption | exact upd_same); (case hv_ => exact rfl)) | ((with_reducible refine' dg_L_ranges_known ?ho_ ?hv_ ?_); (case ho_ => first | assumption | exact upd_same); (case hv_ => exact rfl)) | ((with_reducible refine' dg_L_window ?ho_ ?hv_ ?_); (case ho_ => first | assumption | exact upd_same); (case hv_ => exact rfl)) | ((with_reducible refine' dg_L_ranges ?ho_ ?hv_ ?_); (case ho_ => first | assumption | exact upd_same); (case hv_ => exact rfl)) | ((with_reducible refine' dg_L_data ?ho_ ?hv_ ?_); (case ho_ => first | assumption | exact upd_same); (case hv_ => exact rfl)) | ((with_reducible refine' dn_L_source ?ho_ ?hv_ ?_); (case ho_ => first | assumption | exact upd_same); (case hv_ => exact rfl)) | ((with_reducible refine' dn_L_target ?ho_ ?hv_ ?_); (case ho_ => first | assumption | exact upd_same); (case hv_ => exact rfl)) | ((with_reducible refine' dn_L_seq ?ho_ ?hv_ ?_); (case ho_ => first | assumption | exact upd_same); (case hv_ => exact rfl)) | ((with_reducible refine' dn_L_count ?ho_ ?hv_ ?_); (case ho_ => first | assumption | exact upd_same); (case hv_ => exact rfl)) | ((with_reducible refine' dn_L_echo ?ho_ ?hv_ ?_); (case ho_ => first | assumption | exact upd_same); (case hv_ => exact rfl)) | ((with_reducible refine' dn_L_ack ?ho_ ?hv_ ?_); (case ho_ => first | assumption | exact upd_same); (case hv_ => exact rfl)) | ((with_reducible refine' dn_L_mss ?ho_ ?hv_ ?_); (case ho_ => first | assumption | exact upd_same); (case hv_ => exact rfl)) | ((with_reducible refine' dn_L_scale ?ho_ ?hv_ ?_); (case ho_ => first | assumption | exact upd_same); (case hv_ => exact rfl)) | ((with_reducible refine' dn_L_stamp ?ho_ ?hv_ ?_); (case ho_ => first | assumption | exact upd_same); (case hv_ => exact rfl)) | ((with_reducible refine' dn_L_syn ?ho_ ?hv_ ?_); (case ho_ => first | assumption | exact upd_same); (case hv_ => exact rfl)) | ((with_reducible refine' dn_L_fin ?ho_ ?hv_ ?_); (case ho_ => first | assumption | exact upd_same); (case hv_ => exact rfl)) | ((with_reducible refine' dn_L_reset ?ho_ ?hv_ ?_); (case ho_ => first | assumption | exact upd_same); (case hv_ => exact rfl)) | ((with_reducible refine' dn_L_marked ?ho_ ?hv_ ?_); (case ho_ => first | assumption | exact upd_same); (case hv_ => exact rfl)) | ((with_reducible refine' dn_L_cut ?ho_ ?hv_ ?_); (case ho_ => first | assumption | exact upd_same); (case hv_ => exact rfl)) | ((with_reducible refine' dn_L_ranges_known ?ho_ ?hv_ ?_); (case ho_ => first | assumption | exact upd_same); (case hv_ => exact rfl)) | ((with_reducible refine' dn_L_window ?ho_ ?hv_ ?_); (case ho_ => first | assumption | exact upd_same); (case hv_ => exact rfl)) | ((with_reducible refine' dn_L_ranges ?ho_ ?hv_ ?_); (case ho_ => first | assumption | exact upd_same); (case hv_ => exact rfl)) | ((with_reducible refine' dn_L_data ?ho_ ?hv_ ?_); (case ho_ => first | assumption | exact upd_same); (case hv_ => exact rfl)) | ((with_reducible refine' dp_L_source ?ho_ ?hv_ ?_); (case ho_ => first | assumption | exact upd_same); (case hv_ => exact Nat.le_of_ble_eq_true rfl)) | ((with_reducible refine' dp_L_target ?ho_ ?hv_ ?_); (case ho_ => first | assumption | exact upd_same); (case hv_ => exact Nat.le_of_ble_eq_true rfl)) | ((with_reducible refine' dp_L_seq ?ho_ ?hv_ ?_); (case ho_ => first | assumption | exact upd_same); (case hv_ => exact Nat.le_of_ble_eq_true rfl)) | ((with_reducible refine' dp_L_count ?ho_ ?hv_ ?_); (case ho_ => first | assumption | exact upd_same); (case hv_ => exact Nat.le_of_ble_eq_true rfl)) | ((with_reducible refine' dp_L_echo ?ho_ ?hv_ ?_); (case ho_ => first | assumption | exact upd_same); (case hv_ => exact Nat.le_of_ble_eq_true rfl)) | ((with_reducible refine' dp_L_ack ?ho_ ?hv_ ?_); (case ho_ => first | assumption | exact upd_same); (case hv_ => exact Nat.le_of_ble_eq_true rfl)) | ((with_reducible refine' dp_L_mss ?ho_ ?hv_ ?_); (case ho_ => first | assumption | exact upd_same); (case hv_ => exact Nat.le_of_ble_eq_true rfl)) | ((with_reducible refine' dp_L_scale ?ho_ ?hv_ ?_); (case ho_ => first | assumption | exact upd_same); (case hv_ => exact Nat.le_of_ble_eq_true rfl)) | ((with_reducible refine' dp_L_stamp ?ho_ ?hv_ ?_); (case ho_ => first | assumption | exact upd_same); (case hv_ => exact Nat.le_of_ble_eq_true rfl)) | ((with_reducible refine' dp_L_syn ?ho_ ?hv_ ?_); (case ho_ => first | assumption | exact upd_same); (case hv_ => exact Nat.le_of_ble_eq_true rfl)) | ((with_reducible refine' dp_L_fin ?ho_ ?hv_ ?_); (case ho_ => first | assumption | exact upd_same); (case hv_ => exact Nat.le_of_ble_eq_true rfl)) | ((with_reducible refine' dp_L_reset ?ho_ ?hv_ ?_); (case ho_ => first | assumption | exact upd_same); (case hv_ => exact Nat.le_of_ble_eq_true rfl)) | ((with_reducible refine' dp_L_marked ?ho_ ?hv_ ?_); (case ho_ => first | assumption | exact upd_same); (case hv_ => exact Nat.le_of_ble_eq_true rfl)) | ((with_reducible refine' dp_L_cut ?ho_ ?hv_ ?_); (case ho_ => first | assumption | exact upd_same); (case hv_ => exact Nat.le_of_ble_eq_true rfl)) | ((with_reducible refine' dp_L_ranges_known ?ho_ ?hv_ ?_); (case ho_ => first | assumption | exact upd_same); (case hv_ => exact Nat.le_of_ble_eq_true rfl)) | ((with_reducible refine' dp_L_window ?ho_ ?hv_ ?_); (case ho_ => first | assumption | exact upd_same); (case hv_ => exact Nat.le_of_ble_eq_true rfl)) | ((with_reducible refine' dp_L_ranges ?ho_ ?hv_ ?_); (case ho_ => first | assumption | exact upd_same); (case hv_ => exact Nat.le_of_ble_eq_true rfl)) | ((with_reducible refine' dp_L_data ?ho_ ?hv_ ?_); (case ho_ => first | assumption | exact upd_same); (case hv_ => exact Nat.le_of_ble_eq_true rfl)))
local macro_rules | `(tactic| walk_at "use") => `(tactic| with_reducible first | refine g_dgetT ?_ | refine g_dputT ?_)
end My
namespace My
open PySem PySem.Spec L2
local macro_rules | `(tactic| walk_at "side") => `(tactic| first | assumption | decide | omega | exact ⟨by decide, by decide⟩ | exact ⟨by decide, by decide, by decide⟩ | decide +kernel | exact cdivW (by decide +kernel) (by decide +kernel) | exact Or.inl ⟨by omega, by omega⟩ | exact Or.inr ⟨by omega, by omega⟩ | (simp only [List.length_map, List.length_cons, List.length_nil, List.length_append]; omega))
local macro_rules | `(tactic| walk_at "fact") => `(tactic| first | assumption | omega | with_reducible rfl)
local macro_rules | `(tactic| walk_at "use") => `(tactic| fail "use")
local macro_rules | `(tactic| walk_at "go1") => `(tactic| with_reducible first | refine g_seq ?_ | refine g_asg ?_ | refine g_ret ?_ | refine g_ifS ?_ | refine g_drop ?_ | refine g_star ?_ | refine g_nx ?_ | refine g_rt ?_ | refine g_bkE ?_ | refine g_ctE ?_ | refine g_next ?_ | refine g_retN ?_ | refine g_brk ?_ | refine g_ct ?_ | refine g_c ?_ | refine g_op ?_ | refine g_un ?_ | refine g_rI0 ?_ | refine g_rU ?_ | refine g_rEqI ?_ | refine g_rNeI ?_ | refine g_isN ?_ | refine g_rIsB ?_ | refine g_rNotB ?_ | refine g_test ?_ | refine g_B ?_ | refine g_bl ?_ | refine g_and ?_ | refine g_or ?_ | refine g_not ?_ | refine g_andV ?_ | refine g_orV ?_ | refine g_notV ?_ | refine g_if ?_ | refine g_chain ?_ | refine g_yes ?_ | refine g_lc ?_ | refine g_revR ?_ | refine g_rng1 ?_ | refine g_iList ?_ | refine g_nil ?_ | refine g_cons ?_ | refine g_tup ?_ | refine g_lst ?_ | refine g_call ?_ | refine g_CB ?_ | refine g_sl ?_ | refine g_noPart ?_ | refine g_part ?_ | refine g_intE ?_ | refine g_ref ?_ | refine g_fld ?_ | refine g_sfld ?_ | refine g_meth ?_ | refine g_make ?_ | refine g_prop ?_  | refine g_ipI ?_ | refine g_int1 ?_ | refine g_int1B ?_ | refine g_one ?_ | refine g_two ?_ | refine g_isiI ?_ | refine g_isiIB ?_ | refine g_isiB ?_ | refine g_BM ?_ | refine g_BM0 ?_ | refine g_sub ?_)
local macro_rules | `(tactic| walk_at "go") => `(tactic| repeat (first | walk_at "go1" | ((with_reducible refine' g_nameE ?sd_ ?_); case sd_ => dsimp only [List.set_cons_succ, List.set_cons_zero]) | ((with_reducible refine' g_var ?sd_ ?_); case sd_ => exact rfl) | ((with_reducible refine' g_aug ?sd_ ?_); case sd_ => exact rfl) | ((with_reducible refine' g_rI ?sd_ ?_); case sd_ => walk_at "side") | ((with_reducible refine' g_dT ?sd_ ?_); case sd_ => walk_at "fact") | ((with_reducible refine' g_dF ?sd_ ?_); case sd_ => walk_at "fact") | ((with_reducible refine' g_nT ?sd_ ?_); case sd_ => walk_at "fact") | ((with_reducible refine' g_nF ?sd_ ?_); case sd_ => walk_at "fact") | (with_reducible refine g_iT rfl ?_) | (with_reducible refine g_iF rfl ?_) | walk_at "use"))
local macro_rules | `(tactic| walk_at "use") => `(tactic| first | ((with_reducible refine' fd_Segment_source ?ho_ ?hv_ ?_); (case ho_ => first | assumption | exact upd_same); (case hv_ => exact rfl)) | ((with_reducible refine' fd_Segment_target ?ho_ ?hv_ ?_); (case ho_ => first | assumption | exact upd_same); (case hv_ => exact rfl)) | ((with_reducible refine' fd_Segment_seq ?ho_ ?hv_ ?_); (case ho_ => first | assumption | exact upd_same); (case hv_ => exact rfl)) | ((with_reducible refine' fd_Segment_count ?ho_ ?hv_ ?_); (case ho_ => first | assumption | exact upd_same); (case hv_ => exact rfl)) | ((with_reducible refine' fd_Segment_echo ?ho_ ?hv_ ?_); (case ho_ => first | assumption | exact upd_same); (case hv_ => exact rfl)) | ((with_reducible refine' fd_Segment_ack ?ho_ ?hv_ ?_); (case ho_ => first | assumption | exact upd_same); (case hv_ => exact rfl)) | ((with_reducible refine' fd_Segment_syn ?ho_ ?hv_ ?_); (case ho_ => first | assumption | exact upd_same); (case hv_ => exact rfl)) | ((with_reducible refine' fd_Segment_fin ?ho_ ?hv_ ?_); (case ho_ => first | assumption | exact upd_same); (case hv_ => exact rfl)) | ((with_reducible refine' fd_Segment_reset ?ho_ ?hv_ ?_); (case ho_ => first | assumption | exact upd_same); (case hv_ => exact rfl)) | ((with_reducible refine' fd_Segment_marked ?ho_ ?hv_ ?_); (case ho_ => first | assumption | exact upd_same); (case hv_ => exact rfl)) | ((with_reducible refine' fd_Segment_cut ?ho_ ?hv_ ?_); (case ho_ => first | assumption | exact upd_same); (case hv_ => exact rfl)) | ((with_reducible refine' fd_Segment_window ?ho_ ?hv_ ?_); (case ho_ => first | assumption | exact upd_same); (case hv_ => exact rfl)) | ((with_reducible refine' fd_Segment_mss ?ho_ ?hv_ ?_); (case ho_ => first | assumption | exact upd_same); (case hv_ => exact rfl)) | ((with_reducible refine' fd_Segment_scale ?ho_ ?hv_ ?_); (case ho_ => first | assumption | exact upd_same); (case hv_ => exact rfl)) | ((with_reducible refine' fd_Segment_ranges_known ?ho_ ?hv_ ?_); (case ho_ => first | assumption | exact upd_same); (case hv_ => exact rfl)) | ((with_reducible refine' fd_Segment_ranges ?ho_ ?hv_ ?_); (case ho_ => first | assumption | exact upd_same); (case hv_ => exact rfl)) | ((with_reducible refine' fd_Segment_stamp ?ho_ ?hv_ ?_); (case ho_ => first | assumption | exact upd_same); (case hv_ => exact rfl)) | ((with_reducible refine' fd_Segment_data ?ho_ ?hv_ ?_); (case ho_ => first | assumption | exact upd_same); (case hv_ => exact rfl)) | ((with_reducible refine' nw_Segment_source ?ho_ ?hv_ ?_); (case ho_ => first | assumption | exact upd_same); (case hv_ => exact rfl)) | ((with_reducible refine' nw_Segment_target ?ho_ ?hv_ ?_); (case ho_ => first | assumption | exact upd_same); (case hv_ => exact rfl)) | ((with_reducible refine' nw_Segment_seq ?ho_ ?hv_ ?_); (case ho_ => first | assumption | exact upd_same); (case hv_ => exact rfl)) | ((with_reducible refine' nw_Segment_count ?ho_ ?hv_ ?_); (case ho_ => first | assumption | exact upd_same); (case hv_ => exact rfl)) | ((with_reducible refine' nw_Segment_echo ?ho_ ?hv_ ?_); (case ho_ => first | assumption | exact upd_same); (case hv_ => exact rfl)) | ((with_reducible refine' nw_Segment_ack ?ho_ ?hv_ ?_); (case ho_ => first | assumption | exact upd_same); (case hv_ => exact rfl)) | ((with_reducible refine' nw_Segment_syn ?ho_ ?hv_ ?_); (case ho_ => first | assumption | exact upd_same); (case hv_ => exact rfl)) | ((with_reducible refine' nw_Segment_fin ?ho_ ?hv_ ?_); (case ho_ => first | assumption | exact upd_same); (case hv_ => exact rfl)) | ((with_reducible refine' nw_Segment_reset ?ho_ ?hv_ ?_); (case ho_ => first | assumption | exact upd_same); (case hv_ => exact rfl)) | ((with_reducible refine' nw_Segment_marked ?ho_ ?hv_ ?_); (case ho_ => first | assumption | exact upd_same); (case hv_ => exact rfl)) | ((with_reducible refine' nw_Segment_cut ?ho_ ?hv_ ?_); (case ho_ => first | assumption | exact upd_same); (case hv_ => exact rfl)) | ((with_reducible refine' nw_Segment_window ?ho_ ?hv_ ?_); (case ho_ => first | assumption | exact upd_same); (case hv_ => exact rfl)) | ((with_reducible refine' nw_Segment_mss ?ho_ ?hv_ ?_); (case ho_ => first | assumption | exact upd_same); (case hv_ => exact rfl)) | ((with_reducible refine' nw_Segment_scale ?ho_ ?hv_ ?_); (case ho_ => first | assumption | exact upd_same); (case hv_ => exact rfl)) | ((with_reducible refine' nw_Segment_ranges_known ?ho_ ?hv_ ?_); (case ho_ => first | assumption | exact upd_same); (case hv_ => exact rfl)) | ((with_reducible refine' nw_Segment_ranges ?ho_ ?hv_ ?_); (case ho_ => first | assumption | exact upd_same); (case hv_ => exact rfl)) | ((with_reducible refine' nw_Segment_stamp ?ho_ ?hv_ ?_); (case ho_ => first | assumption | exact upd_same); (case hv_ => exact rfl)) | ((with_reducible refine' nw_Segment_data ?ho_ ?hv_ ?_); (case ho_ => first | assumption | exact upd_same); (case hv_ => exact rfl)) | ((with_reducible refine' st_Segment_source ?ho_ ?hv_ ?_); (case ho_ => first | assumption | exact upd_same); (case hv_ => exact Nat.le_of_ble_eq_true rfl)) | ((with_reducible refine' st_Segment_target ?ho_ ?hv_ ?_); (case ho_ => first | assumption | exact upd_same); (case hv_ => exact Nat.le_of_ble_eq_true rfl)) | ((with_reducible refine' st_Segment_seq ?ho_ ?hv_ ?_); (case ho_ => first | assumption | exact upd_same); (case hv_ => exact Nat.le_of_ble_eq_true rfl)) | ((with_reducible refine' st_Segment_count ?ho_ ?hv_ ?_); (case ho_ => first | assumption | exact upd_same); (case hv_ => exact Nat.le_of_ble_eq_true rfl)) | ((with_reducible refine' st_Segment_echo ?ho_ ?hv_ ?_); (case ho_ => first | assumption | exact upd_same); (case hv_ => exact Nat.le_of_ble_eq_true rfl)) | ((with_reducible refine' st_Segment_ack ?ho_ ?hv_ ?_); (case ho_ => first | assumption | exact upd_same); (case hv_ => exact Nat.le_of_ble_eq_true rfl)) | ((with_reducible refine' st_Segment_syn ?ho_ ?hv_ ?_); (case ho_ => first | assumption | exact upd_same); (case hv_ => exact Nat.le_of_ble_eq_true rfl)) | ((with_reducible refine' st_Segment_fin ?ho_ ?hv_ ?_); (case ho_ => first | assumption | exact upd_same); (case hv_ => exact Nat.le_of_ble_eq_true rfl)) | ((with_reducible refine' st_Segment_reset ?ho_ ?hv_ ?_); (case ho_ => first | assumption | exact upd_same); (case hv_ => exact Nat.le_of_ble_eq_true rfl)) | ((with_reducible refine' st_Segment_marked ?ho_ ?hv_ ?_); (case ho_ => first | assumption | exact upd_same); (case hv_ => exact Nat.le_of_ble_eq_true rfl)) | ((with_reducible refine' st_Segment_cut ?ho_ ?hv_ ?_); (case ho_ => first | assumption | exact upd_same); (case hv_ => exact Nat.le_of_ble_eq_true rfl)) | ((with_reducible refine' st_Segment_window ?ho_ ?hv_ ?_); (case ho_ => first | assumption | exact upd_same); (case hv_ => exact Nat.le_of_ble_eq_true rfl)) | ((with_reducible refine' st_Segment_mss ?ho_ ?hv_ ?_); (case ho_ => first | assumption | exact upd_same); (case hv_ => exact Nat.le_of_ble_eq_true rfl)) | ((with_reducible refine' st_Segment_scale ?ho_ ?hv_ ?_); (case ho_ => first | assumption | exact upd_same); (case hv_ => exact Nat.le_of_ble_eq_true rfl)) | ((with_reducible refine' st_Segment_ranges_known ?ho_ ?hv_ ?_); (case ho_ => first | assumption | exact upd_same); (case hv_ => exact Nat.le_of_ble_eq_true rfl)) | ((with_reducible refine' st_Segment_ranges ?ho_ ?hv_ ?_); (case ho_ => first | assumption | exact upd_same); (case hv_ => exact Nat.le_of_ble_eq_true rfl)) | ((with_reducible refine' st_Segment_stamp ?ho_ ?hv_ ?_); (case ho_ => first | assumption | exact upd_same); (case hv_ => exact Nat.le_of_ble_eq_true rfl)) | ((with_reducible refine' st_Segment_data ?ho_ ?hv_ ?_); (case ho_ => first | assumption | exact upd_same); (case hv_ => exact Nat.le_of_ble_eq_true rfl)) | ((with_reducible refine' me_Segment_eq__ ?ho_ ?_); (case ho_ => first | assumption | exact upd_same)) | ((with_reducible refine' me_Segment_parts ?ho_ ?_); (case ho_ => first | assumption | exact upd_same)))
section
variable {P : Program} {w : World} {K : PySem.W.Frag} {mg : Str → Option Value} {base : Heap}
/-! ### lists of pairs in the heap -/
def tupP (p : Int × Int) : HO := .tup [.int p.1, .int p.2]
def Prs (H : Hp) (vs : List V) (ps : List (Int × Int)) : Prop := vs.length = ps.length ∧ ∀ (i : Nat) p, ps[i]? = some p → ∃ t, vs[i]? = some (V.ref t) ∧ H t = some (tupP p)
theorem Prs.nil {H : Hp} : Prs H [] [] := ⟨rfl, fun i p h => by simp at h⟩
theorem Prs.same {H H' : Hp} {vs : List V} {ps : List (Int × Int)} (h : Prs H vs ps) (s : Same H H') : Prs H' vs ps := ⟨h.1, fun i p e => by
  obtain ⟨t, h1, h2⟩ := h.2 i p e
  exact ⟨t, h1, s _ _ h2⟩⟩
theorem Prs.but {H H' : Hp} {vs : List V} {ps : List (Int × Int)} {a : Addr} {xs : List V} (h : Prs H vs ps) (s : But a H H') (e : H a = some (.lst xs)) : Prs H' vs ps := ⟨h.1, fun i p e2 => by
  obtain ⟨t, h1, h2⟩ := h.2 i p e2
  exact ⟨t, h1, s _ _ (fun z => by rw [z, e] at h2; cases h2) h2⟩⟩
theorem Prs.butD {H H' : Hp} {vs : List V} {ps : List (Int × Int)} {a : Addr} {kvs : List (Key × V)} (h : Prs H vs ps) (s : But a H H') (e : H a = some (.dK kvs)) : Prs H' vs ps := ⟨h.1, fun i p e2 => by
  obtain ⟨t, h1, h2⟩ := h.2 i p e2
  exact ⟨t, h1, s _ _ (fun z => by rw [z, e] at h2; cases h2) h2⟩⟩
theorem Prs.drop {H : Hp} {vs : List V} {ps : List (Int × Int)} (h : Prs H vs ps) (k : Nat) : Prs H (vs.drop k) (ps.drop k) := ⟨by rw [List.length_drop, List.length_drop, h.1], fun i p e => by
  rw [List.getElem?_drop] at e ⊢
  exact h.2 _ p e⟩
theorem Prs.take {H : Hp} {vs : List V} {ps : List (Int × Int)} (h : Prs H vs ps) (k : Nat) : Prs H (vs.take k) (ps.take k) := ⟨by rw [List.length_take, List.length_take, h.1], fun i p e => by
  rw [List.getElem?_take] at e ⊢
  split at e
  · rw [if_pos (by assumption)]
    exact h.2 _ p e
  · cases e⟩
theorem Prs.app {H : Hp} {vs us : List V} {ps qs : List (Int × Int)} (h : Prs H vs ps) (h' : Prs H us qs) : Prs H (vs ++ us) (ps ++ qs) := ⟨by rw [List.length_append, List.length_append, h.1, h'.1], fun i p e => by
  by_cases hi : i < ps.length
  · rw [List.getElem?_append_left hi] at e
    rw [List.getElem?_append_left (by rw [h.1]; exact hi)]
    exact h.2 i p e
  · rw [List.getElem?_append_right (by omega)] at e
    rw [List.getElem?_append_right (by rw [h.1]; omega), h.1]
    exact h'.2 _ p e⟩
theorem Prs.one {H : Hp} {t : Addr} {p : Int × Int} (h : H t = some (tupP p)) : Prs H [V.ref t] [p] := ⟨rfl, fun i q e => by
  match i, e with
  | 0, e => exact ⟨t, rfl, by rw [← Option.some.inj e]; exact h⟩⟩
theorem Prs.cons {H : Hp} {t : Addr} {p : Int × Int} {vs : List V} {ps : List (Int × Int)} (h : H t = some (tupP p)) (h' : Prs H vs ps) : Prs H (V.ref t :: vs) (p :: ps) := (Prs.one h).app h'
theorem Prs.set {H : Hp} {t : Addr} {p : Int × Int} {vs : List V} {ps : List (Int × Int)} (h' : Prs H vs ps) (j : Nat) (h : H t = some (tupP p)) : Prs H (vs.set j (V.ref t)) (ps.set j p) := ⟨by rw [List.length_set, List.length_set, h'.1], fun i q e => by
  by_cases hij : j = i
  · subst hij
    have hl : j < ps.length := by
      obtain ⟨z, _⟩ := List.getElem?_eq_some_iff.mp e
      rw [List.length_set] at z
      exact z
    rw [List.getElem?_set_self hl] at e
    rw [List.getElem?_set_self (by rw [h'.1]; exact hl)]
    exact ⟨t, rfl, by rw [← Option.some.inj e]; exact h⟩
  · rw [List.getElem?_set_ne hij] at e ⊢
    exact h'.2 i q e⟩
theorem cut_nat {xs : List V} {a b : Nat} (hab : a ≤ b) (hb : b ≤ xs.length) : cutV xs (some (a : Int)) (some (b : Int)) = (xs.drop a).take (b - a) := by
  unfold cutV
  rw [HT.sIx_nat, HT.sIx_nat, Nat.min_eq_left (a := a) (by omega), Nat.min_eq_left hb]
theorem cut_to {xs : List V} {b : Nat} (hb : b ≤ xs.length) : cutV xs none (some (b : Int)) = xs.take b := by
  unfold cutV
  rw [HT.sIx_none, HT.sIx_nat, Nat.min_eq_left hb, List.drop_zero, Nat.sub_zero]
theorem cut_from {xs : List V} {a : Nat} (ha : a ≤ xs.length) : cutV xs (some (a : Int)) none = xs.drop a := by
  unfold cutV
  rw [HT.sIx_nat, HT.sIx_none, Nat.min_eq_left ha]
  exact List.take_of_length_le (by rw [List.length_drop]; omega)
/-! == of lists of pairs -/
section
variable {K : PySem.W.Frag} {H : Hp}
def datP (p : Int × Int) : PyData := .tuple [.int p.1, .int p.2]
theorem dp_pair {t : Addr} {p : Int × Int} (h : H t = some (tupP p)) : Dp K H (.ref t) (datP p) := .tup (st h) (.cons (.int _) (.cons (.int _) .nil))
theorem dpAll_pairs : ∀ {vs : List V} {ps : List (Int × Int)}, Prs H vs ps → DpAll K H vs (ps.map datP)
  | [], [], _ => .nil
  | [], _ :: _, h => by have := h.1; simp at this
  | _ :: _, [], h => by have := h.1; simp at this
  | v :: vs, p :: ps, h => by
    obtain ⟨t, h1, h2⟩ := h.2 0 p rfl
    have e : v = V.ref t := Option.some.inj h1
    subst e
    exact .cons (dp_pair h2) (dpAll_pairs (h.drop 1))
theorem lay_pairs : ∀ {ps : List (Int × Int)}, PyData.canLayAll0 (ps.map datP) = true
  | [] => rfl
  | p :: ps => by
    show ((true && (true && true)) && PyData.canLayAll0 (ps.map datP)) = true
    rw [lay_pairs]; rfl
theorem depth_pairs : ∀ {ps : List (Int × Int)}, PyData.depthAll (ps.map datP) ≤ 1
  | [] => by show 0 ≤ 1; decide
  | p :: ps => by
    show max (max 0 (max 0 0) + 1) (PyData.depthAll (ps.map datP)) ≤ 1
    have := depth_pairs (ps := ps)
    omega
theorem shaped_pairs {ps : List (Int × Int)} : SeqAt.shaped (.list (ps.map datP)) = true := by
  show (PyData.canLayAll0 (ps.map datP) && decide (PyData.depthAll (ps.map datP) + 1 ≤ 64)) = true
  have := depth_pairs (ps := ps)
  rw [lay_pairs, decide_eq_true (by omega)]; rfl
theorem eqv_pair {p q : Int × Int} : PyData.eqv (datP p) (datP q) = decide (p = q) := by
  show ((p.1 == q.1) && ((p.2 == q.2) && true)) = decide (p = q)
  rw [Bool.eq_iff_iff]
  simp [Prod.ext_iff]
theorem eqvAll_pairs : ∀ {ps qs : List (Int × Int)}, PyData.eqvAll (ps.map datP) (qs.map datP) = decide (ps = qs)
  | [], [] => rfl
  | [], _ :: _ => rfl
  | _ :: _, [] => rfl
  | p :: ps, q :: qs => by
    show (PyData.eqv (datP p) (datP q) && PyData.eqvAll (ps.map datP) (qs.map datP)) = decide (p :: ps = q :: qs)
    rw [eqvAll_pairs, eqv_pair, Bool.eq_iff_iff]
    simp
theorem g_nePL {Q : VK} {a b : Addr} {vs us : List V} {ps qs : List (Int × Int)} (h1 : SqL K H a vs) (p1 : Prs H vs ps) (h2 : SqL K H b us) (p2 : Prs H us qs) (q : Q (.bl (!decide (ps = qs))) H) : rNeD K (.ref a) (.ref b) H Q :=
  ⟨.list (ps.map datP), .list (qs.map datP), .lst h1 (dpAll_pairs p1), .lst h2 (dpAll_pairs p2), shaped_pairs, shaped_pairs, by rw [show PyData.eqv (.list (ps.map datP)) (.list (qs.map datP)) = decide (ps = qs) from eqvAll_pairs]; exact q⟩
theorem g_eqPL {Q : VK} {a b : Addr} {vs us : List V} {ps qs : List (Int × Int)} (h1 : SqL K H a vs) (p1 : Prs H vs ps) (h2 : SqL K H b us) (p2 : Prs H us qs) (q : Q (.bl (decide (ps = qs))) H) : rEqD K (.ref a) (.ref b) H Q :=
  ⟨.list (ps.map datP), .list (qs.map datP), .lst h1 (dpAll_pairs p1), .lst h2 (dpAll_pairs p2), shaped_pairs, shaped_pairs, by rw [show PyData.eqv (.list (ps.map datP)) (.list (qs.map datP)) = decide (ps = qs) from eqvAll_pairs]; exact q⟩
theorem g_neP {Q : VK} {a b : Addr} {p r : Int × Int} (h1 : H a = some (tupP p)) (h2 : H b = some (tupP r)) (q : Q (.bl (!decide (p = r))) H) : rNeD K (.ref a) (.ref b) H Q :=
  ⟨datP p, datP r, dp_pair h1, dp_pair h2, rfl, rfl, by rw [eqv_pair]; exact q⟩
end

/-! ### segments: as objects, and as the law's dicts -/
structure Sg where
  src : Int
  tgt : Int
  seq : Int
  cnt : Int
  echo : Option Int
  ack : Option Int
  syn : Bool
  fin : Bool
  reset : Bool
  marked : Bool
  cut : Bool
  window : Int
  mss : Option Int
  scale : Option Int
  rk : Bool
  rs : List (Int × Int)
  stamp : Option (Int × Int)
  ds : List Int
/-- None or an int -/
def oV : Option Int → V
  | none => .non
  | some i => .int i
/-- None or a pair -/
def StV (H : Hp) : V → Option (Int × Int) → Prop
  | v, none => v = .non
  | v, some p => ∃ t, v = .ref t ∧ H t = some (tupP p)
theorem StV.same {H H' : Hp} {v : V} {o : Option (Int × Int)} (h : StV H v o) (s : Same H H') : StV H' v o := by
  cases o with
  | none => exact h
  | some p =>
    obtain ⟨t, e, h⟩ := h
    exact ⟨t, e, s _ _ h⟩
theorem StV.butD {H H' : Hp} {v : V} {o : Option (Int × Int)} {a : Addr} {kvs : List (Key × V)} (h : StV H v o) (s : But a H H') (e : H a = some (.dK kvs)) : StV H' v o := by
  cases o with
  | none => exact h
  | some p =>
    obtain ⟨t, e1, h⟩ := h
    exact ⟨t, e1, s _ _ (fun z => by rw [z, e] at h; cases h) h⟩

/-- the lists and the stamp that belong to it -/
def SgP (H : Hp) (g : Sg) (da ra : Addr) (sv : V) : Prop := H da = some (.lst (g.ds.map V.int)) ∧ (∃ vs, H ra = some (.lst vs) ∧ Prs H vs g.rs) ∧ StV H sv g.stamp
theorem SgP.same {H H' : Hp} {g : Sg} {da ra : Addr} {sv : V} (h : SgP H g da ra sv) (s : Same H H') : SgP H' g da ra sv := by
  obtain ⟨h1, ⟨vs, h2, h3⟩, h4⟩ := h
  exact ⟨s _ _ h1, ⟨vs, s _ _ h2, h3.same s⟩, h4.same s⟩
def sgVs (g : Sg) (da ra : Addr) (sv : V) : List V := [.int g.src, .int g.tgt, .int g.seq, .int g.cnt, oV g.echo, oV g.ack, .bl g.syn, .bl g.fin, .bl g.reset, .bl g.marked, .bl g.cut, .int g.window, oV g.mss, oV g.scale, .bl g.rk, .ref ra, sv, .ref da]
/-- the segment g stands at p -/
def SegO (C : Addr) (H : Hp) (p : Addr) (g : Sg) (da ra : Addr) : Prop := ∃ dx sv, H p = some (.ins C dx (obj ky_Segment (sgVs g da ra sv))) ∧ SgP H g da ra sv
theorem SegO.same {C : Addr} {H H' : Hp} {p da ra : Addr} {g : Sg} (h : SegO C H p g da ra) (s : Same H H') : SegO C H' p g da ra := by
  obtain ⟨dx, sv, h1, h2⟩ := h
  exact ⟨dx, sv, s _ _ h1, h2.same s⟩
/-- the dict of the segment g stands at p -/
def SegD (H : Hp) (p : Addr) (g : Sg) (da ra : Addr) : Prop := ∃ sv, H p = some (.dK (dk kd_S [.int g.src, .int g.tgt, .int g.seq, .int g.cnt, oV g.echo, oV g.ack, .bl g.syn, .bl g.fin, .bl g.reset, .bl g.marked, .bl g.cut, .bl g.rk, .int g.window, oV g.mss, oV g.scale, .ref ra, sv, .ref da])) ∧ SgP H g da ra sv
theorem SegD.same {H H' : Hp} {p da ra : Addr} {g : Sg} (h : SegD H p g da ra) (s : Same H H') : SegD H' p g da ra := by
  obtain ⟨sv, h1, h2⟩ := h
  exact ⟨sv, s _ _ h1, h2.same s⟩
def sp_Segment_init__ (C : Addr) (K : PySem.W.Frag) : Sp := fun vs H Q _ => ∃ (p dx a1 a2 : Addr) (v1 v2 v3 v4 v5 v6 v7 v8 v9 v10 v11 v12 v13 v14 v15 v16 : V) (rs ds : List V),
  vs = [.ref p, v1, v2, v3, v4, v5, v6, v7, v8, v9, v10, v11, v12, v13, v14, v15, .ref a1, v16, .ref a2] ∧ H p = some (.ins C dx (obj ky_Segment [])) ∧ (∀ H', But p H H' → SqL K H' a1 rs ∨ SqT K H' a1 rs) ∧ (∀ H', But p H H' → SqL K H' a2 ds ∨ SqT K H' a2 ds) ∧
  ∀ r d H', d ≠ r → r ≠ p → d ≠ p → H r = none → H d = none → But p H H' → H' r = some (.lst rs) → H' d = some (.lst ds) → H' p = some (.ins C dx (obj ky_Segment [v1, v2, v3, v4, v5, v6, v7, v8, v9, v10, v11, v12, v13, v14, v15, .ref r, v16, .ref d])) → Q .non H'
theorem but_or {K : PySem.W.Frag} {p : Addr} {H H' : Hp} {a : Addr} {xs : List V} (e : But p H H') (n : a ≠ p) (h : SqL K H a xs ∨ SqT K H a xs) : SqL K H' a xs ∨ SqT K H' a xs := by
  rcases h with h | h
  · exact .inl (but_sq e n h)
  · refine .inr ?_
    rcases h with h | h
    · rcases h with h | h
      · exact .inl (.inl (e _ _ n h))
      · obtain ⟨o, h⟩ := h
        exact .inl (.inr ⟨o, e _ _ n h⟩)
    · exact .inr h
theorem But.free {p r : Addr} {H H' : Hp} (b : But p H H') (n : r ≠ p) (h : H' r = none) : H r = none := by
  cases e : H r with
  | none => rfl
  | some o =>
    have z := b r o n e
    rw [h] at z
    cases z
theorem upd_upd {H : Hp} {p : Addr} {o o' : HO} : upd (upd H p o) p o' = upd H p o' := by
  funext b
  by_cases e : b = p
  · rw [e, upd_same, upd_same]
  · rw [upd_ne e, upd_ne e, upd_ne e]


theorem ok_Segment_init__ (T : Txt K mg) : FnOk P w K mg base CX0 1 T.f_Segment_init__ T.d_Segment_init__ ["self", "source", "target", "seq", "count", "echo", "ack", "syn", "fin", "reset", "marked", "cut", "window", "mss", "scale", "ranges_known", "ranges", "stamp", "data"] (sp_Segment_init__ T.C_Segment K) := by
  refine T.F_Segment_init__.ok sc_Segment_init__ (fun vs H Q E h => ?_) (fun cdv A outer s H vs Q E hr h => ?_)
  · obtain ⟨p, dx, a1, a2, v1, v2, v3, v4, v5, v6, v7, v8, v9, v10, v11, v12, v13, v14, v15, v16, rs, ds, rfl, ho, h1, h2, q⟩ := h
    rfl
  · obtain ⟨p, dx, a1, a2, v1, v2, v3, v4, v5, v6, v7, v8, v9, v10, v11, v12, v13, v14, v15, v16, rs, ds, rfl, ho, h1, h2, q⟩ := h
    have hu := hu_of hr
    refine ⟨_, (pss_cons (ps_fld (pv 0) (pv 1) rfl)
        (pss_cons (ps_fld (pv 0) (pv 2) rfl)
        (pss_cons (ps_fld (pv 0) (pv 3) rfl)
        (pss_cons (ps_fld (pv 0) (pv 4) rfl)
        (pss_cons (ps_fld (pv 0) (pv 5) rfl)
        (pss_cons (ps_fld (pv 0) (pv 6) rfl)
        (pss_cons (ps_fld (pv 0) (pv 7) rfl)
        (pss_cons (ps_fld (pv 0) (pv 8) rfl)
        (pss_cons (ps_fld (pv 0) (pv 9) rfl)
        (pss_cons (ps_fld (pv 0) (pv 10) rfl)
        (pss_cons (ps_fld (pv 0) (pv 11) rfl)
        (pss_cons (ps_fld (pv 0) (pv 12) rfl)
        (pss_cons (ps_fld (pv 0) (pv 13) rfl)
        (pss_cons (ps_fld (pv 0) (pv 14) rfl)
        (pss_cons (ps_fld (pv 0) (pv 15) rfl)
        (pss_cons (ps_fld (pv 0) (pe_callTy call_list_of (by rfl) T.n_list (by decide +kernel) (pa_cons (pv 16) pa_nil)) rfl)
        (pss_cons (ps_fld (pv 0) (pv 17) rfl)
        (pss_one (ps_fld (pv 0) (pe_callTy call_list_of (by rfl) T.n_list (by decide +kernel) (pa_cons (pv 18) pa_nil)) rfl))))))))))))))))))), ?_⟩
    dsimp only [cxOf, Cx.nox, Cx.wish, L2.start, List.map, List.cons_append, List.nil_append, List.length_cons, List.length_nil, Nat.reduceAdd, Nat.reduceSub, Nat.zero_add, List.replicate_succ, List.replicate_zero]
    walk_at "go"
    simp only [upd_upd, List.nil_append, List.cons_append]
    have b1 : But p H (upd H p (.ins T.C_Segment dx (obj ky_Segment [v1, v2, v3, v4, v5, v6, v7, v8, v9, v10, v11, v12, v13, v14, v15]))) := But.refl.upd
    refine g_len (h1 _ b1) fun l1 nl1 => ?_
    have e1 : (upd H p (.ins T.C_Segment dx (obj ky_Segment [v1, v2, v3, v4, v5, v6, v7, v8, v9, v10, v11, v12, v13, v14, v15]))) p = some (.ins T.C_Segment dx (obj ky_Segment [v1, v2, v3, v4, v5, v6, v7, v8, v9, v10, v11, v12, v13, v14, v15])) := upd_same
    generalize upd H p (.ins T.C_Segment dx (obj ky_Segment [v1, v2, v3, v4, v5, v6, v7, v8, v9, v10, v11, v12, v13, v14, v15])) = H1 at b1 nl1 e1 ⊢
    have ne1 : l1 ≠ p := fun z => by rw [z, e1] at nl1; cases nl1
    have e1' := upd_keep (o := .lst rs) nl1 e1
    have s1 := same_upd (o := .lst rs) nl1
    have k1 : (upd H1 l1 (.lst rs)) l1 = some (.lst rs) := upd_same
    have b2 := b1.trans (But.of s1)
    have f1 := b1.free ne1 nl1
    generalize upd H1 l1 (.lst rs) = H2 at e1' s1 k1 b2 ⊢
    walk_at "go"
    simp only [upd_upd, List.nil_append, List.cons_append]
    have b3 : But p H2 (upd H2 p (.ins T.C_Segment dx (obj ky_Segment [v1, v2, v3, v4, v5, v6, v7, v8, v9, v10, v11, v12, v13, v14, v15, V.ref l1, v16]))) := But.refl.upd
    refine g_len (h2 _ (b2.trans b3)) fun l3 nl3 => ?_
    have e3 : (upd H2 p (.ins T.C_Segment dx (obj ky_Segment [v1, v2, v3, v4, v5, v6, v7, v8, v9, v10, v11, v12, v13, v14, v15, V.ref l1, v16]))) p = some (.ins T.C_Segment dx (obj ky_Segment [v1, v2, v3, v4, v5, v6, v7, v8, v9, v10, v11, v12, v13, v14, v15, V.ref l1, v16])) := upd_same
    generalize upd H2 p (.ins T.C_Segment dx (obj ky_Segment [v1, v2, v3, v4, v5, v6, v7, v8, v9, v10, v11, v12, v13, v14, v15, V.ref l1, v16])) = H3 at b3 nl3 e3 ⊢
    have ne3 : l3 ≠ p := fun z => by rw [z, e3] at nl3; cases nl3
    have e3' := upd_keep (o := .lst ds) nl3 e3
    have k3 : (upd H3 l3 (.lst ds)) l3 = some (.lst ds) := upd_same
    have b4 := b3.trans (But.of (same_upd (o := .lst ds) nl3))
    have f3 := (b2.trans b3).free ne3 nl3
    generalize upd H3 l3 (.lst ds) = H4 at e3' k3 b4 ⊢
    walk_at "go"
    have n31 : l3 ≠ l1 := fun z => by rw [z, b3 _ _ ne1 k1] at nl3; cases nl3
    refine q l1 l3 _ n31 ne1 ne3 f1 f3 (b2.trans b4).upd ?_ ?_ upd_same
    · rw [upd_ne ne1]; exact b4 _ _ ne1 k1
    · rw [upd_ne ne3]; exact k3

theorem g_makeK {C : Addr} {n m : Nat} {sp : Sp} {gV : List V → List V → List V} {E : XK} {t tk : TA} {σ : St} {H : Hp} {Q : VK} (h : t σ H fun vs H1 => tk σ H1 fun zs H2 => vs.length = n ∧ zs.length = m ∧
  ∀ x dx, H2 x = none → H2 dx = none → dx ≠ x → sp (gV (.ref x :: vs) zs) (upd (upd H2 dx (.own x)) x (.ins C dx [])) (fun v H3 => v = .non ∧ Q (.ref x) H3) E) : tMakeK C n m sp gV E t tk σ H Q := h
local macro_rules | `(tactic| walk_at "use") => `(tactic| with_reducible refine g_makeK ?_)

/-- the dict by its look-ups alone -/
structure SgK (kvs : List (Key × V)) (g : Sg) (da ra : Addr) (sv : V) : Prop where
  q_source : valV kvs (.inr "source") = some (.int g.src)
  q_target : valV kvs (.inr "target") = some (.int g.tgt)
  q_seq : valV kvs (.inr "seq") = some (.int g.seq)
  q_count : valV kvs (.inr "count") = some (.int g.cnt)
  q_echo : valV kvs (.inr "echo") = some (oV g.echo)
  q_ack : valV kvs (.inr "ack") = some (oV g.ack)
  q_syn : valV kvs (.inr "syn") = some (.bl g.syn)
  q_fin : valV kvs (.inr "fin") = some (.bl g.fin)
  q_reset : valV kvs (.inr "reset") = some (.bl g.reset)
  q_marked : valV kvs (.inr "marked") = some (.bl g.marked)
  q_cut : valV kvs (.inr "cut") = some (.bl g.cut)
  q_window : valV kvs (.inr "window") = some (.int g.window)
  q_mss : valV kvs (.inr "mss") = some (oV g.mss)
  q_scale : valV kvs (.inr "scale") = some (oV g.scale)
  q_ranges_known : valV kvs (.inr "ranges_known") = some (.bl g.rk)
  q_ranges : valV kvs (.inr "ranges") = some (.ref ra)
  q_stamp : valV kvs (.inr "stamp") = some (sv)
  q_data : valV kvs (.inr "data") = some (.ref da)
def SegL (H : Hp) (p : Addr) (g : Sg) (da ra : Addr) : Prop := ∃ kvs sv, H p = some (.dK kvs) ∧ SgK kvs g da ra sv ∧ SgP H g da ra sv
theorem SegL.same {H H' : Hp} {p da ra : Addr} {g : Sg} (h : SegL H p g da ra) (s : Same H H') : SegL H' p g da ra := by
  obtain ⟨kvs, sv, h1, h2, h3⟩ := h
  exact ⟨kvs, sv, s _ _ h1, h2, h3.same s⟩
theorem dk_val {ks : List Str} {vs : List V} {i : Nat} {k : Str} (nd : ks.Nodup) (h : ks[i]? = some k) : valV (dk ks vs) (.inr k) = vs[i]? := by
  unfold dk
  rw [val_map, obj_get nd h]
theorem g_dgetV {H : Hp} {a : Addr} {kvs : List (Key × V)} {k : Str} {v : V} {A : V → Prop} (ho : H a = some (.dK kvs)) (hv : valV kvs (.inr k) = some v) (q : A v) : ∃ a' v', V.ref a = .ref a' ∧ DGet H a' (.str k) (some v') ∧ A v' := by
  have z := DGet.k (k := .inr k) ho
  rw [hv] at z
  exact ⟨a, v, rfl, z, q⟩
def vsS (g : Sg) (da ra : Addr) (sv : V) : List V := [.int g.src, .int g.tgt, .int g.seq, .int g.cnt, oV g.echo, oV g.ack, .bl g.syn, .bl g.fin, .bl g.reset, .bl g.marked, .bl g.cut, .bl g.rk, .int g.window, oV g.mss, oV g.scale, .ref ra, sv, .ref da]
theorem look_S {H : Hp} {p da ra : Addr} {sv : V} {g : Sg} (e : H p = some (.dK (dk kd_S (vsS g da ra sv)))) (hp : SgP H g da ra sv) : SegL H p g da ra :=
  ⟨_, sv, e, ⟨dk_val (i := 0) ndd_S rfl, dk_val (i := 1) ndd_S rfl, dk_val (i := 2) ndd_S rfl, dk_val (i := 3) ndd_S rfl, dk_val (i := 4) ndd_S rfl, dk_val (i := 5) ndd_S rfl, dk_val (i := 6) ndd_S rfl, dk_val (i := 7) ndd_S rfl, dk_val (i := 8) ndd_S rfl, dk_val (i := 9) ndd_S rfl, dk_val (i := 10) ndd_S rfl, dk_val (i := 12) ndd_S rfl, dk_val (i := 13) ndd_S rfl, dk_val (i := 14) ndd_S rfl, dk_val (i := 11) ndd_S rfl, dk_val (i := 15) ndd_S rfl, dk_val (i := 16) ndd_S rfl, dk_val (i := 17) ndd_S rfl⟩, hp⟩
def vsN (g : Sg) (da ra : Addr) (sv : V) : List V := [.int g.src, .int g.tgt, .int g.seq, .int g.cnt, oV g.echo, oV g.ack, .bl g.syn, .bl g.fin, .bl g.reset, .bl g.marked, .bl g.cut, .int g.window, oV g.mss, oV g.scale, .bl g.rk, .ref ra, sv, .ref da]
theorem look_N {H : Hp} {p da ra : Addr} {sv : V} {g : Sg} (e : H p = some (.dK (dk kd_N (vsN g da ra sv)))) (hp : SgP H g da ra sv) : SegL H p g da ra :=
  ⟨_, sv, e, ⟨dk_val (i := 0) ndd_N rfl, dk_val (i := 1) ndd_N rfl, dk_val (i := 2) ndd_N rfl, dk_val (i := 3) ndd_N rfl, dk_val (i := 4) ndd_N rfl, dk_val (i := 5) ndd_N rfl, dk_val (i := 6) ndd_N rfl, dk_val (i := 7) ndd_N rfl, dk_val (i := 8) ndd_N rfl, dk_val (i := 9) ndd_N rfl, dk_val (i := 10) ndd_N rfl, dk_val (i := 11) ndd_N rfl, dk_val (i := 12) ndd_N rfl, dk_val (i := 13) ndd_N rfl, dk_val (i := 14) ndd_N rfl, dk_val (i := 15) ndd_N rfl, dk_val (i := 16) ndd_N rfl, dk_val (i := 17) ndd_N rfl⟩, hp⟩
def vsL (g : Sg) (da ra : Addr) (sv : V) : List V := [.int g.src, .int g.tgt, .int g.seq, .int g.cnt, oV g.echo, oV g.ack, oV g.mss, oV g.scale, sv, .bl g.syn, .bl g.fin, .bl g.reset, .bl g.marked, .bl g.cut, .bl g.rk, .int g.window, .ref ra, .ref da]
theorem look_L {H : Hp} {p da ra : Addr} {sv : V} {g : Sg} (e : H p = some (.dK (dk kd_L (vsL g da ra sv)))) (hp : SgP H g da ra sv) : SegL H p g da ra :=
  ⟨_, sv, e, ⟨dk_val (i := 0) ndd_L rfl, dk_val (i := 1) ndd_L rfl, dk_val (i := 2) ndd_L rfl, dk_val (i := 3) ndd_L rfl, dk_val (i := 4) ndd_L rfl, dk_val (i := 5) ndd_L rfl, dk_val (i := 9) ndd_L rfl, dk_val (i := 10) ndd_L rfl, dk_val (i := 11) ndd_L rfl, dk_val (i := 12) ndd_L rfl, dk_val (i := 13) ndd_L rfl, dk_val (i := 15) ndd_L rfl, dk_val (i := 6) ndd_L rfl, dk_val (i := 7) ndd_L rfl, dk_val (i := 14) ndd_L rfl, dk_val (i := 16) ndd_L rfl, dk_val (i := 8) ndd_L rfl, dk_val (i := 17) ndd_L rfl⟩, hp⟩
theorem SegD.look {H : Hp} {p da ra : Addr} {g : Sg} (h : SegD H p g da ra) : SegL H p g da ra := by
  obtain ⟨sv, e, hp⟩ := h
  exact look_S e hp
theorem SgP.butD {H H' : Hp} {g : Sg} {da ra a : Addr} {sv : V} {kvs : List (Key × V)} (h : SgP H g da ra sv) (s : But a H H') (e : H a = some (.dK kvs)) : SgP H' g da ra sv := by
  obtain ⟨h1, ⟨vs, h2, h3⟩, h4⟩ := h
  exact ⟨s _ _ (fun z => by rw [z, e] at h1; cases h1) h1, ⟨vs, s _ _ (fun z => by rw [z, e] at h2; cases h2) h2, h3.butD s e⟩, h4.butD s e⟩

local macro_rules | `(tactic| walk_at "use") => `(tactic| with_reducible first | refine g_dgetT ?_ | refine g_dgetV (by assumption) (by assumption) ?_)
def sp_l_made (C : Addr) : Sp := fun vs H Q _ => ∃ (p da ra : Addr) (g : Sg), vs = [.ref p] ∧ SegL H p g da ra ∧ ∀ x d r H', H x = none → H d = none → H r = none → d ≠ x → r ≠ x → d ≠ r → Same H H' → SegO C H' x g d r → Q (.ref x) H'
theorem u_made {C p da ra : Addr} {g : Sg} {H Q E} (h : SegL H p g da ra) (q : ∀ x d r H', H x = none → H d = none → H r = none → d ≠ x → r ≠ x → d ≠ r → Same H H' → SegO C H' x g d r → Q (.ref x) H') : sp_l_made C ([.ref p] ++ []) H Q E := ⟨p, da, ra, g, rfl, h, q⟩
theorem kbt_0 {K : PySem.W.Frag} {mg : Str → Option Value} (T : Txt K mg) : ∃ g, KBn K T.d_Segment_init__ ["self", "source", "target", "seq", "count", "echo", "ack", "syn", "fin", "reset", "marked", "cut", "window", "mss", "scale", "ranges_known", "ranges", "stamp", "data"] 3 ["seq", "count", "echo", "ack", "syn", "fin", "reset", "marked", "cut", "window", "mss", "scale", "ranges_known", "ranges", "stamp", "data"] g (fun vs zs => vs ++ ((zs.drop 0).take 1 ++ ((zs.drop 1).take 1 ++ ((zs.drop 2).take 1 ++ ((zs.drop 3).take 1 ++ ((zs.drop 4).take 1 ++ ((zs.drop 5).take 1 ++ ((zs.drop 6).take 1 ++ ((zs.drop 7).take 1 ++ ((zs.drop 8).take 1 ++ ((zs.drop 9).take 1 ++ ((zs.drop 10).take 1 ++ ((zs.drop 11).take 1 ++ ((zs.drop 12).take 1 ++ ((zs.drop 13).take 1 ++ ((zs.drop 14).take 1 ++ ((zs.drop 15).take 1))))))))))))))))) := by
  obtain ⟨mv, h⟩ := T.F_Segment_init__.kbinds0 (ps := ["self", "source", "target", "seq", "count", "echo", "ack", "syn", "fin", "reset", "marked", "cut", "window", "mss", "scale", "ranges_known", "ranges", "stamp", "data"]) 3 ["seq", "count", "echo", "ack", "syn", "fin", "reset", "marked", "cut", "window", "mss", "scale", "ranges_known", "ranges", "stamp", "data"] [] (fun vs mz zs => vs ++ ((zs.drop 0).take 1 ++ ((zs.drop 1).take 1 ++ ((zs.drop 2).take 1 ++ ((zs.drop 3).take 1 ++ ((zs.drop 4).take 1 ++ ((zs.drop 5).take 1 ++ ((zs.drop 6).take 1 ++ ((zs.drop 7).take 1 ++ ((zs.drop 8).take 1 ++ ((zs.drop 9).take 1 ++ ((zs.drop 10).take 1 ++ ((zs.drop 11).take 1 ++ ((zs.drop 12).take 1 ++ ((zs.drop 13).take 1 ++ ((zs.drop 14).take 1 ++ ((zs.drop 15).take 1))))))))))))))))) (by intro h; cases h) (fun q hq => List.Sublist.mem hq (.cons _ (.cons _ (.cons _ (.cons _ (.cons _ (.cons _ (.cons _ (.cons _ (.cons _ (.cons _ (.cons _ (.cons _ (.cons _ (.cons _ (.slnil)))))))))))))))) (fun r1 r2 r3 => r1.append (((r3.drop 0).take 1).append (((r3.drop 1).take 1).append (((r3.drop 2).take 1).append (((r3.drop 3).take 1).append (((r3.drop 4).take 1).append (((r3.drop 5).take 1).append (((r3.drop 6).take 1).append (((r3.drop 7).take 1).append (((r3.drop 8).take 1).append (((r3.drop 9).take 1).append (((r3.drop 10).take 1).append (((r3.drop 11).take 1).append (((r3.drop 12).take 1).append (((r3.drop 13).take 1).append (((r3.drop 14).take 1).append ((r3.drop 15).take 1))))))))))))))))) (fun D doc pm an cdv ct us mv ws l1 l2 l3 => match us, l1, mv, l2, ws, l3 with | [_, _, _], _, [], _, [_, _, _, _, _, _, _, _, _, _, _, _, _, _, _, _], _ => (by show _ = _; kernel_rfl))
  exact ⟨_, h⟩
theorem ok_l_made (T : Txt K mg) : FnOk P w K mg base CX0 3 T.f_l_made T.d_l_made ["parts"] (sp_l_made T.C_Segment) := by
  refine T.F_l_made.ok sc_l_made (fun vs H Q E h => ?_) (fun cdv A outer s H vs Q E hr h => ?_)
  · obtain ⟨p, da, ra, g, rfl, ⟨kvs, sv, hd, hk, hda, ⟨vs, hra, hP⟩, hsv⟩, q⟩ := h
    rfl
  · obtain ⟨p, da, ra, g, rfl, ⟨kvs, sv, hd, hk, hda, ⟨vs, hra, hP⟩, hsv⟩, q⟩ := h
    have hu := hu_of hr
    obtain ⟨gk_0, kb_0⟩ := kbt_0 T
    refine ⟨_, (pss_one (ps_ret (pe_makeK T.mk_Segment (ok_Segment_init__ T) (hr.mono (by decide)) rfl T.c_Segment kb_0 pass0 (pa_cons (pe_dget hu (pv 0) pe_str (fun _ _ => rfl)) (pa_cons (pe_dget hu (pv 0) pe_str (fun _ _ => rfl)) pa_nil)) (pk_cons (pe_dget hu (pv 0) pe_str (fun _ _ => rfl)) (pk_cons (pe_dget hu (pv 0) pe_str (fun _ _ => rfl)) (pk_cons (pe_dget hu (pv 0) pe_str (fun _ _ => rfl)) (pk_cons (pe_dget hu (pv 0) pe_str (fun _ _ => rfl)) (pk_cons (pe_dget hu (pv 0) pe_str (fun _ _ => rfl)) (pk_cons (pe_dget hu (pv 0) pe_str (fun _ _ => rfl)) (pk_cons (pe_dget hu (pv 0) pe_str (fun _ _ => rfl)) (pk_cons (pe_dget hu (pv 0) pe_str (fun _ _ => rfl)) (pk_cons (pe_dget hu (pv 0) pe_str (fun _ _ => rfl)) (pk_cons (pe_dget hu (pv 0) pe_str (fun _ _ => rfl)) (pk_cons (pe_dget hu (pv 0) pe_str (fun _ _ => rfl)) (pk_cons (pe_dget hu (pv 0) pe_str (fun _ _ => rfl)) (pk_cons (pe_dget hu (pv 0) pe_str (fun _ _ => rfl)) (pk_cons (pe_callTy call_list_of (by rfl) T.n_list (by decide +kernel) (pa_cons (pe_dget hu (pv 0) pe_str (fun _ _ => rfl)) pa_nil)) (pk_cons (pe_dget hu (pv 0) pe_str (fun _ _ => rfl)) (pk_cons (pe_callTy call_list_of (by rfl) T.n_list (by decide +kernel) (pa_cons (pe_dget hu (pv 0) pe_str (fun _ _ => rfl)) pa_nil)) pk_nil))))))))))))))))))), ?_⟩
    dsimp only [cxOf, Cx.nox, Cx.wish, L2.start, List.map, List.cons_append, List.nil_append, List.length_cons, List.length_nil, Nat.reduceAdd, Nat.reduceSub, Nat.zero_add, List.replicate_succ, List.replicate_zero]
    obtain ⟨q1, q2, q3, q4, q5, q6, q7, q8, q9, q10, q11, q12, q13, q14, q15, q16, q17, q18⟩ := hk
    walk_at "go"
    refine g_len (.inl (sl hra)) fun l1 nl1 => ?_
    have s1 := same_upd (o := .lst vs) nl1
    have k1 : (upd H l1 (.lst vs)) l1 = some (.lst vs) := upd_same
    have hd1 := s1 _ _ hd
    have hda1 := s1 _ _ hda
    generalize upd H l1 (.lst vs) = H1 at s1 k1 hd1 hda1 ⊢
    clear hd hda
    walk_at "go"
    refine g_len (.inl (sl hda1)) fun l2 nl2 => ?_
    have s2 := same_upd (o := .lst (g.ds.map V.int)) nl2
    have k2 : (upd H1 l2 (.lst (g.ds.map V.int))) l2 = some (.lst (g.ds.map V.int)) := upd_same
    have n21 : l2 ≠ l1 := fun z => by rw [z, k1] at nl2; cases nl2
    have k1' := s2 _ _ k1
    have s12 := s1.trans s2
    generalize upd H1 l2 (.lst (g.ds.map V.int)) = H2 at s12 k1' k2 ⊢
    walk_at "go"
    refine ⟨rfl, rfl, fun x dx nx ndx nxd => ?_⟩
    have bx : But x H2 (upd (upd H2 dx (.own x)) x (.ins T.C_Segment dx [])) := ((But.of (same_upd (o := .own x) ndx))).upd
    have n1x : l1 ≠ x := fun z => by rw [← z, k1'] at nx; cases nx
    have n2x : l2 ≠ x := fun z => by rw [← z, k2] at nx; cases nx
    refine ⟨x, dx, l1, l2, _, _, _, _, _, _, _, _, _, _, _, _, _, _, _, _, _, _, rfl, upd_same, (fun H' b => but_or b n1x (.inl (sl (bx _ _ n1x k1')))), (fun H' b => but_or b n2x (.inl (sl (bx _ _ n2x k2)))), fun r d H' nrd nr nd fr fd b er ed e => ⟨rfl, ?_⟩⟩
    have sm : Same H H' := s12.trans ((bx.trans b).same nx)
    have fx := s12.free nx
    have fr' := s12.free ((bx.same nx).free fr)
    have fd' := s12.free ((bx.same nx).free fd)
    exact q x d r H' fx fd' fr' nd nr nrd sm ⟨dx, sv, e, ed, ⟨vs, er, hP.same sm⟩, hsv.same sm⟩

end
end My
namespace My
open PySem PySem.Spec L2
local macro_rules | `(tactic| walk_at "side") => `(tactic| first | assumption | decide | omega | exact ⟨by decide, by decide⟩ | exact ⟨by decide, by decide, by decide⟩ | decide +kernel | exact cdivW (by decide +kernel) (by decide +kernel) | exact Or.inl ⟨by omega, by omega⟩ | exact Or.inr ⟨by omega, by omega⟩ | (simp only [List.length_map, List.length_cons, List.length_nil, List.length_append]; omega))
local macro_rules | `(tactic| walk_at "fact") => `(tactic| first | assumption | omega | with_reducible rfl)
local macro_rules | `(tactic| walk_at "use") => `(tactic| fail "use")
local macro_rules | `(tactic| walk_at "go1") => `(tactic| with_reducible first | refine g_seq ?_ | refine g_asg ?_ | refine g_ret ?_ | refine g_ifS ?_ | refine g_drop ?_ | refine g_star ?_ | refine g_nx ?_ | refine g_rt ?_ | refine g_bkE ?_ | refine g_ctE ?_ | refine g_next ?_ | refine g_retN ?_ | refine g_brk ?_ | refine g_ct ?_ | refine g_c ?_ | refine g_op ?_ | refine g_un ?_ | refine g_rI0 ?_ | refine g_rU ?_ | refine g_rEqI ?_ | refine g_rNeI ?_ | refine g_isN ?_ | refine g_rIsB ?_ | refine g_rNotB ?_ | refine g_test ?_ | refine g_B ?_ | refine g_bl ?_ | refine g_and ?_ | refine g_or ?_ | refine g_not ?_ | refine g_andV ?_ | refine g_orV ?_ | refine g_notV ?_ | refine g_if ?_ | refine g_chain ?_ | refine g_yes ?_ | refine g_lc ?_ | refine g_revR ?_ | refine g_rng1 ?_ | refine g_iList ?_ | refine g_nil ?_ | refine g_cons ?_ | refine g_tup ?_ | refine g_lst ?_ | refine g_call ?_ | refine g_CB ?_ | refine g_sl ?_ | refine g_noPart ?_ | refine g_part ?_ | refine g_intE ?_ | refine g_ref ?_ | refine g_fld ?_ | refine g_sfld ?_ | refine g_meth ?_ | refine g_make ?_ | refine g_prop ?_  | refine g_ipI ?_ | refine g_int1 ?_ | refine g_int1B ?_ | refine g_one ?_ | refine g_two ?_ | refine g_isiI ?_ | refine g_isiIB ?_ | refine g_isiB ?_ | refine g_BM ?_ | refine g_BM0 ?_ | refine g_sub ?_)
local macro_rules | `(tactic| walk_at "go") => `(tactic| repeat (first | walk_at "go1" | ((with_reducible refine' g_nameE ?sd_ ?_); case sd_ => dsimp only [List.set_cons_succ, List.set_cons_zero]) | ((with_reducible refine' g_var ?sd_ ?_); case sd_ => exact rfl) | ((with_reducible refine' g_aug ?sd_ ?_); case sd_ => exact rfl) | ((with_reducible refine' g_rI ?sd_ ?_); case sd_ => walk_at "side") | ((with_reducible refine' g_dT ?sd_ ?_); case sd_ => walk_at "fact") | ((with_reducible refine' g_dF ?sd_ ?_); case sd_ => walk_at "fact") | ((with_reducible refine' g_nT ?sd_ ?_); case sd_ => walk_at "fact") | ((with_reducible refine' g_nF ?sd_ ?_); case sd_ => walk_at "fact") | (with_reducible refine g_iT rfl ?_) | (with_reducible refine g_iF rfl ?_) | walk_at "use"))
local macro_rules | `(tactic| walk_at "use") => `(tactic| first | ((with_reducible refine' fd_Segment_source ?ho_ ?hv_ ?_); (case ho_ => first | assumption | exact upd_same); (case hv_ => exact rfl)) | ((with_reducible refine' fd_Segment_target ?ho_ ?hv_ ?_); (case ho_ => first | assumption | exact upd_same); (case hv_ => exact rfl)) | ((with_reducible refine' fd_Segment_seq ?ho_ ?hv_ ?_); (case ho_ => first | assumption | exact upd_same); (case hv_ => exact rfl)) | ((with_reducible refine' fd_Segment_count ?ho_ ?hv_ ?_); (case ho_ => first | assumption | exact upd_same); (case hv_ => exact rfl)) | ((with_reducible refine' fd_Segment_echo ?ho_ ?hv_ ?_); (case ho_ => first | assumption | exact upd_same); (case hv_ => exact rfl)) | ((with_reducible refine' fd_Segment_ack ?ho_ ?hv_ ?_); (case ho_ => first | assumption | exact upd_same); (case hv_ => exact rfl)) | ((with_reducible refine' fd_Segment_syn ?ho_ ?hv_ ?_); (case ho_ => first | assumption | exact upd_same); (case hv_ => exact rfl)) | ((with_reducible refine' fd_Segment_fin ?ho_ ?hv_ ?_); (case ho_ => first | assumption | exact upd_same); (case hv_ => exact rfl)) | ((with_reducible refine' fd_Segment_reset ?ho_ ?hv_ ?_); (case ho_ => first | assumption | exact upd_same); (case hv_ => exact rfl)) | ((with_reducible refine' fd_Segment_marked ?ho_ ?hv_ ?_); (case ho_ => first | assumption | exact upd_same); (case hv_ => exact rfl)) | ((with_reducible refine' fd_Segment_cut ?ho_ ?hv_ ?_); (case ho_ => first | assumption | exact upd_same); (case hv_ => exact rfl)) | ((with_reducible refine' fd_Segment_window ?ho_ ?hv_ ?_); (case ho_ => first | assumption | exact upd_same); (case hv_ => exact rfl)) | ((with_reducible refine' fd_Segment_mss ?ho_ ?hv_ ?_); (case ho_ => first | assumption | exact upd_same); (case hv_ => exact rfl)) | ((with_reducible refine' fd_Segment_scale ?ho_ ?hv_ ?_); (case ho_ => first | assumption | exact upd_same); (case hv_ => exact rfl)) | ((with_reducible refine' fd_Segment_ranges_known ?ho_ ?hv_ ?_); (case ho_ => first | assumption | exact upd_same); (case hv_ => exact rfl)) | ((with_reducible refine' fd_Segment_ranges ?ho_ ?hv_ ?_); (case ho_ => first | assumption | exact upd_same); (case hv_ => exact rfl)) | ((with_reducible refine' fd_Segment_stamp ?ho_ ?hv_ ?_); (case ho_ => first | assumption | exact upd_same); (case hv_ => exact rfl)) | ((with_reducible refine' fd_Segment_data ?ho_ ?hv_ ?_); (case ho_ => first | assumption | exact upd_same); (case hv_ => exact rfl)) | ((with_reducible refine' nw_Segment_source ?ho_ ?hv_ ?_); (case ho_ => first | assumption | exact upd_same); (case hv_ => exact rfl)) | ((with_reducible refine' nw_Segment_target ?ho_ ?hv_ ?_); (case ho_ => first | assumption | exact upd_same); (case hv_ => exact rfl)) | ((with_reducible refine' nw_Segment_seq ?ho_ ?hv_ ?_); (case ho_ => first | assumption | exact upd_same); (case hv_ => exact rfl)) | ((with_reducible refine' nw_Segment_count ?ho_ ?hv_ ?_); (case ho_ => first | assumption | exact upd_same); (case hv_ => exact rfl)) | ((with_reducible refine' nw_Segment_echo ?ho_ ?hv_ ?_); (case ho_ => first | assumption | exact upd_same); (case hv_ => exact rfl)) | ((with_reducible refine' nw_Segment_ack ?ho_ ?hv_ ?_); (case ho_ => first | assumption | exact upd_same); (case hv_ => exact rfl)) | ((with_reducible refine' nw_Segment_syn ?ho_ ?hv_ ?_); (case ho_ => first | assumption | exact upd_same); (case hv_ => exact rfl)) | ((with_reducible refine' nw_Segment_fin ?ho_ ?hv_ ?_); (case ho_ => first | assumption | exact upd_same); (case hv_ => exact rfl)) | ((with_reducible refine' nw_Segment_reset ?ho_ ?hv_ ?_); (case ho_ => first | assumption | exact upd_same); (case hv_ => exact rfl)) | ((with_reducible refine' nw_Segment_marked ?ho_ ?hv_ ?_); (case ho_ => first | assumption | exact upd_same); (case hv_ => exact rfl)) | ((with_reducible refine' nw_Segment_cut ?ho_ ?hv_ ?_); (case ho_ => first | assumption | exact upd_same); (case hv_ => exact rfl)) | ((with_reducible refine' nw_Segment_window ?ho_ ?hv_ ?_); (case ho_ => first | assumption | exact upd_same); (case hv_ => exact rfl)) | ((with_reducible refine' nw_Segment_mss ?ho_ ?hv_ ?_); (case ho_ => first | assumption | exact upd_same); (case hv_ => exact rfl)) | ((with_reducible refine' nw_Segment_scale ?ho_ ?hv_ ?_); (case ho_ => first | assumption | exact upd_same); (case hv_ => exact rfl)) | ((with_reducible refine' nw_Segment_ranges_known ?ho_ ?hv_ ?_); (case ho_ => first | assumption | exact upd_same); (case hv_ => exact rfl)) | ((with_reducible refine' nw_Segment_ranges ?ho_ ?hv_ ?_); (case ho_ => first | assumption | exact upd_same); (case hv_ => exact rfl)) | ((with_reducible refine' nw_Segment_stamp ?ho_ ?hv_ ?_); (case ho_ => first | assumption | exact upd_same); (case hv_ => exact rfl)) | ((with_reducible refine' nw_Segment_data ?ho_ ?hv_ ?_); (case ho_ => first | assumption | exact upd_same); (case hv_ => exact rfl)) | ((with_reducible refine' st_Segment_source ?ho_ ?hv_ ?_); (case ho_ => first | assumption | exact upd_same); (case hv_ => exact Nat.le_of_ble_eq_true rfl)) | ((with_reducible refine' st_Segment_target ?ho_ ?hv_ ?_); (case ho_ => first | assumption | exact upd_same); (case hv_ => exact Nat.le_of_ble_eq_true rfl)) | ((with_reducible refine' st_Segment_seq ?ho_ ?hv_ ?_); (case ho_ => first | assumption | exact upd_same); (case hv_ => exact Nat.le_of_ble_eq_true rfl)) | ((with_reducible refine' st_Segment_count ?ho_ ?hv_ ?_); (case ho_ => first | assumption | exact upd_same); (case hv_ => exact Nat.le_of_ble_eq_true rfl)) | ((with_reducible refine' st_Segment_echo ?ho_ ?hv_ ?_); (case ho_ => first | assumption | exact upd_same); (case hv_ => exact Nat.le_of_ble_eq_true rfl)) | ((with_reducible refine' st_Segment_ack ?ho_ ?hv_ ?_); (case ho_ => first | assumption | exact upd_same); (case hv_ => exact Nat.le_of_ble_eq_true rfl)) | ((with_reducible refine' st_Segment_syn ?ho_ ?hv_ ?_); (case ho_ => first | assumption | exact upd_same); (case hv_ => exact Nat.le_of_ble_eq_true rfl)) | ((with_reducible refine' st_Segment_fin ?ho_ ?hv_ ?_); (case ho_ => first | assumption | exact upd_same); (case hv_ => exact Nat.le_of_ble_eq_true rfl)) | ((with_reducible refine' st_Segment_reset ?ho_ ?hv_ ?_); (case ho_ => first | assumption | exact upd_same); (case hv_ => exact Nat.le_of_ble_eq_true rfl)) | ((with_reducible refine' st_Segment_marked ?ho_ ?hv_ ?_); (case ho_ => first | assumption | exact upd_same); (case hv_ => exact Nat.le_of_ble_eq_true rfl)) | ((with_reducible refine' st_Segment_cut ?ho_ ?hv_ ?_); (case ho_ => first | assumption | exact upd_same); (case hv_ => exact Nat.le_of_ble_eq_true rfl)) | ((with_reducible refine' st_Segment_window ?ho_ ?hv_ ?_); (case ho_ => first | assumption | exact upd_same); (case hv_ => exact Nat.le_of_ble_eq_true rfl)) | ((with_reducible refine' st_Segment_mss ?ho_ ?hv_ ?_); (case ho_ => first | assumption | exact upd_same); (case hv_ => exact Nat.le_of_ble_eq_true rfl)) | ((with_reducible refine' st_Segment_scale ?ho_ ?hv_ ?_); (case ho_ => first | assumption | exact upd_same); (case hv_ => exact Nat.le_of_ble_eq_true rfl)) | ((with_reducible refine' st_Segment_ranges_known ?ho_ ?hv_ ?_); (case ho_ => first | assumption | exact upd_same); (case hv_ => exact Nat.le_of_ble_eq_true rfl)) | ((with_reducible refine' st_Segment_ranges ?ho_ ?hv_ ?_); (case ho_ => first | assumption | exact upd_same); (case hv_ => exact Nat.le_of_ble_eq_true rfl)) | ((with_reducible refine' st_Segment_stamp ?ho_ ?hv_ ?_); (case ho_ => first | assumption | exact upd_same); (case hv_ => exact Nat.le_of_ble_eq_true rfl)) | ((with_reducible refine' st_Segment_data ?ho_ ?hv_ ?_); (case ho_ => first | assumption | exact upd_same); (case hv_ => exact Nat.le_of_ble_eq_true rfl)) | ((with_reducible refine' me_Segment_eq__ ?ho_ ?_); (case ho_ => first | assumption | exact upd_same)) | ((with_reducible refine' me_Segment_parts ?ho_ ?_); (case ho_ => first | assumption | exact upd_same)))
section
variable {P : Program} {w : World} {K : PySem.W.Frag} {mg : Str → Option Value} {base : Heap}
def sp_l_is_integer (K : PySem.W.Frag) : Sp := fun vs H Q _ => ∃ (n : Int), vs = [.int n] ∧ Q (.bl true) H
theorem u_isint {n : Int} {H Q E} (q : Q (.bl true) H) : sp_l_is_integer K ([.int n] ++ []) H Q E := ⟨n, rfl, q⟩
theorem ok_l_is_integer (T : Txt K mg) : FnOk P w K mg base CX0 1 T.f_l_is_integer T.d_l_is_integer ["actual"] (sp_l_is_integer K) := by
  refine T.F_l_is_integer.ok sc_l_is_integer (fun vs H Q E h => ?_) (fun cdv A outer s H vs Q E hr h => ?_)
  · obtain ⟨n, rfl, q⟩ := h
    rfl
  · obtain ⟨n, rfl, q⟩ := h
    have hu := hu_of hr
    refine ⟨_, (pss_one (ps_ret (pe_and (pe_callB call_isi (by rfl) T.n_isinstance (by decide +kernel) (pa_cons (pv 0) (pa_cons (pe_bltn (v := .ty "int") (by rfl) T.n_int (by decide +kernel) rfl) pa_nil))) (pe_one (pe_not (pe_callB call_isi (by rfl) T.n_isinstance (by decide +kernel) (pa_cons (pv 0) (pa_cons (pe_bltn (v := .ty "bool") (by rfl) T.n_bool (by decide +kernel) rfl) pa_nil)))))))), ?_⟩
    dsimp only [cxOf, Cx.nox, Cx.wish, L2.start, List.map, List.cons_append, List.nil_append, List.length_cons, List.length_nil, Nat.reduceAdd, Nat.reduceSub, Nat.zero_add, List.replicate_succ, List.replicate_zero]
    walk_at "go"
    exact q
local macro_rules | `(tactic| walk_at "use") => `(tactic| with_reducible refine u_isint ?_)

def sp_l_octets (K : PySem.W.Frag) : Sp := fun vs H Q _ => ∃ (a b : Addr) (ns : List Int), vs = [.ref a, .ref b] ∧ H a = some (.lst (ns.map V.int)) ∧ SqL K H b (ns.map V.int) ∧ ns.length ≤ 1000 ∧ Q (.bl true) H
theorem u_octets {a b : Addr} {ns : List Int} {H Q E} (h1 : H a = some (.lst (ns.map V.int))) (h2 : SqL K H b (ns.map V.int)) (h3 : ns.length ≤ 1000) (q : Q (.bl true) H) : sp_l_octets K ([.ref a, .ref b] ++ []) H Q E := ⟨a, b, ns, rfl, h1, h2, h3, q⟩
theorem ok_l_octets (T : Txt K mg) : FnOk P w K mg base CX0 2 T.f_l_octets T.d_l_octets ["actual", "expected"] (sp_l_octets K) := by
  refine T.F_l_octets.ok sc_l_octets (fun vs H Q E h => ?_) (fun cdv A outer s H vs Q E hr h => ?_)
  · obtain ⟨a, b, ns, rfl, h1, h2, h3, q⟩ := h
    rfl
  · obtain ⟨a, b, ns, rfl, h1, h2, h3, q⟩ := h
    have hu := hu_of hr
    refine ⟨_, (pss_cons (ps_if (PW.pt (pw_or (pt_not (pt_val (pe_callB call_isi (by rfl) T.n_isinstance (by decide +kernel) (pa_cons (pv 0) (pa_cons (pe_bltn (v := .ty "list") (by rfl) T.n_list (by decide +kernel) rfl) pa_nil))))) (pw_or1 (pt_cmpR op_ne (pe_callB call_len_seq (by rfl) T.n_len (by decide +kernel) (pa_cons (pv 0) pa_nil)) (pe_callB call_len_seq (by rfl) T.n_len (by decide +kernel) (pa_cons (pv 1) pa_nil)) (nomark _))))) (pss_one (ps_ret pe_bl)) pss_nil)
        (pss_cons (ps_for PassesOwn.never rfl (pi_range1 (by rfl) T.n_range (pa_cons (pe_callB call_len_seq (by rfl) T.n_len (by decide +kernel) (pa_cons (pv 1) pa_nil)) pa_nil)) (pg_name (i := 2) sc_l_octets.nd rfl (Or.inl rfl)) (pss_one (ps_if (PW.pt (pw_or (pt_not (pt_val (pe_call (ok_l_is_integer T) (hr.mono (by decide)) rfl T.m_l_is_integer T.F_l_is_integer.kp T.b_l_is_integer .nil pass0 (pa_cons (pe_ix ix_list (pv 0) (pv 2) (fun _ _ => rfl)) pa_nil)))) (pw_or1 (pt_cmpR op_ne (pe_ix ix_list (pv 0) (pv 2) (fun _ _ => rfl)) (pe_ix ix_list (pv 1) (pv 2) (fun _ _ => rfl)) (nomark _))))) (pss_one (ps_ret pe_bl)) pss_nil)))
        (pss_one (ps_ret pe_bl)))), ?_⟩
    dsimp only [cxOf, Cx.nox, Cx.wish, L2.start, List.map, List.cons_append, List.nil_append, List.length_cons, List.length_nil, Nat.reduceAdd, Nat.reduceSub, Nat.zero_add, List.replicate_succ, List.replicate_zero]
    walk_at "go"
    refine g_isiL h1 ?_
    walk_at "go"
    refine g_len (.inl (sl h1)) ?_
    walk_at "go"
    refine g_len (.inl h2) ?_
    walk_at "go"
    refine for_r (n := (ns.length : Int)) ns.length (by omega) (by omega) (by omega) (fun i σ H' => H' = H ∧ ∃ v, σ = [some (.ref a), some (.ref b), v]) ⟨rfl, none, rfl⟩ ?turn ?done ?ev
    case ev =>
      intro R r
      walk_at "go"
      refine g_len (.inl h2) ?_
      walk_at "go"
      rw [List.length_map]
      exact r
    case done =>
      rintro σ H' ⟨rfl, v, rfl⟩
      walk_at "go"
      exact q
    case turn =>
      rintro i σ H' hi ⟨rfl, v, rfl⟩
      obtain ⟨n, e, _⟩ := atI_ints (xs := ns) (i := (i : Int)) (by omega) (by omega)
      walk_at "go"
      refine g_ixL (sl h1) e ?_
      walk_at "go"
      refine g_ixL (sl h1) e ?_
      walk_at "go"
      refine g_ixL h2 e ?_
      walk_at "go"
      exact ⟨rfl, _, rfl⟩

def sp_l_number (K : PySem.W.Frag) : Sp := fun vs H Q _ => ∃ o : Option Int, vs = [oV o, oV o] ∧ Q (.bl true) H
theorem u_numO {o : Option Int} {H Q E} (q : Q (.bl true) H) : sp_l_number K ([oV o, oV o] ++ []) H Q E := ⟨o, rfl, q⟩
theorem u_numI {i : Int} {H Q E} (q : Q (.bl true) H) : sp_l_number K ([.int i, .int i] ++ []) H Q E := ⟨some i, rfl, q⟩
theorem ok_l_number (T : Txt K mg) : FnOk P w K mg base CX0 2 T.f_l_number T.d_l_number ["actual", "expected"] (sp_l_number K) := by
  refine T.F_l_number.ok sc_l_number (fun vs H Q E h => ?_) (fun cdv A outer s H vs Q E hr h => ?_)
  · obtain ⟨o, rfl, q⟩ := h
    rfl
  · obtain ⟨o, rfl, q⟩ := h
    have hu := hu_of hr
    refine ⟨_, (pss_cons (ps_if (pt_cmpR op_isN (pv 1) pe_non (nomark _)) (pss_one (ps_ret (pe_cmpR op_isN (pv 0) pe_non (nomark _)))) pss_nil)
        (pss_one (ps_ret (pe_and (pe_call (ok_l_is_integer T) (hr.mono (by decide)) rfl T.m_l_is_integer T.F_l_is_integer.kp T.b_l_is_integer .nil pass0 (pa_cons (pv 0) pa_nil)) (pe_one (pe_cmpR op_eq (pv 0) (pv 1) (nomark _))))))), ?_⟩
    dsimp only [cxOf, Cx.nox, Cx.wish, L2.start, List.map, List.cons_append, List.nil_append, List.length_cons, List.length_nil, Nat.reduceAdd, Nat.reduceSub, Nat.zero_add, List.replicate_succ, List.replicate_zero]
    cases o with
    | none =>
      simp only [oV]
      walk_at "go"
      exact q
    | some i =>
      simp only [oV]
      walk_at "go"
      rw [decide_eq_true rfl]
      exact q
def sp_l_flag (K : PySem.W.Frag) : Sp := fun vs H Q _ => ∃ b : Bool, vs = [.bl b, .bl b] ∧ Q (.bl true) H
theorem u_flag {b : Bool} {H Q E} (q : Q (.bl true) H) : sp_l_flag K ([.bl b, .bl b] ++ []) H Q E := ⟨b, rfl, q⟩
theorem ok_l_flag (T : Txt K mg) : FnOk P w K mg base CX0 1 T.f_l_flag T.d_l_flag ["actual", "expected"] (sp_l_flag K) := by
  refine T.F_l_flag.ok sc_l_flag (fun vs H Q E h => ?_) (fun cdv A outer s H vs Q E hr h => ?_)
  · obtain ⟨b, rfl, q⟩ := h
    rfl
  · obtain ⟨b, rfl, q⟩ := h
    have hu := hu_of hr
    refine ⟨_, (pss_cons (ps_if (pt_val (pv 1)) (pss_one (ps_ret (pe_cmpR op_isBl (pv 0) pe_bl (nomark _)))) pss_nil)
        (pss_one (ps_ret (pe_cmpR op_isBl (pv 0) pe_bl (nomark _))))), ?_⟩
    dsimp only [cxOf, Cx.nox, Cx.wish, L2.start, List.map, List.cons_append, List.nil_append, List.length_cons, List.length_nil, Nat.reduceAdd, Nat.reduceSub, Nat.zero_add, List.replicate_succ, List.replicate_zero]
    cases b with
    | true =>
      walk_at "go"
      exact q
    | false =>
      walk_at "go"
      exact q
def sp_l_pair (K : PySem.W.Frag) : Sp := fun vs H Q _ => ∃ (v v' : V) (o : Option (Int × Int)), vs = [v, v'] ∧ StV H v o ∧ StV H v' o ∧ Q (.bl true) H
theorem u_pair {v v' : V} {o : Option (Int × Int)} {H Q E} (h : StV H v o) (h' : StV H v' o) (q : Q (.bl true) H) : sp_l_pair K ([v, v'] ++ []) H Q E := ⟨v, v', o, rfl, h, h', q⟩
local macro_rules | `(tactic| walk_at "use") => `(tactic| with_reducible first | refine u_numO ?_ | refine u_numI ?_ | refine u_flag ?_)
theorem ok_l_pair (T : Txt K mg) : FnOk P w K mg base CX0 3 T.f_l_pair T.d_l_pair ["actual", "expected"] (sp_l_pair K) := by
  refine T.F_l_pair.ok sc_l_pair (fun vs H Q E h => ?_) (fun cdv A outer s H vs Q E hr h => ?_)
  · obtain ⟨v, v', o, rfl, h, h', q⟩ := h
    rfl
  · obtain ⟨v, v', o, rfl, h, h', q⟩ := h
    have hu := hu_of hr
    refine ⟨_, (pss_cons (ps_if (pt_cmpR op_isN (pv 1) pe_non (nomark _)) (pss_one (ps_ret (pe_cmpR op_isN (pv 0) pe_non (nomark _)))) pss_nil)
        (pss_cons (ps_if (PW.pt (pw_or (pt_not (pt_val (pe_callB call_isi (by rfl) T.n_isinstance (by decide +kernel) (pa_cons (pv 0) (pa_cons (pe_bltn (v := .ty "tuple") (by rfl) T.n_tuple (by decide +kernel) rfl) pa_nil))))) (pw_or1 (pt_cmpR op_ne (pe_callB call_len_seq (by rfl) T.n_len (by decide +kernel) (pa_cons (pv 0) pa_nil)) pe_int (nomark _))))) (pss_one (ps_ret pe_bl)) pss_nil)
        (pss_one (ps_ret (pe_and (pe_call (ok_l_number T) (hr.mono (by decide)) rfl T.m_l_number T.F_l_number.kp T.b_l_number .nil pass0 (pa_cons (pe_ix ix_tup (pv 0) pe_int (fun _ _ => rfl)) (pa_cons (pe_ix ix_tup (pv 1) pe_int (fun _ _ => rfl)) pa_nil))) (pe_one (pe_call (ok_l_number T) (hr.mono (by decide)) rfl T.m_l_number T.F_l_number.kp T.b_l_number .nil pass0 (pa_cons (pe_ix ix_tup (pv 0) pe_int (fun _ _ => rfl)) (pa_cons (pe_ix ix_tup (pv 1) pe_int (fun _ _ => rfl)) pa_nil))))))))), ?_⟩
    dsimp only [cxOf, Cx.nox, Cx.wish, L2.start, List.map, List.cons_append, List.nil_append, List.length_cons, List.length_nil, Nat.reduceAdd, Nat.reduceSub, Nat.zero_add, List.replicate_succ, List.replicate_zero]
    cases o with
    | none =>
      have e : v = .non := h
      have e' : v' = .non := h'
      subst e
      subst e'
      walk_at "go"
      exact q
    | some p =>
      obtain ⟨t, rfl, ht⟩ := h
      obtain ⟨t', rfl, ht'⟩ := h'
      walk_at "go"
      refine g_isiU ht ?_
      walk_at "go"
      refine g_len (.inr (st ht)) ?_
      walk_at "go"
      refine g_ixT (st ht) (at_of (j := 0) rfl rfl) ?_
      walk_at "go"
      refine g_ixT (st ht') (at_of (j := 0) rfl rfl) ?_
      walk_at "go"
      refine g_ixT (st ht) (at_of (j := 1) rfl rfl) ?_
      walk_at "go"
      refine g_ixT (st ht') (at_of (j := 1) rfl rfl) ?_
      walk_at "go"
      exact q
def sp_l_all_pairs (K : PySem.W.Frag) : Sp := fun vs H Q _ => ∃ (a b : Addr) (us ws : List V) (ps : List (Int × Int)), vs = [.ref a, .ref b] ∧ H a = some (.lst us) ∧ Prs H us ps ∧ H b = some (.lst ws) ∧ Prs H ws ps ∧ ps.length ≤ 1000 ∧ Q (.bl true) H
theorem u_allp {a b : Addr} {us ws : List V} {ps : List (Int × Int)} {H Q E} (h1 : H a = some (.lst us)) (h2 : Prs H us ps) (h3 : H b = some (.lst ws)) (h4 : Prs H ws ps) (hl : ps.length ≤ 1000) (q : Q (.bl true) H) : sp_l_all_pairs K ([.ref a, .ref b] ++ []) H Q E := ⟨a, b, us, ws, ps, rfl, h1, h2, h3, h4, hl, q⟩
theorem ok_l_all_pairs (T : Txt K mg) : FnOk P w K mg base CX0 4 T.f_l_all_pairs T.d_l_all_pairs ["actual", "expected"] (sp_l_all_pairs K) := by
  refine T.F_l_all_pairs.ok sc_l_all_pairs (fun vs H Q E h => ?_) (fun cdv A outer s H vs Q E hr h => ?_)
  · obtain ⟨a, b, us, ws, ps, rfl, h1, h2, h3, h4, hl, q⟩ := h
    rfl
  · obtain ⟨a, b, us, ws, ps, rfl, h1, h2, h3, h4, hl, q⟩ := h
    have hu := hu_of hr
    refine ⟨_, (pss_cons (ps_if (PW.pt (pw_or (pt_not (pt_val (pe_callB call_isi (by rfl) T.n_isinstance (by decide +kernel) (pa_cons (pv 0) (pa_cons (pe_bltn (v := .ty "list") (by rfl) T.n_list (by decide +kernel) rfl) pa_nil))))) (pw_or1 (pt_cmpR op_ne (pe_callB call_len_seq (by rfl) T.n_len (by decide +kernel) (pa_cons (pv 0) pa_nil)) (pe_callB call_len_seq (by rfl) T.n_len (by decide +kernel) (pa_cons (pv 1) pa_nil)) (nomark _))))) (pss_one (ps_ret pe_bl)) pss_nil)
        (pss_cons (ps_for PassesOwn.never rfl (pi_range1 (by rfl) T.n_range (pa_cons (pe_callB call_len_seq (by rfl) T.n_len (by decide +kernel) (pa_cons (pv 1) pa_nil)) pa_nil)) (pg_name (i := 2) sc_l_all_pairs.nd rfl (Or.inl rfl)) (pss_one (ps_if (pt_not (pt_val (pe_call (ok_l_pair T) (hr.mono (by decide)) rfl T.m_l_pair T.F_l_pair.kp T.b_l_pair .nil pass0 (pa_cons (pe_ix ix_list (pv 0) (pv 2) (fun _ _ => rfl)) (pa_cons (pe_ix ix_list (pv 1) (pv 2) (fun _ _ => rfl)) pa_nil))))) (pss_one (ps_ret pe_bl)) pss_nil)))
        (pss_one (ps_ret pe_bl)))), ?_⟩
    dsimp only [cxOf, Cx.nox, Cx.wish, L2.start, List.map, List.cons_append, List.nil_append, List.length_cons, List.length_nil, Nat.reduceAdd, Nat.reduceSub, Nat.zero_add, List.replicate_succ, List.replicate_zero]
    have l1 := h2.1
    have l2 := h4.1
    walk_at "go"
    refine g_isiL h1 ?_
    walk_at "go"
    refine g_len (.inl (sl h1)) ?_
    walk_at "go"
    refine g_len (.inl (sl h3)) ?_
    walk_at "go"
    refine for_r (n := (ws.length : Int)) ps.length (by omega) (by omega) (by omega) (fun i σ H' => H' = H ∧ ∃ v, σ = [some (.ref a), some (.ref b), v]) ⟨rfl, none, rfl⟩ ?turn ?done ?ev
    case ev =>
      intro R r
      walk_at "go"
      refine g_len (.inl (sl h3)) ?_
      walk_at "go"
      exact r
    case done =>
      rintro σ H' ⟨rfl, v, rfl⟩
      walk_at "go"
      exact q
    case turn =>
      rintro i σ H' hi ⟨rfl, v, rfl⟩
      obtain ⟨p, hp⟩ : ∃ p, ps[i]? = some p := ⟨ps[i]'hi, List.getElem?_eq_getElem _⟩
      obtain ⟨t, ht1, ht2⟩ := h2.2 i p hp
      obtain ⟨t', ht1', ht2'⟩ := h4.2 i p hp
      walk_at "go"
      refine g_ixL (sl h1) (at_of rfl ht1) ?_
      walk_at "go"
      refine g_ixL (sl h3) (at_of rfl ht1') ?_
      walk_at "go"
      refine u_pair (o := some p) ⟨t, rfl, ht2⟩ ⟨t', rfl, ht2'⟩ ?_
      walk_at "go"
      exact ⟨rfl, _, rfl⟩

local macro_rules | `(tactic| walk_at "use") => `(tactic| with_reducible first | refine g_dgetT ?_ | refine g_dgetV (by assumption) (by assumption) ?_)
def sp_l_same (C : Addr) (K : PySem.W.Frag) : Sp := fun vs H Q _ => ∃ (p a d r da ra : Addr) (g : Sg), vs = [.ref p, .ref a] ∧ SegO C H p g d r ∧ SegL H a g da ra ∧ g.rs.length ≤ 1000 ∧ g.ds.length ≤ 1000 ∧ Q (.bl true) H
theorem u_same {C p a d r da ra : Addr} {g : Sg} {H Q E} (h1 : SegO C H p g d r) (h2 : SegL H a g da ra) (l1 : g.rs.length ≤ 1000) (l2 : g.ds.length ≤ 1000) (q : Q (.bl true) H) : sp_l_same C K ([.ref p, .ref a] ++ []) H Q E := ⟨p, a, d, r, da, ra, g, rfl, h1, h2, l1, l2, q⟩
theorem ok_l_same (T : Txt K mg) : FnOk P w K mg base CX0 5 T.f_l_same T.d_l_same ["actual", "parts"] (sp_l_same T.C_Segment K) := by
  refine T.F_l_same.ok sc_l_same (fun vs H Q E h => ?_) (fun cdv A outer s H vs Q E hr h => ?_)
  · obtain ⟨p, a, d, r, da, ra, g, rfl, ⟨dx, sv, ho, hd, ⟨us, hr1, hP1⟩, hs1⟩, ⟨kvs, sv2, hdk, hk, hda, ⟨ws, hra, hP2⟩, hs2⟩, l1, l2, q⟩ := h
    rfl
  · obtain ⟨p, a, d, r, da, ra, g, rfl, ⟨dx, sv, ho, hd, ⟨us, hr1, hP1⟩, hs1⟩, ⟨kvs, sv2, hdk, hk, hda, ⟨ws, hra, hP2⟩, hs2⟩, l1, l2, q⟩ := h
    have hu := hu_of hr
    refine ⟨_, (pss_cons (ps_if (pt_not (pt_val (pe_callB call_isi (by rfl) T.n_isinstance (by decide +kernel) (pa_cons (pv 0) (pa_cons (pe_glob (v := .ref T.C_Segment) (by rfl) T.c_Segment rfl) pa_nil))))) (pss_one (ps_ret pe_bl)) pss_nil)
        (pss_cons (ps_if (PW.pt (pw_or (pt_not (pt_val (pe_call (ok_l_number T) (hr.mono (by decide)) rfl T.m_l_number T.F_l_number.kp T.b_l_number .nil pass0 (pa_cons (pe_fld (pv 0) rfl) (pa_cons (pe_dget hu (pv 1) pe_str (fun _ _ => rfl)) pa_nil))))) (pw_or1 (pt_not (pt_val (pe_call (ok_l_number T) (hr.mono (by decide)) rfl T.m_l_number T.F_l_number.kp T.b_l_number .nil pass0 (pa_cons (pe_fld (pv 0) rfl) (pa_cons (pe_dget hu (pv 1) pe_str (fun _ _ => rfl)) pa_nil)))))))) (pss_one (ps_ret pe_bl)) pss_nil)
        (pss_cons (ps_if (PW.pt (pw_or (pt_not (pt_val (pe_call (ok_l_number T) (hr.mono (by decide)) rfl T.m_l_number T.F_l_number.kp T.b_l_number .nil pass0 (pa_cons (pe_fld (pv 0) rfl) (pa_cons (pe_dget hu (pv 1) pe_str (fun _ _ => rfl)) pa_nil))))) (pw_or1 (pt_not (pt_val (pe_call (ok_l_number T) (hr.mono (by decide)) rfl T.m_l_number T.F_l_number.kp T.b_l_number .nil pass0 (pa_cons (pe_fld (pv 0) rfl) (pa_cons (pe_dget hu (pv 1) pe_str (fun _ _ => rfl)) pa_nil)))))))) (pss_one (ps_ret pe_bl)) pss_nil)
        (pss_cons (ps_if (PW.pt (pw_or (pt_not (pt_val (pe_call (ok_l_number T) (hr.mono (by decide)) rfl T.m_l_number T.F_l_number.kp T.b_l_number .nil pass0 (pa_cons (pe_fld (pv 0) rfl) (pa_cons (pe_dget hu (pv 1) pe_str (fun _ _ => rfl)) pa_nil))))) (pw_or1 (pt_not (pt_val (pe_call (ok_l_number T) (hr.mono (by decide)) rfl T.m_l_number T.F_l_number.kp T.b_l_number .nil pass0 (pa_cons (pe_fld (pv 0) rfl) (pa_cons (pe_dget hu (pv 1) pe_str (fun _ _ => rfl)) pa_nil)))))))) (pss_one (ps_ret pe_bl)) pss_nil)
        (pss_cons (ps_if (PW.pt (pw_or (pt_not (pt_val (pe_call (ok_l_flag T) (hr.mono (by decide)) rfl T.m_l_flag T.F_l_flag.kp T.b_l_flag .nil pass0 (pa_cons (pe_fld (pv 0) rfl) (pa_cons (pe_dget hu (pv 1) pe_str (fun _ _ => rfl)) pa_nil))))) (pw_or1 (pt_not (pt_val (pe_call (ok_l_flag T) (hr.mono (by decide)) rfl T.m_l_flag T.F_l_flag.kp T.b_l_flag .nil pass0 (pa_cons (pe_fld (pv 0) rfl) (pa_cons (pe_dget hu (pv 1) pe_str (fun _ _ => rfl)) pa_nil)))))))) (pss_one (ps_ret pe_bl)) pss_nil)
        (pss_cons (ps_if (PW.pt (pw_or (pt_not (pt_val (pe_call (ok_l_flag T) (hr.mono (by decide)) rfl T.m_l_flag T.F_l_flag.kp T.b_l_flag .nil pass0 (pa_cons (pe_fld (pv 0) rfl) (pa_cons (pe_dget hu (pv 1) pe_str (fun _ _ => rfl)) pa_nil))))) (pw_or1 (pt_not (pt_val (pe_call (ok_l_flag T) (hr.mono (by decide)) rfl T.m_l_flag T.F_l_flag.kp T.b_l_flag .nil pass0 (pa_cons (pe_fld (pv 0) rfl) (pa_cons (pe_dget hu (pv 1) pe_str (fun _ _ => rfl)) pa_nil)))))))) (pss_one (ps_ret pe_bl)) pss_nil)
        (pss_cons (ps_if (PW.pt (pw_or (pt_not (pt_val (pe_call (ok_l_flag T) (hr.mono (by decide)) rfl T.m_l_flag T.F_l_flag.kp T.b_l_flag .nil pass0 (pa_cons (pe_fld (pv 0) rfl) (pa_cons (pe_dget hu (pv 1) pe_str (fun _ _ => rfl)) pa_nil))))) (pw_or1 (pt_not (pt_val (pe_call (ok_l_flag T) (hr.mono (by decide)) rfl T.m_l_flag T.F_l_flag.kp T.b_l_flag .nil pass0 (pa_cons (pe_fld (pv 0) rfl) (pa_cons (pe_dget hu (pv 1) pe_str (fun _ _ => rfl)) pa_nil)))))))) (pss_one (ps_ret pe_bl)) pss_nil)
        (pss_cons (ps_if (pt_not (pt_val (pe_call (ok_l_number T) (hr.mono (by decide)) rfl T.m_l_number T.F_l_number.kp T.b_l_number .nil pass0 (pa_cons (pe_fld (pv 0) rfl) (pa_cons (pe_dget hu (pv 1) pe_str (fun _ _ => rfl)) pa_nil))))) (pss_one (ps_ret pe_bl)) pss_nil)
        (pss_cons (ps_if (PW.pt (pw_or (pt_not (pt_val (pe_call (ok_l_number T) (hr.mono (by decide)) rfl T.m_l_number T.F_l_number.kp T.b_l_number .nil pass0 (pa_cons (pe_fld (pv 0) rfl) (pa_cons (pe_dget hu (pv 1) pe_str (fun _ _ => rfl)) pa_nil))))) (pw_or1 (pt_not (pt_val (pe_call (ok_l_number T) (hr.mono (by decide)) rfl T.m_l_number T.F_l_number.kp T.b_l_number .nil pass0 (pa_cons (pe_fld (pv 0) rfl) (pa_cons (pe_dget hu (pv 1) pe_str (fun _ _ => rfl)) pa_nil)))))))) (pss_one (ps_ret pe_bl)) pss_nil)
        (pss_cons (ps_if (PW.pt (pw_or (pt_not (pt_val (pe_call (ok_l_pair T) (hr.mono (by decide)) rfl T.m_l_pair T.F_l_pair.kp T.b_l_pair .nil pass0 (pa_cons (pe_fld (pv 0) rfl) (pa_cons (pe_dget hu (pv 1) pe_str (fun _ _ => rfl)) pa_nil))))) (pw_or1 (pt_not (pt_val (pe_call (ok_l_all_pairs T) (hr.mono (by decide)) rfl T.m_l_all_pairs T.F_l_all_pairs.kp T.b_l_all_pairs .nil pass0 (pa_cons (pe_fld (pv 0) rfl) (pa_cons (pe_dget hu (pv 1) pe_str (fun _ _ => rfl)) pa_nil)))))))) (pss_one (ps_ret pe_bl)) pss_nil)
        (pss_one (ps_ret (pe_call (ok_l_octets T) (hr.mono (by decide)) rfl T.m_l_octets T.F_l_octets.kp T.b_l_octets .nil pass0 (pa_cons (pe_fld (pv 0) rfl) (pa_cons (pe_dget hu (pv 1) pe_str (fun _ _ => rfl)) pa_nil))))))))))))))), ?_⟩
    dsimp only [cxOf, Cx.nox, Cx.wish, L2.start, List.map, List.cons_append, List.nil_append, List.length_cons, List.length_nil, Nat.reduceAdd, Nat.reduceSub, Nat.zero_add, List.replicate_succ, List.replicate_zero]
    obtain ⟨q1, q2, q3, q4, q5, q6, q7, q8, q9, q10, q11, q12, q13, q14, q15, q16, q17, q18⟩ := hk
    unfold sgVs at ho
    have hda' : SqL K H da (g.ds.map V.int) := sl hda
    walk_at "go"
    refine g_isi (.own _) (.base (T.i_Segment ho)) (if_pos (beq_self_eq_true _)) ?_
    walk_at "go"
    refine u_pair hs1 hs2 ?_
    walk_at "go"
    refine u_allp hr1 hP1 hra hP2 l1 ?_
    walk_at "go"
    refine u_octets hd hda' l2 ?_
    walk_at "go"
    exact q

end
end My
namespace My
open PySem PySem.Spec L2
local macro_rules | `(tactic| walk_at "side") => `(tactic| first | assumption | decide | omega | exact ⟨by decide, by decide⟩ | exact ⟨by decide, by decide, by decide⟩ | decide +kernel | exact cdivW (by decide +kernel) (by decide +kernel) | exact Or.inl ⟨by omega, by omega⟩ | exact Or.inr ⟨by omega, by omega⟩ | (simp only [List.length_map, List.length_cons, List.length_nil, List.length_append]; omega))
local macro_rules | `(tactic| walk_at "fact") => `(tactic| first | assumption | omega | with_reducible rfl)
local macro_rules | `(tactic| walk_at "use") => `(tactic| fail "use")
local macro_rules | `(tactic| walk_at "go1") => `(tactic| with_reducible first | refine g_seq ?_ | refine g_asg ?_ | refine g_ret ?_ | refine g_ifS ?_ | refine g_drop ?_ | refine g_star ?_ | refine g_nx ?_ | refine g_rt ?_ | refine g_bkE ?_ | refine g_ctE ?_ | refine g_next ?_ | refine g_retN ?_ | refine g_brk ?_ | refine g_ct ?_ | refine g_c ?_ | refine g_op ?_ | refine g_un ?_ | refine g_rI0 ?_ | refine g_rU ?_ | refine g_rEqI ?_ | refine g_rNeI ?_ | refine g_isN ?_ | refine g_rIsB ?_ | refine g_rNotB ?_ | refine g_test ?_ | refine g_B ?_ | refine g_bl ?_ | refine g_and ?_ | refine g_or ?_ | refine g_not ?_ | refine g_andV ?_ | refine g_orV ?_ | refine g_notV ?_ | refine g_if ?_ | refine g_chain ?_ | refine g_yes ?_ | refine g_lc ?_ | refine g_revR ?_ | refine g_rng1 ?_ | refine g_iList ?_ | refine g_nil ?_ | refine g_cons ?_ | refine g_tup ?_ | refine g_lst ?_ | refine g_call ?_ | refine g_CB ?_ | refine g_sl ?_ | refine g_noPart ?_ | refine g_part ?_ | refine g_intE ?_ | refine g_ref ?_ | refine g_fld ?_ | refine g_sfld ?_ | refine g_meth ?_ | refine g_make ?_ | refine g_prop ?_  | refine g_ipI ?_ | refine g_int1 ?_ | refine g_int1B ?_ | refine g_one ?_ | refine g_two ?_ | refine g_isiI ?_ | refine g_isiIB ?_ | refine g_isiB ?_ | refine g_BM ?_ | refine g_BM0 ?_ | refine g_sub ?_)
local macro_rules | `(tactic| walk_at "go") => `(tactic| repeat (first | walk_at "go1" | ((with_reducible refine' g_nameE ?sd_ ?_); case sd_ => dsimp only [List.set_cons_succ, List.set_cons_zero]) | ((with_reducible refine' g_var ?sd_ ?_); case sd_ => exact rfl) | ((with_reducible refine' g_aug ?sd_ ?_); case sd_ => exact rfl) | ((with_reducible refine' g_rI ?sd_ ?_); case sd_ => walk_at "side") | ((with_reducible refine' g_dT ?sd_ ?_); case sd_ => walk_at "fact") | ((with_reducible refine' g_dF ?sd_ ?_); case sd_ => walk_at "fact") | ((with_reducible refine' g_nT ?sd_ ?_); case sd_ => walk_at "fact") | ((with_reducible refine' g_nF ?sd_ ?_); case sd_ => walk_at "fact") | (with_reducible refine g_iT rfl ?_) | (with_reducible refine g_iF rfl ?_) | walk_at "use"))
local macro_rules | `(tactic| walk_at "use") => `(tactic| first | ((with_reducible refine' fd_Segment_source ?ho_ ?hv_ ?_); (case ho_ => first | assumption | exact upd_same); (case hv_ => exact rfl)) | ((with_reducible refine' fd_Segment_target ?ho_ ?hv_ ?_); (case ho_ => first | assumption | exact upd_same); (case hv_ => exact rfl)) | ((with_reducible refine' fd_Segment_seq ?ho_ ?hv_ ?_); (case ho_ => first | assumption | exact upd_same); (case hv_ => exact rfl)) | ((with_reducible refine' fd_Segment_count ?ho_ ?hv_ ?_); (case ho_ => first | assumption | exact upd_same); (case hv_ => exact rfl)) | ((with_reducible refine' fd_Segment_echo ?ho_ ?hv_ ?_); (case ho_ => first | assumption | exact upd_same); (case hv_ => exact rfl)) | ((with_reducible refine' fd_Segment_ack ?ho_ ?hv_ ?_); (case ho_ => first | assumption | exact upd_same); (case hv_ => exact rfl)) | ((with_reducible refine' fd_Segment_syn ?ho_ ?hv_ ?_); (case ho_ => first | assumption | exact upd_same); (case hv_ => exact rfl)) | ((with_reducible refine' fd_Segment_fin ?ho_ ?hv_ ?_); (case ho_ => first | assumption | exact upd_same); (case hv_ => exact rfl)) | ((with_reducible refine' fd_Segment_reset ?ho_ ?hv_ ?_); (case ho_ => first | assumption | exact upd_same); (case hv_ => exact rfl)) | ((with_reducible refine' fd_Segment_marked ?ho_ ?hv_ ?_); (case ho_ => first | assumption | exact upd_same); (case hv_ => exact rfl)) | ((with_reducible refine' fd_Segment_cut ?ho_ ?hv_ ?_); (case ho_ => first | assumption | exact upd_same); (case hv_ => exact rfl)) | ((with_reducible refine' fd_Segment_window ?ho_ ?hv_ ?_); (case ho_ => first | assumption | exact upd_same); (case hv_ => exact rfl)) | ((with_reducible refine' fd_Segment_mss ?ho_ ?hv_ ?_); (case ho_ => first | assumption | exact upd_same); (case hv_ => exact rfl)) | ((with_reducible refine' fd_Segment_scale ?ho_ ?hv_ ?_); (case ho_ => first | assumption | exact upd_same); (case hv_ => exact rfl)) | ((with_reducible refine' fd_Segment_ranges_known ?ho_ ?hv_ ?_); (case ho_ => first | assumption | exact upd_same); (case hv_ => exact rfl)) | ((with_reducible refine' fd_Segment_ranges ?ho_ ?hv_ ?_); (case ho_ => first | assumption | exact upd_same); (case hv_ => exact rfl)) | ((with_reducible refine' fd_Segment_stamp ?ho_ ?hv_ ?_); (case ho_ => first | assumption | exact upd_same); (case hv_ => exact rfl)) | ((with_reducible refine' fd_Segment_data ?ho_ ?hv_ ?_); (case ho_ => first | assumption | exact upd_same); (case hv_ => exact rfl)) | ((with_reducible refine' nw_Segment_source ?ho_ ?hv_ ?_); (case ho_ => first | assumption | exact upd_same); (case hv_ => exact rfl)) | ((with_reducible refine' nw_Segment_target ?ho_ ?hv_ ?_); (case ho_ => first | assumption | exact upd_same); (case hv_ => exact rfl)) | ((with_reducible refine' nw_Segment_seq ?ho_ ?hv_ ?_); (case ho_ => first | assumption | exact upd_same); (case hv_ => exact rfl)) | ((with_reducible refine' nw_Segment_count ?ho_ ?hv_ ?_); (case ho_ => first | assumption | exact upd_same); (case hv_ => exact rfl)) | ((with_reducible refine' nw_Segment_echo ?ho_ ?hv_ ?_); (case ho_ => first | assumption | exact upd_same); (case hv_ => exact rfl)) | ((with_reducible refine' nw_Segment_ack ?ho_ ?hv_ ?_); (case ho_ => first | assumption | exact upd_same); (case hv_ => exact rfl)) | ((with_reducible refine' nw_Segment_syn ?ho_ ?hv_ ?_); (case ho_ => first | assumption | exact upd_same); (case hv_ => exact rfl)) | ((with_reducible refine' nw_Segment_fin ?ho_ ?hv_ ?_); (case ho_ => first | assumption | exact upd_same); (case hv_ => exact rfl)) | ((with_reducible refine' nw_Segment_reset ?ho_ ?hv_ ?_); (case ho_ => first | assumption | exact upd_same); (case hv_ => exact rfl)) | ((with_reducible refine' nw_Segment_marked ?ho_ ?hv_ ?_); (case ho_ => first | assumption | exact upd_same); (case hv_ => exact rfl)) | ((with_reducible refine' nw_Segment_cut ?ho_ ?hv_ ?_); (case ho_ => first | assumption | exact upd_same); (case hv_ => exact rfl)) | ((with_reducible refine' nw_Segment_window ?ho_ ?hv_ ?_); (case ho_ => first | assumption | exact upd_same); (case hv_ => exact rfl)) | ((with_reducible refine' nw_Segment_mss ?ho_ ?hv_ ?_); (case ho_ => first | assumption | exact upd_same); (case hv_ => exact rfl)) | ((with_reducible refine' nw_Segment_scale ?ho_ ?hv_ ?_); (case ho_ => first | assumption | exact upd_same); (case hv_ => exact rfl)) | ((with_reducible refine' nw_Segment_ranges_known ?ho_ ?hv_ ?_); (case ho_ => first | assumption | exact upd_same); (case hv_ => exact rfl)) | ((with_reducible refine' nw_Segment_ranges ?ho_ ?hv_ ?_); (case ho_ => first | assumption | exact upd_same); (case hv_ => exact rfl)) | ((with_reducible refine' nw_Segment_stamp ?ho_ ?hv_ ?_); (case ho_ => first | assumption | exact upd_same); (case hv_ => exact rfl)) | ((with_reducible refine' nw_Segment_data ?ho_ ?hv_ ?_); (case ho_ => first | assumption | exact upd_same); (case hv_ => exact rfl)) | ((with_reducible refine' st_Segment_source ?ho_ ?hv_ ?_); (case ho_ => first | assumption | exact upd_same); (case hv_ => exact Nat.le_of_ble_eq_true rfl)) | ((with_reducible refine' st_Segment_target ?ho_ ?hv_ ?_); (case ho_ => first | assumption | exact upd_same); (case hv_ => exact Nat.le_of_ble_eq_true rfl)) | ((with_reducible refine' st_Segment_seq ?ho_ ?hv_ ?_); (case ho_ => first | assumption | exact upd_same); (case hv_ => exact Nat.le_of_ble_eq_true rfl)) | ((with_reducible refine' st_Segment_count ?ho_ ?hv_ ?_); (case ho_ => first | assumption | exact upd_same); (case hv_ => exact Nat.le_of_ble_eq_true rfl)) | ((with_reducible refine' st_Segment_echo ?ho_ ?hv_ ?_); (case ho_ => first | assumption | exact upd_same); (case hv_ => exact Nat.le_of_ble_eq_true rfl)) | ((with_reducible refine' st_Segment_ack ?ho_ ?hv_ ?_); (case ho_ => first | assumption | exact upd_same); (case hv_ => exact Nat.le_of_ble_eq_true rfl)) | ((with_reducible refine' st_Segment_syn ?ho_ ?hv_ ?_); (case ho_ => first | assumption | exact upd_same); (case hv_ => exact Nat.le_of_ble_eq_true rfl)) | ((with_reducible refine' st_Segment_fin ?ho_ ?hv_ ?_); (case ho_ => first | assumption | exact upd_same); (case hv_ => exact Nat.le_of_ble_eq_true rfl)) | ((with_reducible refine' st_Segment_reset ?ho_ ?hv_ ?_); (case ho_ => first | assumption | exact upd_same); (case hv_ => exact Nat.le_of_ble_eq_true rfl)) | ((with_reducible refine' st_Segment_marked ?ho_ ?hv_ ?_); (case ho_ => first | assumption | exact upd_same); (case hv_ => exact Nat.le_of_ble_eq_true rfl)) | ((with_reducible refine' st_Segment_cut ?ho_ ?hv_ ?_); (case ho_ => first | assumption | exact upd_same); (case hv_ => exact Nat.le_of_ble_eq_true rfl)) | ((with_reducible refine' st_Segment_window ?ho_ ?hv_ ?_); (case ho_ => first | assumption | exact upd_same); (case hv_ => exact Nat.le_of_ble_eq_true rfl)) | ((with_reducible refine' st_Segment_mss ?ho_ ?hv_ ?_); (case ho_ => first | assumption | exact upd_same); (case hv_ => exact Nat.le_of_ble_eq_true rfl)) | ((with_reducible refine' st_Segment_scale ?ho_ ?hv_ ?_); (case ho_ => first | assumption | exact upd_same); (case hv_ => exact Nat.le_of_ble_eq_true rfl)) | ((with_reducible refine' st_Segment_ranges_known ?ho_ ?hv_ ?_); (case ho_ => first | assumption | exact upd_same); (case hv_ => exact Nat.le_of_ble_eq_true rfl)) | ((with_reducible refine' st_Segment_ranges ?ho_ ?hv_ ?_); (case ho_ => first | assumption | exact upd_same); (case hv_ => exact Nat.le_of_ble_eq_true rfl)) | ((with_reducible refine' st_Segment_stamp ?ho_ ?hv_ ?_); (case ho_ => first | assumption | exact upd_same); (case hv_ => exact Nat.le_of_ble_eq_true rfl)) | ((with_reducible refine' st_Segment_data ?ho_ ?hv_ ?_); (case ho_ => first | assumption | exact upd_same); (case hv_ => exact Nat.le_of_ble_eq_true rfl)) | ((with_reducible refine' me_Segment_eq__ ?ho_ ?_); (case ho_ => first | assumption | exact upd_same)) | ((with_reducible refine' me_Segment_parts ?ho_ ?_); (case ho_ => first | assumption | exact upd_same)))
local macro_rules | `(tactic| walk_at "use") => `(tactic| first | ((with_reducible refine' dg_S_source ?ho_ ?hv_ ?_); (case ho_ => first | assumption | exact upd_same); (case hv_ => exact rfl)) | ((with_reducible refine' dg_S_target ?ho_ ?hv_ ?_); (case ho_ => first | assumption | exact upd_same); (case hv_ => exact rfl)) | ((with_reducible refine' dg_S_seq ?ho_ ?hv_ ?_); (case ho_ => first | assumption | exact upd_same); (case hv_ => exact rfl)) | ((with_reducible refine' dg_S_count ?ho_ ?hv_ ?_); (case ho_ => first | assumption | exact upd_same); (case hv_ => exact rfl)) | ((with_reducible refine' dg_S_echo ?ho_ ?hv_ ?_); (case ho_ => first | assumption | exact upd_same); (case hv_ => exact rfl)) | ((with_reducible refine' dg_S_ack ?ho_ ?hv_ ?_); (case ho_ => first | assumption | exact upd_same); (case hv_ => exact rfl)) | ((with_reducible refine' dg_S_syn ?ho_ ?hv_ ?_); (case ho_ => first | assumption | exact upd_same); (case hv_ => exact rfl)) | ((with_reducible refine' dg_S_fin ?ho_ ?hv_ ?_); (case ho_ => first | assumption | exact upd_same); (case hv_ => exact rfl)) | ((with_reducible refine' dg_S_reset ?ho_ ?hv_ ?_); (case ho_ => first | assumption | exact upd_same); (case hv_ => exact rfl)) | ((with_reducible refine' dg_S_marked ?ho_ ?hv_ ?_); (case ho_ => first | assumption | exact upd_same); (case hv_ => exact rfl)) | ((with_reducible refine' dg_S_cut ?ho_ ?hv_ ?_); (case ho_ => first | assumption | exact upd_same); (case hv_ => exact rfl)) | ((with_reducible refine' dg_S_ranges_known ?ho_ ?hv_ ?_); (case ho_ => first | assumption | exact upd_same); (case hv_ => exact rfl)) | ((with_reducible refine' dg_S_window ?ho_ ?hv_ ?_); (case ho_ => first | assumption | exact upd_same); (case hv_ => exact rfl)) | ((with_reducible refine' dg_S_mss ?ho_ ?hv_ ?_); (case ho_ => first | assumption | exact upd_same); (case hv_ => exact rfl)) | ((with_reducible refine' dg_S_scale ?ho_ ?hv_ ?_); (case ho_ => first | assumption | exact upd_same); (case hv_ => exact rfl)) | ((with_reducible refine' dg_S_ranges ?ho_ ?hv_ ?_); (case ho_ => first | assumption | exact upd_same); (case hv_ => exact rfl)) | ((with_reducible refine' dg_S_stamp ?ho_ ?hv_ ?_); (case ho_ => first | assumption | exact upd_same); (case hv_ => exact rfl)) | ((with_reducible refine' dg_S_data ?ho_ ?hv_ ?_); (case ho_ => first | assumption | exact upd_same); (case hv_ => exact rfl)) | ((with_reducible refine' dn_S_source ?ho_ ?hv_ ?_); (case ho_ => first | assumption | exact upd_same); (case hv_ => exact rfl)) | ((with_reducible refine' dn_S_target ?ho_ ?hv_ ?_); (case ho_ => first | assumption | exact upd_same); (case hv_ => exact rfl)) | ((with_reducible refine' dn_S_seq ?ho_ ?hv_ ?_); (case ho_ => first | assumption | exact upd_same); (case hv_ => exact rfl)) | ((with_reducible refine' dn_S_count ?ho_ ?hv_ ?_); (case ho_ => first | assumption | exact upd_same); (case hv_ => exact rfl)) | ((with_reducible refine' dn_S_echo ?ho_ ?hv_ ?_); (case ho_ => first | assumption | exact upd_same); (case hv_ => exact rfl)) | ((with_reducible refine' dn_S_ack ?ho_ ?hv_ ?_); (case ho_ => first | assumption | exact upd_same); (case hv_ => exact rfl)) | ((with_reducible refine' dn_S_syn ?ho_ ?hv_ ?_); (case ho_ => first | assumption | exact upd_same); (case hv_ => exact rfl)) | ((with_reducible refine' dn_S_fin ?ho_ ?hv_ ?_); (case ho_ => first | assumption | exact upd_same); (case hv_ => exact rfl)) | ((with_reducible refine' dn_S_reset ?ho_ ?hv_ ?_); (case ho_ => first | assumption | exact upd_same); (case hv_ => exact rfl)) | ((with_reducible refine' dn_S_marked ?ho_ ?hv_ ?_); (case ho_ => first | assumption | exact upd_same); (case hv_ => exact rfl)) | ((with_reducible refine' dn_S_cut ?ho_ ?hv_ ?_); (case ho_ => first | assumption | exact upd_same); (case hv_ => exact rfl)) | ((with_reducible refine' dn_S_ranges_known ?ho_ ?hv_ ?_); (case ho_ => first | assumption | exact upd_same); (case hv_ => exact rfl)) | ((with_reducible refine' dn_S_window ?ho_ ?hv_ ?_); (case ho_ => first | assumption | exact upd_same); (case hv_ => exact rfl)) | ((with_reducible refine' dn_S_mss ?ho_ ?hv_ ?_); (case ho_ => first | assumption | exact upd_same); (case hv_ => exact rfl)) | ((with_reducible refine' dn_S_scale ?ho_ ?hv_ ?_); (case ho_ => first | assumption | exact upd_same); (case hv_ => exact rfl)) | ((with_reducible refine' dn_S_ranges ?ho_ ?hv_ ?_); (case ho_ => first | assumption | exact upd_same); (case hv_ => exact rfl)) | ((with_reducible refine' dn_S_stamp ?ho_ ?hv_ ?_); (case ho_ => first | assumption | exact upd_same); (case hv_ => exact rfl)) | ((with_reducible refine' dn_S_data ?ho_ ?hv_ ?_); (case ho_ => first | assumption | exact upd_same); (case hv_ => exact rfl)) | ((with_reducible refine' dp_S_source ?ho_ ?hv_ ?_); (case ho_ => first | assumption | exact upd_same); (case hv_ => exact Nat.le_of_ble_eq_true rfl)) | ((with_reducible refine' dp_S_target ?ho_ ?hv_ ?_); (case ho_ => first | assumption | exact upd_same); (case hv_ => exact Nat.le_of_ble_eq_true rfl)) | ((with_reducible refine' dp_S_seq ?ho_ ?hv_ ?_); (case ho_ => first | assumption | exact upd_same); (case hv_ => exact Nat.le_of_ble_eq_true rfl)) | ((with_reducible refine' dp_S_count ?ho_ ?hv_ ?_); (case ho_ => first | assumption | exact upd_same); (case hv_ => exact Nat.le_of_ble_eq_true rfl)) | ((with_reducible refine' dp_S_echo ?ho_ ?hv_ ?_); (case ho_ => first | assumption | exact upd_same); (case hv_ => exact Nat.le_of_ble_eq_true rfl)) | ((with_reducible refine' dp_S_ack ?ho_ ?hv_ ?_); (case ho_ => first | assumption | exact upd_same); (case hv_ => exact Nat.le_of_ble_eq_true rfl)) | ((with_reducible refine' dp_S_syn ?ho_ ?hv_ ?_); (case ho_ => first | assumption | exact upd_same); (case hv_ => exact Nat.le_of_ble_eq_true rfl)) | ((with_reducible refine' dp_S_fin ?ho_ ?hv_ ?_); (case ho_ => first | assumption | exact upd_same); (case hv_ => exact Nat.le_of_ble_eq_true rfl)) | ((with_reducible refine' dp_S_reset ?ho_ ?hv_ ?_); (case ho_ => first | assumption | exact upd_same); (case hv_ => exact Nat.le_of_ble_eq_true rfl)) | ((with_reducible refine' dp_S_marked ?ho_ ?hv_ ?_); (case ho_ => first | assumption | exact upd_same); (case hv_ => exact Nat.le_of_ble_eq_true rfl)) | ((with_reducible refine' dp_S_cut ?ho_ ?hv_ ?_); (case ho_ => first | assumption | exact upd_same); (case hv_ => exact Nat.le_of_ble_eq_true rfl)) | ((with_reducible refine' dp_S_ranges_known ?ho_ ?hv_ ?_); (case ho_ => first | assumption | exact upd_same); (case hv_ => exact Nat.le_of_ble_eq_true rfl)) | ((with_reducible refine' dp_S_window ?ho_ ?hv_ ?_); (case ho_ => first | assumption | exact upd_same); (case hv_ => exact Nat.le_of_ble_eq_true rfl)) | ((with_reducible refine' dp_S_mss ?ho_ ?hv_ ?_); (case ho_ => first | assumption | exact upd_same); (case hv_ => exact Nat.le_of_ble_eq_true rfl)) | ((with_reducible refine' dp_S_scale ?ho_ ?hv_ ?_); (case ho_ => first | assumption | exact upd_same); (case hv_ => exact Nat.le_of_ble_eq_true rfl)) | ((with_reducible refine' dp_S_ranges ?ho_ ?hv_ ?_); (case ho_ => first | assumption | exact upd_same); (case hv_ => exact Nat.le_of_ble_eq_true rfl)) | ((with_reducible refine' dp_S_stamp ?ho_ ?hv_ ?_); (case ho_ => first | assumption | exact upd_same); (case hv_ => exact Nat.le_of_ble_eq_true rfl)) | ((with_reducible refine' dp_S_data ?ho_ ?hv_ ?_); (case ho_ => first | assumption | exact upd_same); (case hv_ => exact Nat.le_of_ble_eq_true rfl)))
local macro_rules | `(tactic| walk_at "use") => `(tactic| with_reducible first | refine g_dgetT ?_ | refine g_dputT ?_)
section
variable {P : Program} {w : World} {K : PySem.W.Frag} {mg : Str → Option Value} {base : Heap}
def sp_l_cell (K : PySem.W.Frag) : Sp := fun vs H Q _ => ∃ (a : Addr) (ns : List Int) (k : Int), vs = [.ref a, .int k] ∧ SqL K H a (ns.map V.int) ∧ 0 ≤ k ∧ Q (.int (cell ns k)) H
theorem u_cell {a : Addr} {ns : List Int} {k : Int} {H Q E} (h : SqL K H a (ns.map V.int)) (h0 : 0 ≤ k) (q : Q (.int (cell ns k)) H) : sp_l_cell K ([.ref a, .int k] ++ []) H Q E := ⟨a, ns, k, rfl, h, h0, q⟩
theorem ok_l_cell (T : Txt K mg) : FnOk P w K mg base CX0 1 T.f_l_cell T.d_l_cell ["script", "k"] (sp_l_cell K) := by
  refine T.F_l_cell.ok sc_l_cell (fun vs H Q E h => ?_) (fun cdv A outer s H vs Q E hr h => ?_)
  · obtain ⟨a, ns, k, rfl, hS, h0, q⟩ := h
    rfl
  · obtain ⟨a, ns, k, rfl, hS, h0, q⟩ := h
    have hu := hu_of hr
    refine ⟨_, (pss_cons (ps_if (pt_cmpR op_lt (pv 1) (pe_callB call_len_seq (by rfl) T.n_len (by decide +kernel) (pa_cons (pv 0) pa_nil)) (nomark _)) (pss_one (ps_ret (pe_ix ix_list (pv 0) (pv 1) (fun _ _ => rfl)))) pss_nil)
        (pss_one (ps_ret pe_int))), ?_⟩
    dsimp only [cxOf, Cx.nox, Cx.wish, L2.start, List.map, List.cons_append, List.nil_append, List.length_cons, List.length_nil, Nat.reduceAdd, Nat.reduceSub, Nat.zero_add, List.replicate_succ, List.replicate_zero]
    walk_at "go"
    refine g_len (.inl hS) ?_
    walk_at "go"
    rw [List.length_map]
    refine g_ite (fun h => ?_) (fun h => ?_)
    · walk_at "go"
      refine g_ixL hS (atI_map h0 h) ?_
      exact q
    · walk_at "go"
      rw [cell_out h] at q
      exact q
local macro_rules | `(tactic| walk_at "use") => `(tactic| with_reducible refine u_cell (by assumption) (by decide) ?_)

def sp_l_row (K : PySem.W.Frag) : Sp := fun vs H Q _ => ∃ (c n b : Int), vs = [.int c, .int n, .int b] ∧ (0 ≤ n ∧ n ≤ 1000 ∧ 0 < b ∧ b ≤ 2 ^ 64) ∧
  ∀ (p : Addr) (row : List Int) H', (row.length : Int) = n → (∀ x ∈ row, 0 ≤ x ∧ x < b) → H p = none → Same H H' → H' p = some (.lst (row.map V.int)) → Q (.ref p) H'
theorem u_row {c n b : Int} {H Q E} (h0 : 0 ≤ n ∧ n ≤ 1000 ∧ 0 < b ∧ b ≤ 2 ^ 64)
    (q : ∀ (p : Addr) (row : List Int) H', (row.length : Int) = n → (∀ x ∈ row, 0 ≤ x ∧ x < b) → H p = none → Same H H' → H' p = some (.lst (row.map V.int)) → Q (.ref p) H') : sp_l_row K ([.int c, .int n, .int b] ++ []) H Q E := ⟨c, n, b, rfl, h0, q⟩
theorem ok_l_row (T : Txt K mg) : FnOk P w K mg base CX0 1 T.f_l_row T.d_l_row ["cell", "size", "base"] (sp_l_row K) := by
  refine T.F_l_row.ok sc_l_row (fun vs H Q E h => ?_) (fun cdv A outer s H vs Q E hr h => ?_)
  · obtain ⟨c, n, b, rfl, h0, q⟩ := h
    rfl
  · obtain ⟨c, n, b, rfl, h0, q⟩ := h
    have hu := hu_of hr
    refine ⟨_, (pss_cons (ps_set (i := 3) sc_l_row.nd rfl (Or.inl rfl) (pe_lst pa_nil))
        (pss_cons (ps_set (i := 4) sc_l_row.nd rfl (Or.inl rfl) (pv 0))
        (pss_cons (ps_for PassesOwn.never rfl (pi_range1 (by rfl) T.n_range (pa_cons (pv 1) pa_nil)) (pg_name (i := 5) sc_l_row.nd rfl (Or.inl rfl)) (pss_one (ps_if (pt_cmpR op_ge (pv 0) (pe_op op_pow pe_int pe_int) (nomark _)) (pss_cons (ps_expr (pe_bm PySem.F.plainAttrs_list PySem.F.slot_list_append PySem.F.type_list_append mt_append (pv 3) (pa_cons (pe_op op_mod (pe_callTy call_int1 (by rfl) T.n_int (by decide +kernel) (pa_cons (pv 4) pa_nil)) (pv 2)) pa_nil)))
        (pss_one (ps_set (i := 4) sc_l_row.nd rfl (Or.inl rfl) (pe_op op_fdivW (pv 4) (pv 2))))) (pss_cons (ps_set (i := 6) sc_l_row.nd rfl (Or.inl rfl) (pe_op op_mod (pe_op op_add (pe_op op_mul (pe_op op_mod (pe_callTy call_int1 (by rfl) T.n_int (by decide +kernel) (pa_cons (pv 0) pa_nil)) pe_int) pe_int) (pe_op op_mul (pv 5) pe_int)) pe_int))
        (pss_cons (ps_set (i := 6) sc_l_row.nd rfl (Or.inl rfl) (pe_op op_mod (pe_op op_add (pe_op op_add (pe_op op_mul (pv 6) pe_int) (pe_op op_mul (pv 5) pe_int)) pe_int) pe_int))
        (pss_one (ps_expr (pe_bm PySem.F.plainAttrs_list PySem.F.slot_list_append PySem.F.type_list_append mt_append (pv 3) (pa_cons (pe_op op_mod (pe_op op_fdiv (pv 6) pe_int) (pv 2)) pa_nil)))))))))
        (pss_one (ps_ret (pv 3)))))), ?_⟩
    dsimp only [cxOf, Cx.nox, Cx.wish, L2.start, List.map, List.cons_append, List.nil_append, List.length_cons, List.length_nil, Nat.reduceAdd, Nat.reduceSub, Nat.zero_add, List.replicate_succ, List.replicate_zero]
    walk_at "go"
    refine ⟨by decide, fun p hp => ?_⟩
    walk_at "go"
    refine for_r (n := n) n.toNat rfl (by omega) (by omega) (fun i σ H' => ∃ (row : List Int) (num : Int) (v5 v6 : Option V), σ = [some (.int c), some (.int n), some (.int b), some (.ref p), some (.int num), v5, v6] ∧ row.length = i ∧ (∀ x ∈ row, 0 ≤ x ∧ x < b) ∧ But p H H' ∧ H' p = some (.lst (row.map V.int)))
      ⟨[], c, none, none, rfl, rfl, (fun x h => by cases h), But.refl.upd, upd_same⟩ ?turn ?done ?ev
    case ev =>
      intro R r
      walk_at "go"
      exact r
    case done =>
      rintro σ H' ⟨row, num, v5, v6, rfl, hl, hb, bu, e⟩
      walk_at "go"
      exact q p row H' (by omega) hb hp (bu.same hp) e
    case turn =>
      rintro i σ H' hi ⟨row, num, v5, v6, rfl, hl, hb, bu, e⟩
      have hlen : (row.map V.int).length < sizeLine := by
        rw [List.length_map]
        exact szl (by omega)
      walk_at "go"
      refine g_ite (fun h => ?_) (fun h => ?_)
      · walk_at "go"
        refine ⟨ty_l e, ?_⟩
        walk_at "go"
        refine g_append e hlen ?_
        walk_at "go"
        refine g_rI (cdivW (by omega) (Int.lt_of_le_of_lt h0.2.2.2 (by decide +kernel))) ?_
        walk_at "go"
        refine ⟨row ++ [num % b], num / b, _, _, rfl, by rw [List.length_append, hl]; rfl, fun x hx => ?_, bu.upd, by rw [upd_same, List.map_append]; rfl⟩
        rcases List.mem_append.mp hx with hx | hx
        · exact hb x hx
        · rw [List.mem_singleton.mp hx]
          exact ⟨Int.emod_nonneg _ (by omega), Int.emod_lt_of_pos _ (by omega)⟩
      · walk_at "go"
        refine ⟨ty_l e, ?_⟩
        walk_at "go"
        refine g_append e hlen ?_
        walk_at "go"
        refine ⟨row ++ [_ % b], num, _, _, rfl, by rw [List.length_append, hl]; rfl, fun x hx => ?_, bu.upd, by rw [upd_same, List.map_append]; rfl⟩
        rcases List.mem_append.mp hx with hx | hx
        · exact hb x hx
        · rw [List.mem_singleton.mp hx]
          exact ⟨Int.emod_nonneg _ (by omega), Int.emod_lt_of_pos _ (by omega)⟩

def sp_l_wire (K : PySem.W.Frag) : Sp := fun vs H Q _ => ∃ c : Int, vs = [.int c] ∧ ∀ x, 0 ≤ x ∧ x < 4294967296 → Q (.int x) H
theorem u_wire {c : Int} {H Q E} (q : ∀ x, 0 ≤ x ∧ x < 4294967296 → Q (.int x) H) : sp_l_wire K ([.int c] ++ []) H Q E := ⟨c, rfl, q⟩
theorem ok_l_wire (T : Txt K mg) : FnOk P w K mg base CX0 1 T.f_l_wire T.d_l_wire ["cell"] (sp_l_wire K) := by
  refine T.F_l_wire.ok sc_l_wire (fun vs H Q E h => ?_) (fun cdv A outer s H vs Q E hr h => ?_)
  · obtain ⟨c, rfl, q⟩ := h
    rfl
  · obtain ⟨c, rfl, q⟩ := h
    have hu := hu_of hr
    refine ⟨_, (pss_cons (ps_if (pt_cmpR op_eq (pe_op op_mod (pe_callTy call_int1 (by rfl) T.n_int (by decide +kernel) (pa_cons (pv 0) pa_nil)) pe_int) pe_int (nomark _)) (pss_one (ps_ret pe_int)) pss_nil)
        (pss_cons (ps_if (pt_cmpR op_eq (pe_op op_mod (pe_callTy call_int1 (by rfl) T.n_int (by decide +kernel) (pa_cons (pv 0) pa_nil)) pe_int) pe_int (nomark _)) (pss_one (ps_ret pe_int)) pss_nil)
        (pss_one (ps_ret (pe_op op_mod (pe_op op_fdiv (pe_callTy call_int1 (by rfl) T.n_int (by decide +kernel) (pa_cons (pv 0) pa_nil)) pe_int) pe_int))))), ?_⟩
    dsimp only [cxOf, Cx.nox, Cx.wish, L2.start, List.map, List.cons_append, List.nil_append, List.length_cons, List.length_nil, Nat.reduceAdd, Nat.reduceSub, Nat.zero_add, List.replicate_succ, List.replicate_zero]
    walk_at "go"
    refine g_ite (fun c1 => ?_) (fun c1 => ?_)
    · walk_at "go"
      exact q 0 (by omega)
    · walk_at "go"
      refine g_ite (fun c2 => ?_) (fun c2 => ?_)
      · walk_at "go"
        exact q _ (by omega)
      · walk_at "go"
        exact q _ (by omega)
def sp_l_optional (K : PySem.W.Frag) : Sp := fun vs H Q _ => ∃ (c : Int) (v : V), vs = [.int c, v] ∧ Q .non H ∧ Q v H
theorem u_opt {c : Int} {v : V} {H Q E} (q0 : Q .non H) (q : Q v H) : sp_l_optional K ([.int c, v] ++ []) H Q E := ⟨c, v, rfl, q0, q⟩
theorem u_optI {c i : Int} {H Q E} (q : ∀ o : Option Int, (∀ j, o = some j → j = i) → Q (oV o) H) : sp_l_optional K ([.int c, .int i] ++ []) H Q E := ⟨c, .int i, rfl, q none (fun j h => by cases h), q (some i) (fun j h => (Option.some.inj h).symm)⟩
theorem u_optP {c : Int} {t : Addr} {p : Int × Int} {H Q E} (h : H t = some (tupP p)) (q : ∀ v o, StV H v o → (∀ r, o = some r → r = p) → Q v H) : sp_l_optional K ([.int c, .ref t] ++ []) H Q E := ⟨c, .ref t, rfl, q .non none rfl (fun j h => by cases h), q (.ref t) (some p) ⟨t, rfl, h⟩ (fun j h => (Option.some.inj h).symm)⟩
theorem ok_l_optional (T : Txt K mg) : FnOk P w K mg base CX0 1 T.f_l_optional T.d_l_optional ["cell", "worth"] (sp_l_optional K) := by
  refine T.F_l_optional.ok sc_l_optional (fun vs H Q E h => ?_) (fun cdv A outer s H vs Q E hr h => ?_)
  · obtain ⟨c, v, rfl, q0, q⟩ := h
    rfl
  · obtain ⟨c, v, rfl, q0, q⟩ := h
    have hu := hu_of hr
    refine ⟨_, (pss_cons (ps_if (pt_cmpR op_eq (pe_op op_mod (pe_callTy call_int1 (by rfl) T.n_int (by decide +kernel) (pa_cons (pv 0) pa_nil)) pe_int) pe_int (nomark _)) (pss_one (ps_ret pe_non)) pss_nil)
        (pss_one (ps_ret (pv 1)))), ?_⟩
    dsimp only [cxOf, Cx.nox, Cx.wish, L2.start, List.map, List.cons_append, List.nil_append, List.length_cons, List.length_nil, Nat.reduceAdd, Nat.reduceSub, Nat.zero_add, List.replicate_succ, List.replicate_zero]
    walk_at "go"
    refine g_ite (fun c1 => ?_) (fun c1 => ?_)
    · walk_at "go"
      exact q0
    · walk_at "go"
      exact q
/-- a comprehension of pairs, under way -/
def LcPP (H1 : Hp) (D : Addr) (ps : List (Int × Int)) (i : Nat) (H : Hp) : Prop := Same H1 H ∧ ∃ us, H D = some (.lst us) ∧ Prs H us (ps.take i)
theorem lc_pair {H1 H3 : Hp} {D t : Addr} {ps : List (Int × Int)} {i : Nat} {p : Int × Int} (hD : H1 D = none) (h : LcPP H1 D ps i H3) (ht : H3 t = none) (hp : ps[i]? = some p) (hz : ps.length ≤ 100000) :
    ∃ acc, (upd H3 t (.tup [V.int p.1, V.int p.2])) D = some (.lst acc) ∧ acc.length < sizeLine ∧ LcPP H1 D ps (i + 1) (upd (upd H3 t (.tup [V.int p.1, V.int p.2])) D (.lst (acc ++ [V.ref t]))) := by
  obtain ⟨sm, us, e, hP⟩ := h
  have ntD : t ≠ D := fun z => by rw [z, e] at ht; cases ht
  have bu : But D H3 (upd (upd H3 t (.tup [V.int p.1, V.int p.2])) D (.lst (us ++ [V.ref t]))) := (But.of (same_upd ht)).upd
  have et : (upd (upd H3 t (.tup [V.int p.1, V.int p.2])) D (.lst (us ++ [V.ref t]))) t = some (tupP p) := by rw [upd_ne ntD, upd_same]; rfl
  refine ⟨us, upd_keep ht e, ?_, ?_, us ++ [V.ref t], upd_same, ?_⟩
  · rw [hP.1, List.length_take]
    obtain ⟨h, _⟩ := List.getElem?_eq_some_iff.mp hp
    exact szl (by omega)
  · exact ((But.of sm).trans bu).same hD
  · rw [List.take_add_one, hp]
    exact (hP.but bu e).app (Prs.one et)

def sp_l_pairs (K : PySem.W.Frag) : Sp := fun vs H Q _ => ∃ (c n : Int), vs = [.int c, .int n] ∧ (0 ≤ n ∧ n ≤ 100) ∧ ∀ (a : Addr) (us : List V) (ps : List (Int × Int)) H', (ps.length : Int) = n → (∀ p ∈ ps, (0 ≤ p.1 ∧ p.1 < 4294967296) ∧ 0 ≤ p.2 ∧ p.2 < 4294967296) → H a = none → Same H H' → H' a = some (.lst us) → Prs H' us ps → Q (.ref a) H'
theorem u_pairs {c n : Int} {H Q E} (hn : 0 ≤ n ∧ n ≤ 100) (q : ∀ (a : Addr) (us : List V) (ps : List (Int × Int)) H', (ps.length : Int) = n → (∀ p ∈ ps, (0 ≤ p.1 ∧ p.1 < 4294967296) ∧ 0 ≤ p.2 ∧ p.2 < 4294967296) → H a = none → Same H H' → H' a = some (.lst us) → Prs H' us ps → Q (.ref a) H') : sp_l_pairs K ([.int c, .int n] ++ []) H Q E := ⟨c, n, rfl, hn, q⟩
theorem ok_l_pairs (T : Txt K mg) : FnOk P w K mg base CX0 2 T.f_l_pairs T.d_l_pairs ["cell", "size"] (sp_l_pairs K) := by
  refine T.F_l_pairs.ok sc_l_pairs (fun vs H Q E h => ?_) (fun cdv A outer s H vs Q E hr h => ?_)
  · obtain ⟨c, n, rfl, hn, q⟩ := h
    rfl
  · obtain ⟨c, n, rfl, hn, q⟩ := h
    have hu := hu_of hr
    refine ⟨_, (pss_cons (ps_set (i := 2) sc_l_pairs.nd rfl (Or.inr rfl) (pe_call (ok_l_row T) (hr.mono (by decide)) rfl T.m_l_row T.F_l_row.kp T.b_l_row .nil pass0 (pa_cons (pv 0) (pa_cons (pe_op op_mul pe_int (pv 1)) (pa_cons pe_int pa_nil)))))
        (pss_one (ps_ret (pe_lc (own := [("k", 3)]) (g := gName 3) (tt := tYes) rfl sc_l_pairs.nd (pi_range1 (by rfl) T.n_range (pa_cons (pv 1) pa_nil)) (blkOk_by (N := ["cell", "size", "row", "k"]) (sc := defScope s_l_pairs) (by decide +kernel)) (fun _ _ _ _ _ => (pg_name (i := 3) sc_l_pairs.nd rfl (Or.inl rfl))) (fun _ _ _ _ _ => pts_nil) (fun _ _ _ _ _ => (pe_tup (pa_cons (pe_ix (r := rIxL K) ix_list (pv 2) (pe_op op_mul pe_int (pv 3)) (fun _ _ => rfl)) (pa_cons (pe_ix (r := rIxL K) ix_list (pv 2) (pe_op op_add (pe_op op_mul pe_int (pv 3)) pe_int) (fun _ _ => rfl)) pa_nil)))))))), ?_⟩
    dsimp only [cxOf, Cx.nox, Cx.wish, L2.start, List.map, List.cons_append, List.nil_append, List.length_cons, List.length_nil, Nat.reduceAdd, Nat.reduceSub, Nat.zero_add, List.replicate_succ, List.replicate_zero]
    walk_at "go"
    refine u_row ⟨by omega, by omega, by decide, by decide⟩ fun pd row H3 lrow brow nd s3 ed => ?_
    walk_at "go"
    refine ⟨by omega, by omega, fun D hD => ?_⟩
    obtain ⟨N, rfl⟩ : ∃ N : Nat, n = (N : Int) := ⟨n.toNat, by omega⟩
    have get : ∀ k : Nat, k < 2 * N → row[k]? = some (row.getD k 0) := fun k hk => by
      rw [List.getD_eq_getElem?_getD, List.getElem?_eq_getElem (by omega)]
      rfl
    obtain ⟨ps, hps, lps⟩ : ∃ ps : List (Int × Int), (∀ k : Nat, k < N → ps[k]? = some (row.getD (2 * k) 0, row.getD (2 * k + 1) 0)) ∧ ps.length = N := ⟨(List.range N).map fun k => (row.getD (2 * k) 0, row.getD (2 * k + 1) 0), fun k hk => by
      rw [List.getElem?_map, List.getElem?_range hk]
      rfl, by rw [List.length_map, List.length_range]⟩
    refine lc_it walk_range (LcPP H3 D ps) ⟨same_upd hD, [], upd_same, Prs.nil⟩ (fun _ _ _ _ => trivial) ?turn ?done
    case turn =>
      rintro i x H1 H2 hi p ⟨rfl, rfl⟩
      rw [Int.toNat_natCast] at hi
      refine ⟨rfl, ?_⟩
      walk_at "go"
      refine g_ixL (p.1.seq (sl ed)) (at_of (j := 2 * i) (by omega) (by rw [List.getElem?_map, get (2 * i) (by omega)]; rfl)) ?_
      walk_at "go"
      refine g_ixL (p.1.seq (sl ed)) (at_of (j := 2 * i + 1) (by omega) (by rw [List.getElem?_map, get (2 * i + 1) (by omega)]; rfl)) ?_
      walk_at "go"
      refine ⟨sz (by show 2 ≤ 100000; decide), fun t ht => ?_⟩
      exact lc_pair hD p ht (hps i hi) (by omega)
    case done =>
      rintro H' ⟨sm, us, e, hP⟩
      rw [Int.toNat_natCast, List.take_of_length_le (by omega)] at hP
      walk_at "go"
      refine q D us ps H' (by omega) (fun p hp => ?_) (s3.free hD) (s3.trans sm) e hP
      obtain ⟨k, hk⟩ := List.mem_iff_getElem?.mp hp
      obtain ⟨hk1, _⟩ := List.getElem?_eq_some_iff.mp hk
      rw [hps k (by omega)] at hk
      cases hk
      exact ⟨brow _ (List.mem_of_getElem? (get _ (by omega))), brow _ (List.mem_of_getElem? (get _ (by omega)))⟩

theorem g_disp {trs : List (TE × TE)} {σ : St} {H : Hp} {Q : VK} (h : ∀ p, H p = none → tPairs trs σ (upd H p (.dK [])) fun ps H2 => H2 p = some (.dK []) ∧ ∃ kvs : List (Key × V), ps = kvs.map (fun kv => (kV kv.1, kv.2)) ∧ kvs.length ≤ 15 ∧ Q (.ref p) (upd H2 p (.dK (mergeK [] kvs)))) : tDisp trs σ H Q := h
theorem g_pcons {tk tv : TE} {r : List (TE × TE)} {σ : St} {H : Hp} {Q : List (V × V) → Hp → Prop} (h : tk σ H fun x H1 => tv σ H1 fun y H2 => tPairs r σ H2 fun ps H3 => Q ((x, y) :: ps) H3) : tPairs ((tk, tv) :: r) σ H Q := h
theorem g_pnil {σ : St} {H : Hp} {Q : List (V × V) → Hp → Prop} (q : Q [] H) : tPairs [] σ H Q := q
local macro_rules | `(tactic| walk_at "use") => `(tactic| with_reducible first | refine g_disp ?_ | refine g_pcons ?_ | refine g_pnil ?_)
local macro_rules | `(tactic| walk_at "use") => `(tactic| with_reducible refine u_cell (by assumption) (by omega) ?_)

def W32 (x : Int) : Prop := 0 ≤ x ∧ x < 4294967296
structure SgOk (g : Sg) : Prop where
  cnt : W32 g.cnt
  echo : ∀ i, g.echo = some i → W32 i
  mss : ∀ i, g.mss = some i → 0 ≤ i ∧ i < 65536
  scale : ∀ i, g.scale = some i → 0 ≤ i ∧ i < 15
  rs : ∀ p ∈ g.rs, W32 p.1 ∧ W32 p.2
  rl : g.rs.length ≤ 5
  stamp : ∀ p, g.stamp = some p → W32 p.1 ∧ W32 p.2
  ds : ∀ x ∈ g.ds, 0 ≤ x ∧ x < 256
  dl : g.ds.length ≤ 30
def sp_l_parts (K : PySem.W.Frag) : Sp := fun vs H Q _ => ∃ (a : Addr) (ns : List Int) (n : Int), vs = [.ref a, .int n] ∧ SqL K H a (ns.map V.int) ∧ 0 ≤ n ∧ ∀ p da ra g H', SgOk g → H p = none → H da = none → H ra = none → da ≠ ra → Same H H' → SegD H' p g da ra → Q (.ref p) H'
theorem u_parts {a : Addr} {ns : List Int} {n : Int} {H Q E} (h : SqL K H a (ns.map V.int)) (h0 : 0 ≤ n) (q : ∀ p da ra g H', SgOk g → H p = none → H da = none → H ra = none → da ≠ ra → Same H H' → SegD H' p g da ra → Q (.ref p) H') : sp_l_parts K ([.ref a, .int n] ++ []) H Q E := ⟨a, ns, n, rfl, h, h0, q⟩
theorem ok_l_parts (T : Txt K mg) : FnOk P w K mg base CX0 3 T.f_l_parts T.d_l_parts ["script", "at"] (sp_l_parts K) := by
  refine T.F_l_parts.ok sc_l_parts (fun vs H Q E h => ?_) (fun cdv A outer s H vs Q E hr h => ?_)
  · obtain ⟨a, ns, n, rfl, hS, h0, q⟩ := h
    rfl
  · obtain ⟨a, ns, n, rfl, hS, h0, q⟩ := h
    have hu := hu_of hr
    refine ⟨_, (pss_cons (ps_setLc (i := 2) (own := [("k", 4)]) (g := gName 4) (tt := tYes) rfl sc_l_parts.nd rfl rfl (sw_true rfl rfl rfl (by decide +kernel)) (pi_range1 (by rfl) T.n_range (pa_cons pe_int pa_nil)) (blkOk_by (N := ["script", "at", "cells", "parts", "k"]) (sc := defScope s_l_parts) (by decide +kernel)) (fun _ _ _ _ _ => (pg_name (i := 4) sc_l_parts.nd rfl (Or.inl rfl))) (fun _ _ _ _ _ => pts_nil) (fun _ _ _ _ _ => (pe_call (ok_l_cell T) (hr.mono (by decide)) rfl T.m_l_cell T.F_l_cell.kp T.b_l_cell .nil pass0 (pa_cons (pv 0) (pa_cons (pe_op op_add (pv 1) (pv 4)) pa_nil)))))
        (pss_cons (ps_set (i := 3) sc_l_parts.nd rfl (Or.inl rfl) (pe_disp (pps_cons pe_str (pe_op op_add pe_int (pe_op op_mod (pe_callTy call_int1 (by rfl) T.n_int (by decide +kernel) (pa_cons (pe_ix ix_list (pv 2) pe_int (fun _ _ => rfl)) pa_nil)) pe_int)) (pps_cons pe_str (pe_op op_add pe_int (pe_op op_mod (pe_callTy call_int1 (by rfl) T.n_int (by decide +kernel) (pa_cons (pe_ix ix_list (pv 2) pe_int (fun _ _ => rfl)) pa_nil)) pe_int)) (pps_cons pe_str (pe_call (ok_l_wire T) (hr.mono (by decide)) rfl T.m_l_wire T.F_l_wire.kp T.b_l_wire .nil pass0 (pa_cons (pe_ix ix_list (pv 2) pe_int (fun _ _ => rfl)) pa_nil)) pps_nil))) (by rfl) (by rfl) (fun z => by cases z) (by decide)))
        (pss_cons (ps_dput hu (pv 3) pe_str (pe_call (ok_l_wire T) (hr.mono (by decide)) rfl T.m_l_wire T.F_l_wire.kp T.b_l_wire .nil pass0 (pa_cons (pe_ix ix_list (pv 2) pe_int (fun _ _ => rfl)) pa_nil)) rfl)
        (pss_cons (ps_dput hu (pv 3) pe_str (pe_call (ok_l_optional T) (hr.mono (by decide)) rfl T.m_l_optional T.F_l_optional.kp T.b_l_optional .nil pass0 (pa_cons (pe_ix ix_list (pv 2) pe_int (fun _ _ => rfl)) (pa_cons (pe_call (ok_l_wire T) (hr.mono (by decide)) rfl T.m_l_wire T.F_l_wire.kp T.b_l_wire .nil pass0 (pa_cons (pe_op op_fdiv (pe_ix ix_list (pv 2) pe_int (fun _ _ => rfl)) pe_int) pa_nil)) pa_nil))) rfl)
        (pss_cons (ps_dput hu (pv 3) pe_str (pe_call (ok_l_optional T) (hr.mono (by decide)) rfl T.m_l_optional T.F_l_optional.kp T.b_l_optional .nil pass0 (pa_cons (pe_ix ix_list (pv 2) pe_int (fun _ _ => rfl)) (pa_cons (pe_call (ok_l_wire T) (hr.mono (by decide)) rfl T.m_l_wire T.F_l_wire.kp T.b_l_wire .nil pass0 (pa_cons (pe_op op_fdiv (pe_ix ix_list (pv 2) pe_int (fun _ _ => rfl)) pe_int) pa_nil)) pa_nil))) rfl)
        (pss_cons (ps_dput hu (pv 3) pe_str (pe_cmpR op_eq (pe_op op_mod (pe_callTy call_int1 (by rfl) T.n_int (by decide +kernel) (pa_cons (pe_ix ix_list (pv 2) pe_int (fun _ _ => rfl)) pa_nil)) pe_int) pe_int (nomark _)) rfl)
        (pss_cons (ps_dput hu (pv 3) pe_str (pe_cmpR op_eq (pe_op op_mod (pe_op op_fdiv (pe_callTy call_int1 (by rfl) T.n_int (by decide +kernel) (pa_cons (pe_ix ix_list (pv 2) pe_int (fun _ _ => rfl)) pa_nil)) pe_int) pe_int) pe_int (nomark _)) rfl)
        (pss_cons (ps_dput hu (pv 3) pe_str (pe_cmpR op_eq (pe_op op_mod (pe_op op_fdiv (pe_callTy call_int1 (by rfl) T.n_int (by decide +kernel) (pa_cons (pe_ix ix_list (pv 2) pe_int (fun _ _ => rfl)) pa_nil)) pe_int) pe_int) pe_int (nomark _)) rfl)
        (pss_cons (ps_dput hu (pv 3) pe_str (pe_cmpR op_eq (pe_op op_mod (pe_op op_fdiv (pe_callTy call_int1 (by rfl) T.n_int (by decide +kernel) (pa_cons (pe_ix ix_list (pv 2) pe_int (fun _ _ => rfl)) pa_nil)) pe_int) pe_int) pe_int (nomark _)) rfl)
        (pss_cons (ps_dput hu (pv 3) pe_str (pe_cmpR op_eq (pe_op op_mod (pe_op op_fdiv (pe_callTy call_int1 (by rfl) T.n_int (by decide +kernel) (pa_cons (pe_ix ix_list (pv 2) pe_int (fun _ _ => rfl)) pa_nil)) pe_int) pe_int) pe_int (nomark _)) rfl)
        (pss_cons (ps_dput hu (pv 3) pe_str (pe_cmpR op_eq (pe_op op_mod (pe_op op_fdiv (pe_callTy call_int1 (by rfl) T.n_int (by decide +kernel) (pa_cons (pe_ix ix_list (pv 2) pe_int (fun _ _ => rfl)) pa_nil)) pe_int) pe_int) pe_int (nomark _)) rfl)
        (pss_cons (ps_dput hu (pv 3) pe_str (pe_op op_mod (pe_callTy call_int1 (by rfl) T.n_int (by decide +kernel) (pa_cons (pe_ix ix_list (pv 2) pe_int (fun _ _ => rfl)) pa_nil)) pe_int) rfl)
        (pss_cons (ps_dput hu (pv 3) pe_str (pe_call (ok_l_optional T) (hr.mono (by decide)) rfl T.m_l_optional T.F_l_optional.kp T.b_l_optional .nil pass0 (pa_cons (pe_ix ix_list (pv 2) pe_int (fun _ _ => rfl)) (pa_cons (pe_op op_mod (pe_op op_fdiv (pe_callTy call_int1 (by rfl) T.n_int (by decide +kernel) (pa_cons (pe_ix ix_list (pv 2) pe_int (fun _ _ => rfl)) pa_nil)) pe_int) pe_int) pa_nil))) rfl)
        (pss_cons (ps_dput hu (pv 3) pe_str (pe_call (ok_l_optional T) (hr.mono (by decide)) rfl T.m_l_optional T.F_l_optional.kp T.b_l_optional .nil pass0 (pa_cons (pe_ix ix_list (pv 2) pe_int (fun _ _ => rfl)) (pa_cons (pe_op op_mod (pe_op op_fdiv (pe_callTy call_int1 (by rfl) T.n_int (by decide +kernel) (pa_cons (pe_ix ix_list (pv 2) pe_int (fun _ _ => rfl)) pa_nil)) pe_int) pe_int) pa_nil))) rfl)
        (pss_cons (ps_dput hu (pv 3) pe_str (pe_call (ok_l_pairs T) (hr.mono (by decide)) rfl T.m_l_pairs T.F_l_pairs.kp T.b_l_pairs .nil pass0 (pa_cons (pe_ix ix_list (pv 2) pe_int (fun _ _ => rfl)) (pa_cons (pe_op op_mod (pe_callTy call_int1 (by rfl) T.n_int (by decide +kernel) (pa_cons (pe_ix ix_list (pv 2) pe_int (fun _ _ => rfl)) pa_nil)) pe_int) pa_nil))) rfl)
        (pss_cons (ps_dput hu (pv 3) pe_str (pe_call (ok_l_optional T) (hr.mono (by decide)) rfl T.m_l_optional T.F_l_optional.kp T.b_l_optional .nil pass0 (pa_cons (pe_ix ix_list (pv 2) pe_int (fun _ _ => rfl)) (pa_cons (pe_tup (pa_cons (pe_call (ok_l_wire T) (hr.mono (by decide)) rfl T.m_l_wire T.F_l_wire.kp T.b_l_wire .nil pass0 (pa_cons (pe_op op_fdiv (pe_ix ix_list (pv 2) pe_int (fun _ _ => rfl)) pe_int) pa_nil)) (pa_cons (pe_call (ok_l_wire T) (hr.mono (by decide)) rfl T.m_l_wire T.F_l_wire.kp T.b_l_wire .nil pass0 (pa_cons (pe_op op_fdiv (pe_ix ix_list (pv 2) pe_int (fun _ _ => rfl)) pe_int) pa_nil)) pa_nil))) pa_nil))) rfl)
        (pss_cons (ps_dput hu (pv 3) pe_str (pe_call (ok_l_row T) (hr.mono (by decide)) rfl T.m_l_row T.F_l_row.kp T.b_l_row .nil pass0 (pa_cons (pe_ix ix_list (pv 2) pe_int (fun _ _ => rfl)) (pa_cons (pe_op op_mod (pe_callTy call_int1 (by rfl) T.n_int (by decide +kernel) (pa_cons (pe_ix ix_list (pv 2) pe_int (fun _ _ => rfl)) pa_nil)) pe_int) (pa_cons pe_int pa_nil)))) rfl)
        (pss_one (ps_ret (pv 3)))))))))))))))))))), ?_⟩
    dsimp only [cxOf, Cx.nox, Cx.wish, L2.start, List.map, List.cons_append, List.nil_append, List.length_cons, List.length_nil, Nat.reduceAdd, Nat.reduceSub, Nat.zero_add, List.replicate_succ, List.replicate_zero]
    walk_at "go"
    refine ⟨by decide, by decide, fun D hD => ?_⟩
    refine lc_vals walk_range ((List.range 15).map fun k : Nat => V.int (cell ns (n + k))) hD rfl (fun _ _ => trivial) ?turn0 ?done0
    case turn0 =>
      rintro i x H1 H2 hi2 pp ⟨rfl, rfl⟩
      have hS1 := pp.1.seq hS
      refine ⟨rfl, ?_⟩
      walk_at "go"
      refine lc_next hD pp (by rw [List.length_map, List.length_range]; decide) ?_
      have hi3 : i < 15 := hi2
      rw [List.getElem?_map, List.getElem?_range hi3]
      show some (V.int (cell ns (n + (i : Int)))) = some (V.int (cell ns (n + (0 + (i : Int)))))
      rw [Int.zero_add]
    case done0 =>
    intro H3 s3 e3
    walk_at "go"
    intro p hp
    have npC : D ≠ p := fun z => by rw [← z, e3] at hp; cases hp
    have hC : SqL K H3 D ((List.range 15).map fun k : Nat => V.int (cell ns (n + k))) := sl e3
    clear e3
    generalize hcs : (List.range 15).map (fun k : Nat => V.int (cell ns (n + k))) = cs at hC
    have g0 : ∀ k : Nat, k < 15 → cs[k]? = some (V.int (cell ns (n + k))) := fun k hk => by
      rw [← hcs, List.getElem?_map, List.getElem?_range hk]; rfl
    clear hcs
    walk_at "go"
    refine g_ixL (but_sq (p := p) ?b npC hC) (at_of (j := 0) rfl (g0 0 (by decide))) ?_
    case b => repeat (first | exact But.refl | refine But.upd ?_)
    walk_at "go"
    refine g_ixL (but_sq (p := p) ?b npC hC) (at_of (j := 1) rfl (g0 1 (by decide))) ?_
    case b => repeat (first | exact But.refl | refine But.upd ?_)
    walk_at "go"
    refine g_ixL (but_sq (p := p) ?b npC hC) (at_of (j := 2) rfl (g0 2 (by decide))) ?_
    case b => repeat (first | exact But.refl | refine But.upd ?_)
    walk_at "go"
    refine u_wire fun x2 h2 => ?_
    walk_at "go"
    have mk : mergeK [] [((Sum.inr "source" : Key), V.int (1 + cell ns (n + ((0 : Nat) : Int)) % 65535)), (.inr "target", V.int (1 + cell ns (n + ((1 : Nat) : Int)) % 65535)), (.inr "seq", V.int x2)] = dk kd_S [V.int (1 + cell ns (n + ((0 : Nat) : Int)) % 65535), V.int (1 + cell ns (n + ((1 : Nat) : Int)) % 65535), V.int x2] := by
      show putK (putK (putK (dk kd_S []) (.inr "source") _) (.inr "target") _) (.inr "seq") _ = _
      rw [dk_new ndd_S rfl, dk_new ndd_S rfl, dk_new ndd_S rfl]
      rfl
    refine ⟨upd_same, [((Sum.inr "source" : Key), V.int (1 + cell ns (n + ((0 : Nat) : Int)) % 65535)), (.inr "target", V.int (1 + cell ns (n + ((1 : Nat) : Int)) % 65535)), (.inr "seq", V.int x2)], rfl, (by show 3 ≤ 15; decide), ?_⟩
    rw [mk]
    clear mk
    generalize 1 + cell ns (n + ((0 : Nat) : Int)) % 65535 = x0
    generalize 1 + cell ns (n + ((1 : Nat) : Int)) % 65535 = x1
    walk_at "go"
    refine g_ixL (but_sq (p := p) ?b npC hC) (at_of (j := 3) rfl (g0 3 (by decide))) ?_
    case b => repeat (first | exact But.refl | refine But.upd ?_)
    walk_at "go"
    refine u_wire fun x3 h3 => ?_
    walk_at "go"
    refine g_ixL (but_sq (p := p) ?b npC hC) (at_of (j := 4) rfl (g0 4 (by decide))) ?_
    case b => repeat (first | exact But.refl | refine But.upd ?_)
    walk_at "go"
    refine g_ixL (but_sq (p := p) ?b npC hC) (at_of (j := 4) rfl (g0 4 (by decide))) ?_
    case b => repeat (first | exact But.refl | refine But.upd ?_)
    walk_at "go"
    refine u_wire fun x4 h4 => ?_
    walk_at "go"
    refine u_optI fun oe hoe => ?_
    walk_at "go"
    refine g_ixL (but_sq (p := p) ?b npC hC) (at_of (j := 5) rfl (g0 5 (by decide))) ?_
    case b => repeat (first | exact But.refl | refine But.upd ?_)
    walk_at "go"
    refine g_ixL (but_sq (p := p) ?b npC hC) (at_of (j := 5) rfl (g0 5 (by decide))) ?_
    case b => repeat (first | exact But.refl | refine But.upd ?_)
    walk_at "go"
    refine u_wire fun x5 h5 => ?_
    walk_at "go"
    refine u_optI fun oa hoa => ?_
    walk_at "go"
    refine g_ixL (but_sq (p := p) ?b npC hC) (at_of (j := 6) rfl (g0 6 (by decide))) ?_
    case b => repeat (first | exact But.refl | refine But.upd ?_)
    walk_at "go"
    refine g_ixL (but_sq (p := p) ?b npC hC) (at_of (j := 6) rfl (g0 6 (by decide))) ?_
    case b => repeat (first | exact But.refl | refine But.upd ?_)
    walk_at "go"
    refine g_ixL (but_sq (p := p) ?b npC hC) (at_of (j := 6) rfl (g0 6 (by decide))) ?_
    case b => repeat (first | exact But.refl | refine But.upd ?_)
    walk_at "go"
    refine g_ixL (but_sq (p := p) ?b npC hC) (at_of (j := 6) rfl (g0 6 (by decide))) ?_
    case b => repeat (first | exact But.refl | refine But.upd ?_)
    walk_at "go"
    refine g_ixL (but_sq (p := p) ?b npC hC) (at_of (j := 6) rfl (g0 6 (by decide))) ?_
    case b => repeat (first | exact But.refl | refine But.upd ?_)
    walk_at "go"
    refine g_ixL (but_sq (p := p) ?b npC hC) (at_of (j := 6) rfl (g0 6 (by decide))) ?_
    case b => repeat (first | exact But.refl | refine But.upd ?_)
    walk_at "go"
    refine g_ixL (but_sq (p := p) ?b npC hC) (at_of (j := 7) rfl (g0 7 (by decide))) ?_
    case b => repeat (first | exact But.refl | refine But.upd ?_)
    walk_at "go"
    refine g_ixL (but_sq (p := p) ?b npC hC) (at_of (j := 8) rfl (g0 8 (by decide))) ?_
    case b => repeat (first | exact But.refl | refine But.upd ?_)
    walk_at "go"
    refine g_ixL (but_sq (p := p) ?b npC hC) (at_of (j := 8) rfl (g0 8 (by decide))) ?_
    case b => repeat (first | exact But.refl | refine But.upd ?_)
    walk_at "go"
    refine u_optI fun om hom => ?_
    walk_at "go"
    refine g_ixL (but_sq (p := p) ?b npC hC) (at_of (j := 9) rfl (g0 9 (by decide))) ?_
    case b => repeat (first | exact But.refl | refine But.upd ?_)
    walk_at "go"
    refine g_ixL (but_sq (p := p) ?b npC hC) (at_of (j := 9) rfl (g0 9 (by decide))) ?_
    case b => repeat (first | exact But.refl | refine But.upd ?_)
    walk_at "go"
    refine u_optI fun os hos => ?_
    walk_at "go"
    simp only [upd_upd, List.nil_append, List.cons_append]
    have e0 : (upd H3 p (.dK (dk kd_S [V.int x0, V.int x1, V.int x2, V.int x3, oV oe, oV oa, V.bl (decide (cell ns (n + ((6 : Nat) : Int)) % 2 = 1)), V.bl (decide (cell ns (n + ((6 : Nat) : Int)) / 2 % 2 = 1)), V.bl (decide (cell ns (n + ((6 : Nat) : Int)) / 4 % 2 = 1)), V.bl (decide (cell ns (n + ((6 : Nat) : Int)) / 8 % 2 = 1)), V.bl (decide (cell ns (n + ((6 : Nat) : Int)) / 16 % 2 = 1)), V.bl (decide (cell ns (n + ((6 : Nat) : Int)) / 32 % 2 = 1)), V.int (cell ns (n + ((7 : Nat) : Int)) % 65536), oV om, oV os]))) p = some (.dK (dk kd_S [V.int x0, V.int x1, V.int x2, V.int x3, oV oe, oV oa, V.bl (decide (cell ns (n + ((6 : Nat) : Int)) % 2 = 1)), V.bl (decide (cell ns (n + ((6 : Nat) : Int)) / 2 % 2 = 1)), V.bl (decide (cell ns (n + ((6 : Nat) : Int)) / 4 % 2 = 1)), V.bl (decide (cell ns (n + ((6 : Nat) : Int)) / 8 % 2 = 1)), V.bl (decide (cell ns (n + ((6 : Nat) : Int)) / 16 % 2 = 1)), V.bl (decide (cell ns (n + ((6 : Nat) : Int)) / 32 % 2 = 1)), V.int (cell ns (n + ((7 : Nat) : Int)) % 65536), oV om, oV os])) := upd_same
    have bu : But p H3 (upd H3 p (.dK (dk kd_S [V.int x0, V.int x1, V.int x2, V.int x3, oV oe, oV oa, V.bl (decide (cell ns (n + ((6 : Nat) : Int)) % 2 = 1)), V.bl (decide (cell ns (n + ((6 : Nat) : Int)) / 2 % 2 = 1)), V.bl (decide (cell ns (n + ((6 : Nat) : Int)) / 4 % 2 = 1)), V.bl (decide (cell ns (n + ((6 : Nat) : Int)) / 8 % 2 = 1)), V.bl (decide (cell ns (n + ((6 : Nat) : Int)) / 16 % 2 = 1)), V.bl (decide (cell ns (n + ((6 : Nat) : Int)) / 32 % 2 = 1)), V.int (cell ns (n + ((7 : Nat) : Int)) % 65536), oV om, oV os]))) := But.refl.upd
    have hm2 : ∀ i, om = some i → 0 ≤ i ∧ i < 65536 := fun i h => by have := hom i h; omega
    have ho2 : ∀ i, os = some i → 0 ≤ i ∧ i < 15 := fun i h => by have := hos i h; omega
    generalize decide (cell ns (n + ((6 : Nat) : Int)) % 2 = 1) = b0 at e0 bu ⊢
    generalize decide (cell ns (n + ((6 : Nat) : Int)) / 2 % 2 = 1) = b1 at e0 bu ⊢
    generalize decide (cell ns (n + ((6 : Nat) : Int)) / 4 % 2 = 1) = b2 at e0 bu ⊢
    generalize decide (cell ns (n + ((6 : Nat) : Int)) / 8 % 2 = 1) = b3 at e0 bu ⊢
    generalize decide (cell ns (n + ((6 : Nat) : Int)) / 16 % 2 = 1) = b4 at e0 bu ⊢
    generalize decide (cell ns (n + ((6 : Nat) : Int)) / 32 % 2 = 1) = b5 at e0 bu ⊢
    generalize cell ns (n + ((7 : Nat) : Int)) % 65536 = x7 at e0 bu ⊢
    generalize upd H3 p (.dK (dk kd_S [V.int x0, V.int x1, V.int x2, V.int x3, oV oe, oV oa, V.bl b0, V.bl b1, V.bl b2, V.bl b3, V.bl b4, V.bl b5, V.int x7, oV om, oV os])) = H4 at e0 bu ⊢
    have hC4 := but_sq bu npC hC
    refine g_ixL (hC4) (at_of (j := 10) rfl (g0 10 (by decide))) ?_
    walk_at "go"
    refine g_ixL (hC4) (at_of (j := 11) rfl (g0 11 (by decide))) ?_
    walk_at "go"
    refine u_pairs (by omega) fun ra us rs H5 lrs brs nra s5 era hP => ?_
    have e5 := s5 _ _ e0
    have nrp : ra ≠ p := fun z => by rw [z, e0] at nra; cases nra
    have bu5 := bu.trans (But.of s5)
    have fra : H3 ra = none := bu.free nrp nra
    clear e0 bu nra
    walk_at "go"
    simp only [List.nil_append, List.cons_append]
    have e6 : (upd H5 p (.dK (dk kd_S [V.int x0, V.int x1, V.int x2, V.int x3, oV oe, oV oa, V.bl b0, V.bl b1, V.bl b2, V.bl b3, V.bl b4, V.bl b5, V.int x7, oV om, oV os, V.ref ra]))) p = some (.dK (dk kd_S [V.int x0, V.int x1, V.int x2, V.int x3, oV oe, oV oa, V.bl b0, V.bl b1, V.bl b2, V.bl b3, V.bl b4, V.bl b5, V.int x7, oV om, oV os, V.ref ra])) := upd_same
    have b56 : But p H5 (upd H5 p (.dK (dk kd_S [V.int x0, V.int x1, V.int x2, V.int x3, oV oe, oV oa, V.bl b0, V.bl b1, V.bl b2, V.bl b3, V.bl b4, V.bl b5, V.int x7, oV om, oV os, V.ref ra]))) := But.refl.upd
    generalize upd H5 p (.dK (dk kd_S [V.int x0, V.int x1, V.int x2, V.int x3, oV oe, oV oa, V.bl b0, V.bl b1, V.bl b2, V.bl b3, V.bl b4, V.bl b5, V.int x7, oV om, oV os, V.ref ra])) = H6 at e6 b56 ⊢
    have era6 := b56 _ _ nrp era
    have hP6 := hP.butD b56 e5
    have b6 := bu5.trans b56
    have hC6 := but_sq b6 npC hC
    clear e5 hP era b56 bu5 hC4
    refine g_ixL (hC6) (at_of (j := 12) rfl (g0 12 (by decide))) ?_
    walk_at "go"
    refine g_ixL (hC6) (at_of (j := 12) rfl (g0 12 (by decide))) ?_
    walk_at "go"
    refine u_wire fun y1 hy1 => ?_
    walk_at "go"
    refine g_ixL (hC6) (at_of (j := 12) rfl (g0 12 (by decide))) ?_
    walk_at "go"
    refine u_wire fun y2 hy2 => ?_
    walk_at "go"
    refine ⟨sz (by show 2 ≤ 100000; decide), fun t ht => ?_⟩
    have et : (upd H6 t (.tup [V.int y1, V.int y2])) t = some (tupP (y1, y2)) := upd_same
    have s7 := same_upd (o := .tup [V.int y1, V.int y2]) ht
    have e7 := s7 _ _ e6
    have era7 := s7 _ _ era6
    have hP7 := hP6.same s7
    have b7 := b6.trans (But.of s7)
    generalize upd H6 t (.tup [V.int y1, V.int y2]) = H7 at et e7 era7 hP7 b7 ⊢
    have hC7 := but_sq b7 npC hC
    clear e6 era6 hP6 hC6 b6 s7
    walk_at "go"
    refine u_optP et fun sv o hsv hso => ?_
    walk_at "go"
    simp only [List.nil_append, List.cons_append]
    have e8 : (upd H7 p (.dK (dk kd_S [V.int x0, V.int x1, V.int x2, V.int x3, oV oe, oV oa, V.bl b0, V.bl b1, V.bl b2, V.bl b3, V.bl b4, V.bl b5, V.int x7, oV om, oV os, V.ref ra, sv]))) p = some (.dK (dk kd_S [V.int x0, V.int x1, V.int x2, V.int x3, oV oe, oV oa, V.bl b0, V.bl b1, V.bl b2, V.bl b3, V.bl b4, V.bl b5, V.int x7, oV om, oV os, V.ref ra, sv])) := upd_same
    have b78 : But p H7 (upd H7 p (.dK (dk kd_S [V.int x0, V.int x1, V.int x2, V.int x3, oV oe, oV oa, V.bl b0, V.bl b1, V.bl b2, V.bl b3, V.bl b4, V.bl b5, V.int x7, oV om, oV os, V.ref ra, sv]))) := But.refl.upd
    generalize upd H7 p (.dK (dk kd_S [V.int x0, V.int x1, V.int x2, V.int x3, oV oe, oV oa, V.bl b0, V.bl b1, V.bl b2, V.bl b3, V.bl b4, V.bl b5, V.int x7, oV om, oV os, V.ref ra, sv])) = H8 at e8 b78 ⊢
    have era8 := b78 _ _ nrp era7
    have hP8 := hP7.butD b78 e7
    have hsv8 := hsv.butD b78 e7
    have b8 := b7.trans b78
    have hC8 := but_sq b8 npC hC
    clear e7 era7 hP7 b7 hC7 b78 et hsv
    refine g_ixL hC8 (at_of (j := 13) rfl (g0 13 (by decide))) ?_
    walk_at "go"
    refine g_ixL hC8 (at_of (j := 14) rfl (g0 14 (by decide))) ?_
    walk_at "go"
    refine u_row ⟨by omega, by omega, by decide, by decide⟩ fun da ds H9 lds bds nda s9 eda => ?_
    have e9 := s9 _ _ e8
    have era9 := s9 _ _ era8
    have hP9 := hP8.same s9
    have hsv9 := hsv8.same s9
    have ndp : da ≠ p := fun z => by rw [z, e8] at nda; cases nda
    have ndr : da ≠ ra := fun z => by rw [z, era8] at nda; cases nda
    have fda : H3 da = none := b8.free ndp nda
    have b9 := b8.trans (But.of s9)
    clear e8 era8 hP8 hsv8 hC8 b8 s9
    walk_at "go"
    simp only [List.nil_append, List.cons_append]
    have b10 : But p H9 (upd H9 p (.dK (dk kd_S [V.int x0, V.int x1, V.int x2, V.int x3, oV oe, oV oa, V.bl b0, V.bl b1, V.bl b2, V.bl b3, V.bl b4, V.bl b5, V.int x7, oV om, oV os, V.ref ra, sv, V.ref da]))) := But.refl.upd
    refine q p da ra ⟨x0, x1, x2, x3, oe, oa, b0, b1, b2, b3, b4, x7, om, os, b5, rs, o, ds⟩ _ ?_ (s3.free hp) (s3.free fda) (s3.free fra) ndr (s3.trans ((b9.trans b10).same hp)) ⟨sv, upd_same, b10 _ _ ndp eda, ⟨us, b10 _ _ nrp era9, hP9.butD b10 e9⟩, hsv9.butD b10 e9⟩
    refine ⟨h3, fun i h => ?_, hm2, ho2, brs, ?_, fun r h => ?_, bds, ?_⟩
    · rw [hoe i h]; exact h4
    · show rs.length ≤ 5
      omega
    · rw [hso r h]; exact ⟨hy1, hy2⟩
    · show ds.length ≤ 30
      omega

end
end My
namespace My
open PySem PySem.Spec L2
local macro_rules | `(tactic| walk_at "side") => `(tactic| first | assumption | decide | omega | exact ⟨by decide, by decide⟩ | exact ⟨by decide, by decide, by decide⟩ | decide +kernel | exact cdivW (by decide +kernel) (by decide +kernel) | exact Or.inl ⟨by omega, by omega⟩ | exact Or.inr ⟨by omega, by omega⟩ | (simp only [List.length_map, List.length_cons, List.length_nil, List.length_append]; omega))
local macro_rules | `(tactic| walk_at "fact") => `(tactic| first | assumption | omega | with_reducible rfl)
local macro_rules | `(tactic| walk_at "use") => `(tactic| fail "use")
local macro_rules | `(tactic| walk_at "go1") => `(tactic| with_reducible first | refine g_seq ?_ | refine g_asg ?_ | refine g_ret ?_ | refine g_ifS ?_ | refine g_drop ?_ | refine g_star ?_ | refine g_nx ?_ | refine g_rt ?_ | refine g_bkE ?_ | refine g_ctE ?_ | refine g_next ?_ | refine g_retN ?_ | refine g_brk ?_ | refine g_ct ?_ | refine g_c ?_ | refine g_op ?_ | refine g_un ?_ | refine g_rI0 ?_ | refine g_rU ?_ | refine g_rEqI ?_ | refine g_rNeI ?_ | refine g_isN ?_ | refine g_rIsB ?_ | refine g_rNotB ?_ | refine g_test ?_ | refine g_B ?_ | refine g_bl ?_ | refine g_and ?_ | refine g_or ?_ | refine g_not ?_ | refine g_andV ?_ | refine g_orV ?_ | refine g_notV ?_ | refine g_if ?_ | refine g_chain ?_ | refine g_yes ?_ | refine g_lc ?_ | refine g_revR ?_ | refine g_rng1 ?_ | refine g_iList ?_ | refine g_nil ?_ | refine g_cons ?_ | refine g_tup ?_ | refine g_lst ?_ | refine g_call ?_ | refine g_CB ?_ | refine g_sl ?_ | refine g_noPart ?_ | refine g_part ?_ | refine g_intE ?_ | refine g_ref ?_ | refine g_fld ?_ | refine g_sfld ?_ | refine g_meth ?_ | refine g_make ?_ | refine g_prop ?_  | refine g_ipI ?_ | refine g_int1 ?_ | refine g_int1B ?_ | refine g_one ?_ | refine g_two ?_ | refine g_isiI ?_ | refine g_isiIB ?_ | refine g_isiB ?_ | refine g_BM ?_ | refine g_BM0 ?_ | refine g_sub ?_)
local macro_rules | `(tactic| walk_at "go") => `(tactic| repeat (first | walk_at "go1" | ((with_reducible refine' g_nameE ?sd_ ?_); case sd_ => dsimp only [List.set_cons_succ, List.set_cons_zero]) | ((with_reducible refine' g_var ?sd_ ?_); case sd_ => exact rfl) | ((with_reducible refine' g_aug ?sd_ ?_); case sd_ => exact rfl) | ((with_reducible refine' g_rI ?sd_ ?_); case sd_ => walk_at "side") | ((with_reducible refine' g_dT ?sd_ ?_); case sd_ => walk_at "fact") | ((with_reducible refine' g_dF ?sd_ ?_); case sd_ => walk_at "fact") | ((with_reducible refine' g_nT ?sd_ ?_); case sd_ => walk_at "fact") | ((with_reducible refine' g_nF ?sd_ ?_); case sd_ => walk_at "fact") | (with_reducible refine g_iT rfl ?_) | (with_reducible refine g_iF rfl ?_) | walk_at "use"))
local macro_rules | `(tactic| walk_at "use") => `(tactic| first | ((with_reducible refine' fd_Segment_source ?ho_ ?hv_ ?_); (case ho_ => first | assumption | exact upd_same); (case hv_ => exact rfl)) | ((with_reducible refine' fd_Segment_target ?ho_ ?hv_ ?_); (case ho_ => first | assumption | exact upd_same); (case hv_ => exact rfl)) | ((with_reducible refine' fd_Segment_seq ?ho_ ?hv_ ?_); (case ho_ => first | assumption | exact upd_same); (case hv_ => exact rfl)) | ((with_reducible refine' fd_Segment_count ?ho_ ?hv_ ?_); (case ho_ => first | assumption | exact upd_same); (case hv_ => exact rfl)) | ((with_reducible refine' fd_Segment_echo ?ho_ ?hv_ ?_); (case ho_ => first | assumption | exact upd_same); (case hv_ => exact rfl)) | ((with_reducible refine' fd_Segment_ack ?ho_ ?hv_ ?_); (case ho_ => first | assumption | exact upd_same); (case hv_ => exact rfl)) | ((with_reducible refine' fd_Segment_syn ?ho_ ?hv_ ?_); (case ho_ => first | assumption | exact upd_same); (case hv_ => exact rfl)) | ((with_reducible refine' fd_Segment_fin ?ho_ ?hv_ ?_); (case ho_ => first | assumption | exact upd_same); (case hv_ => exact rfl)) | ((with_reducible refine' fd_Segment_reset ?ho_ ?hv_ ?_); (case ho_ => first | assumption | exact upd_same); (case hv_ => exact rfl)) | ((with_reducible refine' fd_Segment_marked ?ho_ ?hv_ ?_); (case ho_ => first | assumption | exact upd_same); (case hv_ => exact rfl)) | ((with_reducible refine' fd_Segment_cut ?ho_ ?hv_ ?_); (case ho_ => first | assumption | exact upd_same); (case hv_ => exact rfl)) | ((with_reducible refine' fd_Segment_window ?ho_ ?hv_ ?_); (case ho_ => first | assumption | exact upd_same); (case hv_ => exact rfl)) | ((with_reducible refine' fd_Segment_mss ?ho_ ?hv_ ?_); (case ho_ => first | assumption | exact upd_same); (case hv_ => exact rfl)) | ((with_reducible refine' fd_Segment_scale ?ho_ ?hv_ ?_); (case ho_ => first | assumption | exact upd_same); (case hv_ => exact rfl)) | ((with_reducible refine' fd_Segment_ranges_known ?ho_ ?hv_ ?_); (case ho_ => first | assumption | exact upd_same); (case hv_ => exact rfl)) | ((with_reducible refine' fd_Segment_ranges ?ho_ ?hv_ ?_); (case ho_ => first | assumption | exact upd_same); (case hv_ => exact rfl)) | ((with_reducible refine' fd_Segment_stamp ?ho_ ?hv_ ?_); (case ho_ => first | assumption | exact upd_same); (case hv_ => exact rfl)) | ((with_reducible refine' fd_Segment_data ?ho_ ?hv_ ?_); (case ho_ => first | assumption | exact upd_same); (case hv_ => exact rfl)) | ((with_reducible refine' nw_Segment_source ?ho_ ?hv_ ?_); (case ho_ => first | assumption | exact upd_same); (case hv_ => exact rfl)) | ((with_reducible refine' nw_Segment_target ?ho_ ?hv_ ?_); (case ho_ => first | assumption | exact upd_same); (case hv_ => exact rfl)) | ((with_reducible refine' nw_Segment_seq ?ho_ ?hv_ ?_); (case ho_ => first | assumption | exact upd_same); (case hv_ => exact rfl)) | ((with_reducible refine' nw_Segment_count ?ho_ ?hv_ ?_); (case ho_ => first | assumption | exact upd_same); (case hv_ => exact rfl)) | ((with_reducible refine' nw_Segment_echo ?ho_ ?hv_ ?_); (case ho_ => first | assumption | exact upd_same); (case hv_ => exact rfl)) | ((with_reducible refine' nw_Segment_ack ?ho_ ?hv_ ?_); (case ho_ => first | assumption | exact upd_same); (case hv_ => exact rfl)) | ((with_reducible refine' nw_Segment_syn ?ho_ ?hv_ ?_); (case ho_ => first | assumption | exact upd_same); (case hv_ => exact rfl)) | ((with_reducible refine' nw_Segment_fin ?ho_ ?hv_ ?_); (case ho_ => first | assumption | exact upd_same); (case hv_ => exact rfl)) | ((with_reducible refine' nw_Segment_reset ?ho_ ?hv_ ?_); (case ho_ => first | assumption | exact upd_same); (case hv_ => exact rfl)) | ((with_reducible refine' nw_Segment_marked ?ho_ ?hv_ ?_); (case ho_ => first | assumption | exact upd_same); (case hv_ => exact rfl)) | ((with_reducible refine' nw_Segment_cut ?ho_ ?hv_ ?_); (case ho_ => first | assumption | exact upd_same); (case hv_ => exact rfl)) | ((with_reducible refine' nw_Segment_window ?ho_ ?hv_ ?_); (case ho_ => first | assumption | exact upd_same); (case hv_ => exact rfl)) | ((with_reducible refine' nw_Segment_mss ?ho_ ?hv_ ?_); (case ho_ => first | assumption | exact upd_same); (case hv_ => exact rfl)) | ((with_reducible refine' nw_Segment_scale ?ho_ ?hv_ ?_); (case ho_ => first | assumption | exact upd_same); (case hv_ => exact rfl)) | ((with_reducible refine' nw_Segment_ranges_known ?ho_ ?hv_ ?_); (case ho_ => first | assumption | exact upd_same); (case hv_ => exact rfl)) | ((with_reducible refine' nw_Segment_ranges ?ho_ ?hv_ ?_); (case ho_ => first | assumption | exact upd_same); (case hv_ => exact rfl)) | ((with_reducible refine' nw_Segment_stamp ?ho_ ?hv_ ?_); (case ho_ => first | assumption | exact upd_same); (case hv_ => exact rfl)) | ((with_reducible refine' nw_Segment_data ?ho_ ?hv_ ?_); (case ho_ => first | assumption | exact upd_same); (case hv_ => exact rfl)) | ((with_reducible refine' st_Segment_source ?ho_ ?hv_ ?_); (case ho_ => first | assumption | exact upd_same); (case hv_ => exact Nat.le_of_ble_eq_true rfl)) | ((with_reducible refine' st_Segment_target ?ho_ ?hv_ ?_); (case ho_ => first | assumption | exact upd_same); (case hv_ => exact Nat.le_of_ble_eq_true rfl)) | ((with_reducible refine' st_Segment_seq ?ho_ ?hv_ ?_); (case ho_ => first | assumption | exact upd_same); (case hv_ => exact Nat.le_of_ble_eq_true rfl)) | ((with_reducible refine' st_Segment_count ?ho_ ?hv_ ?_); (case ho_ => first | assumption | exact upd_same); (case hv_ => exact Nat.le_of_ble_eq_true rfl)) | ((with_reducible refine' st_Segment_echo ?ho_ ?hv_ ?_); (case ho_ => first | assumption | exact upd_same); (case hv_ => exact Nat.le_of_ble_eq_true rfl)) | ((with_reducible refine' st_Segment_ack ?ho_ ?hv_ ?_); (case ho_ => first | assumption | exact upd_same); (case hv_ => exact Nat.le_of_ble_eq_true rfl)) | ((with_reducible refine' st_Segment_syn ?ho_ ?hv_ ?_); (case ho_ => first | assumption | exact upd_same); (case hv_ => exact Nat.le_of_ble_eq_true rfl)) | ((with_reducible refine' st_Segment_fin ?ho_ ?hv_ ?_); (case ho_ => first | assumption | exact upd_same); (case hv_ => exact Nat.le_of_ble_eq_true rfl)) | ((with_reducible refine' st_Segment_reset ?ho_ ?hv_ ?_); (case ho_ => first | assumption | exact upd_same); (case hv_ => exact Nat.le_of_ble_eq_true rfl)) | ((with_reducible refine' st_Segment_marked ?ho_ ?hv_ ?_); (case ho_ => first | assumption | exact upd_same); (case hv_ => exact Nat.le_of_ble_eq_true rfl)) | ((with_reducible refine' st_Segment_cut ?ho_ ?hv_ ?_); (case ho_ => first | assumption | exact upd_same); (case hv_ => exact Nat.le_of_ble_eq_true rfl)) | ((with_reducible refine' st_Segment_window ?ho_ ?hv_ ?_); (case ho_ => first | assumption | exact upd_same); (case hv_ => exact Nat.le_of_ble_eq_true rfl)) | ((with_reducible refine' st_Segment_mss ?ho_ ?hv_ ?_); (case ho_ => first | assumption | exact upd_same); (case hv_ => exact Nat.le_of_ble_eq_true rfl)) | ((with_reducible refine' st_Segment_scale ?ho_ ?hv_ ?_); (case ho_ => first | assumption | exact upd_same); (case hv_ => exact Nat.le_of_ble_eq_true rfl)) | ((with_reducible refine' st_Segment_ranges_known ?ho_ ?hv_ ?_); (case ho_ => first | assumption | exact upd_same); (case hv_ => exact Nat.le_of_ble_eq_true rfl)) | ((with_reducible refine' st_Segment_ranges ?ho_ ?hv_ ?_); (case ho_ => first | assumption | exact upd_same); (case hv_ => exact Nat.le_of_ble_eq_true rfl)) | ((with_reducible refine' st_Segment_stamp ?ho_ ?hv_ ?_); (case ho_ => first | assumption | exact upd_same); (case hv_ => exact Nat.le_of_ble_eq_true rfl)) | ((with_reducible refine' st_Segment_data ?ho_ ?hv_ ?_); (case ho_ => first | assumption | exact upd_same); (case hv_ => exact Nat.le_of_ble_eq_true rfl)) | ((with_reducible refine' me_Segment_eq__ ?ho_ ?_); (case ho_ => first | assumption | exact upd_same)) | ((with_reducible refine' me_Segment_parts ?ho_ ?_); (case ho_ => first | assumption | exact upd_same)))
section
variable {P : Program} {w : World} {K : PySem.W.Frag} {mg : Str → Option Value} {base : Heap}
/-! equality -/
def oD : Option Int → PyData
  | none => .none
  | some i => .int i
def stD : Option (Int × Int) → PyData
  | none => .none
  | some p => datP p
theorem dp_o {K : PySem.W.Frag} {H : Hp} : ∀ {o : Option Int}, Dp K H (oV o) (oD o)
  | none => .non
  | some i => .int i
theorem dp_st {K : PySem.W.Frag} {H : Hp} {v : V} : ∀ {o : Option (Int × Int)}, StV H v o → Dp K H v (stD o)
  | none, h => by
    have e : v = .non := h
    subst e
    exact .non
  | some p, ⟨t, e, h⟩ => by
    subst e
    exact dp_pair h
theorem eqv_o {a b : Option Int} : PyData.eqv (oD a) (oD b) = decide (a = b) := by
  cases a with
  | none => cases b <;> rfl
  | some i =>
    cases b with
    | none => rfl
    | some j =>
      show (i == j) = decide (some i = some j)
      rw [Bool.eq_iff_iff]
      simp
theorem eqv_st {a b : Option (Int × Int)} : PyData.eqv (stD a) (stD b) = decide (a = b) := by
  cases a with
  | none => cases b <;> rfl
  | some p =>
    cases b with
    | none => rfl
    | some q =>
      show PyData.eqv (datP p) (datP q) = decide (some p = some q)
      rw [eqv_pair, Bool.eq_iff_iff]
      simp
theorem lay_o : ∀ {o : Option Int}, PyData.canLay0 (oD o) = true
  | none => rfl
  | some _ => rfl
theorem lay_st : ∀ {o : Option (Int × Int)}, PyData.canLay0 (stD o) = true
  | none => rfl
  | some _ => rfl
theorem dep_o : ∀ {o : Option Int}, PyData.depth (oD o) = 0
  | none => rfl
  | some _ => rfl
theorem dep_st : ∀ {o : Option (Int × Int)}, PyData.depth (stD o) ≤ 1
  | none => by show 0 ≤ 1; decide
  | some _ => by show max 0 (max 0 0) + 1 ≤ 1; decide
theorem beq_int {a b : Int} : (a == b) = decide (a = b) := by
  rw [Bool.eq_iff_iff]
  simp

def sgD (g : Sg) : List PyData := [.int g.src, .int g.tgt, .int g.seq, .int g.cnt, oD g.echo, oD g.ack, .bool g.syn, .bool g.fin, .bool g.marked, .bool g.cut, .int g.window, oD g.mss, oD g.scale, .bool g.rk, .list (g.rs.map datP), stD g.stamp, .list (g.ds.map .int)]
theorem sh_sg {g : Sg} : SeqAt.shaped (.tuple (sgD g)) = true := by
  show (PyData.canLayAll0 (sgD g) && decide (PyData.depthAll (sgD g) + 1 ≤ 64)) = true
  have h1 : PyData.canLayAll0 (sgD g) = true := by
    show (true && (true && (true && (true && (PyData.canLay0 (oD g.echo) && (PyData.canLay0 (oD g.ack) && (true && (true && (true && (true && (true && (PyData.canLay0 (oD g.mss) && (PyData.canLay0 (oD g.scale) && (true && (PyData.canLayAll0 (g.rs.map datP) && (PyData.canLay0 (stD g.stamp) && (PyData.canLayAll0 (g.ds.map PyData.int) && true))))))))))))))))) = true
    rw [lay_ints, lay_pairs, lay_o, lay_o, lay_o, lay_o, lay_st]
    rfl
  have h2 : PyData.depthAll (sgD g) ≤ 10 := by
    show (max 0 (max 0 (max 0 (max 0 (max (PyData.depth (oD g.echo)) (max (PyData.depth (oD g.ack)) (max 0 (max 0 (max 0 (max 0 (max 0 (max (PyData.depth (oD g.mss)) (max (PyData.depth (oD g.scale)) (max 0 (max (PyData.depthAll (g.rs.map datP) + 1) (max (PyData.depth (stD g.stamp)) (max (PyData.depthAll (g.ds.map PyData.int) + 1) 0))))))))))))))))) ≤ 10
    have a := depth_pairs (ps := g.rs)
    have b := dep_st (o := g.stamp)
    rw [depth_ints, dep_o, dep_o, dep_o, dep_o]
    omega
  rw [h1, decide_eq_true (show PyData.depthAll (sgD g) + 1 ≤ 64 by omega)]
  rfl
def eqS (g h : Sg) : Bool := (decide (g.src = h.src) && (decide (g.tgt = h.tgt) && (decide (g.seq = h.seq) && (decide (g.cnt = h.cnt) && (decide (g.echo = h.echo) && (decide (g.ack = h.ack) && ((g.syn == h.syn) && ((g.fin == h.fin) && ((g.reset == h.reset) && ((g.marked == h.marked) && ((g.cut == h.cut) && (decide (g.window = h.window) && (decide (g.mss = h.mss) && (decide (g.scale = h.scale) && ((g.rk == h.rk) && (decide (g.rs = h.rs) && (decide (g.stamp = h.stamp) && (decide (g.ds = h.ds) && true))))))))))))))))))
def eqS0 (g h : Sg) : Bool := (decide (g.src = h.src) && (decide (g.tgt = h.tgt) && (decide (g.seq = h.seq) && (decide (g.cnt = h.cnt) && (decide (g.echo = h.echo) && (decide (g.ack = h.ack) && ((g.syn == h.syn) && ((g.fin == h.fin) && ((g.marked == h.marked) && ((g.cut == h.cut) && (decide (g.window = h.window) && (decide (g.mss = h.mss) && (decide (g.scale = h.scale) && ((g.rk == h.rk) && (decide (g.rs = h.rs) && (decide (g.stamp = h.stamp) && (decide (g.ds = h.ds) && true)))))))))))))))))
theorem eqS_split {g h : Sg} : eqS g h = ((g.reset == h.reset) && eqS0 g h) := by
  unfold eqS eqS0
  generalize (g.reset == h.reset) = b
  cases b <;> simp
theorem eqv_sg {g h : Sg} : PyData.eqv (.tuple (sgD g)) (.tuple (sgD h)) = eqS0 g h := by
  show ((g.src == h.src) && ((g.tgt == h.tgt) && ((g.seq == h.seq) && ((g.cnt == h.cnt) && (PyData.eqv (oD g.echo) (oD h.echo) && (PyData.eqv (oD g.ack) (oD h.ack) && ((g.syn == h.syn) && ((g.fin == h.fin) && ((g.marked == h.marked) && ((g.cut == h.cut) && ((g.window == h.window) && (PyData.eqv (oD g.mss) (oD h.mss) && (PyData.eqv (oD g.scale) (oD h.scale) && ((g.rk == h.rk) && (PyData.eqvAll (g.rs.map datP) (h.rs.map datP) && (PyData.eqv (stD g.stamp) (stD h.stamp) && (PyData.eqvAll (g.ds.map PyData.int) (h.ds.map PyData.int) && true))))))))))))))))) = _
  rw [eqvAll_ints, eqvAll_pairs, eqv_o, eqv_o, eqv_o, eqv_o, eqv_st, beq_int, beq_int, beq_int, beq_int, beq_int]
  rfl
theorem eqS_self {g : Sg} : eqS g g = true := by
  unfold eqS
  simp
def sp_Segment_parts (C : Addr) : Sp := fun vs H Q _ => ∃ (p d r : Addr) (g : Sg), vs = [.ref p] ∧ SegO C H p g d r ∧ ∀ (t : Addr) H' xs, Same H H' → H' t = some (.tup xs) → (∀ K H2, Same H' H2 → DpAll K H2 xs (sgD g)) → Q (.ref t) H'
theorem ok_Segment_parts (T : Txt K mg) : FnOk P w K mg base CX0 1 T.f_Segment_parts T.d_Segment_parts ["self"] (sp_Segment_parts T.C_Segment) := by
  refine T.F_Segment_parts.ok sc_Segment_parts (fun vs H Q E h => ?_) (fun cdv A outer s H vs Q E hr h => ?_)
  · obtain ⟨p, d, r, g, rfl, ⟨dx, sv, e, hd, ⟨us, hr3, hP⟩, hsv⟩, q⟩ := h
    rfl
  · obtain ⟨p, d, r, g, rfl, ⟨dx, sv, e, hd, ⟨us, hr3, hP⟩, hsv⟩, q⟩ := h
    have hu := hu_of hr
    refine ⟨_, (pss_one (ps_ret (pe_tup (pa_cons (pe_fld (pv 0) rfl) (pa_cons (pe_fld (pv 0) rfl) (pa_cons (pe_fld (pv 0) rfl) (pa_cons (pe_fld (pv 0) rfl) (pa_cons (pe_fld (pv 0) rfl) (pa_cons (pe_fld (pv 0) rfl) (pa_cons (pe_fld (pv 0) rfl) (pa_cons (pe_fld (pv 0) rfl) (pa_cons (pe_fld (pv 0) rfl) (pa_cons (pe_fld (pv 0) rfl) (pa_cons (pe_fld (pv 0) rfl) (pa_cons (pe_fld (pv 0) rfl) (pa_cons (pe_fld (pv 0) rfl) (pa_cons (pe_fld (pv 0) rfl) (pa_cons (pe_fld (pv 0) rfl) (pa_cons (pe_fld (pv 0) rfl) (pa_cons (pe_fld (pv 0) rfl) pa_nil)))))))))))))))))))), ?_⟩
    dsimp only [cxOf, Cx.nox, Cx.wish, L2.start, List.map, List.cons_append, List.nil_append, List.length_cons, List.length_nil, Nat.reduceAdd, Nat.reduceSub, Nat.zero_add, List.replicate_succ, List.replicate_zero]
    unfold sgVs at e
    walk_at "go"
    refine ⟨by show 17 ≤ sizeLine; decide, fun t ht => ?_⟩
    generalize z1 : upd H t _ = H1
    have s1 : Same H H1 := by rw [← z1]; exact same_upd ht
    have k1 := (congrFun z1 t).symm.trans upd_same
    clear z1
    exact q t H1 _ s1 k1 fun K H2 s2 => .cons (.int _) (.cons (.int _) (.cons (.int _) (.cons (.int _) (.cons (dp_o) (.cons (dp_o) (.cons (.bl _) (.cons (.bl _) (.cons (.bl _) (.cons (.bl _) (.cons (.int _) (.cons (dp_o) (.cons (dp_o) (.cons (.bl _) (.cons (.lst (sl (s2 _ _ (s1 _ _ hr3))) (dpAll_pairs ((hP.same s1).same s2))) (.cons (dp_st ((hsv.same s1).same s2)) (.cons (.lst (sl (s2 _ _ (s1 _ _ hd))) dpAll_ints) (.nil)))))))))))))))))
def sp_Segment_eq__ (C : Addr) : Sp := fun vs H Q _ => ∃ (p : Addr) (y : V), vs = [.ref p, y] ∧ ((∃ (d r p' d' r' : Addr) (g h : Sg), y = .ref p' ∧ SegO C H p g d r ∧ SegO C H p' h d' r' ∧ ∀ H', Same H H' → Q (.bl (eqS g h)) H') ∨ ∃ i : Int, y = .int i ∧ Q (.bl false) H)
theorem ok_Segment_eq__ (T : Txt K mg) : FnOk P w K mg base CX0 2 T.f_Segment_eq__ T.d_Segment_eq__ ["self", "other"] (sp_Segment_eq__ T.C_Segment) := by
  refine T.F_Segment_eq__.ok sc_Segment_eq__ (fun vs H Q E h => ?_) (fun cdv A outer s H vs Q E hr h => ?_)
  · obtain ⟨p, y, rfl, h⟩ := h
    rfl
  · obtain ⟨p, y, rfl, h⟩ := h
    have hu := hu_of hr
    refine ⟨_, (pss_cons (ps_if (pt_not (pt_val (pe_callB call_isi (by rfl) T.n_isinstance (by decide +kernel) (pa_cons (pv 1) (pa_cons (pe_glob (v := .ref T.C_Segment) (by rfl) T.c_Segment rfl) pa_nil))))) (pss_one (ps_ret pe_bl)) pss_nil)
        (pss_one (ps_ret (pe_and (pe_cmpR op_eq (pe_fld (pv 0) rfl) (pe_fld (pv 1) rfl) (nomark _)) (pe_one (pe_cmpR (op_eqD hr.units) (pe_meth0 (pv 0) T.k_Segment T.a_Segment_parts (ok_Segment_parts T) (hr.mono (by decide)) T.b_Segment_parts .nil pass0) (pe_meth0 (pv 1) T.k_Segment T.a_Segment_parts (ok_Segment_parts T) (hr.mono (by decide)) T.b_Segment_parts .nil pass0) (nomark _))))))), ?_⟩
    dsimp only [cxOf, Cx.nox, Cx.wish, L2.start, List.map, List.cons_append, List.nil_append, List.length_cons, List.length_nil, Nat.reduceAdd, Nat.reduceSub, Nat.zero_add, List.replicate_succ, List.replicate_zero]
    rcases h with ⟨d, r, p', d', r', g, h, rfl, hO, hO', q⟩ | ⟨i, rfl, q⟩
    · obtain ⟨dx, sv, e, hP⟩ := id hO
      obtain ⟨dx', sv', e', hP'⟩ := id hO'
      unfold sgVs at e e'
      walk_at "go"
      refine g_isi (.own _) (.base (T.i_Segment e')) (if_pos (beq_self_eq_true _)) ?_
      walk_at "go"
      refine g_rEq rfl ?_
      walk_at "go"
      rw [eqS_split] at q
      refine g_ite (fun er => ?_) (fun er => ?_)
      case refine_2 =>
        walk_at "go"
        rw [beq_false_of_ne (fun z => er (by rw [z]))] at q
        exact q _ (fun _ _ z => z)
      injection er with er
      rw [er, beq_self_eq_true, Bool.true_and] at q
      walk_at "go"
      refine ⟨p, d, r, g, rfl, hO, fun t H1 xs s1 et dt => ?_⟩
      have e1' := s1 _ _ e'
      walk_at "go"
      refine ⟨p', d', r', h, rfl, hO'.same s1, fun t' H2 xs' s2 et' dt' => ?_⟩
      walk_at "go"
      refine ⟨_, _, .tup (st (s2 _ _ et)) (dt K H2 s2), .tup (st et') (dt' K H2 (fun _ _ z => z)), sh_sg, sh_sg, ?_⟩
      rw [eqv_sg]
      exact q _ (s1.trans s2)
    · walk_at "go"
      refine g_isi (.own _) (.base (.int i)) T.ki_Segment ?_
      walk_at "go"
      exact q
def szS (g : Sg) : Int := (g.ds.length : Int) + (if g.syn = true then 1 else 0) + (if g.fin = true then 1 else 0)
def sp_Segment_size (C : Addr) : Sp := fun vs H Q _ => ∃ (p d r : Addr) (g : Sg), vs = [.ref p] ∧ SegO C H p g d r ∧ Q (.int (szS g)) H
theorem ok_Segment_size (T : Txt K mg) : FnOk P w K mg base CX0 1 T.f_Segment_size T.d_Segment_size ["self"] (sp_Segment_size T.C_Segment) := by
  refine T.F_Segment_size.ok sc_Segment_size (fun vs H Q E h => ?_) (fun cdv A outer s H vs Q E hr h => ?_)
  · obtain ⟨p, d, r, g, rfl, ⟨dx, sv, e, hd, hr3, hsv⟩, q⟩ := h
    rfl
  · obtain ⟨p, d, r, g, rfl, ⟨dx, sv, e, hd, hr3, hsv⟩, q⟩ := h
    have hu := hu_of hr
    refine ⟨_, (pss_one (ps_ret (pe_op op_add (pe_op op_add (pe_callB call_len_seq (by rfl) T.n_len (by decide +kernel) (pa_cons (pe_fld (pv 0) rfl) pa_nil)) (pe_callTy call_int1 (by rfl) T.n_int (by decide +kernel) (pa_cons (pe_fld (pv 0) rfl) pa_nil))) (pe_callTy call_int1 (by rfl) T.n_int (by decide +kernel) (pa_cons (pe_fld (pv 0) rfl) pa_nil))))), ?_⟩
    dsimp only [cxOf, Cx.nox, Cx.wish, L2.start, List.map, List.cons_append, List.nil_append, List.length_cons, List.length_nil, Nat.reduceAdd, Nat.reduceSub, Nat.zero_add, List.replicate_succ, List.replicate_zero]
    unfold sgVs at e
    walk_at "go"
    refine g_len (.inl (sl hd)) ?_
    walk_at "go"
    rw [List.length_map]
    exact q

end
end My
namespace My
open PySem PySem.Spec L2
local macro_rules | `(tactic| walk_at "side") => `(tactic| first | assumption | decide | omega | exact ⟨by decide, by decide⟩ | exact ⟨by decide, by decide, by decide⟩ | decide +kernel | exact cdivW (by decide +kernel) (by decide +kernel) | exact Or.inl ⟨by omega, by omega⟩ | exact Or.inr ⟨by omega, by omega⟩ | (simp only [List.length_map, List.length_cons, List.length_nil, List.length_append]; omega))
local macro_rules | `(tactic| walk_at "fact") => `(tactic| first | assumption | omega | with_reducible rfl)
local macro_rules | `(tactic| walk_at "use") => `(tactic| fail "use")
local macro_rules | `(tactic| walk_at "go1") => `(tactic| with_reducible first | refine g_seq ?_ | refine g_asg ?_ | refine g_ret ?_ | refine g_ifS ?_ | refine g_drop ?_ | refine g_star ?_ | refine g_nx ?_ | refine g_rt ?_ | refine g_bkE ?_ | refine g_ctE ?_ | refine g_next ?_ | refine g_retN ?_ | refine g_brk ?_ | refine g_ct ?_ | refine g_c ?_ | refine g_op ?_ | refine g_un ?_ | refine g_rI0 ?_ | refine g_rU ?_ | refine g_rEqI ?_ | refine g_rNeI ?_ | refine g_isN ?_ | refine g_rIsB ?_ | refine g_rNotB ?_ | refine g_test ?_ | refine g_B ?_ | refine g_bl ?_ | refine g_and ?_ | refine g_or ?_ | refine g_not ?_ | refine g_andV ?_ | refine g_orV ?_ | refine g_notV ?_ | refine g_if ?_ | refine g_chain ?_ | refine g_yes ?_ | refine g_lc ?_ | refine g_revR ?_ | refine g_rng1 ?_ | refine g_iList ?_ | refine g_nil ?_ | refine g_cons ?_ | refine g_tup ?_ | refine g_lst ?_ | refine g_call ?_ | refine g_CB ?_ | refine g_sl ?_ | refine g_noPart ?_ | refine g_part ?_ | refine g_intE ?_ | refine g_ref ?_ | refine g_fld ?_ | refine g_sfld ?_ | refine g_meth ?_ | refine g_make ?_ | refine g_prop ?_  | refine g_ipI ?_ | refine g_int1 ?_ | refine g_int1B ?_ | refine g_one ?_ | refine g_two ?_ | refine g_isiI ?_ | refine g_isiIB ?_ | refine g_isiB ?_ | refine g_BM ?_ | refine g_BM0 ?_ | refine g_sub ?_)
local macro_rules | `(tactic| walk_at "go") => `(tactic| repeat (first | walk_at "go1" | ((with_reducible refine' g_nameE ?sd_ ?_); case sd_ => dsimp only [List.set_cons_succ, List.set_cons_zero]) | ((with_reducible refine' g_var ?sd_ ?_); case sd_ => exact rfl) | ((with_reducible refine' g_aug ?sd_ ?_); case sd_ => exact rfl) | ((with_reducible refine' g_rI ?sd_ ?_); case sd_ => walk_at "side") | ((with_reducible refine' g_dT ?sd_ ?_); case sd_ => walk_at "fact") | ((with_reducible refine' g_dF ?sd_ ?_); case sd_ => walk_at "fact") | ((with_reducible refine' g_nT ?sd_ ?_); case sd_ => walk_at "fact") | ((with_reducible refine' g_nF ?sd_ ?_); case sd_ => walk_at "fact") | (with_reducible refine g_iT rfl ?_) | (with_reducible refine g_iF rfl ?_) | walk_at "use"))
section
variable {P : Program} {w : World} {K : PySem.W.Frag} {mg : Str → Option Value} {base : Heap}
theorem op_isTA {X : Cx} : OpR X (compareOp .Is) (fun x y H Q => ∃ b : Bool, y = .bl b ∧ Q (.bl (decide (x = .bl b))) H) := by
  intro pins s σ H x y v u Q I rx ry h
  obtain ⟨b, rfl, q⟩ := h
  cases (show u = Value.bool b from ry)
  by_cases e : x = .bl b
  · subst e
    cases (show v = Value.bool b from rx)
    exact PySem.wpAny_is_self rfl ⟨.bl true, H, I, rfl, by simpa using q⟩
  · have hp : plainIs v (Value.bool b) = true := by
      cases x <;> first
        | (cases rx; rfl)
        | (obtain ⟨t, rfl⟩ := rx; rfl)
    refine PySem.wpAny_is_other hp (fun z => ?_) ⟨.bl false, H, I, rfl, by simpa [e] using q⟩
    subst z
    cases x <;> first
      | exact e (congrArg V.bl (Value.bool.inj (show Value.bool _ = Value.bool _ from rx)).symm)
      | (obtain ⟨t, ht⟩ := rx; cases ht)
      | cases rx

def othI (i : Int) : Int := if i = 1 then 2 else i / 2 + 1
def sp_l_other (K : PySem.W.Frag) : Sp := fun vs H Q _ => ∃ v : V, vs = [v] ∧ ((v = .non ∧ Q (.int 1) H) ∨ (∃ b : Bool, v = .bl b ∧ Q (.bl (!b)) H) ∨ (∃ i : Int, v = .int i ∧ Q (.int (othI i)) H) ∨
  (∃ (t : Addr) (p0 : Int × Int), v = .ref t ∧ H t = some (tupP p0) ∧ ∀ t' H', Same H H' → H' t' = some (tupP (p0.1, (p0.2 + 1) % 4294967296)) → Q (.ref t') H') ∨
  (∃ (a : Addr) (xs : List V), v = .ref a ∧ H a = some (.lst xs) ∧ ∀ l H' ys, Same H H' → H' l = some (.lst ys) → (ys = if xs = [] then [V.int 7] else xs.drop 1) → Q (.ref l) H'))
theorem u_othN {H Q E} (q : Q (.int 1) H) : sp_l_other K ([.non] ++ []) H Q E := ⟨_, rfl, .inl ⟨rfl, q⟩⟩
theorem u_othB {b : Bool} {H Q E} (q : Q (.bl (!b)) H) : sp_l_other K ([.bl b] ++ []) H Q E := ⟨_, rfl, .inr (.inl ⟨b, rfl, q⟩)⟩
theorem u_othI {i : Int} {H Q E} (q : Q (.int (othI i)) H) : sp_l_other K ([.int i] ++ []) H Q E := ⟨_, rfl, .inr (.inr (.inl ⟨i, rfl, q⟩))⟩
theorem u_othT {t : Addr} {p0 : Int × Int} {H Q E} (h : H t = some (tupP p0)) (q : ∀ t' H', Same H H' → H' t' = some (tupP (p0.1, (p0.2 + 1) % 4294967296)) → Q (.ref t') H') : sp_l_other K ([.ref t] ++ []) H Q E := ⟨_, rfl, .inr (.inr (.inr (.inl ⟨t, p0, rfl, h, q⟩)))⟩
theorem u_othL {a : Addr} {xs : List V} {H Q E} (h : H a = some (.lst xs)) (q : ∀ l H' ys, Same H H' → H' l = some (.lst ys) → (ys = if xs = [] then [V.int 7] else xs.drop 1) → Q (.ref l) H') : sp_l_other K ([.ref a] ++ []) H Q E := ⟨_, rfl, .inr (.inr (.inr (.inr ⟨a, xs, rfl, h, q⟩)))⟩
theorem ok_l_other (T : Txt K mg) : FnOk P w K mg base CX0 1 T.f_l_other T.d_l_other ["value"] (sp_l_other K) := by
  refine T.F_l_other.ok sc_l_other (fun vs H Q E h => ?_) (fun cdv A outer s H vs Q E hr h => ?_)
  · obtain ⟨v, rfl, h⟩ := h
    rfl
  · obtain ⟨v, rfl, h⟩ := h
    have hu := hu_of hr
    refine ⟨_, (pss_cons (ps_if (pt_cmpR op_isN (pv 0) pe_non (nomark _)) (pss_one (ps_ret pe_int)) pss_nil)
        (pss_cons (ps_if (PW.pt (pw_or (pt_cmpR op_isTA (pv 0) pe_bl (nomark _)) (pw_or1 (pt_cmpR op_isTA (pv 0) pe_bl (nomark _))))) (pss_one (ps_ret (pe_not (pv 0)))) pss_nil)
        (pss_cons (ps_if (pt_val (pe_callB call_isi (by rfl) T.n_isinstance (by decide +kernel) (pa_cons (pv 0) (pa_cons (pe_bltn (v := .ty "tuple") (by rfl) T.n_tuple (by decide +kernel) rfl) pa_nil)))) (pss_one (ps_ret (pe_tup (pa_cons (pe_ix ix_tup (pv 0) pe_int (fun _ _ => rfl)) (pa_cons (pe_op op_mod (pe_callTy call_int1 (by rfl) T.n_int (by decide +kernel) (pa_cons (pe_op op_add (pe_ix ix_tup (pv 0) pe_int (fun _ _ => rfl)) pe_int) pa_nil)) pe_int) pa_nil))))) pss_nil)
        (pss_cons (ps_if (pt_val (pe_callB call_isi (by rfl) T.n_isinstance (by decide +kernel) (pa_cons (pv 0) (pa_cons (pe_bltn (v := .ty "list") (by rfl) T.n_list (by decide +kernel) rfl) pa_nil)))) (pss_cons (ps_if (pt_cmpR op_gt (pe_callB call_len_seq (by rfl) T.n_len (by decide +kernel) (pa_cons (pv 0) pa_nil)) pe_int (nomark _)) (pss_one (ps_ret (pe_slice sl_list (pv 0) (po_some pe_int) po_none))) pss_nil)
        (pss_one (ps_ret (pe_lst (pa_cons pe_int pa_nil))))) pss_nil)
        (pss_cons (ps_if (pt_cmpR op_eq (pv 0) pe_int (nomark _)) (pss_one (ps_ret pe_int)) pss_nil)
        (pss_one (ps_ret (pe_op op_add (pe_op op_fdiv (pv 0) pe_int) pe_int)))))))), ?_⟩
    dsimp only [cxOf, Cx.nox, Cx.wish, L2.start, List.map, List.cons_append, List.nil_append, List.length_cons, List.length_nil, Nat.reduceAdd, Nat.reduceSub, Nat.zero_add, List.replicate_succ, List.replicate_zero]
    rcases h with ⟨rfl, q⟩ | ⟨b, rfl, q⟩ | ⟨i, rfl, q⟩ | ⟨t, p0, rfl, ht, q⟩ | ⟨a, xs, rfl, ha, q⟩
    · walk_at "go"
      exact q
    · cases b with
      | true =>
        walk_at "go"
        exact q
      | false =>
        walk_at "go"
        exact q
    · walk_at "go"
      refine g_isi (b := false) (.ty _) (.base (.int _)) (kit_ty (by decide +kernel)) ?_
      walk_at "go"
      refine g_isi (b := false) (.ty _) (.base (.int _)) (kit_ty (by decide +kernel)) ?_
      walk_at "go"
      unfold othI at q
      refine g_ite (fun c => ?_) (fun c => ?_)
      · rw [if_pos c] at q
        walk_at "go"
        exact q
      · rw [if_neg c] at q
        walk_at "go"
        exact q
    · walk_at "go"
      refine g_isiU ht ?_
      walk_at "go"
      refine g_ixT (st ht) (at_of (j := 0) rfl rfl) ?_
      walk_at "go"
      refine g_ixT (st ht) (at_of (j := 1) rfl rfl) ?_
      walk_at "go"
      refine ⟨by show 2 ≤ sizeLine; decide, fun t' ht' => ?_⟩
      exact q t' _ (same_upd ht') upd_same
    · walk_at "go"
      refine g_isi (b := false) (.ty _) (.base (.lst ha)) (kit_ty (by decide +kernel)) ?_
      walk_at "go"
      refine g_isiL ha ?_
      walk_at "go"
      refine g_len (.inl (sl ha)) ?_
      walk_at "go"
      refine g_ite (fun c => ?_) (fun c => ?_)
      · walk_at "go"
        refine g_slL (sl ha) fun l hl => ?_
        refine q l _ _ (same_upd hl) upd_same ?_
        rw [if_neg (fun z => by rw [z] at c; exact absurd c (by decide))]
        exact cut_from (a := 1) (by omega)
      · walk_at "go"
        refine ⟨by show 1 ≤ sizeLine; decide, fun l hl => ?_⟩
        refine q l _ _ (same_upd hl) upd_same ?_
        rw [if_pos (by cases xs with | nil => rfl | cons x xs => exact absurd (by show (0 : Int) < ((xs.length + 1 : Nat) : Int); omega) c)]

end
end My
namespace My
open PySem PySem.Spec L2
local macro_rules | `(tactic| walk_at "side") => `(tactic| first | assumption | decide | omega | exact ⟨by decide, by decide⟩ | exact ⟨by decide, by decide, by decide⟩ | decide +kernel | exact cdivW (by decide +kernel) (by decide +kernel) | exact Or.inl ⟨by omega, by omega⟩ | exact Or.inr ⟨by omega, by omega⟩ | (simp only [List.length_map, List.length_cons, List.length_nil, List.length_append]; omega))
local macro_rules | `(tactic| walk_at "fact") => `(tactic| first | assumption | omega | with_reducible rfl)
local macro_rules | `(tactic| walk_at "use") => `(tactic| fail "use")
local macro_rules | `(tactic| walk_at "go1") => `(tactic| with_reducible first | refine g_seq ?_ | refine g_asg ?_ | refine g_ret ?_ | refine g_ifS ?_ | refine g_drop ?_ | refine g_star ?_ | refine g_nx ?_ | refine g_rt ?_ | refine g_bkE ?_ | refine g_ctE ?_ | refine g_next ?_ | refine g_retN ?_ | refine g_brk ?_ | refine g_ct ?_ | refine g_c ?_ | refine g_op ?_ | refine g_un ?_ | refine g_rI0 ?_ | refine g_rU ?_ | refine g_rEqI ?_ | refine g_rNeI ?_ | refine g_isN ?_ | refine g_rIsB ?_ | refine g_rNotB ?_ | refine g_test ?_ | refine g_B ?_ | refine g_bl ?_ | refine g_and ?_ | refine g_or ?_ | refine g_not ?_ | refine g_andV ?_ | refine g_orV ?_ | refine g_notV ?_ | refine g_if ?_ | refine g_chain ?_ | refine g_yes ?_ | refine g_lc ?_ | refine g_revR ?_ | refine g_rng1 ?_ | refine g_iList ?_ | refine g_nil ?_ | refine g_cons ?_ | refine g_tup ?_ | refine g_lst ?_ | refine g_call ?_ | refine g_CB ?_ | refine g_sl ?_ | refine g_noPart ?_ | refine g_part ?_ | refine g_intE ?_ | refine g_ref ?_ | refine g_fld ?_ | refine g_sfld ?_ | refine g_meth ?_ | refine g_make ?_ | refine g_prop ?_  | refine g_ipI ?_ | refine g_int1 ?_ | refine g_int1B ?_ | refine g_one ?_ | refine g_two ?_ | refine g_isiI ?_ | refine g_isiIB ?_ | refine g_isiB ?_ | refine g_BM ?_ | refine g_BM0 ?_ | refine g_sub ?_)
local macro_rules | `(tactic| walk_at "go") => `(tactic| repeat (first | walk_at "go1" | ((with_reducible refine' g_nameE ?sd_ ?_); case sd_ => dsimp only [List.set_cons_succ, List.set_cons_zero]) | ((with_reducible refine' g_var ?sd_ ?_); case sd_ => exact rfl) | ((with_reducible refine' g_aug ?sd_ ?_); case sd_ => exact rfl) | ((with_reducible refine' g_rI ?sd_ ?_); case sd_ => walk_at "side") | ((with_reducible refine' g_dT ?sd_ ?_); case sd_ => walk_at "fact") | ((with_reducible refine' g_dF ?sd_ ?_); case sd_ => walk_at "fact") | ((with_reducible refine' g_nT ?sd_ ?_); case sd_ => walk_at "fact") | ((with_reducible refine' g_nF ?sd_ ?_); case sd_ => walk_at "fact") | (with_reducible refine g_iT rfl ?_) | (with_reducible refine g_iF rfl ?_) | walk_at "use"))
local macro_rules | `(tactic| walk_at "use") => `(tactic| first | ((with_reducible refine' dg_N_source ?ho_ ?hv_ ?_); (case ho_ => first | assumption | exact upd_same); (case hv_ => exact rfl)) | ((with_reducible refine' dg_N_target ?ho_ ?hv_ ?_); (case ho_ => first | assumption | exact upd_same); (case hv_ => exact rfl)) | ((with_reducible refine' dg_N_seq ?ho_ ?hv_ ?_); (case ho_ => first | assumption | exact upd_same); (case hv_ => exact rfl)) | ((with_reducible refine' dg_N_count ?ho_ ?hv_ ?_); (case ho_ => first | assumption | exact upd_same); (case hv_ => exact rfl)) | ((with_reducible refine' dg_N_echo ?ho_ ?hv_ ?_); (case ho_ => first | assumption | exact upd_same); (case hv_ => exact rfl)) | ((with_reducible refine' dg_N_ack ?ho_ ?hv_ ?_); (case ho_ => first | assumption | exact upd_same); (case hv_ => exact rfl)) | ((with_reducible refine' dg_N_syn ?ho_ ?hv_ ?_); (case ho_ => first | assumption | exact upd_same); (case hv_ => exact rfl)) | ((with_reducible refine' dg_N_fin ?ho_ ?hv_ ?_); (case ho_ => first | assumption | exact upd_same); (case hv_ => exact rfl)) | ((with_reducible refine' dg_N_reset ?ho_ ?hv_ ?_); (case ho_ => first | assumption | exact upd_same); (case hv_ => exact rfl)) | ((with_reducible refine' dg_N_marked ?ho_ ?hv_ ?_); (case ho_ => first | assumption | exact upd_same); (case hv_ => exact rfl)) | ((with_reducible refine' dg_N_cut ?ho_ ?hv_ ?_); (case ho_ => first | assumption | exact upd_same); (case hv_ => exact rfl)) | ((with_reducible refine' dg_N_window ?ho_ ?hv_ ?_); (case ho_ => first | assumption | exact upd_same); (case hv_ => exact rfl)) | ((with_reducible refine' dg_N_mss ?ho_ ?hv_ ?_); (case ho_ => first | assumption | exact upd_same); (case hv_ => exact rfl)) | ((with_reducible refine' dg_N_scale ?ho_ ?hv_ ?_); (case ho_ => first | assumption | exact upd_same); (case hv_ => exact rfl)) | ((with_reducible refine' dg_N_ranges_known ?ho_ ?hv_ ?_); (case ho_ => first | assumption | exact upd_same); (case hv_ => exact rfl)) | ((with_reducible refine' dg_N_ranges ?ho_ ?hv_ ?_); (case ho_ => first | assumption | exact upd_same); (case hv_ => exact rfl)) | ((with_reducible refine' dg_N_stamp ?ho_ ?hv_ ?_); (case ho_ => first | assumption | exact upd_same); (case hv_ => exact rfl)) | ((with_reducible refine' dg_N_data ?ho_ ?hv_ ?_); (case ho_ => first | assumption | exact upd_same); (case hv_ => exact rfl)) | ((with_reducible refine' dn_N_source ?ho_ ?hv_ ?_); (case ho_ => first | assumption | exact upd_same); (case hv_ => exact rfl)) | ((with_reducible refine' dn_N_target ?ho_ ?hv_ ?_); (case ho_ => first | assumption | exact upd_same); (case hv_ => exact rfl)) | ((with_reducible refine' dn_N_seq ?ho_ ?hv_ ?_); (case ho_ => first | assumption | exact upd_same); (case hv_ => exact rfl)) | ((with_reducible refine' dn_N_count ?ho_ ?hv_ ?_); (case ho_ => first | assumption | exact upd_same); (case hv_ => exact rfl)) | ((with_reducible refine' dn_N_echo ?ho_ ?hv_ ?_); (case ho_ => first | assumption | exact upd_same); (case hv_ => exact rfl)) | ((with_reducible refine' dn_N_ack ?ho_ ?hv_ ?_); (case ho_ => first | assumption | exact upd_same); (case hv_ => exact rfl)) | ((with_reducible refine' dn_N_syn ?ho_ ?hv_ ?_); (case ho_ => first | assumption | exact upd_same); (case hv_ => exact rfl)) | ((with_reducible refine' dn_N_fin ?ho_ ?hv_ ?_); (case ho_ => first | assumption | exact upd_same); (case hv_ => exact rfl)) | ((with_reducible refine' dn_N_reset ?ho_ ?hv_ ?_); (case ho_ => first | assumption | exact upd_same); (case hv_ => exact rfl)) | ((with_reducible refine' dn_N_marked ?ho_ ?hv_ ?_); (case ho_ => first | assumption | exact upd_same); (case hv_ => exact rfl)) | ((with_reducible refine' dn_N_cut ?ho_ ?hv_ ?_); (case ho_ => first | assumption | exact upd_same); (case hv_ => exact rfl)) | ((with_reducible refine' dn_N_window ?ho_ ?hv_ ?_); (case ho_ => first | assumption | exact upd_same); (case hv_ => exact rfl)) | ((with_reducible refine' dn_N_mss ?ho_ ?hv_ ?_); (case ho_ => first | assumption | exact upd_same); (case hv_ => exact rfl)) | ((with_reducible refine' dn_N_scale ?ho_ ?hv_ ?_); (case ho_ => first | assumption | exact upd_same); (case hv_ => exact rfl)) | ((with_reducible refine' dn_N_ranges_known ?ho_ ?hv_ ?_); (case ho_ => first | assumption | exact upd_same); (case hv_ => exact rfl)) | ((with_reducible refine' dn_N_ranges ?ho_ ?hv_ ?_); (case ho_ => first | assumption | exact upd_same); (case hv_ => exact rfl)) | ((with_reducible refine' dn_N_stamp ?ho_ ?hv_ ?_); (case ho_ => first | assumption | exact upd_same); (case hv_ => exact rfl)) | ((with_reducible refine' dn_N_data ?ho_ ?hv_ ?_); (case ho_ => first | assumption | exact upd_same); (case hv_ => exact rfl)) | ((with_reducible refine' dp_N_source ?ho_ ?hv_ ?_); (case ho_ => first | assumption | exact upd_same); (case hv_ => exact Nat.le_of_ble_eq_true rfl)) | ((with_reducible refine' dp_N_target ?ho_ ?hv_ ?_); (case ho_ => first | assumption | exact upd_same); (case hv_ => exact Nat.le_of_ble_eq_true rfl)) | ((with_reducible refine' dp_N_seq ?ho_ ?hv_ ?_); (case ho_ => first | assumption | exact upd_same); (case hv_ => exact Nat.le_of_ble_eq_true rfl)) | ((with_reducible refine' dp_N_count ?ho_ ?hv_ ?_); (case ho_ => first | assumption | exact upd_same); (case hv_ => exact Nat.le_of_ble_eq_true rfl)) | ((with_reducible refine' dp_N_echo ?ho_ ?hv_ ?_); (case ho_ => first | assumption | exact upd_same); (case hv_ => exact Nat.le_of_ble_eq_true rfl)) | ((with_reducible refine' dp_N_ack ?ho_ ?hv_ ?_); (case ho_ => first | assumption | exact upd_same); (case hv_ => exact Nat.le_of_ble_eq_true rfl)) | ((with_reducible refine' dp_N_syn ?ho_ ?hv_ ?_); (case ho_ => first | assumption | exact upd_same); (case hv_ => exact Nat.le_of_ble_eq_true rfl)) | ((with_reducible refine' dp_N_fin ?ho_ ?hv_ ?_); (case ho_ => first | assumption | exact upd_same); (case hv_ => exact Nat.le_of_ble_eq_true rfl)) | ((with_reducible refine' dp_N_reset ?ho_ ?hv_ ?_); (case ho_ => first | assumption | exact upd_same); (case hv_ => exact Nat.le_of_ble_eq_true rfl)) | ((with_reducible refine' dp_N_marked ?ho_ ?hv_ ?_); (case ho_ => first | assumption | exact upd_same); (case hv_ => exact Nat.le_of_ble_eq_true rfl)) | ((with_reducible refine' dp_N_cut ?ho_ ?hv_ ?_); (case ho_ => first | assumption | exact upd_same); (case hv_ => exact Nat.le_of_ble_eq_true rfl)) | ((with_reducible refine' dp_N_window ?ho_ ?hv_ ?_); (case ho_ => first | assumption | exact upd_same); (case hv_ => exact Nat.le_of_ble_eq_true rfl)) | ((with_reducible refine' dp_N_mss ?ho_ ?hv_ ?_); (case ho_ => first | assumption | exact upd_same); (case hv_ => exact Nat.le_of_ble_eq_true rfl)) | ((with_reducible refine' dp_N_scale ?ho_ ?hv_ ?_); (case ho_ => first | assumption | exact upd_same); (case hv_ => exact Nat.le_of_ble_eq_true rfl)) | ((with_reducible refine' dp_N_ranges_known ?ho_ ?hv_ ?_); (case ho_ => first | assumption | exact upd_same); (case hv_ => exact Nat.le_of_ble_eq_true rfl)) | ((with_reducible refine' dp_N_ranges ?ho_ ?hv_ ?_); (case ho_ => first | assumption | exact upd_same); (case hv_ => exact Nat.le_of_ble_eq_true rfl)) | ((with_reducible refine' dp_N_stamp ?ho_ ?hv_ ?_); (case ho_ => first | assumption | exact upd_same); (case hv_ => exact Nat.le_of_ble_eq_true rfl)) | ((with_reducible refine' dp_N_data ?ho_ ?hv_ ?_); (case ho_ => first | assumption | exact upd_same); (case hv_ => exact Nat.le_of_ble_eq_true rfl)))
local macro_rules | `(tactic| walk_at "use") => `(tactic| with_reducible first | refine g_dgetT ?_ | refine g_dputT ?_)
section
variable {P : Program} {w : World} {K : PySem.W.Frag} {mg : Str → Option Value} {base : Heap}
section
variable {K : PySem.W.Frag} {H : Hp} {Q : VK}
theorem dec_str {s t : Str} : decide (V.str s = V.str t) = decide (s = t) := decide_eq_decide.mpr ⟨V.str.inj, congrArg _⟩
theorem g_rEqS {s t : Str} (q : Q (.bl (decide (s = t))) H) : rEq (.str s) (.str t) H Q := g_rEq rfl (by rw [dec_str]; exact q)
theorem g_rNeS {s t : Str} (q : Q (.bl (!decide (s = t))) H) : rNe (.str s) (.str t) H Q := g_rNe rfl (by rw [dec_str]; exact q)
theorem inV_str {s : Str} : ∀ {ws : List Str}, inV (.str s) (ws.map V.str) = decide (s ∈ ws)
  | [] => (decide_eq_false (by simp)).symm
  | t :: ws => by
    show ((t == s) || inV (.str s) (ws.map V.str)) = _
    rw [inV_str, Bool.eq_iff_iff]
    simp only [Bool.or_eq_true, beq_iff_eq, decide_eq_true_eq, List.mem_cons]
    exact ⟨fun h => h.imp Eq.symm id, fun h => h.imp Eq.symm id⟩
theorem flat_strs : ∀ {ws : List Str}, (ws.map V.str).all flatV = true
  | [] => rfl
  | _ :: ws => flat_strs (ws := ws)
theorem g_inS {p : Addr} {ws : List Str} {s : Str} (h : SqT K H p (ws.map V.str)) (q : Q (.bl (decide (s ∈ ws))) H) : rIn K false (.str s) (.ref p) H Q :=
  ⟨p, _, rfl, .inr h, rfl, flat_strs, by rw [if_neg (by decide), inV_str]; exact q⟩
theorem g_isiS {s : Str} (q : Q (.bl true) H) : rIsi K [.str s, .ty "str"] H Q := g_isi (.ty _) (.base (.str _)) (kit_ty (by decide +kernel)) q
end
local macro_rules | `(tactic| walk_at "use") => `(tactic| with_reducible first | refine g_rEqS ?_ | refine g_rNeS ?_ | refine g_isiS ?_)

local macro_rules | `(tactic| walk_at "use") => `(tactic| with_reducible first | refine g_dgetT ?_ | refine g_dputT ?_ | refine g_dgetV (by assumption) (by assumption) ?_ | refine g_rEqS ?_)
theorem SgK.at {kvs : List (Key × V)} {g : Sg} {da ra : Addr} {sv : V} (hk : SgK kvs g da ra sv) : ∀ (i : Nat) (nm : Str), kd_N[i]? = some nm → valV kvs (.inr nm) = (vsN g da ra sv)[i]?
  | 0, _, e => by cases e; exact hk.q_source
  | 1, _, e => by cases e; exact hk.q_target
  | 2, _, e => by cases e; exact hk.q_seq
  | 3, _, e => by cases e; exact hk.q_count
  | 4, _, e => by cases e; exact hk.q_echo
  | 5, _, e => by cases e; exact hk.q_ack
  | 6, _, e => by cases e; exact hk.q_syn
  | 7, _, e => by cases e; exact hk.q_fin
  | 8, _, e => by cases e; exact hk.q_reset
  | 9, _, e => by cases e; exact hk.q_marked
  | 10, _, e => by cases e; exact hk.q_cut
  | 11, _, e => by cases e; exact hk.q_window
  | 12, _, e => by cases e; exact hk.q_mss
  | 13, _, e => by cases e; exact hk.q_scale
  | 14, _, e => by cases e; exact hk.q_ranges_known
  | 15, _, e => by cases e; exact hk.q_ranges
  | 16, _, e => by cases e; exact hk.q_stamp
  | 17, _, e => by cases e; exact hk.q_data
  | n + 18, nm, e => by
    rw [List.getElem?_eq_none (by show 18 ≤ n + 18; omega)] at e
    cases e
def sp_l_changed (K : PySem.W.Frag) : Sp := fun vs H Q _ => ∃ (p da ra : Addr) (g : Sg) (k : Int), vs = [.ref p, .int k] ∧ SegL H p g da ra ∧ SgOk g ∧ (0 ≤ k ∧ k ≤ 17) ∧ ∀ p' da' ra' g' H', eqS g g' = false → Same H H' → SegL H' p' g' da' ra' → Q (.ref p') H'
theorem u_changed {p da ra : Addr} {g : Sg} {k : Int} {H Q E} (h : SegL H p g da ra) (ok : SgOk g) (hk : 0 ≤ k ∧ k ≤ 17) (q : ∀ p' da' ra' g' H', eqS g g' = false → Same H H' → SegL H' p' g' da' ra' → Q (.ref p') H') : sp_l_changed K ([.ref p, .int k] ++ []) H Q E := ⟨p, da, ra, g, k, rfl, h, ok, hk, q⟩
theorem eqv_int {i j : Int} : PyData.eqv (.int i) (.int j) = decide (i = j) := by
  show (i == j) = _
  exact beq_int
theorem ok_l_changed (T : Txt K mg) : FnOk P w K mg base CX0 2 T.f_l_changed T.d_l_changed ["parts", "choice"] (sp_l_changed K) := by
  refine T.F_l_changed.ok sc_l_changed (fun vs H Q E h => ?_) (fun cdv A outer s H vs Q E hr h => ?_)
  · obtain ⟨p, da, ra, g, k, rfl, hL, ok, hk, q⟩ := h
    rfl
  · obtain ⟨p, da, ra, g, k, rfl, hL, ok, hk, q⟩ := h
    have hu := hu_of hr
    refine ⟨_, (pss_cons (ps_set (i := 2) sc_l_changed.nd rfl (Or.inl rfl) (pe_lst (pa_cons pe_str (pa_cons pe_str (pa_cons pe_str (pa_cons pe_str (pa_cons pe_str (pa_cons pe_str (pa_cons pe_str (pa_cons pe_str (pa_cons pe_str (pa_cons pe_str (pa_cons pe_str pa_nil)))))))))))))
        (pss_cons (ps_set (i := 2) sc_l_changed.nd rfl (Or.inl rfl) (pe_op op_cat (pv 2) (pe_lst (pa_cons pe_str (pa_cons pe_str (pa_cons pe_str (pa_cons pe_str (pa_cons pe_str (pa_cons pe_str (pa_cons pe_str pa_nil))))))))))
        (pss_cons (ps_set (i := 3) sc_l_changed.nd rfl (Or.inl rfl) (pe_ix ix_list (pv 2) (pv 1) (fun _ _ => rfl)))
        (pss_cons (ps_set (i := 4) sc_l_changed.nd rfl (Or.inl rfl) pe_dnewK)
        (C8.pss_cut (ps_for PassesOwn.never rfl (pi_list (pv 2)) (pg_name (i := 5) sc_l_changed.nd rfl (Or.inl rfl)) (pss_one (ps_dput hu (pv 4) (pv 5) (pe_dget hu (pv 0) (pv 5) (fun _ _ => rfl)) rfl)))
        (pss_cons (ps_dput hu (pv 4) (pv 3) (pe_call (ok_l_other T) (hr.mono (by decide)) rfl T.m_l_other T.F_l_other.kp T.b_l_other .nil pass0 (pa_cons (pe_dget hu (pv 0) (pv 3) (fun _ _ => rfl)) pa_nil)) rfl)
        (pss_cons (ps_if (PW.pt (pw_and (pt_cmpR op_eq (pv 3) pe_str (nomark _)) (pw_and1 (pt_cmpR op_isN (pe_dget hu (pv 0) (pv 3) (fun _ _ => rfl)) pe_non (nomark _))))) (pss_one (ps_dput hu (pv 4) (pv 3) (pe_tup (pa_cons pe_int (pa_cons pe_int pa_nil))) rfl)) pss_nil)
        (pss_cons (ps_if (PW.pt (pw_and (pt_cmpR op_eq (pv 3) pe_str (nomark _)) (pw_and1 (pt_cmpR op_eq (pe_callB call_len_seq (by rfl) T.n_len (by decide +kernel) (pa_cons (pe_dget hu (pv 0) (pv 3) (fun _ _ => rfl)) pa_nil)) pe_int (nomark _))))) (pss_one (ps_dput hu (pv 4) (pv 3) (pe_lst (pa_cons (pe_tup (pa_cons pe_int (pa_cons pe_int pa_nil))) pa_nil)) rfl)) pss_nil)
        (pss_cons (ps_if (pt_cmpR (op_eqD hr.units) (pe_dget hu (pv 4) (pv 3) (fun _ _ => rfl)) (pe_dget hu (pv 0) (pv 3) (fun _ _ => rfl)) (nomark _)) (pss_one (ps_dput hu (pv 4) (pv 3) (pe_op op_add (pe_dget hu (pv 0) (pv 3) (fun _ _ => rfl)) pe_int) rfl)) pss_nil)
        (pss_one (ps_ret (pv 4)))))))))))), ?_⟩
    dsimp only [cxOf, Cx.nox, Cx.wish, L2.start, List.map, List.cons_append, List.nil_append, List.length_cons, List.length_nil, Nat.reduceAdd, Nat.reduceSub, Nat.zero_add, List.replicate_succ, List.replicate_zero]
    obtain ⟨kvs, sv, hd, hkk, hP⟩ := id hL
    walk_at "go"
    refine ⟨by show 11 ≤ sizeLine; decide, fun nl1 hnl1 => ?_⟩
    generalize z1 : upd H nl1 _ = H1
    have s1 : Same H H1 := by rw [← z1]; exact same_upd hnl1
    have kn1 := (congrFun z1 nl1).symm.trans upd_same
    clear z1
    walk_at "go"
    refine ⟨by show 7 ≤ sizeLine; decide, fun nl2 hnl2 => ?_⟩
    generalize z1 : upd H1 nl2 _ = H2
    have s2 : Same H1 H2 := by rw [← z1]; exact same_upd hnl2
    have kn2 := (congrFun z1 nl2).symm.trans upd_same
    clear z1
    walk_at "go"
    refine g_cat (s2 _ _ kn1) kn2 (by show 11 + 7 ≤ sizeLine; decide) fun nl hnl => ?_
    generalize z1 : upd H2 nl _ = H3
    have s3 : Same H2 H3 := by rw [← z1]; exact same_upd hnl
    have kn : H3 nl = some (.lst (kd_N.map V.str)) := (congrFun z1 nl).symm.trans upd_same
    clear z1 kn1 kn2
    have s03 := s1.trans (s2.trans s3)
    obtain ⟨kN, hkN⟩ : ∃ kN : Nat, k = (kN : Int) := ⟨k.toNat, by omega⟩
    obtain ⟨nm, hnm⟩ : ∃ nm, kd_N[kN]? = some nm := ⟨kd_N[kN]'(by show kN < 18; omega), List.getElem?_eq_getElem _⟩
    walk_at "go"
    refine g_ixL (sl kn) (at_of (j := kN) hkN (by rw [List.getElem?_map, hnm]; rfl)) ?_
    walk_at "go"
    intro c hc
    generalize z1 : upd H3 c _ = H4
    have s4 : Same H3 H4 := by rw [← z1]; exact same_upd hc
    have ec : H4 c = some (.dK (dk kd_N [])) := (congrFun z1 c).symm.trans upd_same
    clear z1
    have kn4 := s4 _ _ kn
    have hd4 := s4 _ _ (s03 _ _ hd)
    have hd3 := s03 _ _ hd
    have npc : p ≠ c := fun z => by rw [z, hc] at hd3; cases hd3
    have nnc : nl ≠ c := fun z => by rw [z, hc] at kn; cases kn
    clear hd3
    generalize hVS : vsN g da ra sv = VS
    have hn2 : VS.length = 18 := by rw [← hVS]; rfl
    have hat := hkk.at
    rw [hVS] at hat
    walk_at "go"
    refine g_cut (fun σ' H' => ∃ v5 : Option V, σ' = [some (.ref p), some (.int k), some (.ref nl), some (.str nm), some (.ref c), v5] ∧ But c H4 H' ∧ H' c = some (.dK (dk kd_N VS))) ?_ ?_
    · refine for_l (xs := kd_N.map V.str) (fun i σ H' => ∃ v5 : Option V, σ = [some (.ref p), some (.int k), some (.ref nl), some (.str nm), some (.ref c), v5] ∧ But c H4 H' ∧ H' c = some (.dK (dk kd_N (VS.take i)))) (sl kn4) ⟨none, rfl, But.refl, ec⟩ (fun i σ H' _ ⟨_, _, b, _⟩ => sl (b _ _ nnc kn4)) ?turn ?done ?ev
      case ev =>
        intro R r
        walk_at "go"
        exact r
      case turn =>
        rintro i x σ H' hx ⟨v, rfl, b, e⟩
        obtain ⟨n, hn, rfl⟩ := map_get hx
        obtain ⟨hi, _⟩ := List.getElem?_eq_some_iff.mp hn
        have hi18 : i < 18 := hi
        obtain ⟨vv, hvs⟩ : ∃ vv, VS[i]? = some vv := ⟨VS[i]'(by omega), List.getElem?_eq_getElem _⟩
        walk_at "go"
        refine ⟨p, vv, rfl, .inl ⟨_, .inr n, .inl (b _ _ npc hd4), rfl, (by rw [hat i n hn, hvs])⟩, ?_⟩
        walk_at "go"
        refine ⟨c, _, rfl, DPut.k (k := .inr n) e (szl (Nat.lt_of_le_of_lt dk_len (by decide))), ?_⟩
        rw [dk_new ndd_N (by rw [List.length_take, Nat.min_eq_left (by omega)]; exact hn)]
        walk_at "go"
        refine ⟨_, rfl, b.upd, ?_⟩
        rw [upd_same, List.take_add_one, hvs]
        rfl
      case done =>
        rintro σ H5 ⟨v, rfl, b, e⟩
        rw [List.take_of_length_le (by rw [hn2]; show 18 ≤ 18; decide)] at e
        exact ⟨v, rfl, b, e⟩
    rintro σ' H5 ⟨v5, rfl, b, e5⟩
    subst hVS
    unfold vsN at e5
    clear hat hn2
    have hd5 := b _ _ npc hd4
    have s05 : Same H H5 := s03.trans (((But.of s4).trans b).same hc)
    have fc : H c = none := s03.free hc
    have hP5 : SgP H5 g da ra sv := hP.same s05
    clear hd hd4 kn kn4 ec hP b s4 s03 s1 s2 s3
    obtain ⟨q1, q2, q3, q4, q5, q6, q7, q8, q9, q10, q11, q12, q13, q14, q15, q16, q17, q18⟩ := hkk
    have hk18 : kN = 0 ∨ kN = 1 ∨ kN = 2 ∨ kN = 3 ∨ kN = 4 ∨ kN = 5 ∨ kN = 6 ∨ kN = 7 ∨ kN = 8 ∨ kN = 9 ∨ kN = 10 ∨ kN = 11 ∨ kN = 12 ∨ kN = 13 ∨ kN = 14 ∨ kN = 15 ∨ kN = 16 ∨ kN = 17 := by omega
    clear hk
    rcases hk18 with rfl | rfl | rfl | rfl | rfl | rfl | rfl | rfl | rfl | rfl | rfl | rfl | rfl | rfl | rfl | rfl | rfl | rfl
    · obtain rfl : nm = ("source" : Str) := (Option.some.inj hnm).symm
      walk_at "go"
      refine u_othI ?_
      walk_at "go"
      generalize z1 : upd H5 c _ = H6
      have bH6 : But c H5 H6 := by rw [← z1]; exact But.refl.upd
      have e6 := (congrFun z1 c).symm.trans upd_same
      clear z1
      simp only [List.set_cons_succ, List.set_cons_zero] at e6
      have hd6 := bH6 _ _ npc hd5
      have hP6 := hP5.butD bH6 e5
      have s06 : Same H H6 := ((But.of s05).trans bH6).same fc
      clear hd5 e5 hP5
      walk_at "go"
      refine ⟨_, _, .int _, .int _, rfl, rfl, ?_⟩
      rw [eqv_int]
      walk_at "go"
      refine g_ite (fun hb => ?_) (fun hb => ?_)
      · walk_at "go"
        generalize z1 : upd H6 c _ = H7
        have bH7 : But c H6 H7 := by rw [← z1]; exact But.refl.upd
        have e7 := (congrFun z1 c).symm.trans upd_same
        clear z1
        simp only [List.set_cons_succ, List.set_cons_zero] at e7
        have hd7 := bH7 _ _ npc hd6
        have hP7 := hP6.butD bH7 e6
        have s07 : Same H H7 := ((But.of s06).trans bH7).same fc
        clear hd6 e6 hP6
        exact q c da ra { g with src := (g.src + 1) } H7 (by unfold eqS; rw [show decide (g.src = (g.src + 1)) = false from decide_eq_false (by omega)]; simp) s07 (look_N e7 hP7)
      · walk_at "go"
        exact q c da ra { g with src := (othI g.src) } H6 (by unfold eqS; rw [show decide (g.src = (othI g.src)) = false from decide_eq_false (by omega)]; simp) s06 (look_N e6 hP6)
    · obtain rfl : nm = ("target" : Str) := (Option.some.inj hnm).symm
      walk_at "go"
      refine u_othI ?_
      walk_at "go"
      generalize z1 : upd H5 c _ = H6
      have bH6 : But c H5 H6 := by rw [← z1]; exact But.refl.upd
      have e6 := (congrFun z1 c).symm.trans upd_same
      clear z1
      simp only [List.set_cons_succ, List.set_cons_zero] at e6
      have hd6 := bH6 _ _ npc hd5
      have hP6 := hP5.butD bH6 e5
      have s06 : Same H H6 := ((But.of s05).trans bH6).same fc
      clear hd5 e5 hP5
      walk_at "go"
      refine ⟨_, _, .int _, .int _, rfl, rfl, ?_⟩
      rw [eqv_int]
      walk_at "go"
      refine g_ite (fun hb => ?_) (fun hb => ?_)
      · walk_at "go"
        generalize z1 : upd H6 c _ = H7
        have bH7 : But c H6 H7 := by rw [← z1]; exact But.refl.upd
        have e7 := (congrFun z1 c).symm.trans upd_same
        clear z1
        simp only [List.set_cons_succ, List.set_cons_zero] at e7
        have hd7 := bH7 _ _ npc hd6
        have hP7 := hP6.butD bH7 e6
        have s07 : Same H H7 := ((But.of s06).trans bH7).same fc
        clear hd6 e6 hP6
        exact q c da ra { g with tgt := (g.tgt + 1) } H7 (by unfold eqS; rw [show decide (g.tgt = (g.tgt + 1)) = false from decide_eq_false (by omega)]; simp) s07 (look_N e7 hP7)
      · walk_at "go"
        exact q c da ra { g with tgt := (othI g.tgt) } H6 (by unfold eqS; rw [show decide (g.tgt = (othI g.tgt)) = false from decide_eq_false (by omega)]; simp) s06 (look_N e6 hP6)
    · obtain rfl : nm = ("seq" : Str) := (Option.some.inj hnm).symm
      walk_at "go"
      refine u_othI ?_
      walk_at "go"
      generalize z1 : upd H5 c _ = H6
      have bH6 : But c H5 H6 := by rw [← z1]; exact But.refl.upd
      have e6 := (congrFun z1 c).symm.trans upd_same
      clear z1
      simp only [List.set_cons_succ, List.set_cons_zero] at e6
      have hd6 := bH6 _ _ npc hd5
      have hP6 := hP5.butD bH6 e5
      have s06 : Same H H6 := ((But.of s05).trans bH6).same fc
      clear hd5 e5 hP5
      walk_at "go"
      refine ⟨_, _, .int _, .int _, rfl, rfl, ?_⟩
      rw [eqv_int]
      walk_at "go"
      refine g_ite (fun hb => ?_) (fun hb => ?_)
      · walk_at "go"
        generalize z1 : upd H6 c _ = H7
        have bH7 : But c H6 H7 := by rw [← z1]; exact But.refl.upd
        have e7 := (congrFun z1 c).symm.trans upd_same
        clear z1
        simp only [List.set_cons_succ, List.set_cons_zero] at e7
        have hd7 := bH7 _ _ npc hd6
        have hP7 := hP6.butD bH7 e6
        have s07 : Same H H7 := ((But.of s06).trans bH7).same fc
        clear hd6 e6 hP6
        exact q c da ra { g with seq := (g.seq + 1) } H7 (by unfold eqS; rw [show decide (g.seq = (g.seq + 1)) = false from decide_eq_false (by omega)]; simp) s07 (look_N e7 hP7)
      · walk_at "go"
        exact q c da ra { g with seq := (othI g.seq) } H6 (by unfold eqS; rw [show decide (g.seq = (othI g.seq)) = false from decide_eq_false (by omega)]; simp) s06 (look_N e6 hP6)
    · obtain rfl : nm = ("count" : Str) := (Option.some.inj hnm).symm
      walk_at "go"
      refine u_othI ?_
      walk_at "go"
      generalize z1 : upd H5 c _ = H6
      have bH6 : But c H5 H6 := by rw [← z1]; exact But.refl.upd
      have e6 := (congrFun z1 c).symm.trans upd_same
      clear z1
      simp only [List.set_cons_succ, List.set_cons_zero] at e6
      have hd6 := bH6 _ _ npc hd5
      have hP6 := hP5.butD bH6 e5
      have s06 : Same H H6 := ((But.of s05).trans bH6).same fc
      clear hd5 e5 hP5
      walk_at "go"
      refine ⟨_, _, .int _, .int _, rfl, rfl, ?_⟩
      rw [eqv_int]
      walk_at "go"
      refine g_ite (fun hb => ?_) (fun hb => ?_)
      · walk_at "go"
        generalize z1 : upd H6 c _ = H7
        have bH7 : But c H6 H7 := by rw [← z1]; exact But.refl.upd
        have e7 := (congrFun z1 c).symm.trans upd_same
        clear z1
        simp only [List.set_cons_succ, List.set_cons_zero] at e7
        have hd7 := bH7 _ _ npc hd6
        have hP7 := hP6.butD bH7 e6
        have s07 : Same H H7 := ((But.of s06).trans bH7).same fc
        clear hd6 e6 hP6
        exact q c da ra { g with cnt := (g.cnt + 1) } H7 (by unfold eqS; rw [show decide (g.cnt = (g.cnt + 1)) = false from decide_eq_false (by omega)]; simp) s07 (look_N e7 hP7)
      · walk_at "go"
        exact q c da ra { g with cnt := (othI g.cnt) } H6 (by unfold eqS; rw [show decide (g.cnt = (othI g.cnt)) = false from decide_eq_false (by omega)]; simp) s06 (look_N e6 hP6)
    · obtain rfl : nm = ("echo" : Str) := (Option.some.inj hnm).symm
      cases hx : g.echo with
      | none =>
        rw [hx] at q5 e5
        simp only [oV] at q5
        walk_at "go"
        refine u_othN ?_
        walk_at "go"
        generalize z1 : upd H5 c _ = H6
        have bH6 : But c H5 H6 := by rw [← z1]; exact But.refl.upd
        have e6 := (congrFun z1 c).symm.trans upd_same
        clear z1
        simp only [List.set_cons_succ, List.set_cons_zero] at e6
        have hd6 := bH6 _ _ npc hd5
        have hP6 := hP5.butD bH6 e5
        have s06 : Same H H6 := ((But.of s05).trans bH6).same fc
        clear hd5 e5 hP5
        walk_at "go"
        refine ⟨_, _, .int _, .non, rfl, rfl, ?_⟩
        walk_at "go"
        try
          refine g_iF rfl ?_
          walk_at "go"
        exact q c da ra { g with echo := some 1 } H6 (by unfold eqS; rw [hx]; simp) s06 (look_N e6 hP6)
      | some i =>
        rw [hx] at q5 e5
        simp only [oV] at q5
        walk_at "go"
        refine u_othI ?_
        walk_at "go"
        generalize z1 : upd H5 c _ = H6
        have bH6 : But c H5 H6 := by rw [← z1]; exact But.refl.upd
        have e6 := (congrFun z1 c).symm.trans upd_same
        clear z1
        simp only [List.set_cons_succ, List.set_cons_zero] at e6
        have hd6 := bH6 _ _ npc hd5
        have hP6 := hP5.butD bH6 e5
        have s06 : Same H H6 := ((But.of s05).trans bH6).same fc
        clear hd5 e5 hP5
        walk_at "go"
        refine ⟨_, _, .int _, .int _, rfl, rfl, ?_⟩
        rw [eqv_int]
        walk_at "go"
        refine g_ite (fun hb => ?_) (fun hb => ?_)
        · walk_at "go"
          generalize z1 : upd H6 c _ = H7
          have bH7 : But c H6 H7 := by rw [← z1]; exact But.refl.upd
          have e7 := (congrFun z1 c).symm.trans upd_same
          clear z1
          simp only [List.set_cons_succ, List.set_cons_zero] at e7
          have hd7 := bH7 _ _ npc hd6
          have hP7 := hP6.butD bH7 e6
          have s07 : Same H H7 := ((But.of s06).trans bH7).same fc
          clear hd6 e6 hP6
          exact q c da ra { g with echo := some (i + 1) } H7 (by unfold eqS; rw [hx, show decide (some i = some (i + 1)) = false from decide_eq_false (fun z => by have := Option.some.inj z; omega)]; simp) s07 (look_N e7 hP7)
        · walk_at "go"
          exact q c da ra { g with echo := some (othI i) } H6 (by unfold eqS; rw [hx, show decide (some i = some (othI i)) = false from decide_eq_false (fun z => by have := Option.some.inj z; omega)]; simp) s06 (look_N e6 hP6)
    · obtain rfl : nm = ("ack" : Str) := (Option.some.inj hnm).symm
      cases hx : g.ack with
      | none =>
        rw [hx] at q6 e5
        simp only [oV] at q6
        walk_at "go"
        refine u_othN ?_
        walk_at "go"
        generalize z1 : upd H5 c _ = H6
        have bH6 : But c H5 H6 := by rw [← z1]; exact But.refl.upd
        have e6 := (congrFun z1 c).symm.trans upd_same
        clear z1
        simp only [List.set_cons_succ, List.set_cons_zero] at e6
        have hd6 := bH6 _ _ npc hd5
        have hP6 := hP5.butD bH6 e5
        have s06 : Same H H6 := ((But.of s05).trans bH6).same fc
        clear hd5 e5 hP5
        walk_at "go"
        refine ⟨_, _, .int _, .non, rfl, rfl, ?_⟩
        walk_at "go"
        try
          refine g_iF rfl ?_
          walk_at "go"
        exact q c da ra { g with ack := some 1 } H6 (by unfold eqS; rw [hx]; simp) s06 (look_N e6 hP6)
      | some i =>
        rw [hx] at q6 e5
        simp only [oV] at q6
        walk_at "go"
        refine u_othI ?_
        walk_at "go"
        generalize z1 : upd H5 c _ = H6
        have bH6 : But c H5 H6 := by rw [← z1]; exact But.refl.upd
        have e6 := (congrFun z1 c).symm.trans upd_same
        clear z1
        simp only [List.set_cons_succ, List.set_cons_zero] at e6
        have hd6 := bH6 _ _ npc hd5
        have hP6 := hP5.butD bH6 e5
        have s06 : Same H H6 := ((But.of s05).trans bH6).same fc
        clear hd5 e5 hP5
        walk_at "go"
        refine ⟨_, _, .int _, .int _, rfl, rfl, ?_⟩
        rw [eqv_int]
        walk_at "go"
        refine g_ite (fun hb => ?_) (fun hb => ?_)
        · walk_at "go"
          generalize z1 : upd H6 c _ = H7
          have bH7 : But c H6 H7 := by rw [← z1]; exact But.refl.upd
          have e7 := (congrFun z1 c).symm.trans upd_same
          clear z1
          simp only [List.set_cons_succ, List.set_cons_zero] at e7
          have hd7 := bH7 _ _ npc hd6
          have hP7 := hP6.butD bH7 e6
          have s07 : Same H H7 := ((But.of s06).trans bH7).same fc
          clear hd6 e6 hP6
          exact q c da ra { g with ack := some (i + 1) } H7 (by unfold eqS; rw [hx, show decide (some i = some (i + 1)) = false from decide_eq_false (fun z => by have := Option.some.inj z; omega)]; simp) s07 (look_N e7 hP7)
        · walk_at "go"
          exact q c da ra { g with ack := some (othI i) } H6 (by unfold eqS; rw [hx, show decide (some i = some (othI i)) = false from decide_eq_false (fun z => by have := Option.some.inj z; omega)]; simp) s06 (look_N e6 hP6)
    · obtain rfl : nm = ("syn" : Str) := (Option.some.inj hnm).symm
      walk_at "go"
      refine u_othB ?_
      walk_at "go"
      generalize z1 : upd H5 c _ = H6
      have bH6 : But c H5 H6 := by rw [← z1]; exact But.refl.upd
      have e6 := (congrFun z1 c).symm.trans upd_same
      clear z1
      simp only [List.set_cons_succ, List.set_cons_zero] at e6
      have hd6 := bH6 _ _ npc hd5
      have hP6 := hP5.butD bH6 e5
      have s06 : Same H H6 := ((But.of s05).trans bH6).same fc
      clear hd5 e5 hP5
      walk_at "go"
      refine ⟨_, _, .bl _, .bl _, rfl, rfl, ?_⟩
      walk_at "go"
      refine g_iF (by cases g.syn <;> rfl) ?_
      walk_at "go"
      exact q c da ra { g with syn := !g.syn } H6 (by unfold eqS; cases g.syn <;> simp) s06 (look_N e6 hP6)
    · obtain rfl : nm = ("fin" : Str) := (Option.some.inj hnm).symm
      walk_at "go"
      refine u_othB ?_
      walk_at "go"
      generalize z1 : upd H5 c _ = H6
      have bH6 : But c H5 H6 := by rw [← z1]; exact But.refl.upd
      have e6 := (congrFun z1 c).symm.trans upd_same
      clear z1
      simp only [List.set_cons_succ, List.set_cons_zero] at e6
      have hd6 := bH6 _ _ npc hd5
      have hP6 := hP5.butD bH6 e5
      have s06 : Same H H6 := ((But.of s05).trans bH6).same fc
      clear hd5 e5 hP5
      walk_at "go"
      refine ⟨_, _, .bl _, .bl _, rfl, rfl, ?_⟩
      walk_at "go"
      refine g_iF (by cases g.fin <;> rfl) ?_
      walk_at "go"
      exact q c da ra { g with fin := !g.fin } H6 (by unfold eqS; cases g.fin <;> simp) s06 (look_N e6 hP6)
    · obtain rfl : nm = ("reset" : Str) := (Option.some.inj hnm).symm
      walk_at "go"
      refine u_othB ?_
      walk_at "go"
      generalize z1 : upd H5 c _ = H6
      have bH6 : But c H5 H6 := by rw [← z1]; exact But.refl.upd
      have e6 := (congrFun z1 c).symm.trans upd_same
      clear z1
      simp only [List.set_cons_succ, List.set_cons_zero] at e6
      have hd6 := bH6 _ _ npc hd5
      have hP6 := hP5.butD bH6 e5
      have s06 : Same H H6 := ((But.of s05).trans bH6).same fc
      clear hd5 e5 hP5
      walk_at "go"
      refine ⟨_, _, .bl _, .bl _, rfl, rfl, ?_⟩
      walk_at "go"
      refine g_iF (by cases g.reset <;> rfl) ?_
      walk_at "go"
      exact q c da ra { g with reset := !g.reset } H6 (by unfold eqS; cases g.reset <;> simp) s06 (look_N e6 hP6)
    · obtain rfl : nm = ("marked" : Str) := (Option.some.inj hnm).symm
      walk_at "go"
      refine u_othB ?_
      walk_at "go"
      generalize z1 : upd H5 c _ = H6
      have bH6 : But c H5 H6 := by rw [← z1]; exact But.refl.upd
      have e6 := (congrFun z1 c).symm.trans upd_same
      clear z1
      simp only [List.set_cons_succ, List.set_cons_zero] at e6
      have hd6 := bH6 _ _ npc hd5
      have hP6 := hP5.butD bH6 e5
      have s06 : Same H H6 := ((But.of s05).trans bH6).same fc
      clear hd5 e5 hP5
      walk_at "go"
      refine ⟨_, _, .bl _, .bl _, rfl, rfl, ?_⟩
      walk_at "go"
      refine g_iF (by cases g.marked <;> rfl) ?_
      walk_at "go"
      exact q c da ra { g with marked := !g.marked } H6 (by unfold eqS; cases g.marked <;> simp) s06 (look_N e6 hP6)
    · obtain rfl : nm = ("cut" : Str) := (Option.some.inj hnm).symm
      walk_at "go"
      refine u_othB ?_
      walk_at "go"
      generalize z1 : upd H5 c _ = H6
      have bH6 : But c H5 H6 := by rw [← z1]; exact But.refl.upd
      have e6 := (congrFun z1 c).symm.trans upd_same
      clear z1
      simp only [List.set_cons_succ, List.set_cons_zero] at e6
      have hd6 := bH6 _ _ npc hd5
      have hP6 := hP5.butD bH6 e5
      have s06 : Same H H6 := ((But.of s05).trans bH6).same fc
      clear hd5 e5 hP5
      walk_at "go"
      refine ⟨_, _, .bl _, .bl _, rfl, rfl, ?_⟩
      walk_at "go"
      refine g_iF (by cases g.cut <;> rfl) ?_
      walk_at "go"
      exact q c da ra { g with cut := !g.cut } H6 (by unfold eqS; cases g.cut <;> simp) s06 (look_N e6 hP6)
    · obtain rfl : nm = ("window" : Str) := (Option.some.inj hnm).symm
      walk_at "go"
      refine u_othI ?_
      walk_at "go"
      generalize z1 : upd H5 c _ = H6
      have bH6 : But c H5 H6 := by rw [← z1]; exact But.refl.upd
      have e6 := (congrFun z1 c).symm.trans upd_same
      clear z1
      simp only [List.set_cons_succ, List.set_cons_zero] at e6
      have hd6 := bH6 _ _ npc hd5
      have hP6 := hP5.butD bH6 e5
      have s06 : Same H H6 := ((But.of s05).trans bH6).same fc
      clear hd5 e5 hP5
      walk_at "go"
      refine ⟨_, _, .int _, .int _, rfl, rfl, ?_⟩
      rw [eqv_int]
      walk_at "go"
      refine g_ite (fun hb => ?_) (fun hb => ?_)
      · walk_at "go"
        generalize z1 : upd H6 c _ = H7
        have bH7 : But c H6 H7 := by rw [← z1]; exact But.refl.upd
        have e7 := (congrFun z1 c).symm.trans upd_same
        clear z1
        simp only [List.set_cons_succ, List.set_cons_zero] at e7
        have hd7 := bH7 _ _ npc hd6
        have hP7 := hP6.butD bH7 e6
        have s07 : Same H H7 := ((But.of s06).trans bH7).same fc
        clear hd6 e6 hP6
        exact q c da ra { g with window := (g.window + 1) } H7 (by unfold eqS; rw [show decide (g.window = (g.window + 1)) = false from decide_eq_false (by omega)]; simp) s07 (look_N e7 hP7)
      · walk_at "go"
        exact q c da ra { g with window := (othI g.window) } H6 (by unfold eqS; rw [show decide (g.window = (othI g.window)) = false from decide_eq_false (by omega)]; simp) s06 (look_N e6 hP6)
    · obtain rfl : nm = ("mss" : Str) := (Option.some.inj hnm).symm
      cases hx : g.mss with
      | none =>
        rw [hx] at q13 e5
        simp only [oV] at q13
        walk_at "go"
        refine u_othN ?_
        walk_at "go"
        generalize z1 : upd H5 c _ = H6
        have bH6 : But c H5 H6 := by rw [← z1]; exact But.refl.upd
        have e6 := (congrFun z1 c).symm.trans upd_same
        clear z1
        simp only [List.set_cons_succ, List.set_cons_zero] at e6
        have hd6 := bH6 _ _ npc hd5
        have hP6 := hP5.butD bH6 e5
        have s06 : Same H H6 := ((But.of s05).trans bH6).same fc
        clear hd5 e5 hP5
        walk_at "go"
        refine ⟨_, _, .int _, .non, rfl, rfl, ?_⟩
        walk_at "go"
        try
          refine g_iF rfl ?_
          walk_at "go"
        exact q c da ra { g with mss := some 1 } H6 (by unfold eqS; rw [hx]; simp) s06 (look_N e6 hP6)
      | some i =>
        rw [hx] at q13 e5
        simp only [oV] at q13
        walk_at "go"
        refine u_othI ?_
        walk_at "go"
        generalize z1 : upd H5 c _ = H6
        have bH6 : But c H5 H6 := by rw [← z1]; exact But.refl.upd
        have e6 := (congrFun z1 c).symm.trans upd_same
        clear z1
        simp only [List.set_cons_succ, List.set_cons_zero] at e6
        have hd6 := bH6 _ _ npc hd5
        have hP6 := hP5.butD bH6 e5
        have s06 : Same H H6 := ((But.of s05).trans bH6).same fc
        clear hd5 e5 hP5
        walk_at "go"
        refine ⟨_, _, .int _, .int _, rfl, rfl, ?_⟩
        rw [eqv_int]
        walk_at "go"
        refine g_ite (fun hb => ?_) (fun hb => ?_)
        · walk_at "go"
          generalize z1 : upd H6 c _ = H7
          have bH7 : But c H6 H7 := by rw [← z1]; exact But.refl.upd
          have e7 := (congrFun z1 c).symm.trans upd_same
          clear z1
          simp only [List.set_cons_succ, List.set_cons_zero] at e7
          have hd7 := bH7 _ _ npc hd6
          have hP7 := hP6.butD bH7 e6
          have s07 : Same H H7 := ((But.of s06).trans bH7).same fc
          clear hd6 e6 hP6
          exact q c da ra { g with mss := some (i + 1) } H7 (by unfold eqS; rw [hx, show decide (some i = some (i + 1)) = false from decide_eq_false (fun z => by have := Option.some.inj z; omega)]; simp) s07 (look_N e7 hP7)
        · walk_at "go"
          exact q c da ra { g with mss := some (othI i) } H6 (by unfold eqS; rw [hx, show decide (some i = some (othI i)) = false from decide_eq_false (fun z => by have := Option.some.inj z; omega)]; simp) s06 (look_N e6 hP6)
    · obtain rfl : nm = ("scale" : Str) := (Option.some.inj hnm).symm
      cases hx : g.scale with
      | none =>
        rw [hx] at q14 e5
        simp only [oV] at q14
        walk_at "go"
        refine u_othN ?_
        walk_at "go"
        generalize z1 : upd H5 c _ = H6
        have bH6 : But c H5 H6 := by rw [← z1]; exact But.refl.upd
        have e6 := (congrFun z1 c).symm.trans upd_same
        clear z1
        simp only [List.set_cons_succ, List.set_cons_zero] at e6
        have hd6 := bH6 _ _ npc hd5
        have hP6 := hP5.butD bH6 e5
        have s06 : Same H H6 := ((But.of s05).trans bH6).same fc
        clear hd5 e5 hP5
        walk_at "go"
        refine ⟨_, _, .int _, .non, rfl, rfl, ?_⟩
        walk_at "go"
        try
          refine g_iF rfl ?_
          walk_at "go"
        exact q c da ra { g with scale := some 1 } H6 (by unfold eqS; rw [hx]; simp) s06 (look_N e6 hP6)
      | some i =>
        rw [hx] at q14 e5
        simp only [oV] at q14
        walk_at "go"
        refine u_othI ?_
        walk_at "go"
        generalize z1 : upd H5 c _ = H6
        have bH6 : But c H5 H6 := by rw [← z1]; exact But.refl.upd
        have e6 := (congrFun z1 c).symm.trans upd_same
        clear z1
        simp only [List.set_cons_succ, List.set_cons_zero] at e6
        have hd6 := bH6 _ _ npc hd5
        have hP6 := hP5.butD bH6 e5
        have s06 : Same H H6 := ((But.of s05).trans bH6).same fc
        clear hd5 e5 hP5
        walk_at "go"
        refine ⟨_, _, .int _, .int _, rfl, rfl, ?_⟩
        rw [eqv_int]
        walk_at "go"
        refine g_ite (fun hb => ?_) (fun hb => ?_)
        · walk_at "go"
          generalize z1 : upd H6 c _ = H7
          have bH7 : But c H6 H7 := by rw [← z1]; exact But.refl.upd
          have e7 := (congrFun z1 c).symm.trans upd_same
          clear z1
          simp only [List.set_cons_succ, List.set_cons_zero] at e7
          have hd7 := bH7 _ _ npc hd6
          have hP7 := hP6.butD bH7 e6
          have s07 : Same H H7 := ((But.of s06).trans bH7).same fc
          clear hd6 e6 hP6
          exact q c da ra { g with scale := some (i + 1) } H7 (by unfold eqS; rw [hx, show decide (some i = some (i + 1)) = false from decide_eq_false (fun z => by have := Option.some.inj z; omega)]; simp) s07 (look_N e7 hP7)
        · walk_at "go"
          exact q c da ra { g with scale := some (othI i) } H6 (by unfold eqS; rw [hx, show decide (some i = some (othI i)) = false from decide_eq_false (fun z => by have := Option.some.inj z; omega)]; simp) s06 (look_N e6 hP6)
    · obtain rfl : nm = ("ranges_known" : Str) := (Option.some.inj hnm).symm
      walk_at "go"
      refine u_othB ?_
      walk_at "go"
      generalize z1 : upd H5 c _ = H6
      have bH6 : But c H5 H6 := by rw [← z1]; exact But.refl.upd
      have e6 := (congrFun z1 c).symm.trans upd_same
      clear z1
      simp only [List.set_cons_succ, List.set_cons_zero] at e6
      have hd6 := bH6 _ _ npc hd5
      have hP6 := hP5.butD bH6 e5
      have s06 : Same H H6 := ((But.of s05).trans bH6).same fc
      clear hd5 e5 hP5
      walk_at "go"
      refine ⟨_, _, .bl _, .bl _, rfl, rfl, ?_⟩
      walk_at "go"
      refine g_iF (by cases g.rk <;> rfl) ?_
      walk_at "go"
      exact q c da ra { g with rk := !g.rk } H6 (by unfold eqS; cases g.rk <;> simp) s06 (look_N e6 hP6)
    · obtain rfl : nm = ("ranges" : Str) := (Option.some.inj hnm).symm
      obtain ⟨hda5, ⟨vs5, hra5, hPr5⟩, hsv5⟩ := id hP5
      have lv := hPr5.1
      walk_at "go"
      refine u_othL hra5 fun l H6 ys sH6 kH6 hys => ?_
      have hd6 := sH6 _ _ hd5
      have e6 := sH6 _ _ e5
      have hP6 := hP5.same sH6
      have s06 := s05.trans sH6
      clear hd5 e5 hP5
      have hra6 := sH6 _ _ hra5
      have hPr6 := hPr5.same sH6
      walk_at "go"
      generalize z1 : upd H6 c _ = H7
      have bH7 : But c H6 H7 := by rw [← z1]; exact But.refl.upd
      have e7 := (congrFun z1 c).symm.trans upd_same
      clear z1
      simp only [List.set_cons_succ, List.set_cons_zero] at e7
      have hd7 := bH7 _ _ npc hd6
      have hP7 := hP6.butD bH7 e6
      have s07 : Same H H7 := ((But.of s06).trans bH7).same fc
      have eK := e6
      clear hd6 e6 hP6
      have nlc : l ≠ c := fun z => by rw [z] at kH6; rw [kH6] at eK; cases eK
      have nrc : ra ≠ c := fun z => by rw [z] at hra6; rw [hra6] at eK; cases eK
      have hra7 := bH7 _ _ nrc hra6
      have hPr7 := hPr6.butD bH7 eK
      have kl7 := bH7 _ _ nlc kH6
      walk_at "go"
      refine g_len (.inl (sl hra7)) ?_
      walk_at "go"
      cases hrs : g.rs with
      | nil =>
        rw [hrs] at lv hPr7
        have hv0 : vs5 = [] := List.eq_nil_of_length_eq_zero lv
        subst hv0
        walk_at "go"
        refine ⟨by show 2 ≤ sizeLine; decide, fun t8 ht8 => ?_⟩
        generalize z1 : upd H7 t8 _ = H8
        have sH8 : Same H7 H8 := by rw [← z1]; exact same_upd ht8
        have kH8 := (congrFun z1 t8).symm.trans upd_same
        clear z1
        have hd8 := sH8 _ _ hd7
        have e8 := sH8 _ _ e7
        have hP8 := hP7.same sH8
        have s08 := s07.trans sH8
        clear hd7 e7 hP7
        walk_at "go"
        refine ⟨by show 1 ≤ sizeLine; decide, fun l9 hl9 => ?_⟩
        generalize z1 : upd H8 l9 _ = H9
        have sH9 : Same H8 H9 := by rw [← z1]; exact same_upd hl9
        have kH9 := (congrFun z1 l9).symm.trans upd_same
        clear z1
        have hd9 := sH9 _ _ hd8
        have e9 := sH9 _ _ e8
        have hP9 := hP8.same sH9
        have s09 := s08.trans sH9
        clear hd8 e8 hP8
        have t9 := sH9 _ _ kH8
        have hra9 := sH9 _ _ (sH8 _ _ hra7)
        walk_at "go"
        generalize z1 : upd H9 c _ = H10
        have bH10 : But c H9 H10 := by rw [← z1]; exact But.refl.upd
        have e10 := (congrFun z1 c).symm.trans upd_same
        clear z1
        simp only [List.set_cons_succ, List.set_cons_zero] at e10
        have hd10 := bH10 _ _ npc hd9
        have hP10 := hP9.butD bH10 e9
        have s010 : Same H H10 := ((But.of s09).trans bH10).same fc
        have eK9 := e9
        clear hd9 e9 hP9
        have nl9 : l9 ≠ c := fun z => by rw [z] at kH9; rw [kH9] at eK9; cases eK9
        have nr9 : ra ≠ c := nrc
        have k10 := bH10 _ _ nl9 kH9
        have hra10 := bH10 _ _ nr9 hra9
        have t10 := bH10 _ _ (fun z => by rw [z] at t9; rw [t9] at eK9; cases eK9) t9
        walk_at "go"
        refine g_eqPL (sl k10) (Prs.one (p := (3, 4)) t10) (sl hra10) Prs.nil ?_
        walk_at "go"
        exact q c da l9 { g with rs := [(3, 4)] } H10 (by unfold eqS; rw [hrs]; simp) s010 (look_N e10 ⟨hP10.1, ⟨_, k10, Prs.one (p := (3, 4)) t10⟩, hP10.2.2⟩)
      | cons p0 ps =>
        rw [hrs] at lv hPr7
        have hv0 : vs5 ≠ [] := fun z => by rw [z] at lv; cases lv
        rw [if_neg hv0] at hys
        subst hys
        have lz : ¬ ((vs5.length : Int) = 0) := by rw [lv]; show ¬ (((ps.length + 1 : Nat) : Int) = 0); omega
        refine g_dF lz ?_
        walk_at "go"
        refine g_eqPL (sl kl7) (hPr7.drop 1) (sl hra7) hPr7 ?_
        have nd : ¬ ((p0 :: ps).drop 1 = p0 :: ps) := fun z => by have := congrArg List.length z; simp at this
        rw [decide_eq_false nd]
        walk_at "go"
        exact q c da l { g with rs := (p0 :: ps).drop 1 } H7 (by unfold eqS; rw [hrs]; simp) s07 (look_N e7 ⟨hP7.1, ⟨_, kl7, hPr7.drop 1⟩, hP7.2.2⟩)
    · obtain rfl : nm = ("stamp" : Str) := (Option.some.inj hnm).symm
      obtain ⟨hda5, hrr5, hsv5⟩ := id hP5
      cases hx : g.stamp with
      | none =>
        rw [hx] at hsv5
        have hsv5 : sv = .non := hsv5
        subst hsv5
        walk_at "go"
        refine u_othN ?_
        walk_at "go"
        generalize z1 : upd H5 c _ = H6
        have bH6 : But c H5 H6 := by rw [← z1]; exact But.refl.upd
        have e6 := (congrFun z1 c).symm.trans upd_same
        clear z1
        simp only [List.set_cons_succ, List.set_cons_zero] at e6
        have hd6 := bH6 _ _ npc hd5
        have hP6 := hP5.butD bH6 e5
        have s06 : Same H H6 := ((But.of s05).trans bH6).same fc
        clear hd5 e5 hP5
        walk_at "go"
        refine ⟨by show 2 ≤ sizeLine; decide, fun t7 ht7 => ?_⟩
        generalize z1 : upd H6 t7 _ = H7
        have sH7 : Same H6 H7 := by rw [← z1]; exact same_upd ht7
        have kH7 := (congrFun z1 t7).symm.trans upd_same
        clear z1
        have hd7 := sH7 _ _ hd6
        have e7 := sH7 _ _ e6
        have hP7 := hP6.same sH7
        have s07 := s06.trans sH7
        clear hd6 e6 hP6
        walk_at "go"
        generalize z1 : upd H7 c _ = H8
        have bH8 : But c H7 H8 := by rw [← z1]; exact But.refl.upd
        have e8 := (congrFun z1 c).symm.trans upd_same
        clear z1
        simp only [List.set_cons_succ, List.set_cons_zero] at e8
        have hd8 := bH8 _ _ npc hd7
        have hP8 := hP7.butD bH8 e7
        have s08 : Same H H8 := ((But.of s07).trans bH8).same fc
        have eK := e7
        clear hd7 e7 hP7
        have ntc : t7 ≠ c := fun z => by rw [z] at kH7; rw [kH7] at eK; cases eK
        have t8 : H8 t7 = some (tupP (0, 1)) := bH8 _ _ ntc kH7
        walk_at "go"
        refine ⟨_, _, dp_pair t8, .non, rfl, rfl, ?_⟩
        walk_at "go"
        try
          refine g_iF rfl ?_
          walk_at "go"
        exact q c da ra { g with stamp := some (0, 1) } H8 (by unfold eqS; rw [hx]; simp) s08 (look_N e8 ⟨hP8.1, hP8.2.1, t7, rfl, t8⟩)
      | some p0 =>
        rw [hx] at hsv5
        obtain ⟨t0, rfl, ht0⟩ := hsv5
        have hw := (ok.stamp p0 hx).2
        have hw1 : 0 ≤ p0.2 ∧ p0.2 < 4294967296 := hw
        walk_at "go"
        refine u_othT ht0 fun l H6 sH6 kH6 => ?_
        have hd6 := sH6 _ _ hd5
        have e6 := sH6 _ _ e5
        have hP6 := hP5.same sH6
        have s06 := s05.trans sH6
        clear hd5 e5 hP5
        have t06 := sH6 _ _ ht0
        walk_at "go"
        generalize z1 : upd H6 c _ = H7
        have bH7 : But c H6 H7 := by rw [← z1]; exact But.refl.upd
        have e7 := (congrFun z1 c).symm.trans upd_same
        clear z1
        simp only [List.set_cons_succ, List.set_cons_zero] at e7
        have hd7 := bH7 _ _ npc hd6
        have hP7 := hP6.butD bH7 e6
        have s07 : Same H H7 := ((But.of s06).trans bH7).same fc
        have eK := e6
        clear hd6 e6 hP6
        have nlc : l ≠ c := fun z => by rw [z] at kH6; rw [kH6] at eK; cases eK
        have ntc : t0 ≠ c := fun z => by rw [z] at t06; rw [t06] at eK; cases eK
        have kl7 := bH7 _ _ nlc kH6
        have t07 := bH7 _ _ ntc t06
        walk_at "go"
        refine ⟨_, _, dp_pair kl7, dp_pair t07, rfl, rfl, ?_⟩
        have nd : ¬ ((p0.1, (p0.2 + 1) % 4294967296) = p0) := fun z => by have := congrArg Prod.snd z; simp at this; omega
        rw [eqv_pair, decide_eq_false nd]
        walk_at "go"
        exact q c da ra { g with stamp := some (p0.1, (p0.2 + 1) % 4294967296) } H7 (by unfold eqS; rw [hx, show decide (some p0 = some (p0.1, (p0.2 + 1) % 4294967296)) = false from decide_eq_false (fun z => nd (Option.some.inj z).symm)]; simp) s07 (look_N e7 ⟨hP7.1, hP7.2.1, l, rfl, kl7⟩)
    · obtain rfl : nm = ("data" : Str) := (Option.some.inj hnm).symm
      obtain ⟨hda5, hrr5, hsv5⟩ := id hP5
      walk_at "go"
      refine u_othL hda5 fun l H6 ys sH6 kH6 hys => ?_
      have hd6 := sH6 _ _ hd5
      have e6 := sH6 _ _ e5
      have hP6 := hP5.same sH6
      have s06 := s05.trans sH6
      clear hd5 e5 hP5
      have hda6 := sH6 _ _ hda5
      walk_at "go"
      generalize z1 : upd H6 c _ = H7
      have bH7 : But c H6 H7 := by rw [← z1]; exact But.refl.upd
      have e7 := (congrFun z1 c).symm.trans upd_same
      clear z1
      simp only [List.set_cons_succ, List.set_cons_zero] at e7
      have hd7 := bH7 _ _ npc hd6
      have hP7 := hP6.butD bH7 e6
      have s07 : Same H H7 := ((But.of s06).trans bH7).same fc
      have eK := e6
      clear hd6 e6 hP6
      have nlc : l ≠ c := fun z => by rw [z] at kH6; rw [kH6] at eK; cases eK
      have ndc : da ≠ c := fun z => by rw [z] at hda6; rw [hda6] at eK; cases eK
      have kl7 := bH7 _ _ nlc kH6
      have hda7 := bH7 _ _ ndc hda6
      walk_at "go"
      cases hds : g.ds with
      | nil =>
        rw [hds] at hys hda7
        rw [if_pos (show List.map V.int [] = [] from rfl)] at hys
        subst hys
        refine g_eqL (ns := [7]) (ms := []) (sl kl7) (sl hda7) ?_
        walk_at "go"
        exact q c l ra { g with ds := [7] } H7 (by unfold eqS; rw [hds]; simp) s07 (look_N e7 ⟨kl7, hP7.2.1, hP7.2.2⟩)
      | cons x xs =>
        rw [hds] at hys hda7
        rw [if_neg (show ¬ List.map V.int (x :: xs) = [] from fun z => by cases z)] at hys
        have hy : ys = xs.map V.int := hys
        subst hy
        refine g_eqL (ns := xs) (ms := x :: xs) (sl kl7) (sl hda7) ?_
        have nd : ¬ (xs = x :: xs) := fun z => by have := congrArg List.length z; simp at this
        rw [decide_eq_false nd]
        walk_at "go"
        exact q c l ra { g with ds := xs } H7 (by unfold eqS; rw [hds]; simp) s07 (look_N e7 ⟨kl7, hP7.2.1, hP7.2.2⟩)

end
end My
namespace My
open PySem PySem.Spec L2
local macro_rules | `(tactic| walk_at "side") => `(tactic| first | assumption | decide | omega | exact ⟨by decide, by decide⟩ | exact ⟨by decide, by decide, by decide⟩ | decide +kernel | exact cdivW (by decide +kernel) (by decide +kernel) | exact Or.inl ⟨by omega, by omega⟩ | exact Or.inr ⟨by omega, by omega⟩ | (simp only [List.length_map, List.length_cons, List.length_nil, List.length_append]; omega))
local macro_rules | `(tactic| walk_at "fact") => `(tactic| first | assumption | omega | with_reducible rfl)
local macro_rules | `(tactic| walk_at "use") => `(tactic| fail "use")
local macro_rules | `(tactic| walk_at "go1") => `(tactic| with_reducible first | refine g_seq ?_ | refine g_asg ?_ | refine g_ret ?_ | refine g_ifS ?_ | refine g_drop ?_ | refine g_star ?_ | refine g_nx ?_ | refine g_rt ?_ | refine g_bkE ?_ | refine g_ctE ?_ | refine g_next ?_ | refine g_retN ?_ | refine g_brk ?_ | refine g_ct ?_ | refine g_c ?_ | refine g_op ?_ | refine g_un ?_ | refine g_rI0 ?_ | refine g_rU ?_ | refine g_rEqI ?_ | refine g_rNeI ?_ | refine g_isN ?_ | refine g_rIsB ?_ | refine g_rNotB ?_ | refine g_test ?_ | refine g_B ?_ | refine g_bl ?_ | refine g_and ?_ | refine g_or ?_ | refine g_not ?_ | refine g_andV ?_ | refine g_orV ?_ | refine g_notV ?_ | refine g_if ?_ | refine g_chain ?_ | refine g_yes ?_ | refine g_lc ?_ | refine g_revR ?_ | refine g_rng1 ?_ | refine g_iList ?_ | refine g_nil ?_ | refine g_cons ?_ | refine g_tup ?_ | refine g_lst ?_ | refine g_call ?_ | refine g_CB ?_ | refine g_sl ?_ | refine g_noPart ?_ | refine g_part ?_ | refine g_intE ?_ | refine g_ref ?_ | refine g_fld ?_ | refine g_sfld ?_ | refine g_meth ?_ | refine g_make ?_ | refine g_prop ?_  | refine g_ipI ?_ | refine g_int1 ?_ | refine g_int1B ?_ | refine g_one ?_ | refine g_two ?_ | refine g_isiI ?_ | refine g_isiIB ?_ | refine g_isiB ?_ | refine g_BM ?_ | refine g_BM0 ?_ | refine g_sub ?_)
local macro_rules | `(tactic| walk_at "go") => `(tactic| repeat (first | walk_at "go1" | ((with_reducible refine' g_nameE ?sd_ ?_); case sd_ => dsimp only [List.set_cons_succ, List.set_cons_zero]) | ((with_reducible refine' g_var ?sd_ ?_); case sd_ => exact rfl) | ((with_reducible refine' g_aug ?sd_ ?_); case sd_ => exact rfl) | ((with_reducible refine' g_rI ?sd_ ?_); case sd_ => walk_at "side") | ((with_reducible refine' g_dT ?sd_ ?_); case sd_ => walk_at "fact") | ((with_reducible refine' g_dF ?sd_ ?_); case sd_ => walk_at "fact") | ((with_reducible refine' g_nT ?sd_ ?_); case sd_ => walk_at "fact") | ((with_reducible refine' g_nF ?sd_ ?_); case sd_ => walk_at "fact") | (with_reducible refine g_iT rfl ?_) | (with_reducible refine g_iF rfl ?_) | walk_at "use"))
local macro_rules | `(tactic| walk_at "use") => `(tactic| first | ((with_reducible refine' fd_Segment_source ?ho_ ?hv_ ?_); (case ho_ => first | assumption | exact upd_same); (case hv_ => exact rfl)) | ((with_reducible refine' fd_Segment_target ?ho_ ?hv_ ?_); (case ho_ => first | assumption | exact upd_same); (case hv_ => exact rfl)) | ((with_reducible refine' fd_Segment_seq ?ho_ ?hv_ ?_); (case ho_ => first | assumption | exact upd_same); (case hv_ => exact rfl)) | ((with_reducible refine' fd_Segment_count ?ho_ ?hv_ ?_); (case ho_ => first | assumption | exact upd_same); (case hv_ => exact rfl)) | ((with_reducible refine' fd_Segment_echo ?ho_ ?hv_ ?_); (case ho_ => first | assumption | exact upd_same); (case hv_ => exact rfl)) | ((with_reducible refine' fd_Segment_ack ?ho_ ?hv_ ?_); (case ho_ => first | assumption | exact upd_same); (case hv_ => exact rfl)) | ((with_reducible refine' fd_Segment_syn ?ho_ ?hv_ ?_); (case ho_ => first | assumption | exact upd_same); (case hv_ => exact rfl)) | ((with_reducible refine' fd_Segment_fin ?ho_ ?hv_ ?_); (case ho_ => first | assumption | exact upd_same); (case hv_ => exact rfl)) | ((with_reducible refine' fd_Segment_reset ?ho_ ?hv_ ?_); (case ho_ => first | assumption | exact upd_same); (case hv_ => exact rfl)) | ((with_reducible refine' fd_Segment_marked ?ho_ ?hv_ ?_); (case ho_ => first | assumption | exact upd_same); (case hv_ => exact rfl)) | ((with_reducible refine' fd_Segment_cut ?ho_ ?hv_ ?_); (case ho_ => first | assumption | exact upd_same); (case hv_ => exact rfl)) | ((with_reducible refine' fd_Segment_window ?ho_ ?hv_ ?_); (case ho_ => first | assumption | exact upd_same); (case hv_ => exact rfl)) | ((with_reducible refine' fd_Segment_mss ?ho_ ?hv_ ?_); (case ho_ => first | assumption | exact upd_same); (case hv_ => exact rfl)) | ((with_reducible refine' fd_Segment_scale ?ho_ ?hv_ ?_); (case ho_ => first | assumption | exact upd_same); (case hv_ => exact rfl)) | ((with_reducible refine' fd_Segment_ranges_known ?ho_ ?hv_ ?_); (case ho_ => first | assumption | exact upd_same); (case hv_ => exact rfl)) | ((with_reducible refine' fd_Segment_ranges ?ho_ ?hv_ ?_); (case ho_ => first | assumption | exact upd_same); (case hv_ => exact rfl)) | ((with_reducible refine' fd_Segment_stamp ?ho_ ?hv_ ?_); (case ho_ => first | assumption | exact upd_same); (case hv_ => exact rfl)) | ((with_reducible refine' fd_Segment_data ?ho_ ?hv_ ?_); (case ho_ => first | assumption | exact upd_same); (case hv_ => exact rfl)) | ((with_reducible refine' nw_Segment_source ?ho_ ?hv_ ?_); (case ho_ => first | assumption | exact upd_same); (case hv_ => exact rfl)) | ((with_reducible refine' nw_Segment_target ?ho_ ?hv_ ?_); (case ho_ => first | assumption | exact upd_same); (case hv_ => exact rfl)) | ((with_reducible refine' nw_Segment_seq ?ho_ ?hv_ ?_); (case ho_ => first | assumption | exact upd_same); (case hv_ => exact rfl)) | ((with_reducible refine' nw_Segment_count ?ho_ ?hv_ ?_); (case ho_ => first | assumption | exact upd_same); (case hv_ => exact rfl)) | ((with_reducible refine' nw_Segment_echo ?ho_ ?hv_ ?_); (case ho_ => first | assumption | exact upd_same); (case hv_ => exact rfl)) | ((with_reducible refine' nw_Segment_ack ?ho_ ?hv_ ?_); (case ho_ => first | assumption | exact upd_same); (case hv_ => exact rfl)) | ((with_reducible refine' nw_Segment_syn ?ho_ ?hv_ ?_); (case ho_ => first | assumption | exact upd_same); (case hv_ => exact rfl)) | ((with_reducible refine' nw_Segment_fin ?ho_ ?hv_ ?_); (case ho_ => first | assumption | exact upd_same); (case hv_ => exact rfl)) | ((with_reducible refine' nw_Segment_reset ?ho_ ?hv_ ?_); (case ho_ => first | assumption | exact upd_same); (case hv_ => exact rfl)) | ((with_reducible refine' nw_Segment_marked ?ho_ ?hv_ ?_); (case ho_ => first | assumption | exact upd_same); (case hv_ => exact rfl)) | ((with_reducible refine' nw_Segment_cut ?ho_ ?hv_ ?_); (case ho_ => first | assumption | exact upd_same); (case hv_ => exact rfl)) | ((with_reducible refine' nw_Segment_window ?ho_ ?hv_ ?_); (case ho_ => first | assumption | exact upd_same); (case hv_ => exact rfl)) | ((with_reducible refine' nw_Segment_mss ?ho_ ?hv_ ?_); (case ho_ => first | assumption | exact upd_same); (case hv_ => exact rfl)) | ((with_reducible refine' nw_Segment_scale ?ho_ ?hv_ ?_); (case ho_ => first | assumption | exact upd_same); (case hv_ => exact rfl)) | ((with_reducible refine' nw_Segment_ranges_known ?ho_ ?hv_ ?_); (case ho_ => first | assumption | exact upd_same); (case hv_ => exact rfl)) | ((with_reducible refine' nw_Segment_ranges ?ho_ ?hv_ ?_); (case ho_ => first | assumption | exact upd_same); (case hv_ => exact rfl)) | ((with_reducible refine' nw_Segment_stamp ?ho_ ?hv_ ?_); (case ho_ => first | assumption | exact upd_same); (case hv_ => exact rfl)) | ((with_reducible refine' nw_Segment_data ?ho_ ?hv_ ?_); (case ho_ => first | assumption | exact upd_same); (case hv_ => exact rfl)) | ((with_reducible refine' st_Segment_source ?ho_ ?hv_ ?_); (case ho_ => first | assumption | exact upd_same); (case hv_ => exact Nat.le_of_ble_eq_true rfl)) | ((with_reducible refine' st_Segment_target ?ho_ ?hv_ ?_); (case ho_ => first | assumption | exact upd_same); (case hv_ => exact Nat.le_of_ble_eq_true rfl)) | ((with_reducible refine' st_Segment_seq ?ho_ ?hv_ ?_); (case ho_ => first | assumption | exact upd_same); (case hv_ => exact Nat.le_of_ble_eq_true rfl)) | ((with_reducible refine' st_Segment_count ?ho_ ?hv_ ?_); (case ho_ => first | assumption | exact upd_same); (case hv_ => exact Nat.le_of_ble_eq_true rfl)) | ((with_reducible refine' st_Segment_echo ?ho_ ?hv_ ?_); (case ho_ => first | assumption | exact upd_same); (case hv_ => exact Nat.le_of_ble_eq_true rfl)) | ((with_reducible refine' st_Segment_ack ?ho_ ?hv_ ?_); (case ho_ => first | assumption | exact upd_same); (case hv_ => exact Nat.le_of_ble_eq_true rfl)) | ((with_reducible refine' st_Segment_syn ?ho_ ?hv_ ?_); (case ho_ => first | assumption | exact upd_same); (case hv_ => exact Nat.le_of_ble_eq_true rfl)) | ((with_reducible refine' st_Segment_fin ?ho_ ?hv_ ?_); (case ho_ => first | assumption | exact upd_same); (case hv_ => exact Nat.le_of_ble_eq_true rfl)) | ((with_reducible refine' st_Segment_reset ?ho_ ?hv_ ?_); (case ho_ => first | assumption | exact upd_same); (case hv_ => exact Nat.le_of_ble_eq_true rfl)) | ((with_reducible refine' st_Segment_marked ?ho_ ?hv_ ?_); (case ho_ => first | assumption | exact upd_same); (case hv_ => exact Nat.le_of_ble_eq_true rfl)) | ((with_reducible refine' st_Segment_cut ?ho_ ?hv_ ?_); (case ho_ => first | assumption | exact upd_same); (case hv_ => exact Nat.le_of_ble_eq_true rfl)) | ((with_reducible refine' st_Segment_window ?ho_ ?hv_ ?_); (case ho_ => first | assumption | exact upd_same); (case hv_ => exact Nat.le_of_ble_eq_true rfl)) | ((with_reducible refine' st_Segment_mss ?ho_ ?hv_ ?_); (case ho_ => first | assumption | exact upd_same); (case hv_ => exact Nat.le_of_ble_eq_true rfl)) | ((with_reducible refine' st_Segment_scale ?ho_ ?hv_ ?_); (case ho_ => first | assumption | exact upd_same); (case hv_ => exact Nat.le_of_ble_eq_true rfl)) | ((with_reducible refine' st_Segment_ranges_known ?ho_ ?hv_ ?_); (case ho_ => first | assumption | exact upd_same); (case hv_ => exact Nat.le_of_ble_eq_true rfl)) | ((with_reducible refine' st_Segment_ranges ?ho_ ?hv_ ?_); (case ho_ => first | assumption | exact upd_same); (case hv_ => exact Nat.le_of_ble_eq_true rfl)) | ((with_reducible refine' st_Segment_stamp ?ho_ ?hv_ ?_); (case ho_ => first | assumption | exact upd_same); (case hv_ => exact Nat.le_of_ble_eq_true rfl)) | ((with_reducible refine' st_Segment_data ?ho_ ?hv_ ?_); (case ho_ => first | assumption | exact upd_same); (case hv_ => exact Nat.le_of_ble_eq_true rfl)) | ((with_reducible refine' me_Segment_eq__ ?ho_ ?_); (case ho_ => first | assumption | exact upd_same)) | ((with_reducible refine' me_Segment_parts ?ho_ ?_); (case ho_ => first | assumption | exact upd_same)))
local macro_rules | `(tactic| walk_at "use") => `(tactic| first | ((with_reducible refine' dg_S_source ?ho_ ?hv_ ?_); (case ho_ => first | assumption | exact upd_same); (case hv_ => exact rfl)) | ((with_reducible refine' dg_S_target ?ho_ ?hv_ ?_); (case ho_ => first | assumption | exact upd_same); (case hv_ => exact rfl)) | ((with_reducible refine' dg_S_seq ?ho_ ?hv_ ?_); (case ho_ => first | assumption | exact upd_same); (case hv_ => exact rfl)) | ((with_reducible refine' dg_S_count ?ho_ ?hv_ ?_); (case ho_ => first | assumption | exact upd_same); (case hv_ => exact rfl)) | ((with_reducible refine' dg_S_echo ?ho_ ?hv_ ?_); (case ho_ => first | assumption | exact upd_same); (case hv_ => exact rfl)) | ((with_reducible refine' dg_S_ack ?ho_ ?hv_ ?_); (case ho_ => first | assumption | exact upd_same); (case hv_ => exact rfl)) | ((with_reducible refine' dg_S_syn ?ho_ ?hv_ ?_); (case ho_ => first | assumption | exact upd_same); (case hv_ => exact rfl)) | ((with_reducible refine' dg_S_fin ?ho_ ?hv_ ?_); (case ho_ => first | assumption | exact upd_same); (case hv_ => exact rfl)) | ((with_reducible refine' dg_S_reset ?ho_ ?hv_ ?_); (case ho_ => first | assumption | exact upd_same); (case hv_ => exact rfl)) | ((with_reducible refine' dg_S_marked ?ho_ ?hv_ ?_); (case ho_ => first | assumption | exact upd_same); (case hv_ => exact rfl)) | ((with_reducible refine' dg_S_cut ?ho_ ?hv_ ?_); (case ho_ => first | assumption | exact upd_same); (case hv_ => exact rfl)) | ((with_reducible refine' dg_S_ranges_known ?ho_ ?hv_ ?_); (case ho_ => first | assumption | exact upd_same); (case hv_ => exact rfl)) | ((with_reducible refine' dg_S_window ?ho_ ?hv_ ?_); (case ho_ => first | assumption | exact upd_same); (case hv_ => exact rfl)) | ((with_reducible refine' dg_S_mss ?ho_ ?hv_ ?_); (case ho_ => first | assumption | exact upd_same); (case hv_ => exact rfl)) | ((with_reducible refine' dg_S_scale ?ho_ ?hv_ ?_); (case ho_ => first | assumption | exact upd_same); (case hv_ => exact rfl)) | ((with_reducible refine' dg_S_ranges ?ho_ ?hv_ ?_); (case ho_ => first | assumption | exact upd_same); (case hv_ => exact rfl)) | ((with_reducible refine' dg_S_stamp ?ho_ ?hv_ ?_); (case ho_ => first | assumption | exact upd_same); (case hv_ => exact rfl)) | ((with_reducible refine' dg_S_data ?ho_ ?hv_ ?_); (case ho_ => first | assumption | exact upd_same); (case hv_ => exact rfl)) | ((with_reducible refine' dn_S_source ?ho_ ?hv_ ?_); (case ho_ => first | assumption | exact upd_same); (case hv_ => exact rfl)) | ((with_reducible refine' dn_S_target ?ho_ ?hv_ ?_); (case ho_ => first | assumption | exact upd_same); (case hv_ => exact rfl)) | ((with_reducible refine' dn_S_seq ?ho_ ?hv_ ?_); (case ho_ => first | assumption | exact upd_same); (case hv_ => exact rfl)) | ((with_reducible refine' dn_S_count ?ho_ ?hv_ ?_); (case ho_ => first | assumption | exact upd_same); (case hv_ => exact rfl)) | ((with_reducible refine' dn_S_echo ?ho_ ?hv_ ?_); (case ho_ => first | assumption | exact upd_same); (case hv_ => exact rfl)) | ((with_reducible refine' dn_S_ack ?ho_ ?hv_ ?_); (case ho_ => first | assumption | exact upd_same); (case hv_ => exact rfl)) | ((with_reducible refine' dn_S_syn ?ho_ ?hv_ ?_); (case ho_ => first | assumption | exact upd_same); (case hv_ => exact rfl)) | ((with_reducible refine' dn_S_fin ?ho_ ?hv_ ?_); (case ho_ => first | assumption | exact upd_same); (case hv_ => exact rfl)) | ((with_reducible refine' dn_S_reset ?ho_ ?hv_ ?_); (case ho_ => first | assumption | exact upd_same); (case hv_ => exact rfl)) | ((with_reducible refine' dn_S_marked ?ho_ ?hv_ ?_); (case ho_ => first | assumption | exact upd_same); (case hv_ => exact rfl)) | ((with_reducible refine' dn_S_cut ?ho_ ?hv_ ?_); (case ho_ => first | assumption | exact upd_same); (case hv_ => exact rfl)) | ((with_reducible refine' dn_S_ranges_known ?ho_ ?hv_ ?_); (case ho_ => first | assumption | exact upd_same); (case hv_ => exact rfl)) | ((with_reducible refine' dn_S_window ?ho_ ?hv_ ?_); (case ho_ => first | assumption | exact upd_same); (case hv_ => exact rfl)) | ((with_reducible refine' dn_S_mss ?ho_ ?hv_ ?_); (case ho_ => first | assumption | exact upd_same); (case hv_ => exact rfl)) | ((with_reducible refine' dn_S_scale ?ho_ ?hv_ ?_); (case ho_ => first | assumption | exact upd_same); (case hv_ => exact rfl)) | ((with_reducible refine' dn_S_ranges ?ho_ ?hv_ ?_); (case ho_ => first | assumption | exact upd_same); (case hv_ => exact rfl)) | ((with_reducible refine' dn_S_stamp ?ho_ ?hv_ ?_); (case ho_ => first | assumption | exact upd_same); (case hv_ => exact rfl)) | ((with_reducible refine' dn_S_data ?ho_ ?hv_ ?_); (case ho_ => first | assumption | exact upd_same); (case hv_ => exact rfl)) | ((with_reducible refine' dp_S_source ?ho_ ?hv_ ?_); (case ho_ => first | assumption | exact upd_same); (case hv_ => exact Nat.le_of_ble_eq_true rfl)) | ((with_reducible refine' dp_S_target ?ho_ ?hv_ ?_); (case ho_ => first | assumption | exact upd_same); (case hv_ => exact Nat.le_of_ble_eq_true rfl)) | ((with_reducible refine' dp_S_seq ?ho_ ?hv_ ?_); (case ho_ => first | assumption | exact upd_same); (case hv_ => exact Nat.le_of_ble_eq_true rfl)) | ((with_reducible refine' dp_S_count ?ho_ ?hv_ ?_); (case ho_ => first | assumption | exact upd_same); (case hv_ => exact Nat.le_of_ble_eq_true rfl)) | ((with_reducible refine' dp_S_echo ?ho_ ?hv_ ?_); (case ho_ => first | assumption | exact upd_same); (case hv_ => exact Nat.le_of_ble_eq_true rfl)) | ((with_reducible refine' dp_S_ack ?ho_ ?hv_ ?_); (case ho_ => first | assumption | exact upd_same); (case hv_ => exact Nat.le_of_ble_eq_true rfl)) | ((with_reducible refine' dp_S_syn ?ho_ ?hv_ ?_); (case ho_ => first | assumption | exact upd_same); (case hv_ => exact Nat.le_of_ble_eq_true rfl)) | ((with_reducible refine' dp_S_fin ?ho_ ?hv_ ?_); (case ho_ => first | assumption | exact upd_same); (case hv_ => exact Nat.le_of_ble_eq_true rfl)) | ((with_reducible refine' dp_S_reset ?ho_ ?hv_ ?_); (case ho_ => first | assumption | exact upd_same); (case hv_ => exact Nat.le_of_ble_eq_true rfl)) | ((with_reducible refine' dp_S_marked ?ho_ ?hv_ ?_); (case ho_ => first | assumption | exact upd_same); (case hv_ => exact Nat.le_of_ble_eq_true rfl)) | ((with_reducible refine' dp_S_cut ?ho_ ?hv_ ?_); (case ho_ => first | assumption | exact upd_same); (case hv_ => exact Nat.le_of_ble_eq_true rfl)) | ((with_reducible refine' dp_S_ranges_known ?ho_ ?hv_ ?_); (case ho_ => first | assumption | exact upd_same); (case hv_ => exact Nat.le_of_ble_eq_true rfl)) | ((with_reducible refine' dp_S_window ?ho_ ?hv_ ?_); (case ho_ => first | assumption | exact upd_same); (case hv_ => exact Nat.le_of_ble_eq_true rfl)) | ((with_reducible refine' dp_S_mss ?ho_ ?hv_ ?_); (case ho_ => first | assumption | exact upd_same); (case hv_ => exact Nat.le_of_ble_eq_true rfl)) | ((with_reducible refine' dp_S_scale ?ho_ ?hv_ ?_); (case ho_ => first | assumption | exact upd_same); (case hv_ => exact Nat.le_of_ble_eq_true rfl)) | ((with_reducible refine' dp_S_ranges ?ho_ ?hv_ ?_); (case ho_ => first | assumption | exact upd_same); (case hv_ => exact Nat.le_of_ble_eq_true rfl)) | ((with_reducible refine' dp_S_stamp ?ho_ ?hv_ ?_); (case ho_ => first | assumption | exact upd_same); (case hv_ => exact Nat.le_of_ble_eq_true rfl)) | ((with_reducible refine' dp_S_data ?ho_ ?hv_ ?_); (case ho_ => first | assumption | exact upd_same); (case hv_ => exact Nat.le_of_ble_eq_true rfl)))
local macro_rules | `(tactic| walk_at "use") => `(tactic| with_reducible first | refine g_dgetT ?_ | refine g_dputT ?_)
local macro_rules | `(tactic| walk_at "use") => `(tactic| first | ((with_reducible refine' dg_L_source ?ho_ ?hv_ ?_); (case ho_ => first | assumption | exact upd_same); (case hv_ => exact rfl)) | ((with_reducible refine' dg_L_target ?ho_ ?hv_ ?_); (case ho_ => first | assumption | exact upd_same); (case hv_ => exact rfl)) | ((with_reducible refine' dg_L_seq ?ho_ ?hv_ ?_); (case ho_ => first | assumption | exact upd_same); (case hv_ => exact rfl)) | ((with_reducible refine' dg_L_count ?ho_ ?hv_ ?_); (case ho_ => first | assumption | exact upd_same); (case hv_ => exact rfl)) | ((with_reducible refine' dg_L_echo ?ho_ ?hv_ ?_); (case ho_ => first | assumption | exact upd_same); (case hv_ => exact rfl)) | ((with_reducible refine' dg_L_ack ?ho_ ?hv_ ?_); (case ho_ => first | assumption | exact upd_same); (case hv_ => exact rfl)) | ((with_reducible refine' dg_L_mss ?ho_ ?hv_ ?_); (case ho_ => first | assumption | exact upd_same); (case hv_ => exact rfl)) | ((with_reducible refine' dg_L_scale ?ho_ ?hv_ ?_); (case ho_ => first | assumption | exact upd_same); (case hv_ => exact rfl)) | ((with_reducible refine' dg_L_stamp ?ho_ ?hv_ ?_); (case ho_ => first | assumption | exact upd_same); (case hv_ => exact rfl)) | ((with_reducible refine' dg_L_syn ?ho_ ?hv_ ?_); (case ho_ => first | assumption | exact upd_same); (case hv_ => exact rfl)) | ((with_reducible refine' dg_L_fin ?ho_ ?hv_ ?_); (case ho_ => first | assumption | exact upd_same); (case hv_ => exact rfl)) | ((with_reducible refine' dg_L_reset ?ho_ ?hv_ ?_); (case ho_ => first | assumption | exact upd_same); (case hv_ => exact rfl)) | ((with_reducible refine' dg_L_marked ?ho_ ?hv_ ?_); (case ho_ => first | assumption | exact upd_same); (case hv_ => exact rfl)) | ((with_reducible refine' dg_L_cut ?ho_ ?hv_ ?_); (case ho_ => first | assumption | exact upd_same); (case hv_ => exact rfl)) | ((with_reducible refine' dg_L_ranges_known ?ho_ ?hv_ ?_); (case ho_ => first | assumption | exact upd_same); (case hv_ => exact rfl)) | ((with_reducible refine' dg_L_window ?ho_ ?hv_ ?_); (case ho_ => first | assumption | exact upd_same); (case hv_ => exact rfl)) | ((with_reducible refine' dg_L_ranges ?ho_ ?hv_ ?_); (case ho_ => first | assumption | exact upd_same); (case hv_ => exact rfl)) | ((with_reducible refine' dg_L_data ?ho_ ?hv_ ?_); (case ho_ => first | assumption | exact upd_same); (case hv_ => exact rfl)) | ((with_reducible refine' dn_L_source ?ho_ ?hv_ ?_); (case ho_ => first | assumption | exact upd_same); (case hv_ => exact rfl)) | ((with_reducible refine' dn_L_target ?ho_ ?hv_ ?_); (case ho_ => first | assumption | exact upd_same); (case hv_ => exact rfl)) | ((with_reducible refine' dn_L_seq ?ho_ ?hv_ ?_); (case ho_ => first | assumption | exact upd_same); (case hv_ => exact rfl)) | ((with_reducible refine' dn_L_count ?ho_ ?hv_ ?_); (case ho_ => first | assumption | exact upd_same); (case hv_ => exact rfl)) | ((with_reducible refine' dn_L_echo ?ho_ ?hv_ ?_); (case ho_ => first | assumption | exact upd_same); (case hv_ => exact rfl)) | ((with_reducible refine' dn_L_ack ?ho_ ?hv_ ?_); (case ho_ => first | assumption | exact upd_same); (case hv_ => exact rfl)) | ((with_reducible refine' dn_L_mss ?ho_ ?hv_ ?_); (case ho_ => first | assumption | exact upd_same); (case hv_ => exact rfl)) | ((with_reducible refine' dn_L_scale ?ho_ ?hv_ ?_); (case ho_ => first | assumption | exact upd_same); (case hv_ => exact rfl)) | ((with_reducible refine' dn_L_stamp ?ho_ ?hv_ ?_); (case ho_ => first | assumption | exact upd_same); (case hv_ => exact rfl)) | ((with_reducible refine' dn_L_syn ?ho_ ?hv_ ?_); (case ho_ => first | assumption | exact upd_same); (case hv_ => exact rfl)) | ((with_reducible refine' dn_L_fin ?ho_ ?hv_ ?_); (case ho_ => first | assumption | exact upd_same); (case hv_ => exact rfl)) | ((with_reducible refine' dn_L_reset ?ho_ ?hv_ ?_); (case ho_ => first | assumption | exact upd_same); (case hv_ => exact rfl)) | ((with_reducible refine' dn_L_marked ?ho_ ?hv_ ?_); (case ho_ => first | assumption | exact upd_same); (case hv_ => exact rfl)) | ((with_reducible refine' dn_L_cut ?ho_ ?hv_ ?_); (case ho_ => first | assumption | exact upd_same); (case hv_ => exact rfl)) | ((with_reducible refine' dn_L_ranges_known ?ho_ ?hv_ ?_); (case ho_ => first | assumption | exact upd_same); (case hv_ => exact rfl)) | ((with_reducible refine' dn_L_window ?ho_ ?hv_ ?_); (case ho_ => first | assumption | exact upd_same); (case hv_ => exact rfl)) | ((with_reducible refine' dn_L_ranges ?ho_ ?hv_ ?_); (case ho_ => first | assumption | exact upd_same); (case hv_ => exact rfl)) | ((with_reducible refine' dn_L_data ?ho_ ?hv_ ?_); (case ho_ => first | assumption | exact upd_same); (case hv_ => exact rfl)) | ((with_reducible refine' dp_L_source ?ho_ ?hv_ ?_); (case ho_ => first | assumption | exact upd_same); (case hv_ => exact Nat.le_of_ble_eq_true rfl)) | ((with_reducible refine' dp_L_target ?ho_ ?hv_ ?_); (case ho_ => first | assumption | exact upd_same); (case hv_ => exact Nat.le_of_ble_eq_true rfl)) | ((with_reducible refine' dp_L_seq ?ho_ ?hv_ ?_); (case ho_ => first | assumption | exact upd_same); (case hv_ => exact Nat.le_of_ble_eq_true rfl)) | ((with_reducible refine' dp_L_count ?ho_ ?hv_ ?_); (case ho_ => first | assumption | exact upd_same); (case hv_ => exact Nat.le_of_ble_eq_true rfl)) | ((with_reducible refine' dp_L_echo ?ho_ ?hv_ ?_); (case ho_ => first | assumption | exact upd_same); (case hv_ => exact Nat.le_of_ble_eq_true rfl)) | ((with_reducible refine' dp_L_ack ?ho_ ?hv_ ?_); (case ho_ => first | assumption | exact upd_same); (case hv_ => exact Nat.le_of_ble_eq_true rfl)) | ((with_reducible refine' dp_L_mss ?ho_ ?hv_ ?_); (case ho_ => first | assumption | exact upd_same); (case hv_ => exact Nat.le_of_ble_eq_true rfl)) | ((with_reducible refine' dp_L_scale ?ho_ ?hv_ ?_); (case ho_ => first | assumption | exact upd_same); (case hv_ => exact Nat.le_of_ble_eq_true rfl)) | ((with_reducible refine' dp_L_stamp ?ho_ ?hv_ ?_); (case ho_ => first | assumption | exact upd_same); (case hv_ => exact Nat.le_of_ble_eq_true rfl)) | ((with_reducible refine' dp_L_syn ?ho_ ?hv_ ?_); (case ho_ => first | assumption | exact upd_same); (case hv_ => exact Nat.le_of_ble_eq_true rfl)) | ((with_reducible refine' dp_L_fin ?ho_ ?hv_ ?_); (case ho_ => first | assumption | exact upd_same); (case hv_ => exact Nat.le_of_ble_eq_true rfl)) | ((with_reducible refine' dp_L_reset ?ho_ ?hv_ ?_); (case ho_ => first | assumption | exact upd_same); (case hv_ => exact Nat.le_of_ble_eq_true rfl)) | ((with_reducible refine' dp_L_marked ?ho_ ?hv_ ?_); (case ho_ => first | assumption | exact upd_same); (case hv_ => exact Nat.le_of_ble_eq_true rfl)) | ((with_reducible refine' dp_L_cut ?ho_ ?hv_ ?_); (case ho_ => first | assumption | exact upd_same); (case hv_ => exact Nat.le_of_ble_eq_true rfl)) | ((with_reducible refine' dp_L_ranges_known ?ho_ ?hv_ ?_); (case ho_ => first | assumption | exact upd_same); (case hv_ => exact Nat.le_of_ble_eq_true rfl)) | ((with_reducible refine' dp_L_window ?ho_ ?hv_ ?_); (case ho_ => first | assumption | exact upd_same); (case hv_ => exact Nat.le_of_ble_eq_true rfl)) | ((with_reducible refine' dp_L_ranges ?ho_ ?hv_ ?_); (case ho_ => first | assumption | exact upd_same); (case hv_ => exact Nat.le_of_ble_eq_true rfl)) | ((with_reducible refine' dp_L_data ?ho_ ?hv_ ?_); (case ho_ => first | assumption | exact upd_same); (case hv_ => exact Nat.le_of_ble_eq_true rfl)))
local macro_rules | `(tactic| walk_at "use") => `(tactic| with_reducible first | refine g_dgetT ?_ | refine g_dputT ?_)
section
variable {P : Program} {w : World} {K : PySem.W.Frag} {mg : Str → Option Value} {base : Heap}
local macro_rules | `(tactic| walk_at "use") => `(tactic| with_reducible first | refine g_disp ?_ | refine g_pcons ?_ | refine g_pnil ?_)
local macro_rules | `(tactic| walk_at "use") => `(tactic| with_reducible first | refine g_dgetT ?_ | refine g_dputT ?_ | refine g_makeK ?_ | refine u_cell (by assumption) (by decide) ?_)
/-! ### a call that leaves keyword-only parameters out: the loop over their names, step by step -/
inductive KwSteps (D : Addr) {β : Type} (f : Str → β → Sem (ForInStep β)) : List Str → β → List (Str × Value) → β → Prop
  | nil {b : β} : KwSteps D f [] b [] b
  | skip {a : Str} {L : List Str} {b b1 b' : β} {l : List (Str × Value)} : f a b = pure (.yield b1) → KwSteps D f L b1 l b' → KwSteps D f (a :: L) b l b'
  | look {a : Str} {L : List Str} {b b1 b' : β} {v : Value} {l : List (Str × Value)} (k : Option Value → Sem (ForInStep β)) : f a b = (nsGet D a >>= k) → k (some v) = pure (.yield b1) → KwSteps D f L b1 l b' → KwSteps D f (a :: L) b ((a, v) :: l) b'
theorem KwSteps.chain {D : Addr} {α β : Type} {f : Str → β → Sem (ForInStep β)} {L : List Str} {b b' : β} {l : List (Str × Value)} (h : KwSteps D f L b l b') : ∀ {rest : β → Sem α} {r : α}, rest b' = pure r → KwChain D l (forIn L b f >>= rest) r := by
  induction h with
  | nil =>
    intro rest r e
    show forIn [] _ f >>= rest = pure r
    rw [List.forIn_nil, pure_bind]
    exact e
  | skip e _ ih =>
    intro rest r e2
    have z := ih e2
    rw [List.forIn_cons, e, pure_bind]
    exact z
  | look k e e1 _ ih =>
    intro rest r e2
    have z := ih e2
    rename_i a L b b1 b' v l hs
    refine ⟨_, _, k, fun y => (match y with | .done b => pure b | .yield b => forIn L b f), rest, .yield b1, ?_, e1, z⟩
    rw [List.forIn_cons, e]
    rfl
theorem KwChain.of_steps {D : Addr} {α β : Type} {t : Sem α} {f : Str → β → Sem (ForInStep β)} {L : List Str} {b b' : β} {l : List (Str × Value)} {rest : β → Sem α} {r : α} (e : t = (forIn L b f >>= rest)) (h : KwSteps D f L b l b') (e2 : rest b' = pure r) : KwChain D l t r := e ▸ h.chain e2
theorem KwSteps.skipIf {D : Addr} {β : Type} {f : Str → β → Sem (ForInStep β)} {a : Str} {L : List Str} {b b1 b' : β} {l : List (Str × Value)} {c : Bool} {X : Sem (ForInStep β)} (e : f a b = if c = true then X else pure (.yield b1)) (hc : c = false) (h : KwSteps D f L b1 l b') : KwSteps D f (a :: L) b l b' := .skip (by rw [e, hc]; rfl) h
theorem KwSteps.lookIf {D : Addr} {β : Type} {f : Str → β → Sem (ForInStep β)} {a : Str} {L : List Str} {b b1 b' : β} {v : Value} {l : List (Str × Value)} {c : Bool} {k : Option Value → Sem (ForInStep β)} {Y : Sem (ForInStep β)} (e : f a b = if c = true then (nsGet D a >>= k) else Y) (hc : c = true) (e1 : k (some v) = pure (.yield b1)) (h : KwSteps D f L b1 l b') : KwSteps D f (a :: L) b ((a, v) :: l) b' := .look k (by rw [e, hc]; rfl) e1 h

/-! ### x == y by an own __eq__, whatever it answers -/
def rEqO (C : Addr) (OK : V → Hp → Prop) (sp : Sp) (E : XK) : R2 := fun x y H Q => ∃ a dx fs, x = .ref a ∧ H a = some (.ins C dx fs) ∧ OK y H ∧ sp [x, y] H (fun v H' => ∃ b, v = .bl b ∧ Q (.bl b) H') E
/-- what may stand on the right: an instance of the class, or an int -/
def EqR (C : Addr) : V → Hp → Prop := fun y H => (∃ b dy gs, y = .ref b ∧ H b = some (.ins C dy gs)) ∨ ∃ i, y = .int i
theorem op_eqO {X : Cx} {CX : CXT} {n : Nat} {C f : Addr} {fd : FuncData} {ps : List Str} {sp : Sp} {E : XK} (F : FnOk X.prog X.w X.K X.mg X.base CX n f fd ps sp) (hr : Room n X.A)
    (hm : Meth X.K C "__eq__" f) (hi : PySem.W.subIn X.K (.type "int") (.ref C) = some false) (hb : Binds X.K fd ps []) (hx : Passes CX X E) : OpR X (compareOp .Eq) (rEqO C (EqR C) sp E) := by
  obtain ⟨hs, hf, _⟩ := hm
  intro pins s σ H x y v u Q I rx ry hq
  obtain ⟨a, dx, fs, rfl, ha, hy, hsp⟩ := hq
  cases rx
  show wpAny (model X.prog X.w) X.A (richCompare .Eq (.ref a) u) (EP X pins σ Q) X.xe s
  obtain ⟨mA, J, _⟩ := ins_get I.hok ha
  obtain ⟨od, J, _⟩ := J.look
  obtain ⟨m, hF⟩ := I.fr
  have hl := F.len _ _ _ _ hsp
  have r2 : Vals [V.ref a, y] [Value.ref a, u] := .cons rfl (.cons ry .nil)
  have main : wpAny (model X.prog X.w) X.A (call (.ref f) [.ref a, u]) (PySem.W.CmpBack (EP X pins σ Q)) X.xe s := by
    refine wpAny_call (codeAny_mono (F.run X.A X.stack s H ⟨[.ref a, u], []⟩ [.ref a, u] [.ref a, y] _ E hr I.env0 (by
      have := hb s [.ref a, u] I.kIn (by simpa using hl)
      simpa using this) r2 hsp) fun r s' hq => ?_)
    cases r with
    | error e => exact hx pins σ H s e s' I hq
    | ok fl =>
      cases fl with
      | ret w =>
        obtain ⟨z, H', I', rz, b, ez, q⟩ := I.after hq
        subst ez
        cases rz
        exact ⟨.bl b, H', I', rfl, q⟩
      | next => exact False.elim hq
      | brk => exact False.elim hq
      | cont => exact False.elim hq
  rcases hy with ⟨b, dy, gs, rfl, hb'⟩ | ⟨i, rfl⟩
  · cases ry
    obtain ⟨mB, J', _⟩ := ins_get I.hok hb'
    obtain ⟨od', J', _⟩ := J'.look
    exact PySem.W.cmp_K (op := .Eq) (tb := .ref C) hr.units0 hF I.ok.mod.kin J J'.type (by simp [PySem.W.notFirst]) hs hf main
  · obtain ⟨t, rfl⟩ := ry
    exact PySem.W.cmp_K (op := .Eq) (tb := .type "int") hr.units0 hF I.ok.mod.kin J (PySem.W.Looks.of_pure rfl) (by unfold PySem.W.notFirst; rw [hi]; rfl) hs hf main
theorem kit_own {K : PySem.W.Frag} {T : String} {C : Addr} (a : PySem.W.isClsIn K C = true) (b : PySem.W.typeIn K (.ref C) = some (.type "type")) (c : PySem.W.subIn K (.type T) (.ref C) = some false) : PySem.W.kitOne K (.type T) (.ref C) = some false := by
  unfold PySem.W.isClsIn at a
  unfold PySem.W.kitOne
  rw [if_neg (by show ¬ (Value.type T == Value.ref C) = true; exact fun h => by cases (beq_iff_eq.mp h))]
  show (if ((PySem.W.clsIn K C).isSome && PySem.W.typeIn K (.ref C) == some (.type "type")) = true then PySem.W.subIn K (.type T) (.ref C) else none) = some false
  rw [a, b, if_pos (by rw [Bool.true_and]; exact beq_self_eq_true _)]
  exact c

theorem StV.butL {H H' : Hp} {v : V} {o : Option (Int × Int)} {a : Addr} {xs : List V} (h : StV H v o) (s : But a H H') (e : H a = some (.lst xs)) : StV H' v o := by
  cases o with
  | none => exact h
  | some p =>
    obtain ⟨t, e1, h⟩ := h
    exact ⟨t, e1, s _ _ (fun z => by rw [z, e] at h; cases h) h⟩
theorem SegO.butL {C : Addr} {H H' : Hp} {p da ra a : Addr} {g : Sg} {xs : List V} (h : SegO C H p g da ra) (s : But a H H') (e : H a = some (.lst xs)) (n1 : da ≠ a) (n2 : ra ≠ a) : SegO C H' p g da ra := by
  obtain ⟨dx, sv, h1, h2, ⟨vs, h3, h4⟩, h5⟩ := h
  exact ⟨dx, sv, s _ _ (fun z => by rw [z, e] at h1; cases h1) h1, s _ _ n1 h2, ⟨vs, s _ _ n2 h3, h4.but s e⟩, h5.butL s e⟩
def nmA : List Str := ["echo", "ack", "mss", "scale", "stamp"]
def nmB : List Str := ["syn", "fin", "reset", "marked", "cut", "ranges_known"]
theorem nmA_at : ∀ {i : Nat} {nm : Str}, nmA[i]? = some nm → kd_L[4 + i]? = some nm
  | 0, _, h => h
  | 1, _, h => h
  | 2, _, h => h
  | 3, _, h => h
  | 4, _, h => h
  | n + 5, nm, h => by
    rw [List.getElem?_eq_none (by show 5 ≤ n + 5; omega)] at h
    cases h
theorem nmB_at : ∀ {i : Nat} {nm : Str}, nmB[i]? = some nm → kd_L[9 + i]? = some nm
  | 0, _, h => h
  | 1, _, h => h
  | 2, _, h => h
  | 3, _, h => h
  | 4, _, h => h
  | 5, _, h => h
  | n + 6, nm, h => by
    rw [List.getElem?_eq_none (by show 6 ≤ n + 6; omega)] at h
    cases h
def sp_law (K : PySem.W.Frag) : Sp := fun vs H Q _ => ∃ (a : Addr) (ns : List Int), vs = [.ref a] ∧ SqL K H a (ns.map V.int) ∧ ns.length ≤ 63 ∧ ∀ H', Q (.bl true) H'

theorem kbt_1 {K : PySem.W.Frag} {mg : Str → Option Value} (T : Txt K mg) : ∃ g, KBn K T.d_Segment_init__ ["self", "source", "target", "seq", "count", "echo", "ack", "syn", "fin", "reset", "marked", "cut", "window", "mss", "scale", "ranges_known", "ranges", "stamp", "data"] 3 ["seq", "count"] g (fun vs zs => vs ++ ((zs.drop 0).take 1 ++ ((zs.drop 1).take 1 ++ ((([.non, .non, .bl false, .bl false, .bl false, .bl false, .bl false, .int 0, .non, .non, .bl false, .ref T.e_Segment_init___ranges, .non, .ref T.e_Segment_init___data] : List V).drop 0).take 1 ++ ((([.non, .non, .bl false, .bl false, .bl false, .bl false, .bl false, .int 0, .non, .non, .bl false, .ref T.e_Segment_init___ranges, .non, .ref T.e_Segment_init___data] : List V).drop 1).take 1 ++ ((([.non, .non, .bl false, .bl false, .bl false, .bl false, .bl false, .int 0, .non, .non, .bl false, .ref T.e_Segment_init___ranges, .non, .ref T.e_Segment_init___data] : List V).drop 2).take 1 ++ ((([.non, .non, .bl false, .bl false, .bl false, .bl false, .bl false, .int 0, .non, .non, .bl false, .ref T.e_Segment_init___ranges, .non, .ref T.e_Segment_init___data] : List V).drop 3).take 1 ++ ((([.non, .non, .bl false, .bl false, .bl false, .bl false, .bl false, .int 0, .non, .non, .bl false, .ref T.e_Segment_init___ranges, .non, .ref T.e_Segment_init___data] : List V).drop 4).take 1 ++ ((([.non, .non, .bl false, .bl false, .bl false, .bl false, .bl false, .int 0, .non, .non, .bl false, .ref T.e_Segment_init___ranges, .non, .ref T.e_Segment_init___data] : List V).drop 5).take 1 ++ ((([.non, .non, .bl false, .bl false, .bl false, .bl false, .bl false, .int 0, .non, .non, .bl false, .ref T.e_Segment_init___ranges, .non, .ref T.e_Segment_init___data] : List V).drop 6).take 1 ++ ((([.non, .non, .bl false, .bl false, .bl false, .bl false, .bl false, .int 0, .non, .non, .bl false, .ref T.e_Segment_init___ranges, .non, .ref T.e_Segment_init___data] : List V).drop 7).take 1 ++ ((([.non, .non, .bl false, .bl false, .bl false, .bl false, .bl false, .int 0, .non, .non, .bl false, .ref T.e_Segment_init___ranges, .non, .ref T.e_Segment_init___data] : List V).drop 8).take 1 ++ ((([.non, .non, .bl false, .bl false, .bl false, .bl false, .bl false, .int 0, .non, .non, .bl false, .ref T.e_Segment_init___ranges, .non, .ref T.e_Segment_init___data] : List V).drop 9).take 1 ++ ((([.non, .non, .bl false, .bl false, .bl false, .bl false, .bl false, .int 0, .non, .non, .bl false, .ref T.e_Segment_init___ranges, .non, .ref T.e_Segment_init___data] : List V).drop 10).take 1 ++ ((([.non, .non, .bl false, .bl false, .bl false, .bl false, .bl false, .int 0, .non, .non, .bl false, .ref T.e_Segment_init___ranges, .non, .ref T.e_Segment_init___data] : List V).drop 11).take 1 ++ ((([.non, .non, .bl false, .bl false, .bl false, .bl false, .bl false, .int 0, .non, .non, .bl false, .ref T.e_Segment_init___ranges, .non, .ref T.e_Segment_init___data] : List V).drop 12).take 1 ++ ((([.non, .non, .bl false, .bl false, .bl false, .bl false, .bl false, .int 0, .non, .non, .bl false, .ref T.e_Segment_init___ranges, .non, .ref T.e_Segment_init___data] : List V).drop 13).take 1))))))))))))))))) := by
  obtain ⟨mv, h⟩ := T.F_Segment_init__.kbinds0 (ps := ["self", "source", "target", "seq", "count", "echo", "ack", "syn", "fin", "reset", "marked", "cut", "window", "mss", "scale", "ranges_known", "ranges", "stamp", "data"]) 3 ["seq", "count"] [("echo", .non), ("ack", .non), ("syn", .bl false), ("fin", .bl false), ("reset", .bl false), ("marked", .bl false), ("cut", .bl false), ("window", .int 0), ("mss", .non), ("scale", .non), ("ranges_known", .bl false), ("ranges", .ref T.e_Segment_init___ranges), ("stamp", .non), ("data", .ref T.e_Segment_init___data)] (fun vs mz zs => vs ++ ((zs.drop 0).take 1 ++ ((zs.drop 1).take 1 ++ ((mz.drop 0).take 1 ++ ((mz.drop 1).take 1 ++ ((mz.drop 2).take 1 ++ ((mz.drop 3).take 1 ++ ((mz.drop 4).take 1 ++ ((mz.drop 5).take 1 ++ ((mz.drop 6).take 1 ++ ((mz.drop 7).take 1 ++ ((mz.drop 8).take 1 ++ ((mz.drop 9).take 1 ++ ((mz.drop 10).take 1 ++ ((mz.drop 11).take 1 ++ ((mz.drop 12).take 1 ++ ((mz.drop 13).take 1))))))))))))))))) (by intro h; cases h) (fun q hq => List.Sublist.mem hq (.cons₂ _ (.cons₂ _ (.cons₂ _ (.cons₂ _ (.cons₂ _ (.cons₂ _ (.cons₂ _ (.cons₂ _ (.cons₂ _ (.cons₂ _ (.cons₂ _ (.cons₂ _ (.cons₂ _ (.cons₂ _ (.slnil)))))))))))))))) (fun r1 r2 r3 => r1.append (((r3.drop 0).take 1).append (((r3.drop 1).take 1).append (((r2.drop 0).take 1).append (((r2.drop 1).take 1).append (((r2.drop 2).take 1).append (((r2.drop 3).take 1).append (((r2.drop 4).take 1).append (((r2.drop 5).take 1).append (((r2.drop 6).take 1).append (((r2.drop 7).take 1).append (((r2.drop 8).take 1).append (((r2.drop 9).take 1).append (((r2.drop 10).take 1).append (((r2.drop 11).take 1).append (((r2.drop 12).take 1).append ((r2.drop 13).take 1))))))))))))))))) (fun D doc pm an cdv ct us mv ws l1 l2 l3 => match us, l1, mv, l2, ws, l3 with | [_, _, _], _, [_, _, _, _, _, _, _, _, _, _, _, _, _, _], _, [_, _], _ => (by
    refine' KwChain.of_steps rfl ?st ?en
    case st =>
      apply KwSteps.skipIf; (case e => exact rfl); (case hc => kernel_rfl)
      apply KwSteps.skipIf; (case e => exact rfl); (case hc => kernel_rfl)
      apply KwSteps.lookIf; (case e => exact rfl); (case hc => kernel_rfl); (case e1 => exact rfl)
      apply KwSteps.lookIf; (case e => exact rfl); (case hc => kernel_rfl); (case e1 => exact rfl)
      apply KwSteps.lookIf; (case e => exact rfl); (case hc => kernel_rfl); (case e1 => exact rfl)
      apply KwSteps.lookIf; (case e => exact rfl); (case hc => kernel_rfl); (case e1 => exact rfl)
      apply KwSteps.lookIf; (case e => exact rfl); (case hc => kernel_rfl); (case e1 => exact rfl)
      apply KwSteps.lookIf; (case e => exact rfl); (case hc => kernel_rfl); (case e1 => exact rfl)
      apply KwSteps.lookIf; (case e => exact rfl); (case hc => kernel_rfl); (case e1 => exact rfl)
      apply KwSteps.lookIf; (case e => exact rfl); (case hc => kernel_rfl); (case e1 => exact rfl)
      apply KwSteps.lookIf; (case e => exact rfl); (case hc => kernel_rfl); (case e1 => exact rfl)
      apply KwSteps.lookIf; (case e => exact rfl); (case hc => kernel_rfl); (case e1 => exact rfl)
      apply KwSteps.lookIf; (case e => exact rfl); (case hc => kernel_rfl); (case e1 => exact rfl)
      apply KwSteps.lookIf; (case e => exact rfl); (case hc => kernel_rfl); (case e1 => exact rfl)
      apply KwSteps.lookIf; (case e => exact rfl); (case hc => kernel_rfl); (case e1 => exact rfl)
      apply KwSteps.lookIf; (case e => exact rfl); (case hc => kernel_rfl); (case e1 => exact rfl)
      apply KwSteps.nil
    case en => kernel_rfl))
  exact ⟨_, h⟩
theorem kbt_2 {K : PySem.W.Frag} {mg : Str → Option Value} (T : Txt K mg) : ∃ g, KBn K T.d_Segment_init__ ["self", "source", "target", "seq", "count", "echo", "ack", "syn", "fin", "reset", "marked", "cut", "window", "mss", "scale", "ranges_known", "ranges", "stamp", "data"] 3 ["seq", "count", "ranges", "data"] g (fun vs zs => vs ++ ((zs.drop 0).take 1 ++ ((zs.drop 1).take 1 ++ ((([.non, .non, .bl false, .bl false, .bl false, .bl false, .bl false, .int 0, .non, .non, .bl false, .non] : List V).drop 0).take 1 ++ ((([.non, .non, .bl false, .bl false, .bl false, .bl false, .bl false, .int 0, .non, .non, .bl false, .non] : List V).drop 1).take 1 ++ ((([.non, .non, .bl false, .bl false, .bl false, .bl false, .bl false, .int 0, .non, .non, .bl false, .non] : List V).drop 2).take 1 ++ ((([.non, .non, .bl false, .bl false, .bl false, .bl false, .bl false, .int 0, .non, .non, .bl false, .non] : List V).drop 3).take 1 ++ ((([.non, .non, .bl false, .bl false, .bl false, .bl false, .bl false, .int 0, .non, .non, .bl false, .non] : List V).drop 4).take 1 ++ ((([.non, .non, .bl false, .bl false, .bl false, .bl false, .bl false, .int 0, .non, .non, .bl false, .non] : List V).drop 5).take 1 ++ ((([.non, .non, .bl false, .bl false, .bl false, .bl false, .bl false, .int 0, .non, .non, .bl false, .non] : List V).drop 6).take 1 ++ ((([.non, .non, .bl false, .bl false, .bl false, .bl false, .bl false, .int 0, .non, .non, .bl false, .non] : List V).drop 7).take 1 ++ ((([.non, .non, .bl false, .bl false, .bl false, .bl false, .bl false, .int 0, .non, .non, .bl false, .non] : List V).drop 8).take 1 ++ ((([.non, .non, .bl false, .bl false, .bl false, .bl false, .bl false, .int 0, .non, .non, .bl false, .non] : List V).drop 9).take 1 ++ ((([.non, .non, .bl false, .bl false, .bl false, .bl false, .bl false, .int 0, .non, .non, .bl false, .non] : List V).drop 10).take 1 ++ ((zs.drop 2).take 1 ++ ((([.non, .non, .bl false, .bl false, .bl false, .bl false, .bl false, .int 0, .non, .non, .bl false, .non] : List V).drop 11).take 1 ++ ((zs.drop 3).take 1))))))))))))))))) := by
  obtain ⟨mv, h⟩ := T.F_Segment_init__.kbinds0 (ps := ["self", "source", "target", "seq", "count", "echo", "ack", "syn", "fin", "reset", "marked", "cut", "window", "mss", "scale", "ranges_known", "ranges", "stamp", "data"]) 3 ["seq", "count", "ranges", "data"] [("echo", .non), ("ack", .non), ("syn", .bl false), ("fin", .bl false), ("reset", .bl false), ("marked", .bl false), ("cut", .bl false), ("window", .int 0), ("mss", .non), ("scale", .non), ("ranges_known", .bl false), ("stamp", .non)] (fun vs mz zs => vs ++ ((zs.drop 0).take 1 ++ ((zs.drop 1).take 1 ++ ((mz.drop 0).take 1 ++ ((mz.drop 1).take 1 ++ ((mz.drop 2).take 1 ++ ((mz.drop 3).take 1 ++ ((mz.drop 4).take 1 ++ ((mz.drop 5).take 1 ++ ((mz.drop 6).take 1 ++ ((mz.drop 7).take 1 ++ ((mz.drop 8).take 1 ++ ((mz.drop 9).take 1 ++ ((mz.drop 10).take 1 ++ ((zs.drop 2).take 1 ++ ((mz.drop 11).take 1 ++ ((zs.drop 3).take 1))))))))))))))))) (by intro h; cases h) (fun q hq => List.Sublist.mem hq (.cons₂ _ (.cons₂ _ (.cons₂ _ (.cons₂ _ (.cons₂ _ (.cons₂ _ (.cons₂ _ (.cons₂ _ (.cons₂ _ (.cons₂ _ (.cons₂ _ (.cons _ (.cons₂ _ (.cons _ (.slnil)))))))))))))))) (fun r1 r2 r3 => r1.append (((r3.drop 0).take 1).append (((r3.drop 1).take 1).append (((r2.drop 0).take 1).append (((r2.drop 1).take 1).append (((r2.drop 2).take 1).append (((r2.drop 3).take 1).append (((r2.drop 4).take 1).append (((r2.drop 5).take 1).append (((r2.drop 6).take 1).append (((r2.drop 7).take 1).append (((r2.drop 8).take 1).append (((r2.drop 9).take 1).append (((r2.drop 10).take 1).append (((r3.drop 2).take 1).append (((r2.drop 11).take 1).append ((r3.drop 3).take 1))))))))))))))))) (fun D doc pm an cdv ct us mv ws l1 l2 l3 => match us, l1, mv, l2, ws, l3 with | [_, _, _], _, [_, _, _, _, _, _, _, _, _, _, _, _], _, [_, _, _, _], _ => (by
    refine' KwChain.of_steps rfl ?st ?en
    case st =>
      apply KwSteps.skipIf; (case e => exact rfl); (case hc => kernel_rfl)
      apply KwSteps.skipIf; (case e => exact rfl); (case hc => kernel_rfl)
      apply KwSteps.lookIf; (case e => exact rfl); (case hc => kernel_rfl); (case e1 => exact rfl)
      apply KwSteps.lookIf; (case e => exact rfl); (case hc => kernel_rfl); (case e1 => exact rfl)
      apply KwSteps.lookIf; (case e => exact rfl); (case hc => kernel_rfl); (case e1 => exact rfl)
      apply KwSteps.lookIf; (case e => exact rfl); (case hc => kernel_rfl); (case e1 => exact rfl)
      apply KwSteps.lookIf; (case e => exact rfl); (case hc => kernel_rfl); (case e1 => exact rfl)
      apply KwSteps.lookIf; (case e => exact rfl); (case hc => kernel_rfl); (case e1 => exact rfl)
      apply KwSteps.lookIf; (case e => exact rfl); (case hc => kernel_rfl); (case e1 => exact rfl)
      apply KwSteps.lookIf; (case e => exact rfl); (case hc => kernel_rfl); (case e1 => exact rfl)
      apply KwSteps.lookIf; (case e => exact rfl); (case hc => kernel_rfl); (case e1 => exact rfl)
      apply KwSteps.lookIf; (case e => exact rfl); (case hc => kernel_rfl); (case e1 => exact rfl)
      apply KwSteps.lookIf; (case e => exact rfl); (case hc => kernel_rfl); (case e1 => exact rfl)
      apply KwSteps.skipIf; (case e => exact rfl); (case hc => kernel_rfl)
      apply KwSteps.lookIf; (case e => exact rfl); (case hc => kernel_rfl); (case e1 => exact rfl)
      apply KwSteps.skipIf; (case e => exact rfl); (case hc => kernel_rfl)
      apply KwSteps.nil
    case en => kernel_rfl))
  exact ⟨_, h⟩
theorem ok_law (T : Txt K mg) : FnOk P w K mg base CX0 6 T.f_law T.d_law ["script"] (sp_law K) := by
  refine T.F_law.ok sc_law (fun vs H Q E h => ?_) (fun cdv A outer s H vs Q E hr h => ?_)
  · obtain ⟨a, ns, rfl, hS, hlen, q⟩ := h
    rfl
  · obtain ⟨a, ns, rfl, hS, hlen, q⟩ := h
    have hu := hu_of hr
    obtain ⟨gk_1, kb_1⟩ := kbt_1 T
    obtain ⟨gk_2, kb_2⟩ := kbt_2 T
    refine ⟨_, (pss_cons (ps_set (i := 1) sc_law.nd rfl (Or.inl rfl) (pe_call (ok_l_parts T) (hr.mono (by decide)) rfl T.m_l_parts T.F_l_parts.kp T.b_l_parts .nil pass0 (pa_cons (pv 0) (pa_cons pe_int pa_nil))))
        (pss_cons (ps_set (i := 2) sc_law.nd rfl (Or.inl rfl) (pe_call (ok_l_made T) (hr.mono (by decide)) rfl T.m_l_made T.F_l_made.kp T.b_l_made .nil pass0 (pa_cons (pv 1) pa_nil)))
        (pss_cons (ps_set (i := 3) sc_law.nd rfl (Or.inl rfl) (pe_op op_add (pe_op op_add (pe_callB call_len_seq (by rfl) T.n_len (by decide +kernel) (pa_cons (pe_dget hu (pv 1) pe_str (fun _ _ => rfl)) pa_nil)) (pe_callTy call_int1 (by rfl) T.n_int (by decide +kernel) (pa_cons (pe_dget hu (pv 1) pe_str (fun _ _ => rfl)) pa_nil))) (pe_callTy call_int1 (by rfl) T.n_int (by decide +kernel) (pa_cons (pe_dget hu (pv 1) pe_str (fun _ _ => rfl)) pa_nil))))
        (pss_cons (ps_if (PW.pt (pw_or (pt_not (pt_val (pe_call (ok_l_same T) (hr.mono (by decide)) rfl T.m_l_same T.F_l_same.kp T.b_l_same .nil pass0 (pa_cons (pv 2) (pa_cons (pv 1) pa_nil))))) (pw_or1 (pt_not (pt_val (pe_call (ok_l_number T) (hr.mono (by decide)) rfl T.m_l_number T.F_l_number.kp T.b_l_number .nil pass0 (pa_cons (pe_prop (pv 2) T.k_Segment T.p_Segment_size (ok_Segment_size T) (hr.mono (by decide)) T.b_Segment_size .nil pass0 (by rfl)) (pa_cons (pv 3) pa_nil)))))))) (pss_one (ps_ret pe_bl)) pss_nil)
        (pss_cons (ps_set (i := 4) sc_law.nd rfl (Or.inl rfl) (pe_callTy call_list_of (by rfl) T.n_list (by decide +kernel) (pa_cons (pe_dget hu (pv 1) pe_str (fun _ _ => rfl)) pa_nil)))
        (pss_cons (ps_set (i := 5) sc_law.nd rfl (Or.inl rfl) (pe_callTy call_list_of (by rfl) T.n_list (by decide +kernel) (pa_cons (pe_dget hu (pv 1) pe_str (fun _ _ => rfl)) pa_nil)))
        (pss_cons (ps_set (i := 6) sc_law.nd rfl (Or.inl rfl) (pe_makeK T.mk_Segment (ok_Segment_init__ T) (hr.mono (by decide)) rfl T.c_Segment kb_2 pass0 (pa_cons (pe_dget hu (pv 1) pe_str (fun _ _ => rfl)) (pa_cons (pe_dget hu (pv 1) pe_str (fun _ _ => rfl)) pa_nil)) (pk_cons (pe_dget hu (pv 1) pe_str (fun _ _ => rfl)) (pk_cons (pe_dget hu (pv 1) pe_str (fun _ _ => rfl)) (pk_cons (pv 5) (pk_cons (pv 4) pk_nil))))))
        (pss_cons (ps_expr (pe_bm PySem.F.plainAttrs_list PySem.F.slot_list_append PySem.F.type_list_append mt_append (pv 4) (pa_cons pe_int pa_nil)))
        (pss_cons (ps_expr (pe_bm PySem.F.plainAttrs_list PySem.F.slot_list_append PySem.F.type_list_append mt_append (pv 5) (pa_cons (pe_tup (pa_cons pe_int (pa_cons pe_int pa_nil))) pa_nil)))
        (pss_cons (ps_set (i := 7) sc_law.nd rfl (Or.inl rfl) (pe_disp (pps_cons pe_str (pe_dget hu (pv 1) pe_str (fun _ _ => rfl)) (pps_cons pe_str (pe_dget hu (pv 1) pe_str (fun _ _ => rfl)) (pps_cons pe_str (pe_dget hu (pv 1) pe_str (fun _ _ => rfl)) (pps_cons pe_str (pe_dget hu (pv 1) pe_str (fun _ _ => rfl)) pps_nil)))) (by rfl) (by rfl) (fun z => by cases z) (by decide)))
        (pss_cons (ps_for PassesOwn.never rfl (pi_list (pe_lst (pa_cons pe_str (pa_cons pe_str (pa_cons pe_str (pa_cons pe_str (pa_cons pe_str pa_nil))))))) (pg_name (i := 8) sc_law.nd rfl (Or.inl rfl)) (pss_one (ps_dput hu (pv 7) (pv 8) pe_non rfl)))
        (pss_cons (ps_for PassesOwn.never rfl (pi_list (pe_lst (pa_cons pe_str (pa_cons pe_str (pa_cons pe_str (pa_cons pe_str (pa_cons pe_str (pa_cons pe_str pa_nil)))))))) (pg_name (i := 8) sc_law.nd rfl (Or.inl rfl)) (pss_one (ps_dput hu (pv 7) (pv 8) pe_bl rfl)))
        (pss_cons (ps_dput hu (pv 7) pe_str pe_int rfl)
        (pss_cons (ps_dput hu (pv 7) pe_str (pe_dget hu (pv 1) pe_str (fun _ _ => rfl)) rfl)
        (pss_cons (ps_dput hu (pv 7) pe_str (pe_dget hu (pv 1) pe_str (fun _ _ => rfl)) rfl)
        (pss_cons (ps_if (pt_not (pt_val (pe_call (ok_l_same T) (hr.mono (by decide)) rfl T.m_l_same T.F_l_same.kp T.b_l_same .nil pass0 (pa_cons (pv 6) (pa_cons (pv 7) pa_nil))))) (pss_one (ps_ret pe_bl)) pss_nil)
        (C8.pss_cut (ps_if (PW.pt (pw_and (pt_cmpR op_eq (pe_callB call_len_seq (by rfl) T.n_len (by decide +kernel) (pa_cons (pe_dget hu (pv 1) pe_str (fun _ _ => rfl)) pa_nil)) pe_int (nomark _)) (pw_and1 (pt_cmpR op_eq (pe_callB call_len_seq (by rfl) T.n_len (by decide +kernel) (pa_cons (pe_dget hu (pv 1) pe_str (fun _ _ => rfl)) pa_nil)) pe_int (nomark _))))) (pss_cons (ps_set (i := 9) sc_law.nd rfl (Or.inl rfl) (pe_makeK T.mk_Segment (ok_Segment_init__ T) (hr.mono (by decide)) rfl T.c_Segment kb_1 pass0 (pa_cons (pe_dget hu (pv 1) pe_str (fun _ _ => rfl)) (pa_cons (pe_dget hu (pv 1) pe_str (fun _ _ => rfl)) pa_nil)) (pk_cons (pe_dget hu (pv 1) pe_str (fun _ _ => rfl)) (pk_cons (pe_dget hu (pv 1) pe_str (fun _ _ => rfl)) pk_nil))))
        (pss_one (ps_if (pt_not (pt_val (pe_call (ok_l_same T) (hr.mono (by decide)) rfl T.m_l_same T.F_l_same.kp T.b_l_same .nil pass0 (pa_cons (pv 9) (pa_cons (pv 7) pa_nil))))) (pss_one (ps_ret pe_bl)) pss_nil))) pss_nil)
        (pss_cons (ps_set (i := 10) sc_law.nd rfl (Or.inl rfl) (pe_call (ok_l_changed T) (hr.mono (by decide)) rfl T.m_l_changed T.F_l_changed.kp T.b_l_changed .nil pass0 (pa_cons (pv 1) (pa_cons (pe_op op_mod (pe_callTy call_int1 (by rfl) T.n_int (by decide +kernel) (pa_cons (pe_call (ok_l_cell T) (hr.mono (by decide)) rfl T.m_l_cell T.F_l_cell.kp T.b_l_cell .nil pass0 (pa_cons (pv 0) (pa_cons pe_int pa_nil))) pa_nil)) pe_int) pa_nil))))
        (pss_cons (ps_if (PW.pt (pw_or (pt_cmpR op_notBl (pe_cmpR (op_eqO (ok_Segment_eq__ T) (hr.mono (by decide)) T.a_Segment_eq__ T.q_Segment T.b_Segment_eq__ pass0) (pv 2) (pe_call (ok_l_made T) (hr.mono (by decide)) rfl T.m_l_made T.F_l_made.kp T.b_l_made .nil pass0 (pa_cons (pv 1) pa_nil)) (nomark _)) pe_bl (nomark _)) (pw_or1 (pt_cmpR op_notBl (pe_cmpR (op_eqO (ok_Segment_eq__ T) (hr.mono (by decide)) T.a_Segment_eq__ T.q_Segment T.b_Segment_eq__ pass0) (pv 2) (pe_call (ok_l_made T) (hr.mono (by decide)) rfl T.m_l_made T.F_l_made.kp T.b_l_made .nil pass0 (pa_cons (pv 10) pa_nil)) (nomark _)) pe_bl (nomark _))))) (pss_one (ps_ret pe_bl)) pss_nil)
        (pss_one (ps_ret (pe_and (pe_cmpR op_isBl (pe_cmpR (op_eqO (ok_Segment_eq__ T) (hr.mono (by decide)) T.a_Segment_eq__ T.q_Segment T.b_Segment_eq__ pass0) (pv 2) (pe_dget hu (pv 1) pe_str (fun _ _ => rfl)) (nomark _)) pe_bl (nomark _)) (pe_one (pe_call (ok_l_same T) (hr.mono (by decide)) rfl T.m_l_same T.F_l_same.kp T.b_l_same .nil pass0 (pa_cons (pv 2) (pa_cons (pv 1) pa_nil)))))))))))))))))))))))))), ?_⟩
    dsimp only [cxOf, Cx.nox, Cx.wish, L2.start, List.map, List.cons_append, List.nil_append, List.length_cons, List.length_nil, Nat.reduceAdd, Nat.reduceSub, Nat.zero_add, List.replicate_succ, List.replicate_zero]
    walk_at "go"
    refine u_parts hS (by decide) fun p da ra g H1 ok np nda nra ndr s1 hD => ?_
    have lds := ok.dl
    have lrs := ok.rl
    walk_at "go"
    refine u_made hD.look fun x d r H2 nx nd nr ndx nrx ndr2 s2 hO => ?_
    have hD2 := hD.same s2
    obtain ⟨sv, e2, hda2, ⟨vs, hra2, hP2⟩, hsv2⟩ := id hD2
    walk_at "go"
    refine g_len (.inl (sl hda2)) ?_
    walk_at "go"
    rw [List.length_map]
    refine u_same hO hD2.look (by omega) (by omega) ?_
    obtain ⟨dxO, svO, eO, hPO⟩ := id hO
    walk_at "go"
    refine ⟨x, dxO, _, rfl, eO, x, d, r, g, rfl, hO, ?_⟩
    walk_at "go"
    refine u_numI (i := szS g) ?_
    walk_at "go"
    refine g_len (.inl (sl hda2)) fun o1 no1 => ?_
    generalize z1 : upd H2 o1 _ = H3
    have s3 : Same H2 H3 := by rw [← z1]; exact same_upd no1
    have k1 : H3 o1 = some (.lst (g.ds.map V.int)) := (congrFun z1 o1).symm.trans upd_same
    clear z1
    have e3 := s3 _ _ e2
    clear e2
    walk_at "go"
    refine g_len (.inl (sl (s3 _ _ hra2))) fun o2 no2 => ?_
    generalize z1 : upd H3 o2 _ = H4
    have s4 : Same H3 H4 := by rw [← z1]; exact same_upd no2
    have k2 : H4 o2 = some (.lst vs) := (congrFun z1 o2).symm.trans upd_same
    clear z1
    have e4 := s4 _ _ e3
    clear e3
    have k14 := s4 _ _ k1
    have n12 : o1 ≠ o2 := fun z => by rw [z] at k1; rw [k1] at no2; cases no2
    have s24 := s3.trans s4
    have fo2 : H2 o2 = none := s3.free no2
    walk_at "go"
    refine ⟨rfl, rfl, fun y dy ny ndy nyd => ?_⟩
    have bx : But y H4 (upd (upd H4 dy (.own y)) y (.ins T.C_Segment dy [])) := ((But.of (same_upd (o := .own y) ndy))).upd
    have n1y : o1 ≠ y := fun z => by rw [← z, k14] at ny; cases ny
    have n2y : o2 ≠ y := fun z => by rw [← z, k2] at ny; cases ny
    refine ⟨y, dy, o2, o1, _, _, _, _, _, _, _, _, _, _, _, _, _, _, _, _, _, _, rfl, upd_same, (fun H' b => but_or b n2y (.inl (sl (bx _ _ n2y k2)))), (fun H' b => but_or b n1y (.inl (sl (bx _ _ n1y k14)))), fun r3 d3 H5 ndr3 nr3 nd3 fr3 fd3 b5 er3 ed3 ey => ⟨rfl, ?_⟩⟩
    have s45 : Same H4 H5 := (bx.trans b5).same ny
    have fd3' : H4 d3 = none := (bx.same ny).free fd3
    have fr3' : H4 r3 = none := (bx.same ny).free fr3
    have hOwn : SegO T.C_Segment H5 y ⟨g.src, g.tgt, g.seq, g.cnt, none, none, false, false, false, false, false, 0, none, none, false, g.rs, none, g.ds⟩ d3 r3 := ⟨dy, .non, ey, ed3, ⟨vs, er3, hP2.same (s24.trans s45)⟩, rfl⟩
    have k15 := s45 _ _ k14
    have k25 := s45 _ _ k2
    have nd31 : d3 ≠ o1 := fun z => by rw [z, k14] at fd3'; cases fd3'
    have nr31 : r3 ≠ o1 := fun z => by rw [z, k14] at fr3'; cases fr3'
    have nd32 : d3 ≠ o2 := fun z => by rw [z, k2] at fd3'; cases fd3'
    have nr32 : r3 ≠ o2 := fun z => by rw [z, k2] at fr3'; cases fr3'
    clear ey ed3 er3 e4
    walk_at "go"
    refine ⟨ty_l k15, ?_⟩
    walk_at "go"
    refine g_append k15 (by rw [List.length_map]; exact szl (by omega)) ?_
    generalize z1 : upd H5 o1 _ = H6
    have b6 : But o1 H5 H6 := by rw [← z1]; exact But.refl.upd
    clear z1
    have hOwn6 := hOwn.butL b6 k15 nd31 nr31
    have k26 := b6 _ _ n12.symm k25
    have s26 : Same H2 H6 := ((But.of (s24.trans s45)).trans b6).same no1
    walk_at "go"
    refine ⟨ty_l k26, ?_⟩
    walk_at "go"
    refine ⟨by show 2 ≤ sizeLine; decide, fun t ht => ?_⟩
    generalize z1 : upd H6 t _ = H7
    have s7 : Same H6 H7 := by rw [← z1]; exact same_upd ht
    clear z1
    have lvs := hP2.1
    walk_at "go"
    refine g_append (s7 _ _ k26) (by rw [lvs]; exact szl (by omega)) ?_
    generalize z1 : upd H7 o2 _ = H8
    have b8 : But o2 H7 H8 := by rw [← z1]; exact But.refl.upd
    clear z1
    have hOwn8 := (hOwn6.same s7).butL b8 (s7 _ _ k26) nd32 nr32
    have s28 : Same H2 H8 := ((But.of (s26.trans s7)).trans b8).same fo2
    have hO8 := hO.same s28
    have hD8 := hD2.same s28
    clear hOwn hOwn6 k14 k15 k25 k26 k1 k2 hda2 hra2 hsv2 hP2 bx b5 b6 b8 s7 s26 s45 s24 s3 s4 eO hPO
    obtain ⟨sv8, e8, hP8⟩ := id hD8
    walk_at "go"
    intro pl hpl
    generalize z1 : upd H8 pl _ = H9
    have s9 : Same H8 H9 := by rw [← z1]; exact same_upd hpl
    have ep9 : H9 pl = some (.dK []) := (congrFun z1 pl).symm.trans upd_same
    clear z1
    have e9 := s9 _ _ e8
    walk_at "go"
    have mk : mergeK [] [((Sum.inr "source" : Key), V.int g.src), (.inr "target", V.int g.tgt), (.inr "seq", V.int g.seq), (.inr "count", V.int g.cnt)] = dk kd_L [V.int g.src, V.int g.tgt, V.int g.seq, V.int g.cnt] := by
      show putK (putK (putK (putK (dk kd_L []) (.inr "source") _) (.inr "target") _) (.inr "seq") _) (.inr "count") _ = _
      rw [dk_new ndd_L rfl, dk_new ndd_L rfl, dk_new ndd_L rfl, dk_new ndd_L rfl]
      rfl
    refine ⟨ep9, [((Sum.inr "source" : Key), V.int g.src), (.inr "target", V.int g.tgt), (.inr "seq", V.int g.seq), (.inr "count", V.int g.cnt)], rfl, (by show 4 ≤ 15; decide), ?_⟩
    rw [mk]
    clear mk
    generalize z1 : upd H9 pl _ = H10
    have b10 : But pl H9 H10 := by rw [← z1]; exact But.refl.upd
    have e10 : H10 pl = some (.dK (dk kd_L [V.int g.src, V.int g.tgt, V.int g.seq, V.int g.cnt])) := (congrFun z1 pl).symm.trans upd_same
    clear z1 ep9 e9
    walk_at "go"
    refine g_for ?_
    walk_at "go"
    refine ⟨by show 5 ≤ sizeLine; decide, fun nl hnl => ?_⟩
    generalize z1 : upd H10 nl _ = H11
    have s11 : Same H10 H11 := by rw [← z1]; exact same_upd hnl
    have kn : H11 nl = some (.lst (nmA.map V.str)) := (congrFun z1 nl).symm.trans upd_same
    clear z1
    have e11 := s11 _ _ e10
    have nnl : nl ≠ pl := fun z => by rw [z, e11] at kn; cases kn
    walk_at "go"
    refine ⟨⟨_, sl kn⟩, ?_⟩
    refine for_list (xs := nmA.map V.str) (fun i σ H' => ∃ v8 : Option V, σ = [some (.ref a), some (.ref p), some (.ref x), some (.int (szS g)), some (.ref o1), some (.ref o2), some (.ref y), some (.ref pl), v8, none, none] ∧ But pl H11 H' ∧ H' pl = some (.dK (dk kd_L ([V.int g.src, V.int g.tgt, V.int g.seq, V.int g.cnt] ++ List.replicate i .non)))) ⟨none, rfl, But.refl, e11⟩ (fun i σ H' _ ⟨_, _, b, _⟩ => sl (b _ _ nnl kn)) ?turn ?done
    case turn =>
      rintro i x0 σ H' hx ⟨v8, rfl, b, e⟩
      obtain ⟨nm, hnm, rfl⟩ := map_get hx
      walk_at "go"
      refine ⟨pl, _, rfl, DPut.k (k := .inr nm) e (szl (Nat.lt_of_le_of_lt dk_len (by decide))), ?_⟩
      rw [dk_new ndd_L (by rw [List.length_append, List.length_replicate]; exact nmA_at hnm)]
      walk_at "go"
      refine ⟨_, rfl, b.upd, ?_⟩
      rw [upd_same, List.replicate_succ', List.append_assoc]
    case done =>
    rintro σ H12 ⟨v8, rfl, b12, e⟩
    have e12 : H12 pl = some (.dK (dk kd_L [V.int g.src, V.int g.tgt, V.int g.seq, V.int g.cnt, V.non, V.non, V.non, V.non, V.non])) := e
    clear e e11 e10 kn
    walk_at "go"
    refine g_for ?_
    walk_at "go"
    refine ⟨by show 6 ≤ sizeLine; decide, fun nl2 hnl2 => ?_⟩
    generalize z1 : upd H12 nl2 _ = H13
    have s13 : Same H12 H13 := by rw [← z1]; exact same_upd hnl2
    have kn : H13 nl2 = some (.lst (nmB.map V.str)) := (congrFun z1 nl2).symm.trans upd_same
    clear z1
    have e13 := s13 _ _ e12
    have nnl2 : nl2 ≠ pl := fun z => by rw [z, e13] at kn; cases kn
    walk_at "go"
    refine ⟨⟨_, sl kn⟩, ?_⟩
    refine for_list (xs := nmB.map V.str) (fun i σ H' => ∃ v8 : Option V, σ = [some (.ref a), some (.ref p), some (.ref x), some (.int (szS g)), some (.ref o1), some (.ref o2), some (.ref y), some (.ref pl), v8, none, none] ∧ But pl H13 H' ∧ H' pl = some (.dK (dk kd_L ([V.int g.src, V.int g.tgt, V.int g.seq, V.int g.cnt, V.non, V.non, V.non, V.non, V.non] ++ List.replicate i (.bl false))))) ⟨_, rfl, But.refl, e13⟩ (fun i σ H' _ ⟨_, _, b, _⟩ => sl (b _ _ nnl2 kn)) ?turn2 ?done2
    case turn2 =>
      rintro i x0 σ H' hx ⟨v8, rfl, b, e⟩
      obtain ⟨nm, hnm, rfl⟩ := map_get hx
      walk_at "go"
      refine ⟨pl, _, rfl, DPut.k (k := .inr nm) e (szl (Nat.lt_of_le_of_lt dk_len (by decide))), ?_⟩
      rw [dk_new ndd_L (by rw [List.length_append, List.length_replicate]; exact nmB_at hnm)]
      walk_at "go"
      refine ⟨_, rfl, b.upd, ?_⟩
      rw [upd_same, List.replicate_succ', List.append_assoc]
    case done2 =>
    rintro σ H14 ⟨v8', rfl, b14, e⟩
    have e14 : H14 pl = some (.dK (dk kd_L [V.int g.src, V.int g.tgt, V.int g.seq, V.int g.cnt, V.non, V.non, V.non, V.non, V.non, V.bl false, V.bl false, V.bl false, V.bl false, V.bl false, V.bl false])) := e
    clear e e12 e13 kn
    have bpl14 : But pl H8 H14 := (((((But.of s9).trans b10).trans (But.of s11)).trans b12).trans (But.of s13)).trans b14
    have s814 : Same H8 H14 := bpl14.same hpl
    have npl : p ≠ pl := fun z => by rw [z] at e8; rw [e8] at hpl; cases hpl
    have ep14 := s814 _ _ e8
    walk_at "go"
    generalize z1 : upd H14 pl _ = H15
    have b15 : But pl H14 H15 := by rw [← z1]; exact But.refl.upd
    have e15 := (congrFun z1 pl).symm.trans upd_same
    clear z1 e14
    simp only [List.nil_append, List.cons_append] at e15
    have ep15 := b15 _ _ npl ep14
    clear ep14
    walk_at "go"
    generalize z1 : upd H15 pl _ = H16
    have b16 : But pl H15 H16 := by rw [← z1]; exact But.refl.upd
    have e16 := (congrFun z1 pl).symm.trans upd_same
    clear z1 e15
    simp only [List.nil_append, List.cons_append] at e16
    have ep16 := b16 _ _ npl ep15
    clear ep15
    walk_at "go"
    generalize z1 : upd H16 pl _ = H17
    have b17 : But pl H16 H17 := by rw [← z1]; exact But.refl.upd
    have e17' := (congrFun z1 pl).symm.trans upd_same
    clear z1 e16
    have e17 : H17 pl = some (.dK (dk kd_L (vsL ⟨g.src, g.tgt, g.seq, g.cnt, none, none, false, false, false, false, false, 0, none, none, false, g.rs, none, g.ds⟩ da ra .non))) := e17'
    clear e17' ep16
    have bpl17 : But pl H8 H17 := ((bpl14.trans b15).trans b16).trans b17
    have s817 : Same H8 H17 := bpl17.same hpl
    have hP17 := hP8.same s817
    walk_at "go"
    refine u_same (hOwn8.same s817) (look_L e17 ⟨hP17.1, hP17.2.1, rfl⟩) (by show g.rs.length ≤ 1000; omega) (by show g.ds.length ≤ 1000; omega) ?_
    walk_at "go"
    refine g_cut (fun σ' H' => ∃ v9 : Option V, σ' = [some (.ref a), some (.ref p), some (.ref x), some (.int (szS g)), some (.ref o1), some (.ref o2), some (.ref y), some (.ref pl), v8', v9, none] ∧ Same H17 H') ?_ ?_
    · obtain ⟨sv17, ep17, hda17, ⟨vs17, hra17, hPr17⟩, hsv17⟩ := hD8.same s817
      have lv17 := hPr17.1
      walk_at "go"
      refine g_len (.inl (sl hda17)) ?_
      walk_at "go"
      rw [List.length_map]
      refine g_ite (fun c1 => ?_) (fun c1 => ?_)
      · walk_at "go"
        refine g_len (.inl (sl hra17)) ?_
        walk_at "go"
        refine g_ite (fun c2 => ?_) (fun c2 => ?_)
        · have hds : g.ds = [] := List.eq_nil_of_length_eq_zero (by omega)
          have hrs : g.rs = [] := List.eq_nil_of_length_eq_zero (by omega)
          walk_at "go"
          refine ⟨rfl, rfl, fun y2 dy2 ny2 ndy2 nyd2 => ?_⟩
          have bx2 : But y2 H17 (upd (upd H17 dy2 (.own y2)) y2 (.ins T.C_Segment dy2 [])) := ((But.of (same_upd (o := .own y2) ndy2))).upd
          refine ⟨y2, dy2, _, _, _, _, _, _, _, _, _, _, _, _, _, _, _, _, _, _, [], [], rfl, upd_same, fun H' _ => .inr (T.es_Segment_init___ranges H'), fun H' _ => .inr (T.es_Segment_init___data H'), fun r4 d4 H18 ndr4 nr4 nd4 fr4 fd4 b18 er4 ed4 ey4 => ⟨rfl, ?_⟩⟩
          have s18 : Same H17 H18 := (bx2.trans b18).same ny2
          have hO2 : SegO T.C_Segment H18 y2 ⟨g.src, g.tgt, g.seq, g.cnt, none, none, false, false, false, false, false, 0, none, none, false, g.rs, none, g.ds⟩ d4 r4 := ⟨dy2, .non, ey4, (by show H18 d4 = some (.lst (g.ds.map V.int)); rw [hds]; exact ed4), ⟨[], er4, (by show Prs H18 [] g.rs; rw [hrs]; exact Prs.nil)⟩, rfl⟩
          have hP18 := hP17.same s18
          walk_at "go"
          refine u_same hO2 (look_L (s18 _ _ e17) ⟨hP18.1, hP18.2.1, rfl⟩) (by show g.rs.length ≤ 1000; omega) (by show g.ds.length ≤ 1000; omega) ?_
          walk_at "go"
          exact ⟨_, rfl, s18⟩
        · walk_at "go"
          exact ⟨_, rfl, fun _ _ z => z⟩
      · walk_at "go"
        exact ⟨_, rfl, fun _ _ z => z⟩
    rintro σ' H20 ⟨v9, rfl, s1720⟩
    have s820 := s817.trans s1720
    have hS20 : SqL K H20 a (ns.map V.int) := (s1.trans (s2.trans (s28.trans s820))).seq hS
    walk_at "go"
    refine u_changed (hD8.same s820).look ok ?hk fun p' da' ra' g' H21 hne s21 hL21 => ?_
    case hk => omega
    have s821 := s820.trans s21
    have hD21 := hD8.same s821
    walk_at "go"
    refine u_made hD21.look fun x2 d5 r5 H22 nx5 nd5 nr5 _ _ _ s22 hO5 => ?_
    have hO22 := hO8.same (s821.trans s22)
    obtain ⟨dx22, sv22, ex22, hPx22⟩ := id hO22
    obtain ⟨dx5, sv5, ex5, hPx5⟩ := id hO5
    walk_at "go"
    refine ⟨x, dx22, _, rfl, ex22, .inl ⟨x2, _, _, rfl, ex5⟩, x, .ref x2, rfl, .inl ⟨d, r, x2, d5, r5, g, g, rfl, hO22, hO5, fun H23 s23 => ⟨_, rfl, ?_⟩⟩⟩
    rw [eqS_self]
    walk_at "go"
    refine u_made (hL21.same (s22.trans s23)) fun x3 d6 r6 H24 nx6 nd6 nr6 _ _ _ s24' hO6 => ?_
    have hO24 := hO22.same (s23.trans s24')
    obtain ⟨dx24, sv24, ex24, hPx24⟩ := id hO24
    obtain ⟨dx6, sv6, ex6, hPx6⟩ := id hO6
    walk_at "go"
    refine ⟨x, dx24, _, rfl, ex24, .inl ⟨x3, _, _, rfl, ex6⟩, x, .ref x3, rfl, .inl ⟨d, r, x3, d6, r6, g, g', rfl, hO24, hO6, fun H25 s25 => ⟨_, rfl, ?_⟩⟩⟩
    rw [hne]
    walk_at "go"
    have s825 := s821.trans (s22.trans (s23.trans (s24'.trans s25)))
    have hO25 := hO8.same s825
    have hD25 := hD8.same s825
    obtain ⟨dx25, sv25, ex25, hPx25⟩ := id hO25
    obtain ⟨svf, ef25, hPf25⟩ := id hD25
    walk_at "go"
    refine ⟨x, dx25, _, rfl, ex25, .inr ⟨_, rfl⟩, x, _, rfl, .inr ⟨_, rfl, _, rfl, ?_⟩⟩
    walk_at "go"
    refine u_same hO25 hD25.look (by omega) (by omega) ?_
    exact q _

end
end My
namespace My
open PySem PySem.Spec L2
local macro_rules | `(tactic| walk_at "side") => `(tactic| first | assumption | decide | omega | exact ⟨by decide, by decide⟩ | exact ⟨by decide, by decide, by decide⟩ | decide +kernel | exact cdivW (by decide +kernel) (by decide +kernel) | exact Or.inl ⟨by omega, by omega⟩ | exact Or.inr ⟨by omega, by omega⟩ | (simp only [List.length_map, List.length_cons, List.length_nil, List.length_append]; omega))
local macro_rules | `(tactic| walk_at "fact") => `(tactic| first | assumption | omega | with_reducible rfl)
local macro_rules | `(tactic| walk_at "use") => `(tactic| fail "use")
local macro_rules | `(tactic| walk_at "go1") => `(tactic| with_reducible first | refine g_seq ?_ | refine g_asg ?_ | refine g_ret ?_ | refine g_ifS ?_ | refine g_drop ?_ | refine g_star ?_ | refine g_nx ?_ | refine g_rt ?_ | refine g_bkE ?_ | refine g_ctE ?_ | refine g_next ?_ | refine g_retN ?_ | refine g_brk ?_ | refine g_ct ?_ | refine g_c ?_ | refine g_op ?_ | refine g_un ?_ | refine g_rI0 ?_ | refine g_rU ?_ | refine g_rEqI ?_ | refine g_rNeI ?_ | refine g_isN ?_ | refine g_rIsB ?_ | refine g_rNotB ?_ | refine g_test ?_ | refine g_B ?_ | refine g_bl ?_ | refine g_and ?_ | refine g_or ?_ | refine g_not ?_ | refine g_andV ?_ | refine g_orV ?_ | refine g_notV ?_ | refine g_if ?_ | refine g_chain ?_ | refine g_yes ?_ | refine g_lc ?_ | refine g_revR ?_ | refine g_rng1 ?_ | refine g_iList ?_ | refine g_nil ?_ | refine g_cons ?_ | refine g_tup ?_ | refine g_lst ?_ | refine g_call ?_ | refine g_CB ?_ | refine g_sl ?_ | refine g_noPart ?_ | refine g_part ?_ | refine g_intE ?_ | refine g_ref ?_ | refine g_fld ?_ | refine g_sfld ?_ | refine g_meth ?_ | refine g_make ?_ | refine g_prop ?_  | refine g_ipI ?_ | refine g_int1 ?_ | refine g_int1B ?_ | refine g_one ?_ | refine g_two ?_ | refine g_isiI ?_ | refine g_isiIB ?_ | refine g_isiB ?_ | refine g_BM ?_ | refine g_BM0 ?_ | refine g_sub ?_)
local macro_rules | `(tactic| walk_at "go") => `(tactic| repeat (first | walk_at "go1" | ((with_reducible refine' g_nameE ?sd_ ?_); case sd_ => dsimp only [List.set_cons_succ, List.set_cons_zero]) | ((with_reducible refine' g_var ?sd_ ?_); case sd_ => exact rfl) | ((with_reducible refine' g_aug ?sd_ ?_); case sd_ => exact rfl) | ((with_reducible refine' g_rI ?sd_ ?_); case sd_ => walk_at "side") | ((with_reducible refine' g_dT ?sd_ ?_); case sd_ => walk_at "fact") | ((with_reducible refine' g_dF ?sd_ ?_); case sd_ => walk_at "fact") | ((with_reducible refine' g_nT ?sd_ ?_); case sd_ => walk_at "fact") | ((with_reducible refine' g_nF ?sd_ ?_); case sd_ => walk_at "fact") | (with_reducible refine g_iT rfl ?_) | (with_reducible refine g_iF rfl ?_) | walk_at "use"))
theorem all_mk {l : PySem.W.OpenLaw} {w : World} {K : PySem.W.Frag} {h : Heap} {mg : Str → Option Value} {fa : Addr} (X : K.In h) (G : h.Ns mainGlobals mg) (hfa : mg "law" = some (.ref fa))
    {C_Segment : Addr} {f_Segment_init__ : Addr} {od_Segment_init__ an_Segment_init__ : Option Addr} {sl_Segment_init__ : Array (Option Value)} {oc_Segment_init__ dc_Segment_init__ pm_Segment_init__ cd_Segment_init__ ct_Segment_init__ : Value} {kd_Segment_init__ : Addr} {tk_Segment_init___window : Tok} {e_Segment_init___ranges : Addr} {eo_Segment_init___ranges : Option Addr} {en_Segment_init___ranges : Nat} {el_Segment_init___ranges : Array (Option Value)} {e_Segment_init___data : Addr} {eo_Segment_init___data : Option Addr} {en_Segment_init___data : Nat} {el_Segment_init___data : Array (Option Value)} {f_Segment_size : Addr} {od_Segment_size an_Segment_size : Option Addr} {sl_Segment_size : Array (Option Value)} {oc_Segment_size kV_Segment_size dc_Segment_size pm_Segment_size cd_Segment_size ct_Segment_size : Value} {p0_Segment_size : Addr} {pr_Segment_size : List Value} {f_Segment_eq__ : Addr} {od_Segment_eq__ an_Segment_eq__ : Option Addr} {sl_Segment_eq__ : Array (Option Value)} {oc_Segment_eq__ kV_Segment_eq__ dc_Segment_eq__ pm_Segment_eq__ cd_Segment_eq__ ct_Segment_eq__ : Value} {f_Segment_parts : Addr} {od_Segment_parts an_Segment_parts : Option Addr} {sl_Segment_parts : Array (Option Value)} {oc_Segment_parts kV_Segment_parts dc_Segment_parts pm_Segment_parts cd_Segment_parts ct_Segment_parts : Value} {f_l_is_integer : Addr} {od_l_is_integer an_l_is_integer : Option Addr} {sl_l_is_integer : Array (Option Value)} {oc_l_is_integer kV_l_is_integer dc_l_is_integer pm_l_is_integer cd_l_is_integer ct_l_is_integer : Value} {f_l_cell : Addr} {od_l_cell an_l_cell : Option Addr} {sl_l_cell : Array (Option Value)} {oc_l_cell kV_l_cell dc_l_cell pm_l_cell cd_l_cell ct_l_cell : Value} {f_l_row : Addr} {od_l_row an_l_row : Option Addr} {sl_l_row : Array (Option Value)} {oc_l_row kV_l_row dc_l_row pm_l_row cd_l_row ct_l_row : Value} {f_l_octets : Addr} {od_l_octets an_l_octets : Option Addr} {sl_l_octets : Array (Option Value)} {oc_l_octets kV_l_octets dc_l_octets pm_l_octets cd_l_octets ct_l_octets : Value} {f_l_wire : Addr} {od_l_wire an_l_wire : Option Addr} {sl_l_wire : Array (Option Value)} {oc_l_wire kV_l_wire dc_l_wire pm_l_wire cd_l_wire ct_l_wire : Value} {f_l_optional : Addr} {od_l_optional an_l_optional : Option Addr} {sl_l_optional : Array (Option Value)} {oc_l_optional kV_l_optional dc_l_optional pm_l_optional cd_l_optional ct_l_optional : Value} {f_l_pairs : Addr} {od_l_pairs an_l_pairs : Option Addr} {sl_l_pairs : Array (Option Value)} {oc_l_pairs kV_l_pairs dc_l_pairs pm_l_pairs cd_l_pairs ct_l_pairs : Value} {f_l_parts : Addr} {od_l_parts an_l_parts : Option Addr} {sl_l_parts : Array (Option Value)} {oc_l_parts kV_l_parts dc_l_parts pm_l_parts cd_l_parts ct_l_parts : Value} {f_l_made : Addr} {od_l_made an_l_made : Option Addr} {sl_l_made : Array (Option Value)} {oc_l_made kV_l_made dc_l_made pm_l_made cd_l_made ct_l_made : Value} {f_l_number : Addr} {od_l_number an_l_number : Option Addr} {sl_l_number : Array (Option Value)} {oc_l_number kV_l_number dc_l_number pm_l_number cd_l_number ct_l_number : Value} {f_l_pair : Addr} {od_l_pair an_l_pair : Option Addr} {sl_l_pair : Array (Option Value)} {oc_l_pair kV_l_pair dc_l_pair pm_l_pair cd_l_pair ct_l_pair : Value} {f_l_all_pairs : Addr} {od_l_all_pairs an_l_all_pairs : Option Addr} {sl_l_all_pairs : Array (Option Value)} {oc_l_all_pairs kV_l_all_pairs dc_l_all_pairs pm_l_all_pairs cd_l_all_pairs ct_l_all_pairs : Value} {f_l_flag : Addr} {od_l_flag an_l_flag : Option Addr} {sl_l_flag : Array (Option Value)} {oc_l_flag kV_l_flag dc_l_flag pm_l_flag cd_l_flag ct_l_flag : Value} {f_l_same : Addr} {od_l_same an_l_same : Option Addr} {sl_l_same : Array (Option Value)} {oc_l_same kV_l_same dc_l_same pm_l_same cd_l_same ct_l_same : Value} {f_l_other : Addr} {od_l_other an_l_other : Option Addr} {sl_l_other : Array (Option Value)} {oc_l_other kV_l_other dc_l_other pm_l_other cd_l_other ct_l_other : Value} {f_l_changed : Addr} {od_l_changed an_l_changed : Option Addr} {sl_l_changed : Array (Option Value)} {oc_l_changed kV_l_changed dc_l_changed pm_l_changed cd_l_changed ct_l_changed : Value} {f_law : Addr} {od_law an_law : Option Addr} {sl_law : Array (Option Value)} {oc_law kV_law dc_law pm_law cd_law ct_law : Value}
    (c_Segment : PySem.W.nsIn K mainGlobals "Segment" = some (some (.ref C_Segment)))
    (pg_Segment : PySem.W.plainGet K C_Segment Str.empty = true)
    (hd_Segment : PySem.W.hasDictIn K C_Segment = true)
    (po_Segment : PySem.W.plainOver K C_Segment = true)
    (sa_Segment : PySem.W.findIn K (.ref C_Segment) "__setattr__" = some (some (.builtin "object.__setattr__")))
    (mk0_Segment : PySem.W.makesIn K C_Segment = true)
    (kc_Segment : PySem.W.keepIn K (.ref C_Segment) = true)
    (ha_Segment : PySem.W.findIn K (.ref C_Segment) "__class__" = some (some (.builtin "object.__class__")))
    (hm_Segment : PySem.W.mroIn K C_Segment (.type "object") = some true)
    (hn_all : PySem.W.specialIn K (.builtin "object.__class__") "__get__" = some (some (.builtin "getset_descriptor.__get__")))
    (ht_all : PySem.W.takesIn K (.builtin "object.__class__") = some true)
    (q_Segment : PySem.W.subIn K (.type "int") (.ref C_Segment) = some false)
    (ic_Segment : PySem.W.isClsIn K C_Segment = true)
    (tc_Segment : PySem.W.typeIn K (.ref C_Segment) = some (.type "type"))
    (n_Segment_source : PySem.W.findIn K (.ref C_Segment) "source" = some none)
    (n_Segment_target : PySem.W.findIn K (.ref C_Segment) "target" = some none)
    (n_Segment_seq : PySem.W.findIn K (.ref C_Segment) "seq" = some none)
    (n_Segment_count : PySem.W.findIn K (.ref C_Segment) "count" = some none)
    (n_Segment_echo : PySem.W.findIn K (.ref C_Segment) "echo" = some none)
    (n_Segment_ack : PySem.W.findIn K (.ref C_Segment) "ack" = some none)
    (n_Segment_syn : PySem.W.findIn K (.ref C_Segment) "syn" = some none)
    (n_Segment_fin : PySem.W.findIn K (.ref C_Segment) "fin" = some none)
    (n_Segment_reset : PySem.W.findIn K (.ref C_Segment) "reset" = some none)
    (n_Segment_marked : PySem.W.findIn K (.ref C_Segment) "marked" = some none)
    (n_Segment_cut : PySem.W.findIn K (.ref C_Segment) "cut" = some none)
    (n_Segment_window : PySem.W.findIn K (.ref C_Segment) "window" = some none)
    (n_Segment_mss : PySem.W.findIn K (.ref C_Segment) "mss" = some none)
    (n_Segment_scale : PySem.W.findIn K (.ref C_Segment) "scale" = some none)
    (n_Segment_ranges_known : PySem.W.findIn K (.ref C_Segment) "ranges_known" = some none)
    (n_Segment_ranges : PySem.W.findIn K (.ref C_Segment) "ranges" = some none)
    (n_Segment_stamp : PySem.W.findIn K (.ref C_Segment) "stamp" = some none)
    (n_Segment_data : PySem.W.findIn K (.ref C_Segment) "data" = some none)
    (a_Segment_init__ : PySem.W.findIn K (.ref C_Segment) "__init__" = some (some (.ref f_Segment_init__)))
    (i_Segment_init__ : PySem.W.isFn K (.ref f_Segment_init__) = true)
    (l_Segment_init__ : K.lookup f_Segment_init__ = some ⟨oc_Segment_init__, od_Segment_init__, .func (PySem.W.fnOf "__init__" "Segment.__init__" (defArgs s_Segment_init__) (defBody s_Segment_init__) (defScope s_Segment_init__) .none (.ref kd_Segment_init__) dc_Segment_init__ pm_Segment_init__ an_Segment_init__ cd_Segment_init__ ct_Segment_init__), sl_Segment_init__⟩)
    (kw_Segment_init___echo : PySem.W.nsIn K kd_Segment_init__ "echo" = some (some .none))
    (kw_Segment_init___ack : PySem.W.nsIn K kd_Segment_init__ "ack" = some (some .none))
    (kw_Segment_init___syn : PySem.W.nsIn K kd_Segment_init__ "syn" = some (some (.bool false)))
    (kw_Segment_init___fin : PySem.W.nsIn K kd_Segment_init__ "fin" = some (some (.bool false)))
    (kw_Segment_init___reset : PySem.W.nsIn K kd_Segment_init__ "reset" = some (some (.bool false)))
    (kw_Segment_init___marked : PySem.W.nsIn K kd_Segment_init__ "marked" = some (some (.bool false)))
    (kw_Segment_init___cut : PySem.W.nsIn K kd_Segment_init__ "cut" = some (some (.bool false)))
    (kw_Segment_init___window : PySem.W.nsIn K kd_Segment_init__ "window" = some (some (.int 0 tk_Segment_init___window)))
    (kw_Segment_init___mss : PySem.W.nsIn K kd_Segment_init__ "mss" = some (some .none))
    (kw_Segment_init___scale : PySem.W.nsIn K kd_Segment_init__ "scale" = some (some .none))
    (kw_Segment_init___ranges_known : PySem.W.nsIn K kd_Segment_init__ "ranges_known" = some (some (.bool false)))
    (kw_Segment_init___ranges : PySem.W.nsIn K kd_Segment_init__ "ranges" = some (some (.ref e_Segment_init___ranges)))
    (el0_Segment_init___ranges : K.lookup e_Segment_init___ranges = some ⟨.type "tuple", eo_Segment_init___ranges, .seq #[] en_Segment_init___ranges, el_Segment_init___ranges⟩)
    (kw_Segment_init___stamp : PySem.W.nsIn K kd_Segment_init__ "stamp" = some (some .none))
    (kw_Segment_init___data : PySem.W.nsIn K kd_Segment_init__ "data" = some (some (.ref e_Segment_init___data)))
    (el0_Segment_init___data : K.lookup e_Segment_init___data = some ⟨.type "tuple", eo_Segment_init___data, .seq #[] en_Segment_init___data, el_Segment_init___data⟩)
    (cc_Segment_init__ : PySem.W.codeIn K cd_Segment_init__ "Segment.__init__" = true)
    (kk_Segment_init__ : PySem.W.keepIn K (.ref f_Segment_init__) = true)
    (a_Segment_size : PySem.W.findIn K (.ref C_Segment) "size" = some (some (.ref p0_Segment_size)))
    (pget_Segment_size : PySem.W.specialIn K (.ref p0_Segment_size) "__get__" = some (some (.builtin "property.__get__")))
    (ptak_Segment_size : PySem.W.takesIn K (.ref p0_Segment_size) = some true)
    (prec_Segment_size : PySem.W.recIn K p0_Segment_size "property" = some (.ref f_Segment_size :: pr_Segment_size))
    (l_Segment_size : K.lookup f_Segment_size = some ⟨oc_Segment_size, od_Segment_size, .func (PySem.W.fnOf "size" "Segment.size" (defArgs s_Segment_size) (defBody s_Segment_size) (defScope s_Segment_size) .none kV_Segment_size dc_Segment_size pm_Segment_size an_Segment_size cd_Segment_size ct_Segment_size), sl_Segment_size⟩)
    (cc_Segment_size : PySem.W.codeIn K cd_Segment_size "Segment.size" = true)
    (kk_Segment_size : PySem.W.keepIn K (.ref f_Segment_size) = true)
    (a_Segment_eq__ : PySem.W.findIn K (.ref C_Segment) "__eq__" = some (some (.ref f_Segment_eq__)))
    (i_Segment_eq__ : PySem.W.isFn K (.ref f_Segment_eq__) = true)
    (l_Segment_eq__ : K.lookup f_Segment_eq__ = some ⟨oc_Segment_eq__, od_Segment_eq__, .func (PySem.W.fnOf "__eq__" "Segment.__eq__" (defArgs s_Segment_eq__) (defBody s_Segment_eq__) (defScope s_Segment_eq__) .none kV_Segment_eq__ dc_Segment_eq__ pm_Segment_eq__ an_Segment_eq__ cd_Segment_eq__ ct_Segment_eq__), sl_Segment_eq__⟩)
    (cc_Segment_eq__ : PySem.W.codeIn K cd_Segment_eq__ "Segment.__eq__" = true)
    (kk_Segment_eq__ : PySem.W.keepIn K (.ref f_Segment_eq__) = true)
    (a_Segment_parts : PySem.W.findIn K (.ref C_Segment) "_parts" = some (some (.ref f_Segment_parts)))
    (i_Segment_parts : PySem.W.isFn K (.ref f_Segment_parts) = true)
    (l_Segment_parts : K.lookup f_Segment_parts = some ⟨oc_Segment_parts, od_Segment_parts, .func (PySem.W.fnOf "_parts" "Segment._parts" (defArgs s_Segment_parts) (defBody s_Segment_parts) (defScope s_Segment_parts) .none kV_Segment_parts dc_Segment_parts pm_Segment_parts an_Segment_parts cd_Segment_parts ct_Segment_parts), sl_Segment_parts⟩)
    (cc_Segment_parts : PySem.W.codeIn K cd_Segment_parts "Segment._parts" = true)
    (kk_Segment_parts : PySem.W.keepIn K (.ref f_Segment_parts) = true)
    (a_l_is_integer : PySem.W.nsIn K mainGlobals "_law_is_integer" = some (some (.ref f_l_is_integer)))
    (l_l_is_integer : K.lookup f_l_is_integer = some ⟨oc_l_is_integer, od_l_is_integer, .func (PySem.W.fnOf "_law_is_integer" "_law_is_integer" (defArgs s_l_is_integer) (defBody s_l_is_integer) (defScope s_l_is_integer) .none kV_l_is_integer dc_l_is_integer pm_l_is_integer an_l_is_integer cd_l_is_integer ct_l_is_integer), sl_l_is_integer⟩)
    (cc_l_is_integer : PySem.W.codeIn K cd_l_is_integer "_law_is_integer" = true)
    (kk_l_is_integer : PySem.W.keepIn K (.ref f_l_is_integer) = true)
    (a_l_cell : PySem.W.nsIn K mainGlobals "_law_cell" = some (some (.ref f_l_cell)))
    (l_l_cell : K.lookup f_l_cell = some ⟨oc_l_cell, od_l_cell, .func (PySem.W.fnOf "_law_cell" "_law_cell" (defArgs s_l_cell) (defBody s_l_cell) (defScope s_l_cell) .none kV_l_cell dc_l_cell pm_l_cell an_l_cell cd_l_cell ct_l_cell), sl_l_cell⟩)
    (cc_l_cell : PySem.W.codeIn K cd_l_cell "_law_cell" = true)
    (kk_l_cell : PySem.W.keepIn K (.ref f_l_cell) = true)
    (a_l_row : PySem.W.nsIn K mainGlobals "_law_row" = some (some (.ref f_l_row)))
    (l_l_row : K.lookup f_l_row = some ⟨oc_l_row, od_l_row, .func (PySem.W.fnOf "_law_row" "_law_row" (defArgs s_l_row) (defBody s_l_row) (defScope s_l_row) .none kV_l_row dc_l_row pm_l_row an_l_row cd_l_row ct_l_row), sl_l_row⟩)
    (cc_l_row : PySem.W.codeIn K cd_l_row "_law_row" = true)
    (kk_l_row : PySem.W.keepIn K (.ref f_l_row) = true)
    (a_l_octets : PySem.W.nsIn K mainGlobals "_law_octets" = some (some (.ref f_l_octets)))
    (l_l_octets : K.lookup f_l_octets = some ⟨oc_l_octets, od_l_octets, .func (PySem.W.fnOf "_law_octets" "_law_octets" (defArgs s_l_octets) (defBody s_l_octets) (defScope s_l_octets) .none kV_l_octets dc_l_octets pm_l_octets an_l_octets cd_l_octets ct_l_octets), sl_l_octets⟩)
    (cc_l_octets : PySem.W.codeIn K cd_l_octets "_law_octets" = true)
    (kk_l_octets : PySem.W.keepIn K (.ref f_l_octets) = true)
    (a_l_wire : PySem.W.nsIn K mainGlobals "_law_wire" = some (some (.ref f_l_wire)))
    (l_l_wire : K.lookup f_l_wire = some ⟨oc_l_wire, od_l_wire, .func (PySem.W.fnOf "_law_wire" "_law_wire" (defArgs s_l_wire) (defBody s_l_wire) (defScope s_l_wire) .none kV_l_wire dc_l_wire pm_l_wire an_l_wire cd_l_wire ct_l_wire), sl_l_wire⟩)
    (cc_l_wire : PySem.W.codeIn K cd_l_wire "_law_wire" = true)
    (kk_l_wire : PySem.W.keepIn K (.ref f_l_wire) = true)
    (a_l_optional : PySem.W.nsIn K mainGlobals "_law_optional" = some (some (.ref f_l_optional)))
    (l_l_optional : K.lookup f_l_optional = some ⟨oc_l_optional, od_l_optional, .func (PySem.W.fnOf "_law_optional" "_law_optional" (defArgs s_l_optional) (defBody s_l_optional) (defScope s_l_optional) .none kV_l_optional dc_l_optional pm_l_optional an_l_optional cd_l_optional ct_l_optional), sl_l_optional⟩)
    (cc_l_optional : PySem.W.codeIn K cd_l_optional "_law_optional" = true)
    (kk_l_optional : PySem.W.keepIn K (.ref f_l_optional) = true)
    (a_l_pairs : PySem.W.nsIn K mainGlobals "_law_pairs" = some (some (.ref f_l_pairs)))
    (l_l_pairs : K.lookup f_l_pairs = some ⟨oc_l_pairs, od_l_pairs, .func (PySem.W.fnOf "_law_pairs" "_law_pairs" (defArgs s_l_pairs) (defBody s_l_pairs) (defScope s_l_pairs) .none kV_l_pairs dc_l_pairs pm_l_pairs an_l_pairs cd_l_pairs ct_l_pairs), sl_l_pairs⟩)
    (cc_l_pairs : PySem.W.codeIn K cd_l_pairs "_law_pairs" = true)
    (kk_l_pairs : PySem.W.keepIn K (.ref f_l_pairs) = true)
    (a_l_parts : PySem.W.nsIn K mainGlobals "_law_parts" = some (some (.ref f_l_parts)))
    (l_l_parts : K.lookup f_l_parts = some ⟨oc_l_parts, od_l_parts, .func (PySem.W.fnOf "_law_parts" "_law_parts" (defArgs s_l_parts) (defBody s_l_parts) (defScope s_l_parts) .none kV_l_parts dc_l_parts pm_l_parts an_l_parts cd_l_parts ct_l_parts), sl_l_parts⟩)
    (cc_l_parts : PySem.W.codeIn K cd_l_parts "_law_parts" = true)
    (kk_l_parts : PySem.W.keepIn K (.ref f_l_parts) = true)
    (a_l_made : PySem.W.nsIn K mainGlobals "_law_made" = some (some (.ref f_l_made)))
    (l_l_made : K.lookup f_l_made = some ⟨oc_l_made, od_l_made, .func (PySem.W.fnOf "_law_made" "_law_made" (defArgs s_l_made) (defBody s_l_made) (defScope s_l_made) .none kV_l_made dc_l_made pm_l_made an_l_made cd_l_made ct_l_made), sl_l_made⟩)
    (cc_l_made : PySem.W.codeIn K cd_l_made "_law_made" = true)
    (kk_l_made : PySem.W.keepIn K (.ref f_l_made) = true)
    (a_l_number : PySem.W.nsIn K mainGlobals "_law_number" = some (some (.ref f_l_number)))
    (l_l_number : K.lookup f_l_number = some ⟨oc_l_number, od_l_number, .func (PySem.W.fnOf "_law_number" "_law_number" (defArgs s_l_number) (defBody s_l_number) (defScope s_l_number) .none kV_l_number dc_l_number pm_l_number an_l_number cd_l_number ct_l_number), sl_l_number⟩)
    (cc_l_number : PySem.W.codeIn K cd_l_number "_law_number" = true)
    (kk_l_number : PySem.W.keepIn K (.ref f_l_number) = true)
    (a_l_pair : PySem.W.nsIn K mainGlobals "_law_pair" = some (some (.ref f_l_pair)))
    (l_l_pair : K.lookup f_l_pair = some ⟨oc_l_pair, od_l_pair, .func (PySem.W.fnOf "_law_pair" "_law_pair" (defArgs s_l_pair) (defBody s_l_pair) (defScope s_l_pair) .none kV_l_pair dc_l_pair pm_l_pair an_l_pair cd_l_pair ct_l_pair), sl_l_pair⟩)
    (cc_l_pair : PySem.W.codeIn K cd_l_pair "_law_pair" = true)
    (kk_l_pair : PySem.W.keepIn K (.ref f_l_pair) = true)
    (a_l_all_pairs : PySem.W.nsIn K mainGlobals "_law_all_pairs" = some (some (.ref f_l_all_pairs)))
    (l_l_all_pairs : K.lookup f_l_all_pairs = some ⟨oc_l_all_pairs, od_l_all_pairs, .func (PySem.W.fnOf "_law_all_pairs" "_law_all_pairs" (defArgs s_l_all_pairs) (defBody s_l_all_pairs) (defScope s_l_all_pairs) .none kV_l_all_pairs dc_l_all_pairs pm_l_all_pairs an_l_all_pairs cd_l_all_pairs ct_l_all_pairs), sl_l_all_pairs⟩)
    (cc_l_all_pairs : PySem.W.codeIn K cd_l_all_pairs "_law_all_pairs" = true)
    (kk_l_all_pairs : PySem.W.keepIn K (.ref f_l_all_pairs) = true)
    (a_l_flag : PySem.W.nsIn K mainGlobals "_law_flag" = some (some (.ref f_l_flag)))
    (l_l_flag : K.lookup f_l_flag = some ⟨oc_l_flag, od_l_flag, .func (PySem.W.fnOf "_law_flag" "_law_flag" (defArgs s_l_flag) (defBody s_l_flag) (defScope s_l_flag) .none kV_l_flag dc_l_flag pm_l_flag an_l_flag cd_l_flag ct_l_flag), sl_l_flag⟩)
    (cc_l_flag : PySem.W.codeIn K cd_l_flag "_law_flag" = true)
    (kk_l_flag : PySem.W.keepIn K (.ref f_l_flag) = true)
    (a_l_same : PySem.W.nsIn K mainGlobals "_law_same" = some (some (.ref f_l_same)))
    (l_l_same : K.lookup f_l_same = some ⟨oc_l_same, od_l_same, .func (PySem.W.fnOf "_law_same" "_law_same" (defArgs s_l_same) (defBody s_l_same) (defScope s_l_same) .none kV_l_same dc_l_same pm_l_same an_l_same cd_l_same ct_l_same), sl_l_same⟩)
    (cc_l_same : PySem.W.codeIn K cd_l_same "_law_same" = true)
    (kk_l_same : PySem.W.keepIn K (.ref f_l_same) = true)
    (a_l_other : PySem.W.nsIn K mainGlobals "_law_other" = some (some (.ref f_l_other)))
    (l_l_other : K.lookup f_l_other = some ⟨oc_l_other, od_l_other, .func (PySem.W.fnOf "_law_other" "_law_other" (defArgs s_l_other) (defBody s_l_other) (defScope s_l_other) .none kV_l_other dc_l_other pm_l_other an_l_other cd_l_other ct_l_other), sl_l_other⟩)
    (cc_l_other : PySem.W.codeIn K cd_l_other "_law_other" = true)
    (kk_l_other : PySem.W.keepIn K (.ref f_l_other) = true)
    (a_l_changed : PySem.W.nsIn K mainGlobals "_law_changed" = some (some (.ref f_l_changed)))
    (l_l_changed : K.lookup f_l_changed = some ⟨oc_l_changed, od_l_changed, .func (PySem.W.fnOf "_law_changed" "_law_changed" (defArgs s_l_changed) (defBody s_l_changed) (defScope s_l_changed) .none kV_l_changed dc_l_changed pm_l_changed an_l_changed cd_l_changed ct_l_changed), sl_l_changed⟩)
    (cc_l_changed : PySem.W.codeIn K cd_l_changed "_law_changed" = true)
    (kk_l_changed : PySem.W.keepIn K (.ref f_l_changed) = true)
    (a_law : PySem.W.nsIn K mainGlobals "law" = some (some (.ref f_law)))
    (l_law : K.lookup f_law = some ⟨oc_law, od_law, .func (PySem.W.fnOf "law" "law" (defArgs s_law) (defBody s_law) (defScope s_law) .none kV_law dc_law pm_law an_law cd_law ct_law), sl_law⟩)
    (cc_law : PySem.W.codeIn K cd_law "law" = true)
    (kk_law : PySem.W.keepIn K (.ref f_law) = true)
    (z_bool : PySem.W.nsIn K mainGlobals "bool" = some none)
    (z_int : PySem.W.nsIn K mainGlobals "int" = some none)
    (z_isinstance : PySem.W.nsIn K mainGlobals "isinstance" = some none)
    (z_len : PySem.W.nsIn K mainGlobals "len" = some none)
    (z_list : PySem.W.nsIn K mainGlobals "list" = some none)
    (z_range : PySem.W.nsIn K mainGlobals "range" = some none)
    (z_tuple : PySem.W.nsIn K mainGlobals "tuple" = some none)
    : ∃ fd : FuncData, (∀ (s : Shared) (v : Value), BindsTo s fd ⟨[v], []⟩ [("script", v)]) ∧ ∀ base : Heap, K.In base → base.Ns mainGlobals mg → FnOk l.prog w K mg base CX0 6 fa fd ["script"] (sp_law K) := by
  have e := hfa.symm.trans (PySem.W.mg_of X G a_law)
  have e2 : f_law = fa := by
    injection e with e
    injection e with e
    exact e.symm
  subst e2
  have es_Segment_init___ranges : ∀ H : Hp, SqT K H e_Segment_init___ranges [] := fun H => .inr ⟨_, #[], _, el0_Segment_init___ranges, rfl, rfl, (by show 0 ≤ sizeLine; decide), .nil⟩
  have es_Segment_init___data : ∀ H : Hp, SqT K H e_Segment_init___data [] := fun H => .inr ⟨_, #[], _, el0_Segment_init___data, rfl, rfl, (by show 0 ≤ sizeLine; decide), .nil⟩
  have F_Segment_init__ : FunD K "__init__" "Segment.__init__" (defArgs s_Segment_init__) (defBody s_Segment_init__) (defScope s_Segment_init__) [] [("echo", .non), ("ack", .non), ("syn", .bl false), ("fin", .bl false), ("reset", .bl false), ("marked", .bl false), ("cut", .bl false), ("window", .int 0), ("mss", .non), ("scale", .non), ("ranges_known", .bl false), ("ranges", .ref e_Segment_init___ranges), ("stamp", .non), ("data", .ref e_Segment_init___data)] f_Segment_init__ _ := ⟨⟨_, _, _, _, _, _, _, _, _, _, rfl, l_Segment_init__, cc_Segment_init__, .inl ⟨rfl, rfl⟩, .inr ⟨kd_Segment_init__, rfl, fun q hq => by
      simp only [List.mem_cons, List.not_mem_nil, or_false] at hq
      rcases hq with rfl | rfl | rfl | rfl | rfl | rfl | rfl | rfl | rfl | rfl | rfl | rfl | rfl | rfl
      · exact ⟨_, kw_Segment_init___echo, by first | exact rfl | exact ⟨_, rfl⟩⟩
      · exact ⟨_, kw_Segment_init___ack, by first | exact rfl | exact ⟨_, rfl⟩⟩
      · exact ⟨_, kw_Segment_init___syn, by first | exact rfl | exact ⟨_, rfl⟩⟩
      · exact ⟨_, kw_Segment_init___fin, by first | exact rfl | exact ⟨_, rfl⟩⟩
      · exact ⟨_, kw_Segment_init___reset, by first | exact rfl | exact ⟨_, rfl⟩⟩
      · exact ⟨_, kw_Segment_init___marked, by first | exact rfl | exact ⟨_, rfl⟩⟩
      · exact ⟨_, kw_Segment_init___cut, by first | exact rfl | exact ⟨_, rfl⟩⟩
      · exact ⟨_, kw_Segment_init___window, by first | exact rfl | exact ⟨_, rfl⟩⟩
      · exact ⟨_, kw_Segment_init___mss, by first | exact rfl | exact ⟨_, rfl⟩⟩
      · exact ⟨_, kw_Segment_init___scale, by first | exact rfl | exact ⟨_, rfl⟩⟩
      · exact ⟨_, kw_Segment_init___ranges_known, by first | exact rfl | exact ⟨_, rfl⟩⟩
      · exact ⟨_, kw_Segment_init___ranges, by first | exact rfl | exact ⟨_, rfl⟩⟩
      · exact ⟨_, kw_Segment_init___stamp, by first | exact rfl | exact ⟨_, rfl⟩⟩
      · exact ⟨_, kw_Segment_init___data, by first | exact rfl | exact ⟨_, rfl⟩⟩⟩⟩, kk_Segment_init__⟩
  have F_Segment_size := fun_mk (st := s_Segment_size) l_Segment_size cc_Segment_size kk_Segment_size
  have b_Segment_size := F_Segment_size.binds (ps := ["self"]) fun _ _ _ _ _ _ us hl => match us, hl with | [_], _ => rfl
  have F_Segment_eq__ := fun_mk (st := s_Segment_eq__) l_Segment_eq__ cc_Segment_eq__ kk_Segment_eq__
  have b_Segment_eq__ := F_Segment_eq__.binds (ps := ["self", "other"]) fun _ _ _ _ _ _ us hl => match us, hl with | [_, _], _ => rfl
  have F_Segment_parts := fun_mk (st := s_Segment_parts) l_Segment_parts cc_Segment_parts kk_Segment_parts
  have b_Segment_parts := F_Segment_parts.binds (ps := ["self"]) fun _ _ _ _ _ _ us hl => match us, hl with | [_], _ => rfl
  have F_l_is_integer := fun_mk (st := s_l_is_integer) l_l_is_integer cc_l_is_integer kk_l_is_integer
  have b_l_is_integer := F_l_is_integer.binds (ps := ["actual"]) fun _ _ _ _ _ _ us hl => match us, hl with | [_], _ => rfl
  have F_l_cell := fun_mk (st := s_l_cell) l_l_cell cc_l_cell kk_l_cell
  have b_l_cell := F_l_cell.binds (ps := ["script", "k"]) fun _ _ _ _ _ _ us hl => match us, hl with | [_, _], _ => rfl
  have F_l_row := fun_mk (st := s_l_row) l_l_row cc_l_row kk_l_row
  have b_l_row := F_l_row.binds (ps := ["cell", "size", "base"]) fun _ _ _ _ _ _ us hl => match us, hl with | [_, _, _], _ => rfl
  have F_l_octets := fun_mk (st := s_l_octets) l_l_octets cc_l_octets kk_l_octets
  have b_l_octets := F_l_octets.binds (ps := ["actual", "expected"]) fun _ _ _ _ _ _ us hl => match us, hl with | [_, _], _ => rfl
  have F_l_wire := fun_mk (st := s_l_wire) l_l_wire cc_l_wire kk_l_wire
  have b_l_wire := F_l_wire.binds (ps := ["cell"]) fun _ _ _ _ _ _ us hl => match us, hl with | [_], _ => rfl
  have F_l_optional := fun_mk (st := s_l_optional) l_l_optional cc_l_optional kk_l_optional
  have b_l_optional := F_l_optional.binds (ps := ["cell", "worth"]) fun _ _ _ _ _ _ us hl => match us, hl with | [_, _], _ => rfl
  have F_l_pairs := fun_mk (st := s_l_pairs) l_l_pairs cc_l_pairs kk_l_pairs
  have b_l_pairs := F_l_pairs.binds (ps := ["cell", "size"]) fun _ _ _ _ _ _ us hl => match us, hl with | [_, _], _ => rfl
  have F_l_parts := fun_mk (st := s_l_parts) l_l_parts cc_l_parts kk_l_parts
  have b_l_parts := F_l_parts.binds (ps := ["script", "at"]) fun _ _ _ _ _ _ us hl => match us, hl with | [_, _], _ => rfl
  have F_l_made := fun_mk (st := s_l_made) l_l_made cc_l_made kk_l_made
  have b_l_made := F_l_made.binds (ps := ["parts"]) fun _ _ _ _ _ _ us hl => match us, hl with | [_], _ => rfl
  have F_l_number := fun_mk (st := s_l_number) l_l_number cc_l_number kk_l_number
  have b_l_number := F_l_number.binds (ps := ["actual", "expected"]) fun _ _ _ _ _ _ us hl => match us, hl with | [_, _], _ => rfl
  have F_l_pair := fun_mk (st := s_l_pair) l_l_pair cc_l_pair kk_l_pair
  have b_l_pair := F_l_pair.binds (ps := ["actual", "expected"]) fun _ _ _ _ _ _ us hl => match us, hl with | [_, _], _ => rfl
  have F_l_all_pairs := fun_mk (st := s_l_all_pairs) l_l_all_pairs cc_l_all_pairs kk_l_all_pairs
  have b_l_all_pairs := F_l_all_pairs.binds (ps := ["actual", "expected"]) fun _ _ _ _ _ _ us hl => match us, hl with | [_, _], _ => rfl
  have F_l_flag := fun_mk (st := s_l_flag) l_l_flag cc_l_flag kk_l_flag
  have b_l_flag := F_l_flag.binds (ps := ["actual", "expected"]) fun _ _ _ _ _ _ us hl => match us, hl with | [_, _], _ => rfl
  have F_l_same := fun_mk (st := s_l_same) l_l_same cc_l_same kk_l_same
  have b_l_same := F_l_same.binds (ps := ["actual", "parts"]) fun _ _ _ _ _ _ us hl => match us, hl with | [_, _], _ => rfl
  have F_l_other := fun_mk (st := s_l_other) l_l_other cc_l_other kk_l_other
  have b_l_other := F_l_other.binds (ps := ["value"]) fun _ _ _ _ _ _ us hl => match us, hl with | [_], _ => rfl
  have F_l_changed := fun_mk (st := s_l_changed) l_l_changed cc_l_changed kk_l_changed
  have b_l_changed := F_l_changed.binds (ps := ["parts", "choice"]) fun _ _ _ _ _ _ us hl => match us, hl with | [_, _], _ => rfl
  have F_law := fun_mk (st := s_law) l_law cc_law kk_law
  have b_law := F_law.binds (ps := ["script"]) fun _ _ _ _ _ _ us hl => match us, hl with | [_], _ => rfl
  let T : Txt K mg := { C_Segment := C_Segment, f_Segment_init__ := f_Segment_init__, d_Segment_init__ := _, e_Segment_init___ranges := e_Segment_init___ranges, e_Segment_init___data := e_Segment_init___data, f_Segment_size := f_Segment_size, d_Segment_size := _, p0_Segment_size := p0_Segment_size, f_Segment_eq__ := f_Segment_eq__, d_Segment_eq__ := _, f_Segment_parts := f_Segment_parts, d_Segment_parts := _, f_l_is_integer := f_l_is_integer, d_l_is_integer := _, f_l_cell := f_l_cell, d_l_cell := _, f_l_row := f_l_row, d_l_row := _, f_l_octets := f_l_octets, d_l_octets := _, f_l_wire := f_l_wire, d_l_wire := _, f_l_optional := f_l_optional, d_l_optional := _, f_l_pairs := f_l_pairs, d_l_pairs := _, f_l_parts := f_l_parts, d_l_parts := _, f_l_made := f_l_made, d_l_made := _, f_l_number := f_l_number, d_l_number := _, f_l_pair := f_l_pair, d_l_pair := _, f_l_all_pairs := f_l_all_pairs, d_l_all_pairs := _, f_l_flag := f_l_flag, d_l_flag := _, f_l_same := f_l_same, d_l_same := _, f_l_other := f_l_other, d_l_other := _, f_l_changed := f_l_changed, d_l_changed := _, f_law := f_law, d_law := _, c_Segment := PySem.W.mg_of X G c_Segment, k_Segment := ⟨pg_Segment, hd_Segment, po_Segment, sa_Segment⟩, i_Segment := fun e => .ins e ⟨pg_Segment, hd_Segment, po_Segment, sa_Segment⟩ ha_Segment hn_all ht_all hm_Segment, q_Segment := q_Segment, ki_Segment := kit_own ic_Segment tc_Segment q_Segment, n_Segment_source := n_Segment_source, n_Segment_target := n_Segment_target, n_Segment_seq := n_Segment_seq, n_Segment_count := n_Segment_count, n_Segment_echo := n_Segment_echo, n_Segment_ack := n_Segment_ack, n_Segment_syn := n_Segment_syn, n_Segment_fin := n_Segment_fin, n_Segment_reset := n_Segment_reset, n_Segment_marked := n_Segment_marked, n_Segment_cut := n_Segment_cut, n_Segment_window := n_Segment_window, n_Segment_mss := n_Segment_mss, n_Segment_scale := n_Segment_scale, n_Segment_ranges_known := n_Segment_ranges_known, n_Segment_ranges := n_Segment_ranges, n_Segment_stamp := n_Segment_stamp, n_Segment_data := n_Segment_data, es_Segment_init___ranges := es_Segment_init___ranges, es_Segment_init___data := es_Segment_init___data, F_Segment_init__ := F_Segment_init__, mk_Segment := ⟨mk0_Segment, a_Segment_init__, i_Segment_init__, kc_Segment⟩, F_Segment_size := F_Segment_size, b_Segment_size := b_Segment_size, p_Segment_size := ⟨a_Segment_size, pget_Segment_size, ptak_Segment_size, _, prec_Segment_size⟩, F_Segment_eq__ := F_Segment_eq__, b_Segment_eq__ := b_Segment_eq__, a_Segment_eq__ := ⟨a_Segment_eq__, i_Segment_eq__, kk_Segment_eq__⟩, F_Segment_parts := F_Segment_parts, b_Segment_parts := b_Segment_parts, a_Segment_parts := ⟨a_Segment_parts, i_Segment_parts, kk_Segment_parts⟩, F_l_is_integer := F_l_is_integer, b_l_is_integer := b_l_is_integer, m_l_is_integer := PySem.W.mg_of X G a_l_is_integer, F_l_cell := F_l_cell, b_l_cell := b_l_cell, m_l_cell := PySem.W.mg_of X G a_l_cell, F_l_row := F_l_row, b_l_row := b_l_row, m_l_row := PySem.W.mg_of X G a_l_row, F_l_octets := F_l_octets, b_l_octets := b_l_octets, m_l_octets := PySem.W.mg_of X G a_l_octets, F_l_wire := F_l_wire, b_l_wire := b_l_wire, m_l_wire := PySem.W.mg_of X G a_l_wire, F_l_optional := F_l_optional, b_l_optional := b_l_optional, m_l_optional := PySem.W.mg_of X G a_l_optional, F_l_pairs := F_l_pairs, b_l_pairs := b_l_pairs, m_l_pairs := PySem.W.mg_of X G a_l_pairs, F_l_parts := F_l_parts, b_l_parts := b_l_parts, m_l_parts := PySem.W.mg_of X G a_l_parts, F_l_made := F_l_made, b_l_made := b_l_made, m_l_made := PySem.W.mg_of X G a_l_made, F_l_number := F_l_number, b_l_number := b_l_number, m_l_number := PySem.W.mg_of X G a_l_number, F_l_pair := F_l_pair, b_l_pair := b_l_pair, m_l_pair := PySem.W.mg_of X G a_l_pair, F_l_all_pairs := F_l_all_pairs, b_l_all_pairs := b_l_all_pairs, m_l_all_pairs := PySem.W.mg_of X G a_l_all_pairs, F_l_flag := F_l_flag, b_l_flag := b_l_flag, m_l_flag := PySem.W.mg_of X G a_l_flag, F_l_same := F_l_same, b_l_same := b_l_same, m_l_same := PySem.W.mg_of X G a_l_same, F_l_other := F_l_other, b_l_other := b_l_other, m_l_other := PySem.W.mg_of X G a_l_other, F_l_changed := F_l_changed, b_l_changed := b_l_changed, m_l_changed := PySem.W.mg_of X G a_l_changed, F_law := F_law, b_law := b_law, m_law := PySem.W.mg_of X G a_law, n_bool := PySem.W.mg_none_of X G z_bool, n_int := PySem.W.mg_none_of X G z_int, n_isinstance := PySem.W.mg_none_of X G z_isinstance, n_len := PySem.W.mg_none_of X G z_len, n_list := PySem.W.mg_none_of X G z_list, n_range := PySem.W.mg_none_of X G z_range, n_tuple := PySem.W.mg_none_of X G z_tuple }
  exact ⟨PySem.W.fnOf "law" "law" (defArgs s_law) (defBody s_law) (defScope s_law) .none kV_law dc_law pm_law an_law cd_law ct_law, fun s v => .of_eq rfl, fun base _ _ => ok_law T⟩
theorem walk {l : PySem.W.OpenLaw} {q : Program} {loose : List Str} {XP : (Str → Option Value) → Heap → Prop} {YP : World → Heap → Prop} {d : DefRec} {K : Params → PySem.W.Frag} (hn : l.most = some 63) (hdf : d.params.defaults = [])
    (hY : ∀ (w : World) (h : Heap), YP w h → (K w.params).In h)
    (F : ∀ (w : World) (mg : Str → Option Value) (fa : Addr) (h : Heap), (K w.params).In h → h.Ns mainGlobals mg → mg d.name = some (.ref fa) →
      ∃ fd : FuncData, (∀ (s : Shared) (u : Value), BindsTo s fd ⟨[u], []⟩ [("script", u)]) ∧ ∀ base : Heap, (K w.params).In base → base.Ns mainGlobals mg → FnOk l.prog w (K w.params) mg base CX0 6 fa fd ["script"] (sp_law (K w.params))) :
    PySem.W.WalkO q loose XP YP l.row.toRowW d [] (fun f vs => PySem.call f vs) :=
  L2.walk_of (n := 63) (k := 6) (x := "script") (CX := fun _ => CX0) (sp := fun w => sp_law (K w.params)) hn (by decide) hdf ⟨rfl, by decide, by decide⟩ hY F (fun _ _ a ns hl _ hS => ⟨a, ns, rfl, hS, hl, fun _ => rfl⟩) fun _ _ _ _ _ z => z
end My
open PySem PySem.W PyProof.Rows
set_option maxRecDepth 100000 in
set_option maxHeartbeats 0 in
theorem PySem.Challenge.cw_throughline_k05_segments_holds : PySem.Challenge.rw_throughline_k05_segments.Holds := by
  w_on; o_law; k_head; (case hw => w_witness2)
  k_fill
  refine My.walk (l := PySem.Challenge.rw_throughline_k05_segments) rfl rfl (fun w h Y => PySem.W.kIn_of Y) ?F
  case F =>
    intro w mg fa h KX G hmg
    refine' My.all_mk KX G hmg ?c_Segment ?pg_Segment ?hd_Segment ?po_Segment ?sa_Segment ?mk0_Segment ?kc_Segment ?ha_Segment ?hm_Segment ?hn_all ?ht_all ?q_Segment ?ic_Segment ?tc_Segment ?n_Segment_source ?n_Segment_target ?n_Segment_seq ?n_Segment_count ?n_Segment_echo ?n_Segment_ack ?n_Segment_syn ?n_Segment_fin ?n_Segment_reset ?n_Segment_marked ?n_Segment_cut ?n_Segment_window ?n_Segment_mss ?n_Segment_scale ?n_Segment_ranges_known ?n_Segment_ranges ?n_Segment_stamp ?n_Segment_data ?a_Segment_init__ ?i_Segment_init__ ?l_Segment_init__ ?kw_Segment_init___echo ?kw_Segment_init___ack ?kw_Segment_init___syn ?kw_Segment_init___fin ?kw_Segment_init___reset ?kw_Segment_init___marked ?kw_Segment_init___cut ?kw_Segment_init___window ?kw_Segment_init___mss ?kw_Segment_init___scale ?kw_Segment_init___ranges_known ?kw_Segment_init___ranges ?el0_Segment_init___ranges ?kw_Segment_init___stamp ?kw_Segment_init___data ?el0_Segment_init___data ?cc_Segment_init__ ?kk_Segment_init__ ?a_Segment_size ?pget_Segment_size ?ptak_Segment_size ?prec_Segment_size ?l_Segment_size ?cc_Segment_size ?kk_Segment_size ?a_Segment_eq__ ?i_Segment_eq__ ?l_Segment_eq__ ?cc_Segment_eq__ ?kk_Segment_eq__ ?a_Segment_parts ?i_Segment_parts ?l_Segment_parts ?cc_Segment_parts ?kk_Segment_parts ?a_l_is_integer ?l_l_is_integer ?cc_l_is_integer ?kk_l_is_integer ?a_l_cell ?l_l_cell ?cc_l_cell ?kk_l_cell ?a_l_row ?l_l_row ?cc_l_row ?kk_l_row ?a_l_octets ?l_l_octets ?cc_l_octets ?kk_l_octets ?a_l_wire ?l_l_wire ?cc_l_wire ?kk_l_wire ?a_l_optional ?l_l_optional ?cc_l_optional ?kk_l_optional ?a_l_pairs ?l_l_pairs ?cc_l_pairs ?kk_l_pairs ?a_l_parts ?l_l_parts ?cc_l_parts ?kk_l_parts ?a_l_made ?l_l_made ?cc_l_made ?kk_l_made ?a_l_number ?l_l_number ?cc_l_number ?kk_l_number ?a_l_pair ?l_l_pair ?cc_l_pair ?kk_l_pair ?a_l_all_pairs ?l_l_all_pairs ?cc_l_all_pairs ?kk_l_all_pairs ?a_l_flag ?l_l_flag ?cc_l_flag ?kk_l_flag ?a_l_same ?l_l_same ?cc_l_same ?kk_l_same ?a_l_other ?l_l_other ?cc_l_other ?kk_l_other ?a_l_changed ?l_l_changed ?cc_l_changed ?kk_l_changed ?a_law ?l_law ?cc_law ?kk_law ?z_bool ?z_int ?z_isinstance ?z_len ?z_list ?z_range ?z_tuple
    (case c_Segment => k_is)
    (case pg_Segment => k_is)
    (case hd_Segment => k_is)
    (case po_Segment => k_is)
    (case sa_Segment => k_is)
    (case mk0_Segment => k_is)
    (case kc_Segment => k_is)
    (case ha_Segment => k_is)
    (case hm_Segment => k_is)
    (case hn_all => k_is)
    (case ht_all => k_is)
    (case q_Segment => k_is)
    (case ic_Segment => k_is)
    (case tc_Segment => k_is)
    (case n_Segment_source => k_is)
    (case n_Segment_target => k_is)
    (case n_Segment_seq => k_is)
    (case n_Segment_count => k_is)
    (case n_Segment_echo => k_is)
    (case n_Segment_ack => k_is)
    (case n_Segment_syn => k_is)
    (case n_Segment_fin => k_is)
    (case n_Segment_reset => k_is)
    (case n_Segment_marked => k_is)
    (case n_Segment_cut => k_is)
    (case n_Segment_window => k_is)
    (case n_Segment_mss => k_is)
    (case n_Segment_scale => k_is)
    (case n_Segment_ranges_known => k_is)
    (case n_Segment_ranges => k_is)
    (case n_Segment_stamp => k_is)
    (case n_Segment_data => k_is)
    (case a_Segment_init__ => k_is)
    (case i_Segment_init__ => k_is)
    (case l_Segment_init__ => k_is)
    (case kw_Segment_init___echo => k_is)
    (case kw_Segment_init___ack => k_is)
    (case kw_Segment_init___syn => k_is)
    (case kw_Segment_init___fin => k_is)
    (case kw_Segment_init___reset => k_is)
    (case kw_Segment_init___marked => k_is)
    (case kw_Segment_init___cut => k_is)
    (case kw_Segment_init___window => k_is)
    (case kw_Segment_init___mss => k_is)
    (case kw_Segment_init___scale => k_is)
    (case kw_Segment_init___ranges_known => k_is)
    (case kw_Segment_init___ranges => k_is)
    (case el0_Segment_init___ranges => k_is)
    (case kw_Segment_init___stamp => k_is)
    (case kw_Segment_init___data => k_is)
    (case el0_Segment_init___data => k_is)
    (case cc_Segment_init__ => k_is)
    (case kk_Segment_init__ => k_is)
    (case a_Segment_size => k_is)
    (case pget_Segment_size => k_is)
    (case ptak_Segment_size => k_is)
    (case prec_Segment_size => k_is)
    (case l_Segment_size => k_is)
    (case cc_Segment_size => k_is)
    (case kk_Segment_size => k_is)
    (case a_Segment_eq__ => k_is)
    (case i_Segment_eq__ => k_is)
    (case l_Segment_eq__ => k_is)
    (case cc_Segment_eq__ => k_is)
    (case kk_Segment_eq__ => k_is)
    (case a_Segment_parts => k_is)
    (case i_Segment_parts => k_is)
    (case l_Segment_parts => k_is)
    (case cc_Segment_parts => k_is)
    (case kk_Segment_parts => k_is)
    (case a_l_is_integer => k_is)
    (case l_l_is_integer => k_is)
    (case cc_l_is_integer => k_is)
    (case kk_l_is_integer => k_is)
    (case a_l_cell => k_is)
    (case l_l_cell => k_is)
    (case cc_l_cell => k_is)
    (case kk_l_cell => k_is)
    (case a_l_row => k_is)
    (case l_l_row => k_is)
    (case cc_l_row => k_is)
    (case kk_l_row => k_is)
    (case a_l_octets => k_is)
    (case l_l_octets => k_is)
    (case cc_l_octets => k_is)
    (case kk_l_octets => k_is)
    (case a_l_wire => k_is)
    (case l_l_wire => k_is)
    (case cc_l_wire => k_is)
    (case kk_l_wire => k_is)
    (case a_l_optional => k_is)
    (case l_l_optional => k_is)
    (case cc_l_optional => k_is)
    (case kk_l_optional => k_is)
    (case a_l_pairs => k_is)
    (case l_l_pairs => k_is)
    (case cc_l_pairs => k_is)
    (case kk_l_pairs => k_is)
    (case a_l_parts => k_is)
    (case l_l_parts => k_is)
    (case cc_l_parts => k_is)
    (case kk_l_parts => k_is)
    (case a_l_made => k_is)
    (case l_l_made => k_is)
    (case cc_l_made => k_is)
    (case kk_l_made => k_is)
    (case a_l_number => k_is)
    (case l_l_number => k_is)
    (case cc_l_number => k_is)
    (case kk_l_number => k_is)
    (case a_l_pair => k_is)
    (case l_l_pair => k_is)
    (case cc_l_pair => k_is)
    (case kk_l_pair => k_is)
    (case a_l_all_pairs => k_is)
    (case l_l_all_pairs => k_is)
    (case cc_l_all_pairs => k_is)
    (case kk_l_all_pairs => k_is)
    (case a_l_flag => k_is)
    (case l_l_flag => k_is)
    (case cc_l_flag => k_is)
    (case kk_l_flag => k_is)
    (case a_l_same => k_is)
    (case l_l_same => k_is)
    (case cc_l_same => k_is)
    (case kk_l_same => k_is)
    (case a_l_other => k_is)
    (case l_l_other => k_is)
    (case cc_l_other => k_is)
    (case kk_l_other => k_is)
    (case a_l_changed => k_is)
    (case l_l_changed => k_is)
    (case cc_l_changed => k_is)
    (case kk_l_changed => k_is)
    (case a_law => k_is)
    (case l_law => k_is)
    (case cc_law => k_is)
    (case kk_law => k_is)
    (case z_bool => k_is)
    (case z_int => k_is)
    (case z_isinstance => k_is)
    (case z_len => k_is)
    (case z_list => k_is)
    (case z_range => k_is)
    (case z_tuple => k_is)
#print axioms PySem.Challenge.cw_throughline_k05_segments_holds

