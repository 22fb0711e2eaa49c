import PyProof.Rows.All
import Wide.All
import OpenK.AllK
import Wide.FinOn
import HandS.ForMost
import HandS.IsInst
import HandS.Wide
import HandS.Style
import HandS.Conv
import HandS.RevRange
import HandS.Walk
import HandS.Property
import HandS.Star
import HandS.Codes
import HandS.TupAny
import PyProof.Rows.StrIntSpec
import HandS.ForExc
import HandS.Small
import HandS.RaiseMore
import HandS.FStr
import HandS.ExcIs
import HandS.WrittenGet
import HandS.More
import HandS.Text
import HandS.IntHex
import PySem.Challenge.RW_throughline_k02_hexadecimal_texts
set_option Elab.async false
set_option linter.all false
set_option maxRecDepth 100000
set_option maxHeartbeats 4000000
namespace My
open PySem PySem.Spec L2
/-! ### readings, one rule a construct -/
section
variable {K : PySem.W.Frag} {σ : St} {H : Hp} {Q : VK} {v x y z : V} {ta tb te tc : TE} {tt tu : TT} {r : R2} {D : Ends} {ts us : TS} {P : Bool → Hp → Prop} {i j : Int}
theorem g_var {i : Nat} (h : σ[i]? = some (some v)) (q : Q v H) : tVar i σ H Q := ⟨v, h, q⟩
theorem g_c (q : Q v H) : tC v σ H Q := q
theorem g_op (h : ta σ H fun x H1 => tb σ H1 fun y H2 => r x y H2 Q) : tOp r ta tb σ H Q := h
theorem g_un {r : V → Hp → VK → Prop} (h : ta σ H fun x H1 => r x H1 Q) : tUn r ta σ H Q := h
theorem g_rI0 {g : Int → Int → V} (q : Q (g i j) H) : rI0 g (.int i) (.int j) H Q := ⟨i, j, rfl, rfl, q⟩
theorem g_rI {C : Int → Int → Prop} {g : Int → Int → V} (c : C i j) (q : Q (g i j) H) : rI C g (.int i) (.int j) H Q := ⟨i, j, rfl, rfl, c, q⟩
theorem g_rU {g : Int → V} (q : Q (g i) H) : rU g (.int i) H Q := ⟨i, rfl, q⟩
theorem g_rEqI (q : Q (.bl (decide (i = j))) H) : rEq (.int i) (.int j) H Q := ⟨rfl, by rw [dec_int]; exact q⟩
theorem g_rNeI (q : Q (.bl (!decide (i = j))) H) : rNe (.int i) (.int j) H Q := ⟨rfl, by rw [dec_int]; exact q⟩
theorem g_rEq (s : scal x y = true) (q : Q (.bl (decide (x = y))) H) : rEq x y H Q := ⟨s, q⟩
theorem g_rNe (s : scal x y = true) (q : Q (.bl (!decide (x = y))) H) : rNe x y H Q := ⟨s, q⟩
theorem g_isN {A : Prop} (q : A) : V.non = V.non ∧ A := ⟨rfl, q⟩
theorem g_rIsB {a b : Bool} (q : Q (.bl (decide (a = b))) H) : rIsB (.bl a) (.bl b) H Q := ⟨a, b, rfl, rfl, q⟩
theorem g_rNotB {a b : Bool} (q : Q (.bl (!decide (a = b))) H) : rNotB (.bl a) (.bl b) H Q := ⟨a, b, rfl, rfl, q⟩
theorem g_test {t : TE} (h : t σ H fun x H' => ∃ k, x = .bl k ∧ P k H') : tTest t σ H P := h
theorem g_B {t : TE} (h : t σ H fun x H' => ∃ k, x = .bl k ∧ P k H') : tB t σ H P := h
theorem g_bl {b : Bool} {A : Bool → Prop} (q : A b) : ∃ k, V.bl b = .bl k ∧ A k := ⟨b, rfl, q⟩
theorem g_and (h : tt σ H fun c H1 => if c = true then tu σ H1 P else P false H1) : tAnd tt tu σ H P := h
theorem g_or (h : tt σ H fun c H1 => if c = true then P true H1 else tu σ H1 P) : tOr tt tu σ H P := h
theorem g_not (h : tt σ H fun c H1 => P (!c) H1) : tNot tt σ H P := h
theorem g_andV (h : ta σ H fun x H1 => ∃ c, x = .bl c ∧ if c = true then tb σ H1 Q else Q (.bl false) H1) : tAndV ta tb σ H Q := h
theorem g_orV (h : ta σ H fun x H1 => ∃ c, x = .bl c ∧ if c = true then Q (.bl true) H1 else tb σ H1 Q) : tOrV ta tb σ H Q := h
theorem g_notV (h : ta σ H fun x H1 => ∃ c, x = .bl c ∧ Q (.bl (!c)) H1) : tNotV ta σ H Q := h
theorem g_if (h : tt σ H fun c H1 => if c = true then ta σ H1 Q else tb σ H1 Q) : tIf tt ta tb σ H Q := h
theorem g_chain {r' : R2} (h : ta σ H fun x H1 => tb σ H1 fun y H2 => r x y H2 fun z H3 => ∃ k, z = .bl k ∧ (if k = true then tc σ H3 fun w' H4 => r' y w' H4 Q else Q (.bl false) H3)) : tChain r r' ta tb tc σ H Q := h
theorem g_nil {A : List V → Hp → Prop} (q : A [] H) : tNil σ H A := q
theorem g_cons {tr : TA} {A : List V → Hp → Prop} (h : ta σ H fun x H1 => tr σ H1 fun xs H2 => A (x :: xs) H2) : tCons ta tr σ H A := h
theorem g_tup {t : TA} (h : t σ H fun xs H1 => xs.length ≤ sizeLine ∧ ∀ p, H1 p = none → Q (.ref p) (upd H1 p (.tup xs))) : tTup t σ H Q := h
theorem g_lst {t : TA} (h : t σ H fun xs H1 => xs.length ≤ sizeLine ∧ ∀ p, H1 p = none → Q (.ref p) (upd H1 p (.lst xs))) : tLst t σ H Q := h
theorem g_call {sp : Sp} {dvs : List V} {E : XK} {t : TA} (h : t σ H fun vs H1 => sp (vs ++ dvs) H1 Q E) : tCall sp dvs E t σ H Q := h
theorem g_CB {r : List V → Hp → VK → Prop} {t : TA} (h : t σ H fun vs H1 => r vs H1 Q) : tCB r t σ H Q := h
theorem g_sl {r : V → Option Int → Option Int → Hp → VK → Prop} {tl th : TO} (h : te σ H fun x H1 => tl σ H1 fun l H2 => th σ H2 fun u H3 => r x l u H3 Q) : tSl r te tl th σ H Q := h
theorem g_noPart {A : Option Int → Hp → Prop} (q : A none H) : tNoPart σ H A := q
theorem g_part {A : Option Int → Hp → Prop} (h : te σ H fun x H1 => ∃ i, x = .int i ∧ A (some i) H1) : tPart te σ H A := h
theorem g_intE {A : Int → Prop} (q : A i) : ∃ k, V.int i = .int k ∧ A k := ⟨i, rfl, q⟩
theorem g_seq (h : ts { D with nx := us D } σ H) : tSeq ts us D σ H := h
theorem g_next (q : D.nx σ H) : tNext D σ H := q
theorem g_brk (q : D.bk σ H) : tBreak D σ H := q
theorem g_ct (q : D.ct σ H) : tCont D σ H := q
theorem g_asg {g : TG} (h : te σ H fun x H1 => g x σ H1 D.nx) : tAsg te g D σ H := h
theorem g_name {i : Nat} {A : St → Hp → Prop} (q : A (σ.set i (some v)) H) : gName i v σ H A := q
theorem g_aug {i : Nat} {ti : TIp} (h : σ[i]? = some (some x)) (q : te σ H fun y H1 => ti x y H1 fun z H2 => D.nx (σ.set i (some z)) H2) : tAug i te ti D σ H := ⟨x, h, q⟩
theorem g_ipI {f : Int → Int → Int} (q : Q (.int (f i j)) H) : ipI f (.int i) (.int j) H Q := ⟨i, j, rfl, rfl, q⟩
theorem g_drop (h : te σ H fun _ H1 => D.nx σ H1) : tDrop te D σ H := h
theorem g_ret (h : te σ H D.rt) : tRet te D σ H := h
theorem g_retN (q : D.rt .non H) : tRetN D σ H := q
theorem g_ifS (h : tt σ H fun b H1 => if b = true then ts D σ H1 else us D σ H1) : tIfS tt ts us D σ H := h
theorem g_for {wi : TI} {g : TG} {tb : TS} (h : wi σ H fun J H1 => ∃ W : Nat → Nat → St → Hp → Prop, (∃ m, W 0 m σ H1) ∧ ∀ i m σ H, W i m σ H →
    (J.stop i H ∧ D.nx σ H) ∨ (J.go i H ∧ ∃ N : St → Hp → Prop, (∀ σ' H', N σ' H' → ∃ m', m' < m ∧ W (i + 1) m' σ' H') ∧ ∀ x H', J.yld i H x H' → g x σ H' fun σ2 H2 => tb { D with nx := N, ct := N, bk := D.nx } σ2 H2)) : tFor wi g tb D σ H := h
theorem g_iT {c : Bool} {A B : Prop} (e : c = true) (h : A) : if c = true then A else B := by rw [if_pos e]; exact h
theorem g_iF {c : Bool} {A B : Prop} (e : c = false) (h : B) : if c = true then A else B := by rw [e]; exact iteF h
theorem g_ite {p A B : Prop} [Decidable p] (h1 : p → A) (h2 : ¬ p → B) : if decide p = true then A else B := by
  by_cases h : p
  · rw [decide_eq_true h]; exact iteT (h1 h)
  · rw [decide_eq_false h]; exact iteF (h2 h)
theorem g_iteN {p A B : Prop} [Decidable p] (h1 : ¬ p → A) (h2 : p → B) : if (!decide p) = true then A else B := by
  by_cases h : p
  · rw [decide_eq_true h]; exact iteF (h2 h)
  · rw [decide_eq_false h]; exact iteT (h1 h)
theorem g_iteB {b : Bool} {A B : Prop} (h1 : b = true → A) (h2 : b = false → B) : if b = true then A else B := by
  cases b with
  | true => exact iteT (h1 rfl)
  | false => exact iteF (h2 rfl)
theorem g_iteNB {b : Bool} {A B : Prop} (h1 : b = false → A) (h2 : b = true → B) : if (!b) = true then A else B := by
  cases b with
  | true => exact iteF (h2 rfl)
  | false => exact iteT (h1 rfl)
/-! calls of built-ins, by values -/
theorem g_int1 {A : Int → Prop} {B : Bool → Prop} (q : A i) : (∃ i', [V.int i] = [V.int i'] ∧ A i') ∨ ∃ k, [V.int i] = [V.bl k] ∧ B k := .inl ⟨i, rfl, q⟩
theorem g_int1B {b : Bool} {A : Int → Prop} {B : Bool → Prop} (q : B b) : (∃ i', [V.bl b] = [V.int i'] ∧ A i') ∨ ∃ k, [V.bl b] = [V.bl k] ∧ B k := .inr ⟨b, rfl, q⟩
theorem g_one {A : Int → Prop} (q : A i) : ∃ i', [V.int i] = [V.int i'] ∧ A i' := ⟨i, rfl, q⟩
theorem g_two {A : Int → Int → Prop} (q : A i j) : ∃ i' j', [V.int i, V.int j] = [V.int i', V.int j'] ∧ A i' j' := ⟨i, j, rfl, q⟩
theorem g_isi {c : V} {t u : Value} {b : Bool} (hc : ClsV c u) (ht : TyX K H x t) (e : PySem.W.kitOne K t u = some b) (q : Q (.bl b) H) : rIsi K [x, c] H Q := ⟨x, c, t, u, b, rfl, hc, ht, e, q⟩
theorem g_isiI (q : Q (.bl true) H) : rIsi K [.int i, .ty "int"] H Q := g_isi (.ty _) (.base (.int _)) (kit_ty (by decide +kernel)) q
theorem g_isiB {b : Bool} (q : Q (.bl true) H) : rIsi K [.bl b, .ty "bool"] H Q := g_isi (.ty _) (.base (.bl _)) (kit_ty (by decide +kernel)) q
theorem g_isiIB (q : Q (.bl false) H) : rIsi K [.int i, .ty "bool"] H Q := g_isi (.ty _) (.base (.int _)) (kit_ty (by decide +kernel)) q
theorem g_isiL {p : Addr} {xs : List V} (h : H p = some (.lst xs)) (q : Q (.bl true) H) : rIsi K [.ref p, .ty "list"] H Q := g_isi (.ty _) (.base (.lst h)) (kit_ty (by decide +kernel)) q
theorem g_isiU {p : Addr} {xs : List V} (h : H p = some (.tup xs)) (q : Q (.bl true) H) : rIsi K [.ref p, .ty "tuple"] H Q := g_isi (.ty _) (.base (.tup h)) (kit_ty (by decide +kernel)) q
theorem g_ixL {p : Addr} {xs : List V} (h : SqL K H p xs) (e : atI xs i = some v) (q : Q v H) : rIxL K (.ref p) (.int i) H Q := ⟨p, xs, i, v, rfl, rfl, h, e, q⟩
theorem g_ixT {p : Addr} {xs : List V} (h : SqT K H p xs) (e : atI xs i = some v) (q : Q v H) : rIxT K (.ref p) (.int i) H Q := ⟨p, xs, i, v, rfl, rfl, h, e, q⟩
theorem g_append {p : Addr} {xs : List V} (h : H p = some (.lst xs)) (l : xs.length < sizeLine) (q : Q .non (upd H p (.lst (xs ++ [y])))) : rAppend (.ref p) [y] H Q := ⟨p, xs, y, rfl, rfl, h, l, q⟩
theorem g_BM {T : String} {r : V → List V → Hp → VK → Prop} {t : TA} (h : te σ H fun x H1 => tyV K T x H1 ∧ t σ H1 fun xs H2 => r x xs H2 Q) : tBM K T r te t σ H Q := h
theorem g_BM0 {T : String} {r : V → List V → Hp → VK → Prop} (h : te σ H fun x H1 => tyV K T x H1 ∧ r x [] H1 Q) : tBM0 K T r te σ H Q := h
theorem ty_l {p : Addr} {xs : List V} (h : H p = some (.lst xs)) : tyV K "list" (.ref p) H := Or.inl ⟨rfl, _, Or.inl (Or.inl h)⟩
theorem g_setL {p : Addr} {xs : List V} {k : Int} {j : Nat} {A : Hp → Prop} (h : H p = some (.lst xs)) (e : ixN xs.length k = some j) (q : A (upd H p (.lst (xs.set j v)))) : rSetL (.ref p) (.int k) v H A := ⟨p, xs, k, j, rfl, rfl, h, e, q⟩
theorem g_sub {to ti : TE} {t : TSet} {A : St → Hp → Prop} (h : to σ H fun o H1 => ti σ H1 fun i H2 => t o i v H2 fun H3 => A σ H3) : gSub to ti t v σ H A := h
theorem g_len {p : Addr} {xs : List V} {A : Addr → List V → Prop} (h : SqL K H p xs ∨ SqT K H p xs) (q : A p xs) : ∃ p' ys, [V.ref p] = [V.ref p'] ∧ (SqL K H p' ys ∨ SqT K H p' ys) ∧ A p' ys := ⟨p, xs, rfl, h, q⟩
theorem g_slL {p : Addr} {xs : List V} {lo hi : Option Int} (h : SqL K H p xs) (q : ∀ l, H l = none → Q (.ref l) (upd H l (.lst (cutV xs lo hi)))) : rSlL K (.ref p) lo hi H Q := ⟨p, xs, rfl, h, q⟩
theorem g_cat {p q : Addr} {xs ys : List V} (h : H p = some (.lst xs)) (h2 : H q = some (.lst ys)) (l : xs.length + ys.length ≤ sizeLine) (k : ∀ l, H l = none → Q (.ref l) (upd H l (.lst (xs ++ ys)))) : rCat (.ref p) (.ref q) H Q := ⟨p, q, xs, ys, rfl, rfl, h, h2, l, k⟩
end
/-! ### heaps -/
theorem same_upd {H : Hp} {p : Addr} {o : HO} (h : H p = none) : Same H (upd H p o) := fun b x e => by
  rw [upd_ne (ne_of_none e h)]
  exact e
theorem sm {H H' : Hp} {p : Addr} {o : HO} (s : Same H H') (h : H p = some o) : H' p = some o := s p o h
theorem sq_upd {K : PySem.W.Frag} {H : Hp} {p a : Addr} {o : HO} {xs : List V} (n : H p = none) (h : SqL K H a xs) : SqL K (upd H p o) a xs := (same_upd n).seq h
theorem sl {K : PySem.W.Frag} {H : Hp} {a : Addr} {xs : List V} (h : H a = some (.lst xs)) : SqL K H a xs := Or.inl (Or.inl h)
theorem st {K : PySem.W.Frag} {H : Hp} {a : Addr} {xs : List V} (h : H a = some (.tup xs)) : SqT K H a xs := Or.inl (Or.inl h)
theorem Same.sqt {K : PySem.W.Frag} {H H' : Hp} {a : Addr} {xs : List V} (e : Same H H') (h : SqT K H a xs) : SqT K H' a xs := by
  rcases h with (h | ⟨o, h⟩) | h
  · exact .inl (.inl (e _ _ h))
  · exact .inl (.inr ⟨o, e _ _ h⟩)
  · exact .inr h
theorem upd_keep {H : Hp} {p b : Addr} {o o' : HO} (n : H p = none) (h : H b = some o') : upd H p o b = some o' := (same_upd n) b o' h
theorem ne_new {H : Hp} {p b : Addr} {o : HO} (h : H b = some o) (n : H p = none) : b ≠ p := ne_of_none h n
/-- H' is H but at p -/
def But (p : Addr) (H H' : Hp) : Prop := ∀ b o, b ≠ p → H b = some o → H' b = some o
theorem But.refl {p : Addr} {H : Hp} : But p H H := fun _ _ _ h => h
theorem But.of {p : Addr} {H H' : Hp} (s : Same H H') : But p H H' := fun b o _ h => s b o h
theorem But.trans {p : Addr} {H H1 H2 : Hp} (a : But p H H1) (b : But p H1 H2) : But p H H2 := fun c o n h => b c o n (a c o n h)
theorem But.upd {p : Addr} {H H' : Hp} {o : HO} (a : But p H H') : But p H (upd H' p o) := fun b o n h => by rw [upd_ne n]; exact a b o n h
theorem But.same {p : Addr} {H H' : Hp} (a : But p H H') (n : H p = none) : Same H H' := fun b o h => a b o (ne_of_none h n) h
theorem But.tr2 {p : Addr} {H H1 H2 : Hp} (s : Same H H1) (n : H p = none) (a : But p H1 H2) : Same H H2 := fun b o h => a b o (ne_of_none h n) (s b o h)
/-! ### numbers -/
theorem cdivW {a b : Int} (h : 0 < b) (h2 : b < 2 ^ 8000) : CDivW a b := by
  refine ⟨h, ?_⟩
  have e : b.natAbs < 2 ^ 8000 := by
    have : ((b.natAbs : Nat) : Int) < ((2 ^ 8000 : Nat) : Int) := by
      rw [Int.natAbs_of_nonneg (Int.le_of_lt h)]
      exact_mod_cast h2
    exact_mod_cast this
  by_cases z : b.natAbs = 0
  · rw [z]; decide
  · exact Nat.lt_of_lt_of_le (Nat.log2_lt z |>.mpr e) (by decide)
theorem sz {n : Nat} (h : n ≤ 100000) : n ≤ sizeLine := Nat.le_trans h (by decide)
theorem szl {n : Nat} (h : n < 100000) : n < sizeLine := Nat.lt_of_lt_of_le h (by decide)
/-! ### loops -/
theorem for_l {K : PySem.W.Frag} {tl : TE} {g : TG} {tb : TS} {D : Ends} {σ : St} {H : Hp} {a : Addr} {xs : List V} (Pv : Nat → St → Hp → Prop) (hs : SqL K H a xs) (h0 : Pv 0 σ H) (hl : ∀ i σ H, i ≤ xs.length → Pv i σ H → SqL K H a xs)
    (turn : ∀ i x σ H, xs[i]? = some x → Pv i σ H → g x σ H fun σ2 H2 => tb { D with nx := Pv (i + 1), ct := Pv (i + 1), bk := D.nx } σ2 H2) (hd : ∀ σ H, Pv xs.length σ H → D.nx σ H) (e : ∀ R : V → Hp → Prop, R (.ref a) H → tl σ H R) : tFor (iList K tl) g tb D σ H := by
  refine g_for ?_
  refine e _ ⟨a, rfl, ⟨_, hs⟩, ?_⟩
  exact for_list (xs := xs) Pv h0 hl turn hd
theorem for_r {ta : TA} {g : TG} {tb : TS} {D : Ends} {σ : St} {H : Hp} {n : Int} (N : Nat) (en : n.toNat = N) (b1 : -(2 ^ 62) ≤ n) (b2 : n < 2 ^ 62) (Pv : Nat → St → Hp → Prop) (h0 : Pv 0 σ H)
    (turn : ∀ (i : Nat) σ H, i < N → Pv i σ H → g (.int (i : Int)) σ H fun σ2 H2 => tb { D with nx := Pv (i + 1), ct := Pv (i + 1), bk := D.nx } σ2 H2) (hd : ∀ σ H, Pv N σ H → D.nx σ H) (e : ∀ R : List V → Hp → Prop, R [.int n] H → ta σ H R) : tFor (iRng1 ta) g tb D σ H := by
  subst en
  refine g_for ?_
  refine e _ ⟨n, rfl, b1, b2, ?_⟩
  refine for_range (lo := 0) Pv h0 (fun i σ H hi p => ?_) hd
  have z := turn i σ H hi p
  rw [Int.zero_add]
  exact z
theorem g_nx {nx : St → Hp → Prop} {rt : VK} {bk ct : St → Hp → Prop} {σ : St} {H : Hp} (q : nx σ H) : (Ends.mk nx rt bk ct).nx σ H := q
theorem g_bkE {nx : St → Hp → Prop} {rt : VK} {bk ct : St → Hp → Prop} {σ : St} {H : Hp} (q : bk σ H) : (Ends.mk nx rt bk ct).bk σ H := q
theorem g_ctE {nx : St → Hp → Prop} {rt : VK} {bk ct : St → Hp → Prop} {σ : St} {H : Hp} (q : ct σ H) : (Ends.mk nx rt bk ct).ct σ H := q
theorem g_rt {nx : St → Hp → Prop} {rt : VK} {bk ct : St → Hp → Prop} {v : V} {H : Hp} (q : rt v H) : (Ends.mk nx rt bk ct).rt v H := q
/-- a cell of the script -/
def cell (ns : List Int) (k : Int) : Int := ns.getD k.toNat 0
theorem atI_map {ns : List Int} {k : Int} (h0 : 0 ≤ k) (h : k < (ns.length : Int)) : atI (ns.map V.int) k = some (.int (cell ns k)) := by
  have e : k = ((k.toNat : Nat) : Int) := by omega
  have hl : k.toNat < ns.length := by omega
  have e2 : cell ns k = ns[k.toNat] := by
    unfold cell
    rw [List.getD_eq_getElem?_getD, List.getElem?_eq_getElem hl]; rfl
  rw [e2]
  refine at_of e ?_
  rw [List.getElem?_map, List.getElem?_eq_getElem hl]; rfl
theorem cell_out {ns : List Int} {k : Int} (h : ¬ k < (ns.length : Int)) : cell ns k = 0 := by
  unfold cell
  rw [List.getD_eq_getElem?_getD, List.getElem?_eq_none (by omega)]; rfl
theorem atI_some {xs : List V} {i : Int} (h0 : 0 ≤ i) (h : i < (xs.length : Int)) : ∃ v, xs[i.toNat]? = some v ∧ atI xs i = some v := by
  have hl : i.toNat < xs.length := by omega
  exact ⟨xs[i.toNat], List.getElem?_eq_getElem hl, at_of (by omega) (List.getElem?_eq_getElem hl)⟩
theorem atI_ints {xs : List Int} {i : Int} (h0 : 0 ≤ i) (h : i < (xs.length : Int)) : ∃ n, atI (xs.map V.int) i = some (.int n) ∧ xs[i.toNat]? = some n := by
  have hl : i.toNat < xs.length := by omega
  refine ⟨xs[i.toNat], at_of (j := i.toNat) (by omega) ?_, List.getElem?_eq_getElem hl⟩
  rw [List.getElem?_map, List.getElem?_eq_getElem hl]; rfl
theorem g_dT {p A B : Prop} [Decidable p] (h : p) (q : A) : if decide p = true then A else B := by rw [decide_eq_true h]; exact iteT q
theorem g_dF {p A B : Prop} [Decidable p] (h : ¬ p) (q : B) : if decide p = true then A else B := by rw [decide_eq_false h]; exact iteF q
theorem g_nT {p A B : Prop} [Decidable p] (h : ¬ p) (q : A) : if (!decide p) = true then A else B := by rw [decide_eq_false h]; exact iteT q
theorem g_nF {p A B : Prop} [Decidable p] (h : p) (q : B) : if (!decide p) = true then A else B := by rw [decide_eq_true h]; exact iteF q
/-! ### comprehensions: the list ys, value by value -/
theorem g_yes {σ : St} {H : Hp} {P : Bool → Hp → Prop} (q : P true H) : tYes σ H P := q
theorem g_lc {wi : TI} {g : TG} {tt : TT} {te : TE} {vs : List Nat} {σ : St} {H : Hp} {Q : VK} (h : wi σ H fun J H1 => ∀ D, H1 D = none → ∃ W : Nat → Nat → Hp → Prop, (∃ m, W 0 m (upd H1 D (.lst []))) ∧ ∀ i m H, W i m H →
  (J.stop i H ∧ Q (.ref D) H) ∨ (J.go i H ∧ ∃ Nx : Hp → Prop, (∀ H', Nx H' → ∃ m', m' < m ∧ W (i + 1) m' H') ∧ ∀ x H', J.yld i H x H' → g x (wipe σ vs) H' fun σ2 H2 => wipe σ2 vs = wipe σ vs ∧ tt σ2 H2 fun b H3 =>
    if b = true then te σ2 H3 fun y H4 => ∃ acc, H4 D = some (.lst acc) ∧ acc.length < sizeLine ∧ Nx (upd H4 D (.lst (acc ++ [y]))) else Nx H3)) : tLc wi g tt te vs σ H Q := h
theorem g_revR {ta : TE} {σ : St} {H : Hp} {R : It → Hp → Prop} (h : ta σ H fun x H1 => ∃ n : Int, x = .int n ∧ -(2 ^ 62) ≤ (0 : Int) ∧ (0 : Int) < 2 ^ 62 ∧ -(2 ^ 62) ≤ n ∧ n < 2 ^ 62 ∧ R (Itc (0 + (((n - 0).toNat : Nat) : Int) - 1) (-1) (n - 0).toNat) H1) : iRevR (tRg1 ta) σ H R := h
theorem g_rng1 {ta : TA} {σ : St} {H : Hp} {R : It → Hp → Prop} (h : ta σ H fun vs H1 => ∃ j : Int, vs = [.int j] ∧ -(2 ^ 62) ≤ j ∧ j < 2 ^ 62 ∧ R (Itr 0 j.toNat) H1) : iRng1 ta σ H R := h
theorem g_iList {K : PySem.W.Frag} {tl : TE} {σ : St} {H : Hp} {R : It → Hp → Prop} (h : tl σ H fun x H1 => ∃ a, x = .ref a ∧ (∃ xs, SqL K H1 a xs) ∧ R (Itl K a) H1) : iList K tl σ H R := h
def LcP (H1 : Hp) (D : Addr) (ys : List V) (i : Nat) (H : Hp) : Prop := Same H1 H ∧ H D = some (.lst (ys.take i))
theorem lc_vals {J : It} {n : Nat} {G : Hp → Prop} {Y : Nat → Hp → V → Hp → Prop} (w : Walk J n G Y) (ys : List V) {g : TG} {tt : TT} {te : TE} {vs : List Nat} {σ : St} {H1 : Hp} {D : Addr} {Qd : Hp → Prop} (hD : H1 D = none) (hlen : ys.length = n) (hG : ∀ H, Same H1 H → G H)
    (hs : ∀ i x H H', i < n → LcP H1 D ys i H → Y i H x H' → g x (wipe σ vs) H' fun σ2 H2 => wipe σ2 vs = wipe σ vs ∧ tt σ2 H2 fun b H3 =>
      if b = true then te σ2 H3 fun y H4 => ∃ acc, H4 D = some (.lst acc) ∧ acc.length < sizeLine ∧ LcP H1 D ys (i + 1) (upd H4 D (.lst (acc ++ [y]))) else LcP H1 D ys (i + 1) H3)
    (hd : ∀ H, Same H1 H → H D = some (.lst ys) → Qd H) :
    ∃ W : Nat → Nat → Hp → Prop, (∃ m, W 0 m (upd H1 D (.lst []))) ∧ ∀ i m H, W i m H →
      (J.stop i H ∧ Qd H) ∨ (J.go i H ∧ ∃ Nx : Hp → Prop, (∀ H', Nx H' → ∃ m', m' < m ∧ W (i + 1) m' H') ∧ ∀ x H', J.yld i H x H' → g x (wipe σ vs) H' fun σ2 H2 => wipe σ2 vs = wipe σ vs ∧ tt σ2 H2 fun b H3 =>
        if b = true then te σ2 H3 fun y H4 => ∃ acc, H4 D = some (.lst acc) ∧ acc.length < sizeLine ∧ Nx (upd H4 D (.lst (acc ++ [y]))) else Nx H3) := by
  refine lc_it w (LcP H1 D ys) ⟨same_upd hD, by rw [upd_same]; rfl⟩ (fun i H _ p => hG H p.1) hs (fun H p => hd H p.1 ?_)
  have e := p.2
  rw [← hlen, List.take_length] at e
  exact e
theorem lc_next {H1 H4 : Hp} {D : Addr} {ys : List V} {i : Nat} {y : V} (hD : H1 D = none) (p : LcP H1 D ys i H4) (hz : ys.length ≤ 100000) (hy : ys[i]? = some y) :
    ∃ acc, H4 D = some (.lst acc) ∧ acc.length < sizeLine ∧ LcP H1 D ys (i + 1) (upd H4 D (.lst (acc ++ [y]))) := by
  refine ⟨_, p.2, ?_, ?_, ?_⟩
  · rw [List.length_take]
    obtain ⟨h, _⟩ := List.getElem?_eq_some_iff.mp hy
    exact szl (by omega)
  · exact (But.of p.1).upd.same hD
  · rw [upd_same, List.take_add_one, hy]
    rfl
theorem LcP.same {H1 H4 H5 : Hp} {D : Addr} {ys : List V} {i : Nat} (p : LcP H1 D ys i H4) (s : Same H4 H5) : LcP H1 D ys i H5 := ⟨p.1.trans s, s _ _ p.2⟩
theorem map_get {α : Type} {f : α → V} {xs : List α} {i : Nat} {y : V} (h : (xs.map f)[i]? = some y) : ∃ z, xs[i]? = some z ∧ y = f z := by
  rw [List.getElem?_map] at h
  cases e : xs[i]? with
  | none => rw [e] at h; cases h
  | some z => rw [e] at h; exact ⟨z, rfl, (Option.some.inj h).symm⟩
/-! ### == of lists of ints -/
section
variable {K : PySem.W.Frag} {H : Hp} {Q : VK}
theorem dpAll_ints : ∀ {ns : List Int}, DpAll K H (ns.map V.int) (ns.map PyData.int)
  | [] => .nil
  | n :: _ => .cons (.int n) dpAll_ints
theorem lay_ints : ∀ {ns : List Int}, PyData.canLayAll0 (ns.map PyData.int) = true
  | [] => rfl
  | _ :: ns => by
    show (true && PyData.canLayAll0 (ns.map PyData.int)) = true
    rw [lay_ints]; rfl
theorem depth_ints : ∀ {ns : List Int}, PyData.depthAll (ns.map PyData.int) = 0
  | [] => rfl
  | _ :: ns => by
    show max 0 (PyData.depthAll (ns.map PyData.int)) = 0
    rw [depth_ints]; rfl
theorem shaped_ints {ns : List Int} : SeqAt.shaped (.list (ns.map PyData.int)) = true := by
  show (PyData.canLayAll0 (ns.map PyData.int) && decide (PyData.depthAll (ns.map PyData.int) + 1 ≤ 64)) = true
  rw [lay_ints, depth_ints]; rfl
theorem eqvAll_ints : ∀ {ns ms : List Int}, PyData.eqvAll (ns.map PyData.int) (ms.map PyData.int) = decide (ns = ms)
  | [], [] => rfl
  | [], _ :: _ => rfl
  | _ :: _, [] => rfl
  | n :: ns, m :: ms => by
    show ((n == m) && PyData.eqvAll (ns.map PyData.int) (ms.map PyData.int)) = decide (n :: ns = m :: ms)
    rw [eqvAll_ints, Bool.eq_iff_iff]
    simp
theorem dp_ints {a : Addr} {ns : List Int} (h : SqL K H a (ns.map V.int)) : Dp K H (.ref a) (.list (ns.map PyData.int)) := .lst h dpAll_ints
theorem g_eqL {a b : Addr} {ns ms : List Int} (h1 : SqL K H a (ns.map V.int)) (h2 : SqL K H b (ms.map V.int)) (q : Q (.bl (decide (ns = ms))) H) : rEqD K (.ref a) (.ref b) H Q :=
  ⟨_, _, dp_ints h1, dp_ints h2, shaped_ints, shaped_ints, by rw [show PyData.eqv (.list (ns.map PyData.int)) (.list (ms.map PyData.int)) = decide (ns = ms) from eqvAll_ints]; exact q⟩
theorem g_neL {a b : Addr} {ns ms : List Int} (h1 : SqL K H a (ns.map V.int)) (h2 : SqL K H b (ms.map V.int)) (q : Q (.bl (!decide (ns = ms))) H) : rNeD K (.ref a) (.ref b) H Q :=
  ⟨_, _, dp_ints h1, dp_ints h2, shaped_ints, shaped_ints, by rw [show PyData.eqv (.list (ns.map PyData.int)) (.list (ms.map PyData.int)) = decide (ns = ms) from eqvAll_ints]; exact q⟩
theorem g_sum {a : Addr} {ns : List Int} (h : SqL K H a (ns.map V.int)) (q : Q (.int ns.sum) H) : rSum K [.ref a] H Q := ⟨a, ns, rfl, h, q⟩
end
theorem ixN_nat {n : Nat} {k : Int} (h0 : 0 ≤ k) (h : k < (n : Int)) : ixN n k = some k.toNat := by
  unfold ixN
  rw [if_pos h0, if_pos h]
theorem g_ref {a : Addr} {A : Addr → Prop} (q : A a) : ∃ b, V.ref a = .ref b ∧ A b := ⟨a, rfl, q⟩
/-! ### objects: the attributes by their places -/
def obj : List Str → List V → List (Str × V)
  | k :: ks, v :: vs => (k, v) :: obj ks vs
  | _, _ => []
theorem obj_len : ∀ (ks : List Str) (vs : List V), (obj ks vs).length ≤ ks.length
  | [], _ => Nat.zero_le _
  | _ :: _, [] => Nat.zero_le _
  | _ :: ks, _ :: vs => Nat.succ_le_succ (obj_len ks vs)
theorem obj_get : ∀ {ks : List Str} {vs : List V} {i : Nat} {k : Str}, ks.Nodup → ks[i]? = some k → (obj ks vs).lookup k = vs[i]?
  | [], _, _, _, _, h => by cases h
  | k0 :: ks, [], i, k, _, _ => by simp [obj]
  | k0 :: ks, v :: vs, 0, k, _, h => by
    have e : k0 = k := Option.some.inj h
    subst e
    simp [obj]
  | k0 :: ks, v :: vs, i + 1, k, nd, h => by
    have nd' := List.nodup_cons.mp nd
    have hk : k ∈ ks := List.mem_of_getElem? h
    have ne : (k == k0) = false := by
      rw [beq_eq_false_iff_ne]
      intro e
      subst e
      exact nd'.1 hk
    show List.lookup k ((k0, v) :: obj ks vs) = vs[i]?
    rw [List.lookup_cons, ne]
    exact obj_get nd'.2 h
theorem obj_none : ∀ {ks : List Str} {vs : List V} {k : Str}, k ∉ ks → (obj ks vs).lookup k = none
  | [], _, _, _ => rfl
  | _ :: _, [], _, _ => rfl
  | k0 :: ks, v :: vs, k, h => by
    have ne : (k == k0) = false := by
      rw [beq_eq_false_iff_ne]
      intro e
      subst e
      exact h (List.mem_cons_self ..)
    show List.lookup k ((k0, v) :: obj ks vs) = none
    rw [List.lookup_cons, ne]
    exact obj_none fun z => h (List.mem_cons_of_mem _ z)
theorem obj_put : ∀ {ks : List Str} {vs : List V} {i : Nat} {k : Str} {y : V}, ks.Nodup → ks[i]? = some k → i < vs.length → putF k y (obj ks vs) = obj ks (vs.set i y)
  | [], _, _, _, _, _, h, _ => by cases h
  | _ :: _, [], _, _, _, _, _, h => by simp at h
  | k0 :: ks, v :: vs, 0, k, y, _, h, _ => by
    have e : k0 = k := Option.some.inj h
    subst e
    show (if k0 = k0 then _ else _) = _
    rw [if_pos rfl]
    rfl
  | k0 :: ks, v :: vs, i + 1, k, y, nd, h, hl => by
    have nd' := List.nodup_cons.mp nd
    have hk : k ∈ ks := List.mem_of_getElem? h
    have ne : ¬ k0 = k := by
      intro e
      subst e
      exact nd'.1 hk
    show (if k0 = k then _ else (k0, v) :: putF k y (obj ks vs)) = (k0, v) :: obj ks (vs.set i y)
    rw [if_neg ne, obj_put nd'.2 h (by simpa using hl)]
theorem obj_new : ∀ {ks : List Str} {vs : List V} {k : Str} {y : V}, ks.Nodup → ks[vs.length]? = some k → putF k y (obj ks vs) = obj ks (vs ++ [y])
  | [], _, _, _, _, h => by simp at h
  | k0 :: ks, [], k, y, _, h => by
    have e : k0 = k := Option.some.inj h
    subst e
    show [(k0, y)] = obj (k0 :: ks) [y]
    cases ks <;> rfl
  | k0 :: ks, v :: vs, k, y, nd, h => by
    have nd' := List.nodup_cons.mp nd
    have h' : ks[vs.length]? = some k := h
    have hk : k ∈ ks := List.mem_of_getElem? h'
    have ne : ¬ k0 = k := by
      intro e
      subst e
      exact nd'.1 hk
    show (if k0 = k then _ else (k0, v) :: putF k y (obj ks vs)) = (k0, v) :: obj ks (vs ++ [y])
    rw [if_neg ne, obj_new nd'.2 h']
section
variable {K : PySem.W.Frag} {σ : St} {H : Hp} {Q : VK} {v y : V} {ta tv : TE} {D : Ends} {f m : Str} {a C dx : Addr} {ks : List Str} {vs : List V} {i : Nat}
theorem g_fld (h : ta σ H fun x H1 => ∃ a C dx fs v, x = .ref a ∧ H1 a = some (.ins C dx fs) ∧ Cls K C ∧ NoAttr K C f ∧ fs.lookup f = some v ∧ Q v H1) : tFld K ta f σ H Q := h
theorem g_fldE {A : V → Prop} (ho : H a = some (.ins C dx (obj ks vs))) (c : Cls K C) (n : NoAttr K C f) (nd : ks.Nodup) (hk : ks[i]? = some f) (hv : vs[i]? = some v) (q : A v) :
    ∃ a' C' dx' fs v', V.ref a = .ref a' ∧ H a' = some (.ins C' dx' fs) ∧ Cls K C' ∧ NoAttr K C' f ∧ fs.lookup f = some v' ∧ A v' := ⟨a, C, dx, _, v, rfl, ho, c, n, (obj_get nd hk).trans hv, q⟩
theorem g_sfld (h : tv σ H fun y H1 => ta σ H1 fun x H2 => ∃ a C dx fs, x = .ref a ∧ H2 a = some (.ins C dx fs) ∧ Cls K C ∧ NoAttr K C f ∧ fs.length < 1000 ∧ D.nx σ (upd H2 a (.ins C dx (putF f y fs)))) : sFld K ta tv f D σ H := h
theorem g_putE {A : Hp → Prop} (ho : H a = some (.ins C dx (obj ks vs))) (c : Cls K C) (n : NoAttr K C f) (nd : ks.Nodup) (h1 : ks.length < 1000) (hk : ks[i]? = some f) (hv : i < vs.length) (q : A (upd H a (.ins C dx (obj ks (vs.set i y))))) :
    ∃ a' C' dx' fs, V.ref a = .ref a' ∧ H a' = some (.ins C' dx' fs) ∧ Cls K C' ∧ NoAttr K C' f ∧ fs.length < 1000 ∧ A (upd H a' (.ins C' dx' (putF f y fs))) :=
  ⟨a, C, dx, _, rfl, ho, c, n, Nat.lt_of_le_of_lt (obj_len ks vs) h1, by rw [obj_put nd hk hv]; exact q⟩
theorem g_newE {A : Hp → Prop} (ho : H a = some (.ins C dx (obj ks vs))) (c : Cls K C) (n : NoAttr K C f) (nd : ks.Nodup) (h1 : ks.length < 1000) (hk : ks[vs.length]? = some f) (q : A (upd H a (.ins C dx (obj ks (vs ++ [y]))))) :
    ∃ a' C' dx' fs, V.ref a = .ref a' ∧ H a' = some (.ins C' dx' fs) ∧ Cls K C' ∧ NoAttr K C' f ∧ fs.length < 1000 ∧ A (upd H a' (.ins C' dx' (putF f y fs))) :=
  ⟨a, C, dx, _, rfl, ho, c, n, Nat.lt_of_le_of_lt (obj_len ks vs) h1, by rw [obj_new nd hk]; exact q⟩
theorem g_meth {sp : Sp} {dvs : List V} {E : XK} {t : TA} (h : ta σ H fun x H1 => ∃ a dx fs, x = .ref a ∧ H1 a = some (.ins C dx fs) ∧ fs.lookup m = none ∧ t σ H1 fun vs H2 => sp (x :: (vs ++ dvs)) H2 Q E) : tMeth C m sp dvs E ta t σ H Q := h
theorem g_methE {A : Prop} (ho : H a = some (.ins C dx (obj ks vs))) (no : m ∉ ks) (q : A) : ∃ a' dx' fs, V.ref a = .ref a' ∧ H a' = some (.ins C dx' fs) ∧ fs.lookup m = none ∧ A := ⟨a, dx, _, rfl, ho, obj_none no, q⟩
theorem g_make {sp : Sp} {dvs : List V} {E : XK} {t : TA} (h : t σ H fun vs H1 => ∀ x dx, H1 x = none → H1 dx = none → dx ≠ x → sp (.ref x :: (vs ++ dvs)) (upd (upd H1 dx (.own x)) x (.ins C dx [])) (fun v H2 => v = .non ∧ Q (.ref x) H2) E) : tMake C sp dvs E t σ H Q := h
theorem g_prop {sp : Sp} {dvs : List V} {E : XK} (h : ta σ H fun x H1 => ∃ a dx fs, x = .ref a ∧ H1 a = some (.ins C dx fs) ∧ sp (.ref a :: dvs) H1 Q E) : tProp C sp dvs E ta σ H Q := h
theorem g_propE {A : Addr → Prop} (ho : H a = some (.ins C dx (obj ks vs))) (q : A a) : ∃ a' dx' fs, V.ref a = .ref a' ∧ H a' = some (.ins C dx' fs) ∧ A a' := ⟨a, dx, _, rfl, ho, q⟩
theorem g_absE {A : Int → Prop} {n : Int} (q : A n) : ∃ i, [V.int n] = [V.int i] ∧ A i := ⟨n, rfl, q⟩
end
/-- a slice of ints -/
theorem cut_ints (ns : List Int) (lo hi : Option Int) : ∃ ms : List Int, cutV (ns.map V.int) lo hi = ms.map V.int ∧ ms.length ≤ ns.length := by
  unfold cutV
  refine ⟨(ns.drop (HT.sIx (ns.map V.int).length 0 lo)).take (HT.sIx (ns.map V.int).length (ns.map V.int).length hi - HT.sIx (ns.map V.int).length 0 lo), ?_, ?_⟩
  · rw [List.map_take, List.map_drop]
  · rw [List.length_take, List.length_drop]
    omega
theorem g_nameE {i : Nat} {v : V} {σ σ' : St} {H : Hp} {A : St → Hp → Prop} (e : σ.set i (some v) = σ') (q : A σ' H) : gName i v σ H A := by
  subst e
  exact q
theorem but_sq {K : PySem.W.Frag} {p : Addr} {H H' : Hp} {a : Addr} {xs : List V} (e : But p H H') (n : a ≠ p) (h : SqL K H a xs) : SqL K H' a xs := by
  rcases h with (h | ⟨o, h⟩) | h
  · exact .inl (.inl (e _ _ n h))
  · exact .inl (.inr ⟨o, e _ _ n h⟩)
  · exact .inr h
theorem g_star {K : PySem.W.Frag} {te : TE} {t : TA} {σ : St} {H : Hp} {Q : List V → Hp → Prop} (h : te σ H fun x H1 => ∃ p xs, x = V.ref p ∧ (SqT K H1 p xs ∨ SqL K H1 p xs) ∧ t σ H1 fun ys H2 => Q (xs ++ ys) H2) : StX.tStar K te t σ H Q := h
theorem g_while {c : TT} {tb : TS} {D : Ends} {σ : St} {H : Hp} (W : Nat → St → Hp → Prop) (h0 : ∃ m, W m σ H) (h : ∀ m σ H, W m σ H → c σ H fun b H1 => if b = true then ∃ N : St → Hp → Prop, (∀ σ' H', N σ' H' → ∃ m', m' < m ∧ W m' σ' H') ∧ tb { D with nx := N, ct := N, bk := D.nx } σ H1 else D.nx σ H1) : tWhile c tb D σ H := ⟨W, h0, h⟩
theorem g_cut {t u : TS} {D : Ends} {σ : St} {H : Hp} (Mid : St → Hp → Prop) (h1 : t { D with nx := Mid } σ H) (h2 : ∀ σ' H', Mid σ' H' → u D σ' H') : C8.tCut t u D σ H := ⟨Mid, h1, h2⟩
theorem g_min {K : PySem.W.Frag} {a : Addr} {ns : List Int} {H : Hp} {Q : VK} (h : SqL K H a (ns.map V.int)) (h0 : 0 < ns.length) (q : ∀ m, m ∈ ns → (∀ y, y ∈ ns → m ≤ y) → Q (.int m) H) : rMin K [.ref a] H Q := ⟨a, ns, rfl, h, h0, q⟩
theorem g_max {K : PySem.W.Frag} {a : Addr} {ns : List Int} {H : Hp} {Q : VK} (h : SqL K H a (ns.map V.int)) (h0 : 0 < ns.length) (q : ∀ m, m ∈ ns → (∀ y, y ∈ ns → y ≤ m) → Q (.int m) H) : rMax K [.ref a] H Q := ⟨a, ns, rfl, h, h0, q⟩
theorem atI_nat' {xs : List V} {i : Int} {j : Nat} {v : V} (e : i = (j : Int)) (h : xs[j]? = some v) : atI xs i = some v := at_of e h
theorem ixN_last {n : Nat} (h : 0 < n) : ixN n (-1) = some (n - 1) := by
  unfold ixN
  rw [if_neg (by decide), if_pos (by omega)]
  congr 1
  omega
theorem atI_neg1 {xs : List V} {v : V} (h : xs[xs.length - 1]? = some v) : atI xs (-1) = some v := by
  obtain ⟨hl, _⟩ := List.getElem?_eq_some_iff.mp h
  unfold atI
  rw [ixN_last (by omega)]
  exact h
theorem snoc_of {α : Type} {xs : List α} (h : 0 < xs.length) : ∃ a x, xs = a ++ [x] :=
  ⟨xs.dropLast, xs.getLast (List.ne_nil_of_length_pos h), (List.dropLast_concat_getLast _).symm⟩
theorem set_last {α : Type} {a : List α} {x y : α} : (a ++ [x]).set a.length y = a ++ [y] := by
  rw [List.set_append_right _ _ (Nat.le_refl _), Nat.sub_self]
  rfl
end My
namespace My
open PySem PySem.Spec L2
local macro_rules | `(tactic| walk_at "side") => `(tactic| first | assumption | decide | omega | exact ⟨by decide, by decide⟩ | exact ⟨by decide, by decide, by decide⟩ | decide +kernel | exact cdivW (by decide +kernel) (by decide +kernel) | exact Or.inl ⟨by omega, by omega⟩ | exact Or.inr ⟨by omega, by omega⟩ | (simp only [List.length_map, List.length_cons, List.length_nil, List.length_append]; omega))
local macro_rules | `(tactic| walk_at "fact") => `(tactic| first | assumption | omega | with_reducible rfl)
local macro_rules | `(tactic| walk_at "use") => `(tactic| fail "use")
local macro_rules | `(tactic| walk_at "go1") => `(tactic| with_reducible first | refine g_seq ?_ | refine g_asg ?_ | refine g_ret ?_ | refine g_ifS ?_ | refine g_drop ?_ | refine g_star ?_ | refine g_nx ?_ | refine g_rt ?_ | refine g_bkE ?_ | refine g_ctE ?_ | refine g_next ?_ | refine g_retN ?_ | refine g_brk ?_ | refine g_ct ?_ | refine g_c ?_ | refine g_op ?_ | refine g_un ?_ | refine g_rI0 ?_ | refine g_rU ?_ | refine g_rEqI ?_ | refine g_rNeI ?_ | refine g_isN ?_ | refine g_rIsB ?_ | refine g_rNotB ?_ | refine g_test ?_ | refine g_B ?_ | refine g_bl ?_ | refine g_and ?_ | refine g_or ?_ | refine g_not ?_ | refine g_andV ?_ | refine g_orV ?_ | refine g_notV ?_ | refine g_if ?_ | refine g_chain ?_ | refine g_yes ?_ | refine g_lc ?_ | refine g_revR ?_ | refine g_rng1 ?_ | refine g_iList ?_ | refine g_nil ?_ | refine g_cons ?_ | refine g_tup ?_ | refine g_lst ?_ | refine g_call ?_ | refine g_CB ?_ | refine g_sl ?_ | refine g_noPart ?_ | refine g_part ?_ | refine g_intE ?_ | refine g_ref ?_ | refine g_fld ?_ | refine g_sfld ?_ | refine g_meth ?_ | refine g_make ?_ | refine g_prop ?_  | refine g_ipI ?_ | refine g_int1 ?_ | refine g_int1B ?_ | refine g_one ?_ | refine g_two ?_ | refine g_isiI ?_ | refine g_isiIB ?_ | refine g_isiB ?_ | refine g_BM ?_ | refine g_BM0 ?_ | refine g_sub ?_)
local macro_rules | `(tactic| walk_at "go") => `(tactic| repeat (first | walk_at "go1" | ((with_reducible refine' g_nameE ?sd_ ?_); case sd_ => dsimp only [List.set_cons_succ, List.set_cons_zero]) | ((with_reducible refine' g_var ?sd_ ?_); case sd_ => exact rfl) | ((with_reducible refine' g_aug ?sd_ ?_); case sd_ => exact rfl) | ((with_reducible refine' g_rI ?sd_ ?_); case sd_ => walk_at "side") | ((with_reducible refine' g_dT ?sd_ ?_); case sd_ => walk_at "fact") | ((with_reducible refine' g_dF ?sd_ ?_); case sd_ => walk_at "fact") | ((with_reducible refine' g_nT ?sd_ ?_); case sd_ => walk_at "fact") | ((with_reducible refine' g_nF ?sd_ ?_); case sd_ => walk_at "fact") | (with_reducible refine g_iT rfl ?_) | (with_reducible refine g_iF rfl ?_) | walk_at "use"))
def topS (i : Nat) : Stmt := PySem.Challenge.pw_throughline_k02_hexadecimal_texts.main.body.getD i (.Pass ⟨0, 0, 0, 0⟩)
abbrev s_to_hex : Stmt := topS 6
abbrev s_from_hex : Stmt := topS 7
abbrev s_l_is_integer : Stmt := topS 9
abbrev s_l_cell : Stmt := topS 10
abbrev s_l_row : Stmt := topS 11
abbrev s_l_octets : Stmt := topS 12
abbrev s_l_char : Stmt := topS 13
abbrev s_l_changed : Stmt := topS 14
abbrev s_l_expected : Stmt := topS 15
abbrev s_l_base : Stmt := topS 16
abbrev s_law : Stmt := topS 17
theorem sc_to_hex : FnScope ["octets", "octet"] ["octets"] (defScope s_to_hex) := ⟨rfl, rfl, rfl, by decide +kernel, rfl, by decide +kernel, by decide +kernel⟩
theorem sc_from_hex : FnScope ["text", "at", "digit"] ["text"] (defScope s_from_hex) := ⟨rfl, rfl, rfl, by decide +kernel, rfl, by decide +kernel, by decide +kernel⟩
theorem sc_l_is_integer : FnScope ["actual"] ["actual"] (defScope s_l_is_integer) := ⟨rfl, rfl, rfl, by decide +kernel, rfl, by decide +kernel, by decide +kernel⟩
theorem sc_l_cell : FnScope ["script", "k"] ["script", "k"] (defScope s_l_cell) := ⟨rfl, rfl, rfl, by decide +kernel, rfl, by decide +kernel, by decide +kernel⟩
theorem sc_l_row : FnScope ["cell", "size", "base", "row", "number", "k", "mixed"] ["cell", "size", "base"] (defScope s_l_row) := ⟨rfl, rfl, rfl, by decide +kernel, rfl, by decide +kernel, by decide +kernel⟩
theorem sc_l_octets : FnScope ["actual", "expected", "k"] ["actual", "expected"] (defScope s_l_octets) := ⟨rfl, rfl, rfl, by decide +kernel, rfl, by decide +kernel, by decide +kernel⟩
theorem sc_l_char : FnScope ["cell", "chars"] ["cell"] (defScope s_l_char) := ⟨rfl, rfl, rfl, by decide +kernel, rfl, by decide +kernel, by decide +kernel⟩
theorem sc_l_changed : FnScope ["text", "choice", "cell", "index"] ["text", "choice", "cell"] (defScope s_l_changed) := ⟨rfl, rfl, rfl, by decide +kernel, rfl, by decide +kernel, by decide +kernel⟩
theorem sc_l_expected : FnScope ["text", "octets", "k", "high", "low"] ["text"] (defScope s_l_expected) := ⟨rfl, rfl, rfl, by decide +kernel, rfl, by decide +kernel, by decide +kernel⟩
theorem sc_l_base : FnScope ["text", "e"] ["text"] (defScope s_l_base) := ⟨rfl, rfl, rfl, by decide +kernel, rfl, by decide +kernel, by decide +kernel⟩
theorem sc_law : FnScope ["script", "row", "text", "given", "actual", "changed", "expected", "raised", "octets", "octet"] ["script"] (defScope s_law) := ⟨rfl, rfl, rfl, by decide +kernel, rfl, by decide +kernel, by decide +kernel⟩
structure Txt (K : PySem.W.Frag) (mg : Str → Option Value) where
  t_HEX_DIGITS : Tok
  C_ThroughlineError : Addr
  C_InvalidOctets : Addr
  C_DamagedSegment : Addr
  f_to_hex : Addr
  d_to_hex : FuncData
  f_from_hex : Addr
  d_from_hex : FuncData
  f_l_is_integer : Addr
  d_l_is_integer : FuncData
  f_l_cell : Addr
  d_l_cell : FuncData
  f_l_row : Addr
  d_l_row : FuncData
  f_l_octets : Addr
  d_l_octets : FuncData
  f_l_char : Addr
  d_l_char : FuncData
  f_l_changed : Addr
  d_l_changed : FuncData
  f_l_expected : Addr
  d_l_expected : FuncData
  f_l_base : Addr
  d_l_base : FuncData
  f_law : Addr
  d_law : FuncData
  v_HEX_DIGITS : mg "HEX_DIGITS" = some (.str (PySem.Str.ofString "0123456789abcdef") t_HEX_DIGITS)
  c_ThroughlineError : mg "ThroughlineError" = some (.ref C_ThroughlineError)
  c_InvalidOctets : mg "InvalidOctets" = some (.ref C_InvalidOctets)
  c_DamagedSegment : mg "DamagedSegment" = some (.ref C_DamagedSegment)
  xP_InvalidOctets : PySem.W.excIn K C_InvalidOctets [.type "ValueError", .type "Exception", .type "BaseException", .type "object"] "ValueError.__new__" = true
  ke_InvalidOctets : PySem.W.keepIn K (.ref C_InvalidOctets) = true
  be_InvalidOctets : PySem.W.subIn K (.ref C_InvalidOctets) (.type "BaseException") = some true
  te_InvalidOctets : PySem.W.typeIn K (.ref C_InvalidOctets) = some (.type "type")
  xc_InvalidOctets : ExcC K C_InvalidOctets
  em_InvalidOctets_ThroughlineError : PySem.W.exmOne K (.ref C_InvalidOctets) (.ref C_ThroughlineError) = some true
  em_InvalidOctets_InvalidOctets : PySem.W.exmOne K (.ref C_InvalidOctets) (.ref C_InvalidOctets) = some true
  ko_InvalidOctets_ValueError : PySem.W.kitOne K (.ref C_InvalidOctets) (.type "ValueError") = some true
  ko_InvalidOctets_DamagedSegment : PySem.W.kitOne K (.ref C_InvalidOctets) (.ref C_DamagedSegment) = some false
  F_to_hex : Fun K "to_hex" "to_hex" s_to_hex f_to_hex d_to_hex
  b_to_hex : Binds K d_to_hex ["octets"] []
  m_to_hex : mg "to_hex" = some (.ref f_to_hex)
  F_from_hex : Fun K "from_hex" "from_hex" s_from_hex f_from_hex d_from_hex
  b_from_hex : Binds K d_from_hex ["text"] []
  m_from_hex : mg "from_hex" = some (.ref f_from_hex)
  F_l_is_integer : Fun K "_law_is_integer" "_law_is_integer" s_l_is_integer f_l_is_integer d_l_is_integer
  b_l_is_integer : Binds K d_l_is_integer ["actual"] []
  m_l_is_integer : mg "_law_is_integer" = some (.ref f_l_is_integer)
  F_l_cell : Fun K "_law_cell" "_law_cell" s_l_cell f_l_cell d_l_cell
  b_l_cell : Binds K d_l_cell ["script", "k"] []
  m_l_cell : mg "_law_cell" = some (.ref f_l_cell)
  F_l_row : Fun K "_law_row" "_law_row" s_l_row f_l_row d_l_row
  b_l_row : Binds K d_l_row ["cell", "size", "base"] []
  m_l_row : mg "_law_row" = some (.ref f_l_row)
  F_l_octets : Fun K "_law_octets" "_law_octets" s_l_octets f_l_octets d_l_octets
  b_l_octets : Binds K d_l_octets ["actual", "expected"] []
  m_l_octets : mg "_law_octets" = some (.ref f_l_octets)
  F_l_char : Fun K "_law_char" "_law_char" s_l_char f_l_char d_l_char
  b_l_char : Binds K d_l_char ["cell"] []
  m_l_char : mg "_law_char" = some (.ref f_l_char)
  F_l_changed : Fun K "_law_changed" "_law_changed" s_l_changed f_l_changed d_l_changed
  b_l_changed : Binds K d_l_changed ["text", "choice", "cell"] []
  m_l_changed : mg "_law_changed" = some (.ref f_l_changed)
  F_l_expected : Fun K "_law_expected" "_law_expected" s_l_expected f_l_expected d_l_expected
  b_l_expected : Binds K d_l_expected ["text"] []
  m_l_expected : mg "_law_expected" = some (.ref f_l_expected)
  F_l_base : Fun K "_law_base" "_law_base" s_l_base f_l_base d_l_base
  b_l_base : Binds K d_l_base ["text"] []
  m_l_base : mg "_law_base" = some (.ref f_l_base)
  F_law : Fun K "law" "law" s_law f_law d_law
  b_law : Binds K d_law ["script"] []
  m_law : mg "law" = some (.ref f_law)
  n_ValueError : mg "ValueError" = none
  n_any : mg "any" = none
  n_bool : mg "bool" = none
  n_int : mg "int" = none
  n_isinstance : mg "isinstance" = none
  n_len : mg "len" = none
  n_list : mg "list" = none
  n_range : mg "range" = none
  n_str : mg "str" = none


end My
namespace My
open PySem PySem.Spec L2
local macro_rules | `(tactic| walk_at "side") => `(tactic| first | assumption | decide | omega | exact ⟨by decide, by decide⟩ | exact ⟨by decide, by decide, by decide⟩ | decide +kernel | exact cdivW (by decide +kernel) (by decide +kernel) | exact Or.inl ⟨by omega, by omega⟩ | exact Or.inr ⟨by omega, by omega⟩ | (simp only [List.length_map, List.length_cons, List.length_nil, List.length_append]; omega))
local macro_rules | `(tactic| walk_at "fact") => `(tactic| first | assumption | omega | with_reducible rfl)
local macro_rules | `(tactic| walk_at "use") => `(tactic| fail "use")
local macro_rules | `(tactic| walk_at "go1") => `(tactic| with_reducible first | refine g_seq ?_ | refine g_asg ?_ | refine g_ret ?_ | refine g_ifS ?_ | refine g_drop ?_ | refine g_star ?_ | refine g_nx ?_ | refine g_rt ?_ | refine g_bkE ?_ | refine g_ctE ?_ | refine g_next ?_ | refine g_retN ?_ | refine g_brk ?_ | refine g_ct ?_ | refine g_c ?_ | refine g_op ?_ | refine g_un ?_ | refine g_rI0 ?_ | refine g_rU ?_ | refine g_rEqI ?_ | refine g_rNeI ?_ | refine g_isN ?_ | refine g_rIsB ?_ | refine g_rNotB ?_ | refine g_test ?_ | refine g_B ?_ | refine g_bl ?_ | refine g_and ?_ | refine g_or ?_ | refine g_not ?_ | refine g_andV ?_ | refine g_orV ?_ | refine g_notV ?_ | refine g_if ?_ | refine g_chain ?_ | refine g_yes ?_ | refine g_lc ?_ | refine g_revR ?_ | refine g_rng1 ?_ | refine g_iList ?_ | refine g_nil ?_ | refine g_cons ?_ | refine g_tup ?_ | refine g_lst ?_ | refine g_call ?_ | refine g_CB ?_ | refine g_sl ?_ | refine g_noPart ?_ | refine g_part ?_ | refine g_intE ?_ | refine g_ref ?_ | refine g_fld ?_ | refine g_sfld ?_ | refine g_meth ?_ | refine g_make ?_ | refine g_prop ?_  | refine g_ipI ?_ | refine g_int1 ?_ | refine g_int1B ?_ | refine g_one ?_ | refine g_two ?_ | refine g_isiI ?_ | refine g_isiIB ?_ | refine g_isiB ?_ | refine g_BM ?_ | refine g_BM0 ?_ | refine g_sub ?_)
local macro_rules | `(tactic| walk_at "go") => `(tactic| repeat (first | walk_at "go1" | ((with_reducible refine' g_nameE ?sd_ ?_); case sd_ => dsimp only [List.set_cons_succ, List.set_cons_zero]) | ((with_reducible refine' g_var ?sd_ ?_); case sd_ => exact rfl) | ((with_reducible refine' g_aug ?sd_ ?_); case sd_ => exact rfl) | ((with_reducible refine' g_rI ?sd_ ?_); case sd_ => walk_at "side") | ((with_reducible refine' g_dT ?sd_ ?_); case sd_ => walk_at "fact") | ((with_reducible refine' g_dF ?sd_ ?_); case sd_ => walk_at "fact") | ((with_reducible refine' g_nT ?sd_ ?_); case sd_ => walk_at "fact") | ((with_reducible refine' g_nF ?sd_ ?_); case sd_ => walk_at "fact") | (with_reducible refine g_iT rfl ?_) | (with_reducible refine g_iF rfl ?_) | walk_at "use"))
section
variable {P : Program} {w : World} {K : PySem.W.Frag} {mg : Str → Option Value} {base : Heap}
/-! ### exceptions -/
section
variable {X : Cx} {K : PySem.W.Frag} {σ : St} {H : Hp} {Q : VK} {W : WX} {D : Ends} {C : Addr} {ta : TE} {t : St → Hp → XK → Prop}
def tRaise (t : St → Hp → XK → Prop) (W : WX) : TS := fun _ σ H => t σ H fun cls d H' => W cls d σ H'
theorem ps_rs {e : Expr} {pos : Pos} (hc : X.calm = true) (tk : Takes X W) (he : PMk X e t) : PS X (.Raise (some e) none pos) (tRaise t W) := ps_raise hc tk he
def tMk0 (C : Addr) : St → Hp → XK → Prop := fun _ H Q => Q (.ref C) none H
def tMk1 (C : Addr) (ta : TE) : St → Hp → XK → Prop := fun σ H Q => ta σ H fun _ H1 => Q (.ref C) none H1
theorem pmk_0 {x m : Str} {j : Nat} {p p2 pos : Pos} {bmB : List Value} {B newId initId : String} (F : ExcBaseFacts B newId initId bmB) (q : PySem.W.excIn X.K C bmB newId = true) (gC : X.mg x = some (.ref C)) (kC : PySem.W.keepIn X.K (.ref C) = true) (r : Raises X (.ref C)) (hg : Gl X x)
    (hdb : (x == ("__debug__" : Str)) = false := by decide) : PMk X (.Call (.Name x p) [.Constant (.str m) j p2] [] pos) (tMk0 C) := pmk_own F q gC kC r hg hdb
theorem pmk_1 {x : Str} {e : Expr} {p pos : Pos} {bmB : List Value} {B newId initId : String} (F : ExcBaseFacts B newId initId bmB) (q : PySem.W.excIn X.K C bmB newId = true) (gC : X.mg x = some (.ref C)) (kC : PySem.W.keepIn X.K (.ref C) = true) (r : Raises X (.ref C)) (hg : Gl X x)
    (he : PE X e ta) (hs : starEach [e] X.env = (false, eval e X.env) :: starEach [] X.env := by rfl) (hdb : (x == ("__debug__" : Str)) = false := by decide) : PMk X (.Call (.Name x p) [e] [] pos) (tMk1 C ta) := SkE.pmk_own1 F q gC kC r hg he hs hdb
theorem g_rs0 (q : W (.ref C) none σ H) : tRaise (tMk0 C) W D σ H := q
theorem g_rs1 (h : ta σ H fun _ H1 => W (.ref C) none σ H1) : tRaise (tMk1 C ta) W D σ H := h
def tTryA (K : PySem.W.Frag) (c : Value) (i : Nat) (tb : WX → TS) (ts : Addr → Value → Option Addr → TS) (Wout : WX) : TS := fun D σ H => tb (wAs K c i ts Wout D) D σ H
def tTryO (K : PySem.W.Frag) (c : Value) (tb : WX → TS) (ts : Addr → Value → Option Addr → TS) (Wout : WX) : TS := fun D σ H => tb (wOnly K c ts Wout D) D σ H
theorem ps_tryA {x n : Str} {c : Value} {i : Nat} {body suite : List Stmt} {b₀ : Stmt} {np pos pos' : Pos} {tb : WX → TS} {ts : Addr → Value → Option Addr → TS} {Wout : WX} (hs : X.stack = X.env :: X.outer) (hf : X.env.frame = some X.env.locals) (hN : X.N.Nodup) (hi : X.N[i]? = some n) (hln : X.env.kindOf n = some .local) (hc : Names X x c) (tk : Takes X Wout)
    (hb : ∀ (W : WX) (pn : List (Addr × Obj)) (xe : Value → Shared → Prop), Takes (X.tr pn xe) W → PassesOwn (model X.prog X.w) X.A X.env xe → PSs (X.tr pn xe) body (tb W))
    (hsu : ∀ (a : Addr) (oe : Obj) (cls : Value) (d : Option Addr) (pn : List (Addr × Obj)), Zc cls d oe → (∃ vs, oe.data = .fields vs) → PSs (X.suite a ((a, oe) :: pn)) (b₀ :: suite) (ts a cls d)) :
    PS X (.Try body [.ExceptHandler (some (.Name x np)) (some n) (b₀ :: suite) pos'] [] [] pos) (tTryA X.K c i tb ts Wout) := ps_try_as hs hf hN hi hln hc tk hb hsu
theorem ps_tryO {x : Str} {c : Value} {body suite : List Stmt} {b₀ : Stmt} {np pos pos' : Pos} {tb : WX → TS} {ts : Addr → Value → Option Addr → TS} {Wout : WX} (hs : X.stack = X.env :: X.outer) (hf : X.env.frame = some X.env.locals) (hc : Names X x c) (tk : Takes X Wout)
    (hb : ∀ (W : WX) (pn : List (Addr × Obj)) (xe : Value → Shared → Prop), Takes (X.tr pn xe) W → PassesOwn (model X.prog X.w) X.A X.env xe → PSs (X.tr pn xe) body (tb W))
    (hsu : ∀ (a : Addr) (oe : Obj) (cls : Value) (d : Option Addr) (pn : List (Addr × Obj)), Zc cls d oe → (∃ vs, oe.data = .fields vs) → PSs (X.suite a ((a, oe) :: pn)) (b₀ :: suite) (ts a cls d)) :
    PS X (.Try body [.ExceptHandler (some (.Name x np)) none (b₀ :: suite) pos'] [] [] pos) (tTryO X.K c tb ts Wout) := ps_try_only hs hf hc tk hb hsu
variable {c cls : Value} {d : Option Addr} {i : Nat} {tb : WX → TS} {ts : Addr → Value → Option Addr → TS} {Wout : WX}
theorem g_tryA (h : tb (wAs K c i ts Wout D) D σ H) : tTryA K c i tb ts Wout D σ H := h
theorem g_tryO (h : tb (wOnly K c ts Wout D) D σ H) : tTryO K c tb ts Wout D σ H := h
theorem g_caught (e : PySem.W.exmOne K cls c = some true) (h : ∀ a, H a = none → ts a cls d { nx := fun σ' H' => D.nx (σ'.set i none) H', rt := D.rt, bk := fun σ' H' => D.bk (σ'.set i none) H', ct := fun σ' H' => D.ct (σ'.set i none) H' } (σ.set i (some (.ref a))) H) :
    wAs K c i ts Wout D cls d σ H := ⟨true, e, fun _ => h, fun z => nomatch z⟩
theorem g_caughtO (e : PySem.W.exmOne K cls c = some true) (h : ∀ a, H a = none → ts a cls d D σ H) : wOnly K c ts Wout D cls d σ H := ⟨true, e, fun _ => h, fun z => nomatch z⟩
theorem g_callS {sp : Sp} {E : St → XK} {t : TA} (h : t σ H fun vs H1 => sp vs H1 Q (E σ)) : tCallS sp E t σ H Q := h
/-- isinstance(e, c), e the exception that the suite holds, of a class known later -/
def rIsE2 (K : PySem.W.Frag) (a : Addr) (cls : Value) (d : Option Addr) : List V → Hp → VK → Prop := fun xs H Q => ∃ (D : Addr) (c : V) (cv : Value) (b : Bool), cls = .ref D ∧ d = none ∧ ExcC K D ∧ xs = [.ref a, c] ∧ (∀ u, RelV c u → u = cv) ∧ PySem.W.kitOne K (.ref D) cv = some b ∧ Q (.bl b) H
theorem call_isE2 {a : Addr} {oe : Obj} {pn : List (Addr × Obj)} (hz : Zc cls d oe) (hf : ∃ vs, oe.data = .fields vs) : CallR (X.suite a ((a, oe) :: pn)) (.builtin "isinstance") (rIsE2 X.K a cls d) := by
  intro pins s σ H xs us Q I r h
  obtain ⟨D, c, cv, b, rfl, rfl, C, e1, hcv, e, q⟩ := h
  exact call_isE C hz hf pins s σ H xs us Q I r ⟨c, cv, b, e1, hcv, e, q⟩
theorem g_isER {R B a : Addr} {b : Bool} (C : ExcC K R) (e : PySem.W.kitOne K (.ref R) (.ref B) = some b) (q : Q (.bl b) H) : rIsE2 K a (.ref R) none [.ref a, .ref B] H Q := ⟨R, _, _, b, rfl, rfl, C, rfl, fun u r => by cases r; rfl, e, q⟩
theorem g_isET {R a : Addr} {T : String} {b : Bool} (C : ExcC K R) (e : PySem.W.kitOne K (.ref R) (.type T) = some b) (q : Q (.bl b) H) : rIsE2 K a (.ref R) none [.ref a, .ty T] H Q := ⟨R, _, _, b, rfl, rfl, C, rfl, fun u r => by cases r; rfl, e, q⟩
/-! f-strings -/
def tJoined (ts : List TE) : TE := fun σ H Q => tJs ts Str.empty σ H fun out H1 => Q (.str out) H1
theorem pe_joinedJ {v1 v2 : Expr} {rest : List Expr} {ts : List TE} {pos : Pos} (h : PJ X (v1 :: v2 :: rest) ts) : PE X (.JoinedStr (v1 :: v2 :: rest) pos) (tJoined ts) := pe_joined h
theorem g_joined {ts : List TE} (h : tJs ts Str.empty σ H fun out H1 => Q (.str out) H1) : tJoined ts σ H Q := h
theorem g_jsnil {acc : Str} {A : Str → Hp → Prop} (q : A acc H) : tJs [] acc σ H A := q
theorem g_jscons {acc : Str} {A : Str → Hp → Prop} {t : TE} {ts : List TE} (h : t σ H fun x H1 => ∃ y : Str, x = .str y ∧ (acc ++ y).length ≤ sizeLine ∧ tJs ts (acc ++ y) σ H1 A) : tJs (t :: ts) acc σ H A := h
theorem g_jsE {acc y : Str} {A : Str → Prop} (h1 : (acc ++ y).length ≤ sizeLine) (q : A y) : ∃ y' : Str, V.str y = .str y' ∧ (acc ++ y').length ≤ sizeLine ∧ A y' := ⟨y, rfl, h1, q⟩
def rAddS : R2 := fun x y H Q => ∃ i j : Str, x = .str i ∧ y = .str j ∧ i.length + j.length ≤ sizeLine ∧ Q (.str (i ++ j)) H
theorem op_addS : OpR X (binaryOp .Add) rAddS := op_add_str
theorem g_addS {y z : Str} (h : y.length + z.length ≤ 16777216) (q : Q (.str (y ++ z)) H) : rAddS (.str y) (.str z) H Q := ⟨y, z, rfl, rfl, by rw [sizeLine_eq]; exact h, q⟩
theorem g_slS {y : Str} {lo hi : Option Int} (h : y.length ≤ 16777216) (q : Q (.str (cutS y lo hi)) H) : rSlS (.str y) lo hi H Q := ⟨y, rfl, by rw [sizeLine_eq]; exact h, q⟩
theorem g_m0 {r : V → List V → Hp → VK → Prop} {to : TE} (h : to σ H fun x H1 => (∃ a, x = V.str a) ∧ r x [] H1 Q) : tM0 r to σ H Q := h
theorem g_fmtS {y : Str} {A : Str → Prop} {B : Int → Prop} (h : y.length ≤ sizeLine) (q : A y) : (∃ y' : Str, V.str y = .str y' ∧ y'.length ≤ sizeLine ∧ A y') ∨ ∃ i : Int, V.str y = .int i ∧ i.natAbs.log2 < 1920 ∧ B i := .inl ⟨y, rfl, h, q⟩
theorem g_fmtI {j : Int} {A : Str → Prop} {B : Int → Prop} (h : j.natAbs.log2 < 1920) (q : B j) : (∃ y' : Str, V.int j = .str y' ∧ y'.length ≤ sizeLine ∧ A y') ∨ ∃ i : Int, V.int j = .int i ∧ i.natAbs.log2 < 1920 ∧ B i := .inr ⟨j, rfl, h, q⟩
theorem g_fmt (h : ta σ H fun x H1 => (∃ y : Str, x = .str y ∧ y.length ≤ sizeLine ∧ Q (.str y) H1) ∨ ∃ i : Int, x = .int i ∧ i.natAbs.log2 < 1920 ∧ Q (.str (toString i)) H1) : tFmt ta σ H Q := h
end
theorem kit_refT {K : PySem.W.Frag} {t : Value} {C : Addr} (a : PySem.W.isClsIn K C = true) (b : PySem.W.typeIn K (.ref C) = some (.type "type")) (c : PySem.W.subIn K t (.ref C) = some true) : PySem.W.kitOne K t (.ref C) = some true := by
  unfold PySem.W.isClsIn at a
  unfold PySem.W.kitOne
  by_cases z : (t == Value.ref C) = true
  · rw [if_pos z]
  · rw [if_neg z]
    show (if ((PySem.W.clsIn K C).isSome && PySem.W.typeIn K (.ref C) == some (.type "type")) = true then PySem.W.subIn K t (.ref C) else none) = some true
    rw [a, b, if_pos (by rw [Bool.true_and]; exact beq_self_eq_true _)]
    exact c
theorem kit_refF {K : PySem.W.Frag} {R C : Addr} (a : PySem.W.isClsIn K C = true) (b : PySem.W.typeIn K (.ref C) = some (.type "type")) (c : PySem.W.subIn K (.ref R) (.ref C) = some false) (r : PySem.W.subIn K (.ref R) (.ref R) = some true) : PySem.W.kitOne K (.ref R) (.ref C) = some false := by
  unfold PySem.W.isClsIn at a
  unfold PySem.W.kitOne
  by_cases z : (Value.ref R == Value.ref C) = true
  · have e : Value.ref R = Value.ref C := beq_iff_eq.mp z
    injection e with e
    subst e
    rw [c] at r
    cases r
  · rw [if_neg z]
    show (if ((PySem.W.clsIn K C).isSome && PySem.W.typeIn K (.ref C) == some (.type "type")) = true then PySem.W.subIn K (.ref R) (.ref C) else none) = some false
    rw [a, b, if_pos (by rw [Bool.true_and]; exact beq_self_eq_true _)]
    exact c
theorem kit_tyT {K : PySem.W.Frag} {R : Addr} {T : String} {b : Bool} (a : PySem.W.kitMeta T = true) (c : PySem.W.subIn K (.ref R) (.type T) = some b) : PySem.W.kitOne K (.ref R) (.type T) = some b := by
  unfold PySem.W.kitOne
  rw [if_neg (by show ¬ (Value.ref R == Value.type T) = true; exact fun h => by cases (beq_iff_eq.mp h))]
  show (if PySem.W.kitMeta T = true then PySem.W.subIn K (.ref R) (.type T) else none) = some b
  rw [if_pos a]
  exact c
/-! a written dict with texts as keys -/
theorem ns_entry {K : PySem.W.Frag} {a : Addr} {c : Value} {d : Option Addr} {es : Array DictEntry} {n : Nat} {sl : Array (Option Value)} {x : Str} {u : Value} (h : K.lookup a = some ⟨c, d, .dict es n, sl⟩) (e : (es.toList.find? (·.key.isStr x)).map (·.val) = some u) : PySem.W.nsIn K a x = some (some u) := by
  unfold PySem.W.nsIn
  rw [h]
  dsimp only
  cases q : es.toList.find? (·.key.isStr x) with
  | none => rw [q] at e; cases e
  | some z => rw [q] at e; injection e with e; rw [← e]
theorem fit2 {a b : Str} (h : a.length + b.length ≤ 16777216) : (a ++ b).length ≤ sizeLine := by
  rw [PySem.Str.length_append, sizeLine_eq]
  exact h
theorem log_lt {n : Nat} (h : n < 2 ^ 64) : n.log2 < 1920 := by
  by_cases z : n = 0
  · subst z; decide
  · exact Nat.lt_trans (Nat.log2_lt z |>.mpr h) (by decide)
theorem itext {i : Int} (h : i.natAbs < 2 ^ 64) : (Str.ofString (toString i)).length ≤ 1921 := PyProof.Rows.int_text_len_1921 (log_lt h)
def keyS (e : DictEntry) : Option Str := match e.key with | .str s _ => some s | _ => none
theorem find_keys : ∀ {l : List DictEntry} {ks : List Str} {z : Str}, l.map keyS = ks.map some → z ∉ ks → l.find? (·.key.isStr z) = none ∧ l.any (·.refKey) = false
  | [], _, _, _, _ => ⟨rfl, rfl⟩
  | e :: l, [], _, h, _ => by cases h
  | e :: l, k :: ks, z, h, hz => by
    simp only [List.map_cons, List.cons.injEq] at h
    obtain ⟨i1, i2⟩ := find_keys (l := l) (ks := ks) (z := z) h.2 fun m => hz (List.mem_cons_of_mem _ m)
    have h1 := h.1
    unfold keyS at h1
    obtain ⟨hs, key, val⟩ := e
    dsimp only at h1 ⊢
    cases key with
    | str s t =>
      injection h1 with h1
      subst h1
      have ne : (s == z) = false := by
        rw [beq_eq_false_iff_ne]
        intro e
        exact hz (e ▸ List.mem_cons_self ..)
      refine ⟨?_, ?_⟩
      · rw [List.find?_cons]
        show (match (s == z) with | true => _ | false => _) = none
        rw [ne]
        exact i1
      · rw [List.any_cons, i2, Bool.or_false]
        rfl
    | _ => cases h1
theorem ns_out {K : PySem.W.Frag} {a : Addr} {c : Value} {d : Option Addr} {es : Array DictEntry} {n : Nat} {sl : Array (Option Value)} {z : Str} {ks : List Str} (h : K.lookup a = some ⟨c, d, .dict es n, sl⟩) (e : es.toList.map keyS = ks.map some) (hz : z ∉ ks) : PySem.W.nsIn K a z = some none := by
  obtain ⟨i1, i2⟩ := find_keys e hz
  unfold PySem.W.nsIn
  rw [h]
  dsimp only
  rw [i1]
  dsimp only
  rw [i2]
  rfl
section
variable {K : PySem.W.Frag} {H : Hp} {Q : VK}
def rInK (K : PySem.W.Frag) (d : Addr) : R2 := fun x y H Q => ∃ (z : Str) (r : Option Value), x = .str z ∧ y = .ref d ∧ PySem.W.nsIn K d z = some r ∧ Q (.bl r.isSome) H
def rNotInK (K : PySem.W.Frag) (d : Addr) : R2 := fun x y H Q => ∃ (z : Str) (r : Option Value), x = .str z ∧ y = .ref d ∧ PySem.W.nsIn K d z = some r ∧ Q (.bl (!r.isSome)) H
theorem op_inK {X : Cx} {d : Addr} {es : Array DictEntry} {n : Nat} (D : KDict X.K X.w d es n) : OpR X (compareOp .In) (rInK X.K d) := op_in_kd D
theorem op_notInK {X : Cx} {d : Addr} {es : Array DictEntry} {n : Nat} (D : KDict X.K X.w d es n) : OpR X (compareOp .NotIn) (rNotInK X.K d) := op_notIn_kd D
theorem g_inK {d : Addr} {z : Str} {u : Value} (e : PySem.W.nsIn K d z = some (some u)) (q : Q (.bl true) H) : rInK K d (.str z) (.ref d) H Q := ⟨z, _, rfl, rfl, e, q⟩
theorem g_inKn {d : Addr} {z : Str} (e : PySem.W.nsIn K d z = some none) (q : Q (.bl false) H) : rInK K d (.str z) (.ref d) H Q := ⟨z, _, rfl, rfl, e, q⟩
theorem g_notInK {d : Addr} {z : Str} {u : Value} (e : PySem.W.nsIn K d z = some (some u)) (q : Q (.bl false) H) : rNotInK K d (.str z) (.ref d) H Q := ⟨z, _, rfl, rfl, e, q⟩
theorem g_notInKn {d : Addr} {z : Str} (e : PySem.W.nsIn K d z = some none) (q : Q (.bl true) H) : rNotInK K d (.str z) (.ref d) H Q := ⟨z, _, rfl, rfl, e, q⟩
theorem g_ixK {w : World} {d : Addr} {z : Str} {u : Value} {v : V} {es : Array DictEntry} {n : Nat} (D : KDict K w d es n) (e : PySem.W.nsIn K d z = some (some u)) (r : RelV v u) (q : Q v H) : rIxD K w (.ref d) (.str z) H Q := ⟨d, z, v, rfl, rfl, ⟨es, n, u, D.at_, D.lit, e, r⟩, q⟩
end
local macro_rules | `(tactic| walk_at "use") => `(tactic| with_reducible first | refine g_rs0 ?_ | refine g_rs1 ?_ | refine g_tryA ?_ | refine g_tryO ?_ | refine g_callS ?_ | refine g_joined ?_ | refine g_jsnil ?_ | refine g_jscons ?_ | refine g_fmt ?_)
local macro_rules | `(tactic| walk_at "fit") => `(tactic| (refine fit2 ?_; (try simp only [PySem.Str.length_append]); omega))
local macro_rules | `(tactic| walk_at "use") => `(tactic| first | ((with_reducible refine' g_addS ?sd_ ?_); case sd_ => (first | omega | (simp only [PySem.Str.length_append]; omega))) | ((with_reducible refine' g_slS ?sd_ ?_); case sd_ => omega) | (with_reducible refine g_m0 ?_))


section
variable {K : PySem.W.Frag} {H : Hp} {Q : VK}
theorem dec_str {s t : Str} : decide (V.str s = V.str t) = decide (s = t) := decide_eq_decide.mpr ⟨V.str.inj, congrArg _⟩
theorem g_rEqS {s t : Str} (q : Q (.bl (decide (s = t))) H) : rEq (.str s) (.str t) H Q := g_rEq rfl (by rw [dec_str]; exact q)
theorem g_rNeS {s t : Str} (q : Q (.bl (!decide (s = t))) H) : rNe (.str s) (.str t) H Q := g_rNe rfl (by rw [dec_str]; exact q)
theorem inV_str {s : Str} : ∀ {ws : List Str}, inV (.str s) (ws.map V.str) = decide (s ∈ ws)
  | [] => (decide_eq_false (by simp)).symm
  | t :: ws => by
    show ((t == s) || inV (.str s) (ws.map V.str)) = _
    rw [inV_str, Bool.eq_iff_iff]
    simp only [Bool.or_eq_true, beq_iff_eq, decide_eq_true_eq, List.mem_cons]
    exact ⟨fun h => h.imp Eq.symm id, fun h => h.imp Eq.symm id⟩
theorem flat_strs : ∀ {ws : List Str}, (ws.map V.str).all flatV = true
  | [] => rfl
  | _ :: ws => flat_strs (ws := ws)
theorem g_inS {p : Addr} {ws : List Str} {s : Str} (h : SqT K H p (ws.map V.str)) (q : Q (.bl (decide (s ∈ ws))) H) : rIn K false (.str s) (.ref p) H Q :=
  ⟨p, _, rfl, .inr h, rfl, flat_strs, by rw [if_neg (by decide), inV_str]; exact q⟩
theorem g_isiS {s : Str} (q : Q (.bl true) H) : rIsi K [.str s, .ty "str"] H Q := g_isi (.ty _) (.base (.str _)) (kit_ty (by decide +kernel)) q
end
local macro_rules | `(tactic| walk_at "use") => `(tactic| with_reducible first | refine g_rEqS ?_ | refine g_rNeS ?_ | refine g_isiS ?_)

/-! ### f'{n:02x}' of an octet -/
def hxd (d : Nat) : Nat := if d < 10 then 48 + d else 87 + d
def hx (n : Nat) : Str := ⟨#[hxd (n / 16), hxd (n % 16)]⟩
def hxf : PySem.Builtin.Float.FormatSpec := { fill := 48, align := 61, width := some 2, type := some 120 }
theorem hxf_is : PySem.Builtin.Float.parseFormatSpec (Str.ofString "02x").cps.toList "int" 62 = .ok hxf := by kernel_rfl
def hxt (a : Int) : Str := PyProof.Rows.intField' hxf (decide (a < 0)) [] ((Nat.toDigits 16 a.natAbs).map fun c => c.toNat) [] 4
theorem hxt_is : ∀ n : Nat, n < 256 → hxt (n : Int) = hx n := by
  have h : ∀ n ∈ List.range 256, hxt ((n : Nat) : Int) = hx n := by decide +kernel
  exact fun n hn => h n (List.mem_range.mpr hn)
theorem wp_eq {α : Type} {M : Model} {A : Around} {m m' : Sem α} {Q : α → Shared → Prop} {E : Value → Shared → Prop} {s : Shared} (e : m = m') (h : wpAny M A m' Q E s) : wpAny M A m Q E s := by
  rw [e]
  exact h
section
variable {prog : Program} {w : World} {A : Around} {E : Value → Shared → Prop} {s : Shared}
theorem fmt_hx {n : Nat} {t : Tok} {Q : Value → Shared → Prop} (hn : n < 256) (h : Q (.str (hx n) (s.toks + 1)) { s with toks := s.toks + 1 + 1 }) :
    wpAny (model prog w) A (formatField (.int (n : Int) t) (Str.ofString "02x")) Q E s := by
  have ln : ((Str.ofString "02x").length == 0) = false := by decide +kernel
  have lz : (Str.ofString "02x").length ≤ sizeLine := by decide +kernel
  have ez := hxt_is n hn
  have lx : (hx n).length ≤ sizeLine := by show 2 ≤ sizeLine; decide
  show wpAny _ _ (holding [.int (n : Int) t] (pyFormat (.int (n : Int) t) (Str.ofString "02x"))) Q E s
  refine wpAny_holding ?_; unfold pyFormat; refine wpAny_bind (wpAny_mkStr ?_ lz)
  refine wpAny_bind (m := callSpecial? (.int (n : Int) t) (Str.ofString "__format__") [.str (Str.ofString "02x") s.toks]) (wpAny_callSpecial?_slot (name := Str.ofString "__format__") (typeIs_int _ (n : Int) t) PySem.F.slot_int_format ?_)
  refine wpAny_call (codeAny_call_builtin PySem.F.slot_int_format.plain PySem.F.entry_int_format (PySem.F.slot_int_format.check _ _ _ _ _ _ _ _ (typeIs_int _ (n : Int) t) (PySem.F.args_int_format_2 _ _) ?_))
  unfold PySem.Builtin.«int.__format__»
  have la : (((Str.ofString "02x").cps.toList.drop 1).any (· ≥ 128) || ((Str.ofString "02x").cps.getD 0 0 ≥ 128 && !([60, 62, 61, 94] : List Nat).contains ((Str.ofString "02x").cps.getD 1 0))) = false := by decide +kernel
  simp only [selfAndOne, noKeywords, PySem.Builtin.Int.intOfSelf, asInt?, asStr?, List.isEmpty_nil, if_true, pure_bind, bind_assoc, ln, la, Bool.false_eq_true, if_false, show (Value.str (Str.ofString "02x") s.toks == Value.none) = false from rfl]
  refine wpAny_bind (wpAny_typeNameOf (T := "str") (typeIs_str _ _ _) (by decide) fun _ => wpAny_bind (PyProof.Rows.wpAny_typeNameOfCut_int ?_))
  simp only [hxf_is]
  rw [if_pos (by decide +kernel)]
  refine wp_eq (m' := retStr (hxt (n : Int))) (by kernel_rfl) ?_
  rw [ez]; unfold retStr
  refine wpAny_bind (wpAny_mkStr (wpAny_pure ?_) lx)
  dsimp only
  refine wpAny_bind (wpAny_isInstance (typeIs_str _ _ _) isSubtype_str_str (wpAny_pure ?_))
  exact h
end
section
variable {X : Cx}
def tHx (te : TE) : TE := fun σ H Q => te σ H fun x H1 => ∃ n : Nat, x = .int (n : Int) ∧ n < 256 ∧ Q (.str (hx n)) H1
theorem pe_hx2 {e : Expr} {te : TE} {k : Nat} {p1 p2 pos : Pos} (he : PE X e te) : PE X (.FormattedValue e (-1) (some (.JoinedStr [.Constant (.str (Str.ofString "02x")) k p1] p2)) pos) (tHx te) := by
  refine ⟨fun pins s σ H Q I h => ?_⟩
  refine wpAny_FormattedValue_spec (thn (he.run pins s σ H _ I h) fun v s1 hv => ?_)
  obtain ⟨x, H1, I1, r1, n, rfl, hn, q⟩ := hv
  obtain ⟨t, rfl⟩ := r1
  refine PyProof.Rows.JoinedStr_one ?_
  refine wpAny_Constant_str ?_
  refine ⟨_, _, rfl, fmt_hx hn ⟨.str (hx n), H1, ((I1.tok _).tok _).tok _, ⟨_, rfl⟩, q⟩⟩
theorem g_hx {te : TE} {σ : St} {H : Hp} {Q : VK} (h : te σ H fun x H1 => ∃ n : Nat, x = .int (n : Int) ∧ n < 256 ∧ Q (.str (hx n)) H1) : tHx te σ H Q := h
theorem g_hxE {n : Nat} {A : Nat → Prop} (h : n < 256) (q : A n) : ∃ m : Nat, V.int (n : Int) = .int (m : Int) ∧ m < 256 ∧ A m := ⟨n, rfl, h, q⟩
end

/-! ### texts of hexadecimal digits -/
abbrev Tx (l : List Nat) : Str := SX.S l
def hexes (ns : List Int) : List Nat := (ns.map fun n => [hxd (n.toNat / 16), hxd (n.toNat % 16)]).flatten
theorem hexes_len : ∀ {ns : List Int}, (hexes ns).length = 2 * ns.length
  | [] => rfl
  | n :: ns => by
    show (hxd (n.toNat / 16) :: hxd (n.toNat % 16) :: hexes ns).length = _
    rw [List.length_cons, List.length_cons, hexes_len, List.length_cons]
    omega
theorem join0 : ∀ {ls : List (List Nat)}, Txt.join Str.empty (ls.map Tx) = Tx ls.flatten := by
  intro ls
  rw [TL.join_eq]
  have h : ∀ ls : List (List Nat), TL.joinL [] ls = ls.flatten := by
    intro ls
    induction ls with
    | nil => rfl
    | cons p ls ih =>
      cases ls with
      | nil => show p = _; simp
      | cons q r =>
        show p ++ ([] ++ TL.joinL [] (q :: r)) = _
        rw [ih]
        simp
  have e := TL.tl_join Str.empty (ls.map Tx)
  rw [List.map_map] at e
  have e2 : (ls.map (TL.tl ∘ Tx)) = ls := by
    rw [List.map_congr_left (g := id) (fun l _ => by simp [TL.tl, SX.S]), List.map_id]
  rw [e2] at e
  have e3 : TL.tl (Str.join Str.empty (ls.map Tx)) = ls.flatten := by rw [e]; exact h ls
  generalize Str.join Str.empty (ls.map Tx) = x at e3
  obtain ⟨⟨l⟩⟩ := x
  have e4 : l = ls.flatten := e3
  rw [e4]
def dig16 : Str := "0123456789abcdef"
def ishex (c : Nat) : Bool := (decide (48 ≤ c) && decide (c ≤ 57)) || (decide (97 ≤ c) && decide (c ≤ 102))
theorem ishex_mem {c : Nat} : c ∈ dig16.cps.toList ↔ ishex c = true := by
  have e : dig16.cps.toList = [48, 49, 50, 51, 52, 53, 54, 55, 56, 57, 97, 98, 99, 100, 101, 102] := by decide +kernel
  rw [e]
  unfold ishex
  simp only [List.mem_cons, List.not_mem_nil, or_false, Bool.or_eq_true, Bool.and_eq_true, decide_eq_true_eq]
  omega
theorem find_hex {c : Nat} (h : ishex c = true) : Txt.find dig16 ⟨#[c]⟩ = (Hx.hv c : Int) := by
  have hc : c ∈ [48, 49, 50, 51, 52, 53, 54, 55, 56, 57, 97, 98, 99, 100, 101, 102] := by
    have := ishex_mem.mpr h
    rwa [show dig16.cps.toList = [48, 49, 50, 51, 52, 53, 54, 55, 56, 57, 97, 98, 99, 100, 101, 102] by decide +kernel] at this
  have all : ∀ c ∈ [48, 49, 50, 51, 52, 53, 54, 55, 56, 57, 97, 98, 99, 100, 101, 102], Txt.find dig16 ⟨#[c]⟩ = (Hx.hv c : Int) := by decide +kernel
  exact all c hc
theorem find_not {c : Nat} (h : ishex c = false) : Txt.find dig16 ⟨#[c]⟩ = -1 := by
  have h1 := PySem.StrLaws.found_one dig16 c
  have h2 : decide (c ∈ dig16.cps.toList) = false := decide_eq_false fun z => by rw [ishex_mem.mp z] at h; cases h
  rw [h2] at h1
  unfold Txt.find
  cases e : PySem.Builtin.Str.occurrences dig16 ⟨#[c]⟩ 0 dig16.length 1 with
  | nil => rfl
  | cons a b =>
    rw [e] at h1
    cases h1
theorem ishex_is {c : Nat} (h : ishex c = true) : Hx.IsHex c := by
  unfold ishex at h
  simp only [Bool.or_eq_true, Bool.and_eq_true, decide_eq_true_eq] at h
  unfold Hx.IsHex
  omega
theorem hv_nn {c : Nat} (h : ishex c = true) : Hx.hv c < 16 := Hx.hv_lt (ishex_is h)
/-- the octets that the signs write, two by two -/
def prs (l : List Nat) (n : Nat) : List Int := (List.range n).map fun i => (16 * Hx.hv (l.getD (2 * i) 0) + Hx.hv (l.getD (2 * i + 1) 0) : Nat)
theorem prs_succ {l : List Nat} {n : Nat} : prs l (n + 1) = prs l n ++ [((16 * Hx.hv (l.getD (2 * n) 0) + Hx.hv (l.getD (2 * n + 1) 0) : Nat) : Int)] := by
  unfold prs
  rw [List.range_succ, List.map_append]
  rfl
theorem hxd_ish : ∀ n : Nat, n < 16 → dig16.cps.toList[n]? = some (hxd n) := by
  have h : ∀ n ∈ List.range 16, dig16.cps.toList[n]? = some (hxd n) := by decide +kernel
  exact fun n hn => h n (List.mem_range.mpr hn)

def sp_l_is_integer (K : PySem.W.Frag) : Sp := fun vs H Q _ => ∃ (n : Int), vs = [.int n] ∧ Q (.bl true) H
theorem u_isint {n : Int} {H Q E} (q : Q (.bl true) H) : sp_l_is_integer K ([.int n] ++ []) H Q E := ⟨n, rfl, q⟩
theorem ok_l_is_integer (T : Txt K mg) : FnOk P w K mg base CX0 1 T.f_l_is_integer T.d_l_is_integer ["actual"] (sp_l_is_integer K) := by
  refine T.F_l_is_integer.ok sc_l_is_integer (fun vs H Q E h => ?_) (fun cdv A outer s H vs Q E hr h => ?_)
  · obtain ⟨n, rfl, q⟩ := h
    rfl
  · obtain ⟨n, rfl, q⟩ := h
    have hu := hu_of hr
    refine ⟨_, (pss_one (ps_ret (pe_and (pe_callB call_isi (by rfl) T.n_isinstance (by decide +kernel) (pa_cons (pv 0) (pa_cons (pe_bltn (v := .ty "int") (by rfl) T.n_int (by decide +kernel) rfl) pa_nil))) (pe_one (pe_not (pe_callB call_isi (by rfl) T.n_isinstance (by decide +kernel) (pa_cons (pv 0) (pa_cons (pe_bltn (v := .ty "bool") (by rfl) T.n_bool (by decide +kernel) rfl) pa_nil)))))))), ?_⟩
    dsimp only [cxOf, Cx.nox, Cx.wish, L2.start, List.map, List.cons_append, List.nil_append, List.length_cons, List.length_nil, Nat.reduceAdd, Nat.reduceSub, Nat.zero_add, List.replicate_succ, List.replicate_zero]
    walk_at "go"
    exact q
local macro_rules | `(tactic| walk_at "use") => `(tactic| with_reducible refine u_isint ?_)

def sp_l_cell (K : PySem.W.Frag) : Sp := fun vs H Q _ => ∃ (a : Addr) (ns : List Int) (k : Int), vs = [.ref a, .int k] ∧ SqL K H a (ns.map V.int) ∧ 0 ≤ k ∧ Q (.int (cell ns k)) H
theorem u_cell {a : Addr} {ns : List Int} {k : Int} {H Q E} (h : SqL K H a (ns.map V.int)) (h0 : 0 ≤ k) (q : Q (.int (cell ns k)) H) : sp_l_cell K ([.ref a, .int k] ++ []) H Q E := ⟨a, ns, k, rfl, h, h0, q⟩
theorem ok_l_cell (T : Txt K mg) : FnOk P w K mg base CX0 1 T.f_l_cell T.d_l_cell ["script", "k"] (sp_l_cell K) := by
  refine T.F_l_cell.ok sc_l_cell (fun vs H Q E h => ?_) (fun cdv A outer s H vs Q E hr h => ?_)
  · obtain ⟨a, ns, k, rfl, hS, h0, q⟩ := h
    rfl
  · obtain ⟨a, ns, k, rfl, hS, h0, q⟩ := h
    have hu := hu_of hr
    refine ⟨_, (pss_cons (ps_if (pt_cmpR op_lt (pv 1) (pe_callB call_len_seq (by rfl) T.n_len (by decide +kernel) (pa_cons (pv 0) pa_nil)) (nomark _)) (pss_one (ps_ret (pe_ix ix_list (pv 0) (pv 1) (fun _ _ => rfl)))) pss_nil)
        (pss_one (ps_ret pe_int))), ?_⟩
    dsimp only [cxOf, Cx.nox, Cx.wish, L2.start, List.map, List.cons_append, List.nil_append, List.length_cons, List.length_nil, Nat.reduceAdd, Nat.reduceSub, Nat.zero_add, List.replicate_succ, List.replicate_zero]
    walk_at "go"
    refine g_len (.inl hS) ?_
    walk_at "go"
    rw [List.length_map]
    refine g_ite (fun h => ?_) (fun h => ?_)
    · walk_at "go"
      refine g_ixL hS (atI_map h0 h) ?_
      exact q
    · walk_at "go"
      rw [cell_out h] at q
      exact q
local macro_rules | `(tactic| walk_at "use") => `(tactic| with_reducible refine u_cell (by assumption) (by decide) ?_)

def sp_l_row (K : PySem.W.Frag) : Sp := fun vs H Q _ => ∃ (c n b : Int), vs = [.int c, .int n, .int b] ∧ (0 ≤ n ∧ n ≤ 1000 ∧ 0 < b ∧ b ≤ 2 ^ 64) ∧
  ∀ (p : Addr) (row : List Int) H', (row.length : Int) = n → (∀ x ∈ row, 0 ≤ x ∧ x < b) → H p = none → Same H H' → H' p = some (.lst (row.map V.int)) → Q (.ref p) H'
theorem u_row {c n b : Int} {H Q E} (h0 : 0 ≤ n ∧ n ≤ 1000 ∧ 0 < b ∧ b ≤ 2 ^ 64)
    (q : ∀ (p : Addr) (row : List Int) H', (row.length : Int) = n → (∀ x ∈ row, 0 ≤ x ∧ x < b) → H p = none → Same H H' → H' p = some (.lst (row.map V.int)) → Q (.ref p) H') : sp_l_row K ([.int c, .int n, .int b] ++ []) H Q E := ⟨c, n, b, rfl, h0, q⟩
theorem ok_l_row (T : Txt K mg) : FnOk P w K mg base CX0 1 T.f_l_row T.d_l_row ["cell", "size", "base"] (sp_l_row K) := by
  refine T.F_l_row.ok sc_l_row (fun vs H Q E h => ?_) (fun cdv A outer s H vs Q E hr h => ?_)
  · obtain ⟨c, n, b, rfl, h0, q⟩ := h
    rfl
  · obtain ⟨c, n, b, rfl, h0, q⟩ := h
    have hu := hu_of hr
    refine ⟨_, (pss_cons (ps_set (i := 3) sc_l_row.nd rfl (Or.inl rfl) (pe_lst pa_nil))
        (pss_cons (ps_set (i := 4) sc_l_row.nd rfl (Or.inl rfl) (pv 0))
        (pss_cons (ps_for PassesOwn.never rfl (pi_range1 (by rfl) T.n_range (pa_cons (pv 1) pa_nil)) (pg_name (i := 5) sc_l_row.nd rfl (Or.inl rfl)) (pss_one (ps_if (pt_cmpR op_ge (pv 0) (pe_op op_pow pe_int pe_int) (nomark _)) (pss_cons (ps_expr (pe_bm PySem.F.plainAttrs_list PySem.F.slot_list_append PySem.F.type_list_append mt_append (pv 3) (pa_cons (pe_op op_mod (pe_callTy call_int1 (by rfl) T.n_int (by decide +kernel) (pa_cons (pv 4) pa_nil)) (pv 2)) pa_nil)))
        (pss_one (ps_set (i := 4) sc_l_row.nd rfl (Or.inl rfl) (pe_op op_fdivW (pv 4) (pv 2))))) (pss_cons (ps_set (i := 6) sc_l_row.nd rfl (Or.inl rfl) (pe_op op_mod (pe_op op_add (pe_op op_mul (pe_op op_mod (pe_callTy call_int1 (by rfl) T.n_int (by decide +kernel) (pa_cons (pv 0) pa_nil)) pe_int) pe_int) (pe_op op_mul (pv 5) pe_int)) pe_int))
        (pss_cons (ps_set (i := 6) sc_l_row.nd rfl (Or.inl rfl) (pe_op op_mod (pe_op op_add (pe_op op_add (pe_op op_mul (pv 6) pe_int) (pe_op op_mul (pv 5) pe_int)) pe_int) pe_int))
        (pss_one (ps_expr (pe_bm PySem.F.plainAttrs_list PySem.F.slot_list_append PySem.F.type_list_append mt_append (pv 3) (pa_cons (pe_op op_mod (pe_op op_fdiv (pv 6) pe_int) (pv 2)) pa_nil)))))))))
        (pss_one (ps_ret (pv 3)))))), ?_⟩
    dsimp only [cxOf, Cx.nox, Cx.wish, L2.start, List.map, List.cons_append, List.nil_append, List.length_cons, List.length_nil, Nat.reduceAdd, Nat.reduceSub, Nat.zero_add, List.replicate_succ, List.replicate_zero]
    walk_at "go"
    refine ⟨by decide, fun p hp => ?_⟩
    walk_at "go"
    refine for_r (n := n) n.toNat rfl (by omega) (by omega) (fun i σ H' => ∃ (row : List Int) (num : Int) (v5 v6 : Option V), σ = [some (.int c), some (.int n), some (.int b), some (.ref p), some (.int num), v5, v6] ∧ row.length = i ∧ (∀ x ∈ row, 0 ≤ x ∧ x < b) ∧ But p H H' ∧ H' p = some (.lst (row.map V.int)))
      ⟨[], c, none, none, rfl, rfl, (fun x h => by cases h), But.refl.upd, upd_same⟩ ?turn ?done ?ev
    case ev =>
      intro R r
      walk_at "go"
      exact r
    case done =>
      rintro σ H' ⟨row, num, v5, v6, rfl, hl, hb, bu, e⟩
      walk_at "go"
      exact q p row H' (by omega) hb hp (bu.same hp) e
    case turn =>
      rintro i σ H' hi ⟨row, num, v5, v6, rfl, hl, hb, bu, e⟩
      have hlen : (row.map V.int).length < sizeLine := by
        rw [List.length_map]
        exact szl (by omega)
      walk_at "go"
      refine g_ite (fun h => ?_) (fun h => ?_)
      · walk_at "go"
        refine ⟨ty_l e, ?_⟩
        walk_at "go"
        refine g_append e hlen ?_
        walk_at "go"
        refine g_rI (cdivW (by omega) (Int.lt_of_le_of_lt h0.2.2.2 (by decide +kernel))) ?_
        walk_at "go"
        refine ⟨row ++ [num % b], num / b, _, _, rfl, by rw [List.length_append, hl]; rfl, fun x hx => ?_, bu.upd, by rw [upd_same, List.map_append]; rfl⟩
        rcases List.mem_append.mp hx with hx | hx
        · exact hb x hx
        · rw [List.mem_singleton.mp hx]
          exact ⟨Int.emod_nonneg _ (by omega), Int.emod_lt_of_pos _ (by omega)⟩
      · walk_at "go"
        refine ⟨ty_l e, ?_⟩
        walk_at "go"
        refine g_append e hlen ?_
        walk_at "go"
        refine ⟨row ++ [_ % b], num, _, _, rfl, by rw [List.length_append, hl]; rfl, fun x hx => ?_, bu.upd, by rw [upd_same, List.map_append]; rfl⟩
        rcases List.mem_append.mp hx with hx | hx
        · exact hb x hx
        · rw [List.mem_singleton.mp hx]
          exact ⟨Int.emod_nonneg _ (by omega), Int.emod_lt_of_pos _ (by omega)⟩

def sp_l_octets (K : PySem.W.Frag) : Sp := fun vs H Q _ => ∃ (a b : Addr) (ns : List Int), vs = [.ref a, .ref b] ∧ H a = some (.lst (ns.map V.int)) ∧ SqL K H b (ns.map V.int) ∧ ns.length ≤ 1000 ∧ Q (.bl true) H
theorem u_octets {a b : Addr} {ns : List Int} {H Q E} (h1 : H a = some (.lst (ns.map V.int))) (h2 : SqL K H b (ns.map V.int)) (h3 : ns.length ≤ 1000) (q : Q (.bl true) H) : sp_l_octets K ([.ref a, .ref b] ++ []) H Q E := ⟨a, b, ns, rfl, h1, h2, h3, q⟩
theorem ok_l_octets (T : Txt K mg) : FnOk P w K mg base CX0 2 T.f_l_octets T.d_l_octets ["actual", "expected"] (sp_l_octets K) := by
  refine T.F_l_octets.ok sc_l_octets (fun vs H Q E h => ?_) (fun cdv A outer s H vs Q E hr h => ?_)
  · obtain ⟨a, b, ns, rfl, h1, h2, h3, q⟩ := h
    rfl
  · obtain ⟨a, b, ns, rfl, h1, h2, h3, q⟩ := h
    have hu := hu_of hr
    refine ⟨_, (pss_cons (ps_if (PW.pt (pw_or (pt_not (pt_val (pe_callB call_isi (by rfl) T.n_isinstance (by decide +kernel) (pa_cons (pv 0) (pa_cons (pe_bltn (v := .ty "list") (by rfl) T.n_list (by decide +kernel) rfl) pa_nil))))) (pw_or1 (pt_cmpR op_ne (pe_callB call_len_seq (by rfl) T.n_len (by decide +kernel) (pa_cons (pv 0) pa_nil)) (pe_callB call_len_seq (by rfl) T.n_len (by decide +kernel) (pa_cons (pv 1) pa_nil)) (nomark _))))) (pss_one (ps_ret pe_bl)) pss_nil)
        (pss_cons (ps_for PassesOwn.never rfl (pi_range1 (by rfl) T.n_range (pa_cons (pe_callB call_len_seq (by rfl) T.n_len (by decide +kernel) (pa_cons (pv 1) pa_nil)) pa_nil)) (pg_name (i := 2) sc_l_octets.nd rfl (Or.inl rfl)) (pss_one (ps_if (PW.pt (pw_or (pt_not (pt_val (pe_call (ok_l_is_integer T) (hr.mono (by decide)) rfl T.m_l_is_integer T.F_l_is_integer.kp T.b_l_is_integer .nil pass0 (pa_cons (pe_ix ix_list (pv 0) (pv 2) (fun _ _ => rfl)) pa_nil)))) (pw_or1 (pt_cmpR op_ne (pe_ix ix_list (pv 0) (pv 2) (fun _ _ => rfl)) (pe_ix ix_list (pv 1) (pv 2) (fun _ _ => rfl)) (nomark _))))) (pss_one (ps_ret pe_bl)) pss_nil)))
        (pss_one (ps_ret pe_bl)))), ?_⟩
    dsimp only [cxOf, Cx.nox, Cx.wish, L2.start, List.map, List.cons_append, List.nil_append, List.length_cons, List.length_nil, Nat.reduceAdd, Nat.reduceSub, Nat.zero_add, List.replicate_succ, List.replicate_zero]
    walk_at "go"
    refine g_isiL h1 ?_
    walk_at "go"
    refine g_len (.inl (sl h1)) ?_
    walk_at "go"
    refine g_len (.inl h2) ?_
    walk_at "go"
    refine for_r (n := (ns.length : Int)) ns.length (by omega) (by omega) (by omega) (fun i σ H' => H' = H ∧ ∃ v, σ = [some (.ref a), some (.ref b), v]) ⟨rfl, none, rfl⟩ ?turn ?done ?ev
    case ev =>
      intro R r
      walk_at "go"
      refine g_len (.inl h2) ?_
      walk_at "go"
      rw [List.length_map]
      exact r
    case done =>
      rintro σ H' ⟨rfl, v, rfl⟩
      walk_at "go"
      exact q
    case turn =>
      rintro i σ H' hi ⟨rfl, v, rfl⟩
      obtain ⟨n, e, _⟩ := atI_ints (xs := ns) (i := (i : Int)) (by omega) (by omega)
      walk_at "go"
      refine g_ixL (sl h1) e ?_
      walk_at "go"
      refine g_ixL (sl h1) e ?_
      walk_at "go"
      refine g_ixL h2 e ?_
      walk_at "go"
      exact ⟨rfl, _, rfl⟩

local macro_rules | `(tactic| walk_at "use") => `(tactic| with_reducible refine g_hx ?_)
def octs (ns : List Int) : Prop := ∀ x ∈ ns, 0 ≤ x ∧ x < 256
def sp_to_hex (K : PySem.W.Frag) : Sp := fun vs H Q _ => ∃ (a : Addr) (ns : List Int), vs = [.ref a] ∧ SqL K H a (ns.map V.int) ∧ octs ns ∧ ns.length ≤ 1000 ∧ ∀ H', Same H H' → Q (.str (Tx (hexes ns))) H'
theorem u_tohex {a : Addr} {ns : List Int} {H Q E} (h : SqL K H a (ns.map V.int)) (h2 : octs ns) (h3 : ns.length ≤ 1000) (q : ∀ H', Same H H' → Q (.str (Tx (hexes ns))) H') : sp_to_hex K ([.ref a] ++ []) H Q E := ⟨a, ns, rfl, h, h2, h3, q⟩
theorem g_iStr {te : TE} {σ : St} {H : Hp} {R : It → Hp → Prop} (h : te σ H fun v H1 => ∃ x, v = .str x ∧ R (Its x) H1) : iStr te σ H R := h
theorem g_rng3 {ta : TA} {σ : St} {H : Hp} {R : It → Hp → Prop} (h : ta σ H fun vs H1 => ∃ (i j c : Int) (n : Nat), vs = [.int i, .int j, .int c] ∧ RgC i j c n ∧ R (Itc i c n) H1) : iRng3 ta σ H R := h
local macro_rules | `(tactic| walk_at "use") => `(tactic| with_reducible first | refine g_iStr ?_ | refine g_rng3 ?_)
theorem fitsL {i : Int} (h1 : -4000 ≤ i) (h2 : i ≤ 4000) : Builtin.Range.rangeFitsLong i = true := by
  unfold Builtin.Range.rangeFitsLong
  rw [decide_eq_true (show -(2 ^ 63) ≤ i by omega), decide_eq_true (show i < 2 ^ 63 by omega)]
  rfl
theorem rg2 {n : Nat} (h : n ≤ 1000) (he : n % 2 = 0) : RgC 0 (n : Int) 2 (n / 2) := by
  have e : Builtin.Range.rangeSize 0 (n : Int) 2 = ((n / 2 : Nat) : Int) := by
    rw [PyProof.Rows.rangeSize_pos (by decide) (by omega)]
    omega
  refine ⟨by decide, by decide, ?_, e⟩
  unfold Builtin.Range.small
  rw [e, fitsL (by decide) (by decide), fitsL (by omega) (by omega), fitsL (by decide) (by decide), fitsL (by omega) (by omega), if_pos (by decide), fitsL (by omega) (by omega), Bool.or_true]
  rfl
def hx2 (ns : List Int) : List (List Nat) := ns.map fun n => [hxd (n.toNat / 16), hxd (n.toNat % 16)]
theorem g_m1 {r : V → List V → Hp → VK → Prop} {to te : TE} {σ : St} {H : Hp} {Q : VK} (h : to σ H fun x H1 => (∃ a, x = V.str a) ∧ te σ H1 fun y H2 => r x [y] H2 Q) : tM1 r to te σ H Q := h
theorem hx2_sum : ∀ {ns : List Int}, (((hx2 ns).map SX.S).map (·.length)).sum = 2 * ns.length
  | [] => rfl
  | n :: ns => by
    show 2 + (((hx2 ns).map SX.S).map (·.length)).sum = _
    rw [hx2_sum, List.length_cons]
    omega
theorem ok_to_hex (T : Txt K mg) : FnOk P w K mg base CX0 1 T.f_to_hex T.d_to_hex ["octets"] (sp_to_hex K) := by
  refine T.F_to_hex.ok sc_to_hex (fun vs H Q E h => ?_) (fun cdv A outer s H vs Q E hr h => ?_)
  · obtain ⟨a, ns, rfl, hS, ho, hl, q⟩ := h
    rfl
  · obtain ⟨a, ns, rfl, hS, ho, hl, q⟩ := h
    have hu := hu_of hr
    refine ⟨_, (pss_one (ps_ret (pe_join pe_str (pe_lc (own := [("octet", 1)]) (g := gName 1) (tt := tYes) rfl sc_to_hex.nd (pi_list (pv 0)) (blkOk_by (N := ["octets", "octet"]) (sc := defScope s_to_hex) (by decide +kernel)) (fun _ _ _ _ _ => (pg_name (i := 1) sc_to_hex.nd rfl (Or.inl rfl))) (fun _ _ _ _ _ => pts_nil) (fun _ _ _ _ _ => (pe_joined1 (pe_hx2 (pv 1)))))))), ?_⟩
    dsimp only [cxOf, Cx.nox, Cx.wish, L2.start, List.map, List.cons_append, List.nil_append, List.length_cons, List.length_nil, Nat.reduceAdd, Nat.reduceSub, Nat.zero_add, List.replicate_succ, List.replicate_zero]
    walk_at "go"
    refine g_m1 ?_
    walk_at "go"
    refine ⟨⟨_, rfl⟩, ?_⟩
    walk_at "go"
    refine ⟨⟨_, hS⟩, fun D hD => ?_⟩
    refine lc_vals walk_list (((hx2 ns).map SX.S).map V.str) hD (by rw [List.length_map, List.length_map, List.length_map]; unfold hx2; rw [List.length_map]) (fun H s => s.seq hS) ?turn0 ?done0
    case turn0 =>
      rintro i x H1 H2 hi2 p ⟨rfl, hx⟩
      obtain ⟨n, hn, rfl⟩ := map_get hx
      obtain ⟨n0, n1⟩ := ho n (List.mem_of_getElem? hn)
      obtain ⟨m, rfl⟩ := Int.eq_ofNat_of_zero_le n0
      refine ⟨rfl, ?_⟩
      walk_at "go"
      refine g_hxE (by omega) ?_
      refine lc_next hD p (by rw [List.length_map, List.length_map]; unfold hx2; rw [List.length_map]; omega) ?_
      rw [List.getElem?_map, List.getElem?_map]
      unfold hx2
      rw [List.getElem?_map, hn]
      rfl
    case done0 =>
    intro H2 s2 e2
    refine ⟨Str.empty, D, (hx2 ns).map SX.S, rfl, rfl, .inl (sl e2), ?_, ?_⟩
    · rw [hx2_sum, List.length_map]
      unfold hx2
      rw [List.length_map]
      show 2 * ns.length + ns.length * 0 ≤ _
      omega
    · rw [join0]
      exact q H2 s2
theorem Tx_len {l : List Nat} : (Tx l).length = l.length := SX.S_len l
theorem cut_two {l : List Nat} {k : Nat} (h : 2 * k + 1 < l.length) : cutS (Tx l) (some ((2 * k : Nat) : Int)) (some ((2 * k + 2 : Nat) : Int)) = Tx [l.getD (2 * k) 0, l.getD (2 * k + 1) 0] := by
  unfold cutS
  rw [HT.sIx_nat, HT.sIx_nat, Tx_len, Nat.min_eq_left (by omega), Nat.min_eq_left (by omega)]
  show (⟨((l.drop (2 * k)).take (2 * k + 2 - 2 * k)).toArray⟩ : Str) = _
  rw [show 2 * k + 2 - 2 * k = 2 by omega, List.drop_eq_getElem_cons (by omega), List.drop_eq_getElem_cons (by omega)]
  simp only [List.getD_eq_getElem?_getD, List.getElem?_eq_getElem (show 2 * k < l.length by omega), List.getElem?_eq_getElem (show 2 * k + 1 < l.length by omega), Option.getD_some]
  rfl
theorem getD_mem {l : List Nat} {i : Nat} (h : i < l.length) : l.getD i 0 ∈ l := by
  rw [List.getD_eq_getElem?_getD, List.getElem?_eq_getElem h]
  exact List.getElem_mem h
def sp_from_hex (K : PySem.W.Frag) (C : Addr) : Sp := fun vs H Q E => ∃ l : List Nat, vs = [.str (Tx l)] ∧ l.length ≤ 1000 ∧
  (((l.length % 2 = 1 ∨ ∃ c ∈ l, ishex c = false) ∧ (∀ H', Same H H' → E (.ref C) none H')) ∨ (l.length % 2 = 0 ∧ (∀ c ∈ l, ishex c = true) ∧ ∀ p H', H p = none → Same H H' → H' p = some (.lst ((prs l (l.length / 2)).map V.int)) → Q (.ref p) H'))
theorem ok_from_hex (T : Txt K mg) : FnOk P w K mg base (L2.CX P w) 1 T.f_from_hex T.d_from_hex ["text"] (sp_from_hex K T.C_InvalidOctets) := by
  refine T.F_from_hex.okX sc_from_hex (fun vs H Q E h => ?_) (fun cdv A outer s H vs Q E hr h => ?_)
  · obtain ⟨l, rfl, hl, q⟩ := h
    rfl
  · obtain ⟨l, rfl, hl, q⟩ := h
    have hu := hu_of hr
    refine ⟨_, (pss_cons (ps_if (pt_cmpR op_ne (pe_op op_mod (pe_callB call_len_str (by rfl) T.n_len (by decide +kernel) (pa_cons (pv 0) pa_nil)) pe_int) pe_int (nomark _)) (pss_one (ps_rs rfl (takes_of rfl rfl rfl rfl) (pmk_0 PySem.F.excBase_ValueError T.xP_InvalidOctets T.c_InvalidOctets T.ke_InvalidOctets (raises_own T.be_InvalidOctets T.te_InvalidOctets) rfl))) pss_nil)
        (pss_cons (ps_if (pt_val (pe_callB (cr_any rfl) (by rfl) T.n_any (by decide +kernel) (pa_cons (pe_lc (own := [("digit", 2)]) (g := gName 2) (tt := tYes) rfl sc_from_hex.nd (pi_str (pv 0)) (blkOk_by (N := ["text", "at", "digit"]) (sc := defScope s_from_hex) (by decide +kernel)) (fun _ _ _ _ _ => (pg_name (i := 2) sc_from_hex.nd rfl (Or.inl rfl))) (fun _ _ _ _ _ => pts_nil) (fun _ _ _ _ _ => (pe_cmpR op_notIn_sign (pv 2) (pe_glob (v := .str (PySem.Str.ofString "0123456789abcdef")) (by rfl) T.v_HEX_DIGITS ⟨_, rfl⟩) (by with_unfolding_all rfl)))) pa_nil))) (pss_one (ps_rs rfl (takes_of rfl rfl rfl rfl) (pmk_0 PySem.F.excBase_ValueError T.xP_InvalidOctets T.c_InvalidOctets T.ke_InvalidOctets (raises_own T.be_InvalidOctets T.te_InvalidOctets) rfl))) pss_nil)
        (pss_one (ps_ret (pe_lc (own := [("at", 1)]) (g := gName 1) (tt := tYes) rfl sc_from_hex.nd (pi_range3 (by rfl) T.n_range (pa_cons pe_int (pa_cons (pe_callB call_len_str (by rfl) T.n_len (by decide +kernel) (pa_cons (pv 0) pa_nil)) (pa_cons pe_int pa_nil)))) (blkOk_by (N := ["text", "at", "digit"]) (sc := defScope s_from_hex) (by decide +kernel)) (fun _ _ _ _ _ => (pg_name (i := 1) sc_from_hex.nd rfl (Or.inl rfl))) (fun _ _ _ _ _ => pts_nil) (fun _ _ _ _ _ => (pe_callTy call_int_hex (by rfl) T.n_int (by decide +kernel) (pa_cons (pe_slice sl_str (pv 0) (po_some (pv 1)) (po_some (pe_op op_add (pv 1) pe_int))) (pa_cons pe_int pa_nil))))))))), ?_⟩
    dsimp only [cxOf, Cx.nox, Cx.wish, L2.start, List.map, List.cons_append, List.nil_append, List.length_cons, List.length_nil, Nat.reduceAdd, Nat.reduceSub, Nat.zero_add, List.replicate_succ, List.replicate_zero]
    have hlz : (Tx l).length ≤ sizeLine := by rw [Tx_len]; exact sz (by omega)
    walk_at "go"
    refine ⟨_, rfl, hlz, ?_⟩
    walk_at "go"
    rw [Tx_len]
    refine g_iteN (fun h => ?_) (fun h => ?_)
    · rcases q with ⟨_, q⟩ | ⟨he, _⟩
      · walk_at "go"
        exact q _ (fun _ _ z => z)
      · omega
    walk_at "go"
    refine ⟨_, rfl, fun D hD => ?_⟩
    refine lc_vals walk_str ((l.map fun c => !ishex c).map V.bl) hD (by rw [List.length_map, List.length_map]; rfl) (fun _ _ => trivial) ?turn0 ?done0
    case turn0 =>
      rintro i x H1 H2 hi2 p ⟨rfl, c, hc, rfl⟩
      have hc' : l[i]? = some c := by
        have : (l.toArray)[i]? = some c := hc
        rwa [List.getElem?_toArray] at this
      refine ⟨rfl, ?_⟩
      walk_at "go"
      refine ⟨c, _, rfl, rfl, ?_⟩
      refine lc_next hD p (by rw [List.length_map, List.length_map]; omega) ?_
      rw [List.getElem?_map, List.getElem?_map, hc']
      show some (V.bl (!ishex c)) = some (V.bl (!decide (c ∈ dig16.cps.toList)))
      by_cases z : ishex c = true
      · rw [decide_eq_true (ishex_mem.mpr z), z]
      · rw [decide_eq_false (fun w => z (ishex_mem.mp w)), Bool.not_eq_true _ |>.mp z]
    case done0 =>
    intro H2 s2 e2
    refine ⟨D, _, rfl, sl e2, ?_⟩
    walk_at "go"
    rcases q with ⟨hb, q⟩ | ⟨he, ha, q⟩
    · have hb' : ((l.map fun c => !ishex c).any id) = true := by
        rcases hb with hb | ⟨c, hc, hc2⟩
        · omega
        · rw [List.any_eq_true]
          exact ⟨true, List.mem_map.mpr ⟨c, hc, by rw [hc2]; rfl⟩, rfl⟩
      rw [hb']
      walk_at "go"
      exact q _ s2
    have ha' : ((l.map fun c => !ishex c).any id) = false := by
      rw [List.any_eq_false]
      intro b hb
      obtain ⟨c, hc, rfl⟩ := List.mem_map.mp hb
      rw [ha c hc]
      decide
    rw [ha']
    walk_at "go"
    refine ⟨_, rfl, hlz, ?_⟩
    walk_at "go"
    rw [Tx_len]
    refine ⟨0, _, 2, _, rfl, rg2 hl he, ?_⟩
    intro D2 hD2
    refine lc_vals walk_rangeC ((prs l (l.length / 2)).map V.int) hD2 (by rw [List.length_map]; unfold prs; rw [List.length_map, List.length_range]) (fun _ _ => trivial) ?turn1 ?done1
    case turn1 =>
      rintro i x H3 H4 hi2 p ⟨rfl, rfl⟩
      refine ⟨rfl, ?_⟩
      have hi3 : 2 * i + 1 < l.length := by omega
      walk_at "go"
      rw [show (0 : Int) + (i : Int) * 2 = ((2 * i : Nat) : Int) by omega]
      refine g_slS (by rw [Tx_len]; omega) ?_
      rw [show ((2 * i : Nat) : Int) + 2 = ((2 * i + 2 : Nat) : Int) by omega, cut_two hi3]
      walk_at "go"
      refine ⟨[l.getD (2 * i) 0, l.getD (2 * i + 1) 0], rfl, (by intro z; cases z), by show 2 ≤ 640; decide, ?_, ?_⟩
      · intro c hc
        simp only [List.mem_cons, List.not_mem_nil, or_false] at hc
        rcases hc with rfl | rfl
        · exact ishex_is (ha _ (getD_mem (by omega)))
        · exact ishex_is (ha _ (getD_mem (by omega)))
      · refine lc_next hD2 p (by rw [List.length_map]; unfold prs; rw [List.length_map, List.length_range]; omega) ?_
        unfold prs
        rw [List.getElem?_map, List.getElem?_map, List.getElem?_range (show i < l.length / 2 by omega)]
        show some (V.int _) = some (V.int _)
        congr 2
        show ((16 * Hx.hv (l.getD (2 * i) 0) + Hx.hv (l.getD (2 * i + 1) 0) : Nat) : Int) = (((0 * 16 + Hx.hv (l.getD (2 * i) 0)) * 16 + Hx.hv (l.getD (2 * i + 1) 0) : Nat) : Int)
        omega
    case done1 =>
    intro H3 s3 e3
    exact q D2 H3 (s2.free hD2) (s2.trans s3) e3
end
end My
namespace My
open PySem PySem.Spec L2
local macro_rules | `(tactic| walk_at "side") => `(tactic| first | assumption | decide | omega | exact ⟨by decide, by decide⟩ | exact ⟨by decide, by decide, by decide⟩ | decide +kernel | exact cdivW (by decide +kernel) (by decide +kernel) | exact Or.inl ⟨by omega, by omega⟩ | exact Or.inr ⟨by omega, by omega⟩ | (simp only [List.length_map, List.length_cons, List.length_nil, List.length_append]; omega))
local macro_rules | `(tactic| walk_at "fact") => `(tactic| first | assumption | omega | with_reducible rfl)
local macro_rules | `(tactic| walk_at "use") => `(tactic| fail "use")
local macro_rules | `(tactic| walk_at "go1") => `(tactic| with_reducible first | refine g_seq ?_ | refine g_asg ?_ | refine g_ret ?_ | refine g_ifS ?_ | refine g_drop ?_ | refine g_star ?_ | refine g_nx ?_ | refine g_rt ?_ | refine g_bkE ?_ | refine g_ctE ?_ | refine g_next ?_ | refine g_retN ?_ | refine g_brk ?_ | refine g_ct ?_ | refine g_c ?_ | refine g_op ?_ | refine g_un ?_ | refine g_rI0 ?_ | refine g_rU ?_ | refine g_rEqI ?_ | refine g_rNeI ?_ | refine g_isN ?_ | refine g_rIsB ?_ | refine g_rNotB ?_ | refine g_test ?_ | refine g_B ?_ | refine g_bl ?_ | refine g_and ?_ | refine g_or ?_ | refine g_not ?_ | refine g_andV ?_ | refine g_orV ?_ | refine g_notV ?_ | refine g_if ?_ | refine g_chain ?_ | refine g_yes ?_ | refine g_lc ?_ | refine g_revR ?_ | refine g_rng1 ?_ | refine g_iList ?_ | refine g_nil ?_ | refine g_cons ?_ | refine g_tup ?_ | refine g_lst ?_ | refine g_call ?_ | refine g_CB ?_ | refine g_sl ?_ | refine g_noPart ?_ | refine g_part ?_ | refine g_intE ?_ | refine g_ref ?_ | refine g_fld ?_ | refine g_sfld ?_ | refine g_meth ?_ | refine g_make ?_ | refine g_prop ?_  | refine g_ipI ?_ | refine g_int1 ?_ | refine g_int1B ?_ | refine g_one ?_ | refine g_two ?_ | refine g_isiI ?_ | refine g_isiIB ?_ | refine g_isiB ?_ | refine g_BM ?_ | refine g_BM0 ?_ | refine g_sub ?_)
local macro_rules | `(tactic| walk_at "go") => `(tactic| repeat (first | walk_at "go1" | ((with_reducible refine' g_nameE ?sd_ ?_); case sd_ => dsimp only [List.set_cons_succ, List.set_cons_zero]) | ((with_reducible refine' g_var ?sd_ ?_); case sd_ => exact rfl) | ((with_reducible refine' g_aug ?sd_ ?_); case sd_ => exact rfl) | ((with_reducible refine' g_rI ?sd_ ?_); case sd_ => walk_at "side") | ((with_reducible refine' g_dT ?sd_ ?_); case sd_ => walk_at "fact") | ((with_reducible refine' g_dF ?sd_ ?_); case sd_ => walk_at "fact") | ((with_reducible refine' g_nT ?sd_ ?_); case sd_ => walk_at "fact") | ((with_reducible refine' g_nF ?sd_ ?_); case sd_ => walk_at "fact") | (with_reducible refine g_iT rfl ?_) | (with_reducible refine g_iF rfl ?_) | walk_at "use"))
section
variable {P : Program} {w : World} {K : PySem.W.Frag} {mg : Str → Option Value} {base : Heap}
local macro_rules | `(tactic| walk_at "use") => `(tactic| with_reducible first | refine g_rs0 ?_ | refine g_rs1 ?_ | refine g_tryA ?_ | refine g_tryO ?_ | refine g_callS ?_ | refine g_joined ?_ | refine g_jsnil ?_ | refine g_jscons ?_ | refine g_fmt ?_)
local macro_rules | `(tactic| walk_at "fit") => `(tactic| (refine fit2 ?_; (try simp only [PySem.Str.length_append]); omega))
local macro_rules | `(tactic| walk_at "use") => `(tactic| first | ((with_reducible refine' g_addS ?sd_ ?_); case sd_ => (first | omega | (simp only [PySem.Str.length_append]; omega))) | ((with_reducible refine' g_slS ?sd_ ?_); case sd_ => omega) | (with_reducible refine g_m0 ?_))

local macro_rules | `(tactic| walk_at "use") => `(tactic| with_reducible first | refine u_isint ?_ | refine g_rEqS ?_ | refine g_rNeS ?_ | refine g_isiS ?_ | refine g_iStr ?_ | refine g_hx ?_ | refine u_cell (by assumption) (by decide) ?_ | refine u_cell (by assumption) (by omega) ?_)
def sp_l_char (K : PySem.W.Frag) : Sp := fun vs H Q _ => ∃ c : Int, vs = [.int c] ∧ ∀ s : Str, s.length = 1 → Q (.str s) H
theorem u_char {c : Int} {H Q E} (q : ∀ s : Str, s.length = 1 → Q (.str s) H) : sp_l_char K ([.int c] ++ []) H Q E := ⟨c, rfl, q⟩
def chs : Str := (" !\"#$&'()*+,-./0123456789:;<=>?@ABCDEFGHIJKLMNOPQRSTUVWXYZ[\\]^_`" : Str) ++ "abcdefghijklmnopqrstuvwxyz{|}~\n\t"
theorem chs_len : chs.cps.toList.length = 97 ∨ 96 ≤ chs.cps.toList.length := .inr (by decide +kernel)
theorem at_nat {xs : List Nat} {i : Int} {j c : Nat} (e : i = (j : Int)) (h : xs[j]? = some c) : atI xs i = some c := by
  obtain ⟨hl, _⟩ := List.getElem?_eq_some_iff.mp h
  subst e
  unfold atI
  rw [ixN_nat (by omega) (by omega)]
  exact h
theorem ok_l_char (T : Txt K mg) : FnOk P w K mg base CX0 1 T.f_l_char T.d_l_char ["cell"] (sp_l_char K) := by
  refine T.F_l_char.ok sc_l_char (fun vs H Q E h => ?_) (fun cdv A outer s H vs Q E hr h => ?_)
  · obtain ⟨c, rfl, q⟩ := h
    rfl
  · obtain ⟨c, rfl, q⟩ := h
    have hu := hu_of hr
    refine ⟨_, (pss_cons (ps_set (i := 1) sc_l_char.nd rfl (Or.inl rfl) pe_str)
        (pss_cons (ps_set (i := 1) sc_l_char.nd rfl (Or.inl rfl) (pe_op op_addS (pv 1) pe_str))
        (pss_one (ps_ret (pe_ix ix_str (pv 1) (pe_op op_mod (pe_callTy call_int1 (by rfl) T.n_int (by decide +kernel) (pa_cons (pv 0) pa_nil)) pe_int) (fun _ _ => rfl)))))), ?_⟩
    dsimp only [cxOf, Cx.nox, Cx.wish, L2.start, List.map, List.cons_append, List.nil_append, List.length_cons, List.length_nil, Nat.reduceAdd, Nat.reduceSub, Nat.zero_add, List.replicate_succ, List.replicate_zero]
    walk_at "go"
    refine g_addS (by decide +kernel) ?_
    show gName 1 (V.str chs) _ _ _
    have hz : chs.length ≤ sizeLine := by decide +kernel
    walk_at "go"
    have d0 := Int.emod_nonneg c (show (96 : Int) ≠ 0 by decide)
    have d1 := Int.emod_lt_of_pos c (show (0 : Int) < 96 by decide)
    have hl : (c % 96).toNat < chs.cps.toList.length := by
      rcases chs_len with h | h <;> omega
    refine ⟨chs, _, _, rfl, rfl, hz, at_nat (j := (c % 96).toNat) (by omega) (List.getElem?_eq_getElem hl), ?_⟩
    exact q _ rfl
theorem cutS_lo {z : Str} {k : Int} (h : 0 ≤ k) : (cutS z none (some k)).length ≤ k.toNat := by
  obtain ⟨n, rfl⟩ := Int.eq_ofNat_of_zero_le h
  show (List.toArray ((z.cps.toList.drop (HT.sIx z.length 0 none)).take (HT.sIx z.length z.length (some (n : Int)) - HT.sIx z.length 0 none))).size ≤ _
  rw [HT.sIx_nat, HT.sIx_none, List.size_toArray, List.length_take]
  omega
theorem cutS_hi {z : Str} {k : Int} (h : 0 ≤ k) : (cutS z (some k) none).length ≤ z.length - k.toNat := by
  obtain ⟨n, rfl⟩ := Int.eq_ofNat_of_zero_le h
  show (List.toArray ((z.cps.toList.drop (HT.sIx z.length 0 (some (n : Int)))).take (HT.sIx z.length z.length none - HT.sIx z.length 0 (some (n : Int))))).size ≤ _
  rw [HT.sIx_nat, HT.sIx_none, List.size_toArray, List.length_take]
  omega
def sp_l_changed (K : PySem.W.Frag) : Sp := fun vs H Q _ => ∃ (z : Str) (h c : Int), vs = [.str z, .int h, .int c] ∧ z.length ≤ 100 ∧ ∀ z' : Str, z'.length ≤ 101 → Q (.str z') H
theorem u_changed {z : Str} {h c : Int} {H Q E} (l : z.length ≤ 100) (q : ∀ z' : Str, z'.length ≤ 101 → Q (.str z') H) : sp_l_changed K ([.str z, .int h, .int c] ++ []) H Q E := ⟨z, h, c, rfl, l, q⟩
theorem ok_l_changed (T : Txt K mg) : FnOk P w K mg base CX0 2 T.f_l_changed T.d_l_changed ["text", "choice", "cell"] (sp_l_changed K) := by
  refine T.F_l_changed.ok sc_l_changed (fun vs H Q E h => ?_) (fun cdv A outer s H vs Q E hr h => ?_)
  · obtain ⟨z, h, c, rfl, hl, q⟩ := h
    rfl
  · obtain ⟨z, h, c, rfl, hl, q⟩ := h
    have hu := hu_of hr
    refine ⟨_, (pss_cons (ps_set (i := 3) sc_l_changed.nd rfl (Or.inl rfl) (pe_op op_mod (pe_op op_fdiv (pe_callTy call_int1 (by rfl) T.n_int (by decide +kernel) (pa_cons (pv 2) pa_nil)) pe_int) (pe_op op_add (pe_callB call_len_str (by rfl) T.n_len (by decide +kernel) (pa_cons (pv 0) pa_nil)) pe_int)))
        (pss_cons (ps_if (pt_cmpR op_eq (pv 1) pe_int (nomark _)) (pss_one (ps_ret (pe_op op_addS (pe_slice sl_str (pv 0) po_none (po_some (pv 3))) (pe_slice sl_str (pv 0) (po_some (pe_op op_add (pv 3) pe_int)) po_none)))) pss_nil)
        (pss_cons (ps_if (pt_cmpR op_eq (pv 1) pe_int (nomark _)) (pss_one (ps_ret (pe_op op_addS (pe_op op_addS (pe_slice sl_str (pv 0) po_none (po_some (pv 3))) (pe_call (ok_l_char T) (hr.mono (by decide)) rfl T.m_l_char T.F_l_char.kp T.b_l_char .nil pass0 (pa_cons (pv 2) pa_nil))) (pe_slice sl_str (pv 0) (po_some (pv 3)) po_none)))) pss_nil)
        (pss_cons (ps_if (pt_cmpR op_eq (pv 1) pe_int (nomark _)) (pss_one (ps_ret (pe_op op_addS (pe_op op_addS (pe_slice sl_str (pv 0) po_none (po_some (pv 3))) (pe_call (ok_l_char T) (hr.mono (by decide)) rfl T.m_l_char T.F_l_char.kp T.b_l_char .nil pass0 (pa_cons (pv 2) pa_nil))) (pe_slice sl_str (pv 0) (po_some (pe_op op_add (pv 3) pe_int)) po_none)))) pss_nil)
        (pss_one (ps_ret (pv 0))))))), ?_⟩
    dsimp only [cxOf, Cx.nox, Cx.wish, L2.start, List.map, List.cons_append, List.nil_append, List.length_cons, List.length_nil, Nat.reduceAdd, Nat.reduceSub, Nat.zero_add, List.replicate_succ, List.replicate_zero]
    walk_at "go"
    refine ⟨_, rfl, by rw [sizeLine_eq]; omega, ?_⟩
    walk_at "go"
    have d0 := Int.emod_nonneg (c / 96) (show (z.length : Int) + 1 ≠ 0 by omega)
    have d1 := Int.emod_lt_of_pos (c / 96) (show (0 : Int) < (z.length : Int) + 1 by omega)
    generalize c / 96 % ((z.length : Int) + 1) = k at d0 d1
    have l1 := cutS_lo (z := z) d0
    have l2 := cutS_hi (z := z) d0
    have l3 := cutS_hi (z := z) (show 0 ≤ k + 1 by omega)
    refine g_ite (fun e => ?_) (fun _ => ?_)
    · walk_at "go"
      exact q _ (by rw [PySem.Str.length_append]; omega)
    walk_at "go"
    refine g_ite (fun e => ?_) (fun _ => ?_)
    · walk_at "go"
      refine u_char fun s1 hs1 => ?_
      walk_at "go"
      exact q _ (by rw [PySem.Str.length_append, PySem.Str.length_append]; omega)
    walk_at "go"
    refine g_ite (fun e => ?_) (fun _ => ?_)
    · walk_at "go"
      refine u_char fun s1 hs1 => ?_
      walk_at "go"
      exact q _ (by rw [PySem.Str.length_append, PySem.Str.length_append]; omega)
    walk_at "go"
    exact q _ (by omega)
def sp_l_expected (K : PySem.W.Frag) : Sp := fun vs H Q _ => ∃ l : List Nat, vs = [.str (Tx l)] ∧ l.length ≤ 1000 ∧
  (((l.length % 2 = 1 ∨ ∃ c ∈ l, ishex c = false) ∧ (∀ H', Same H H' → Q .non H')) ∨ (l.length % 2 = 0 ∧ (∀ c ∈ l, ishex c = true) ∧ ∀ p H', H p = none → Same H H' → H' p = some (.lst ((prs l (l.length / 2)).map V.int)) → Q (.ref p) H'))
theorem ok_l_expected (T : Txt K mg) : FnOk P w K mg base CX0 1 T.f_l_expected T.d_l_expected ["text"] (sp_l_expected K) := by
  refine T.F_l_expected.ok sc_l_expected (fun vs H Q E h => ?_) (fun cdv A outer s H vs Q E hr h => ?_)
  · obtain ⟨l, rfl, hl, q⟩ := h
    rfl
  · obtain ⟨l, rfl, hl, q⟩ := h
    have hu := hu_of hr
    refine ⟨_, (pss_cons (ps_if (pt_cmpR op_eq (pe_op op_mod (pe_callB call_len_str (by rfl) T.n_len (by decide +kernel) (pa_cons (pv 0) pa_nil)) pe_int) pe_int (nomark _)) (pss_one (ps_ret pe_non)) pss_nil)
        (pss_cons (ps_set (i := 1) sc_l_expected.nd rfl (Or.inl rfl) (pe_lst pa_nil))
        (pss_cons (ps_for PassesOwn.never rfl (pi_range1 (by rfl) T.n_range (pa_cons (pe_op op_fdiv (pe_callB call_len_str (by rfl) T.n_len (by decide +kernel) (pa_cons (pv 0) pa_nil)) pe_int) pa_nil)) (pg_name (i := 2) sc_l_expected.nd rfl (Or.inl rfl)) (pss_cons (ps_set (i := 3) sc_l_expected.nd rfl (Or.inl rfl) (pe_m1 PySem.F.slot_str_find PySem.F.type_str_find mt_find pe_str (pe_ix ix_str (pv 0) (pe_op op_mul pe_int (pv 2)) (fun _ _ => rfl))))
        (pss_cons (ps_set (i := 4) sc_l_expected.nd rfl (Or.inl rfl) (pe_m1 PySem.F.slot_str_find PySem.F.type_str_find mt_find pe_str (pe_ix ix_str (pv 0) (pe_op op_add (pe_op op_mul pe_int (pv 2)) pe_int) (fun _ _ => rfl))))
        (pss_cons (ps_if (PW.pt (pw_or (pt_cmpR op_lt (pv 3) pe_int (nomark _)) (pw_or1 (pt_cmpR op_lt (pv 4) pe_int (nomark _))))) (pss_one (ps_ret pe_non)) pss_nil)
        (pss_one (ps_expr (pe_bm PySem.F.plainAttrs_list PySem.F.slot_list_append PySem.F.type_list_append mt_append (pv 1) (pa_cons (pe_op op_add (pe_op op_mul pe_int (pv 3)) (pv 4)) pa_nil))))))))
        (pss_one (ps_ret (pv 1)))))), ?_⟩
    dsimp only [cxOf, Cx.nox, Cx.wish, L2.start, List.map, List.cons_append, List.nil_append, List.length_cons, List.length_nil, Nat.reduceAdd, Nat.reduceSub, Nat.zero_add, List.replicate_succ, List.replicate_zero]
    have hlz : (Tx l).length ≤ sizeLine := by rw [Tx_len]; exact sz (by omega)
    walk_at "go"
    refine ⟨_, rfl, hlz, ?_⟩
    walk_at "go"
    rw [Tx_len]
    refine g_ite (fun h => ?_) (fun h => ?_)
    · rcases q with ⟨_, q⟩ | ⟨he, _⟩
      · walk_at "go"
        exact q _ (fun _ _ z => z)
      · omega
    walk_at "go"
    refine ⟨by show 0 ≤ sizeLine; decide, fun p hp => ?_⟩
    walk_at "go"
    refine for_r (n := ((l.length / 2 : Nat) : Int)) (l.length / 2) (by omega) (by omega) (by omega) (fun i σ H' => ∃ v2 v3 v4, σ = [some (.str (Tx l)), some (.ref p), v2, v3, v4] ∧ But p H H' ∧ H' p = some (.lst ((prs l i).map V.int)) ∧ ∀ j, j < 2 * i → ishex (l.getD j 0) = true) ?start ?turn ?done ?ev
    case start => exact ⟨none, none, none, rfl, But.refl.upd, upd_same, fun j hj => by omega⟩
    case ev =>
      intro R r
      walk_at "go"
      refine ⟨_, rfl, hlz, ?_⟩
      walk_at "go"
      rw [Tx_len, show (l.length : Int) / 2 = ((l.length / 2 : Nat) : Int) by omega]
      exact r
    case done =>
      rintro σ' H' ⟨v2, v3, v4, rfl, bt, e, ha⟩
      walk_at "go"
      rcases q with ⟨hb, q⟩ | ⟨he, _, q⟩
      · exfalso
        rcases hb with hb | ⟨c, hc, hc2⟩
        · omega
        · obtain ⟨j, hj⟩ := List.mem_iff_getElem?.mp hc
          have hjl := (List.getElem?_eq_some_iff.mp hj).1
          have := ha j (by omega)
          rw [List.getD_eq_getElem?_getD, hj] at this
          rw [show (some c).getD 0 = c from rfl, hc2] at this
          cases this
      · exact q p H' hp (bt.same hp) e
    case turn =>
      rintro i σ' H' hi ⟨v2, v3, v4, rfl, bt, e, ha⟩
      have g0 : 2 * i < l.length := by omega
      have g1 : 2 * i + 1 < l.length := by omega
      have a0 : atI (Tx l).cps.toList (2 * (i : Int)) = some (l.getD (2 * i) 0) := at_nat (j := 2 * i) (by omega) (by
        show l[2 * i]? = _
        rw [List.getD_eq_getElem?_getD, List.getElem?_eq_getElem g0]
        rfl)
      have a1 : atI (Tx l).cps.toList (2 * (i : Int) + 1) = some (l.getD (2 * i + 1) 0) := at_nat (j := 2 * i + 1) (by omega) (by
        show l[2 * i + 1]? = _
        rw [List.getD_eq_getElem?_getD, List.getElem?_eq_getElem g1]
        rfl)
      have m0 := getD_mem g0
      have m1 := getD_mem g1
      walk_at "go"
      refine g_m1 ?_
      walk_at "go"
      refine ⟨⟨_, rfl⟩, ?_⟩
      walk_at "go"
      refine ⟨_, _, _, rfl, rfl, hlz, a0, ?_⟩
      refine ⟨dig16, _, rfl, rfl, ?_⟩
      walk_at "go"
      refine g_m1 ?_
      walk_at "go"
      refine ⟨⟨_, rfl⟩, ?_⟩
      walk_at "go"
      refine ⟨_, _, _, rfl, rfl, hlz, a1, ?_⟩
      refine ⟨dig16, _, rfl, rfl, ?_⟩
      walk_at "go"
      have toNone : ∀ c ∈ l, ishex c = false → ∀ H', Same H H' → Q .non H' := fun c hc hc2 => by
        rcases q with ⟨_, q⟩ | ⟨_, hx, _⟩
        · exact q
        · rw [hx c hc] at hc2; cases hc2
      cases x0 : ishex (l.getD (2 * i) 0) with
      | false =>
        rw [find_not x0]
        walk_at "go"
        exact toNone _ m0 x0 _ (bt.same hp)
      | true =>
        rw [find_hex x0]
        refine g_dF (by omega) ?_
        walk_at "go"
        cases x1 : ishex (l.getD (2 * i + 1) 0) with
        | false =>
          rw [find_not x1]
          walk_at "go"
          exact toNone _ m1 x1 _ (bt.same hp)
        | true =>
          rw [find_hex x1]
          refine g_dF (by omega) ?_
          walk_at "go"
          refine ⟨ty_l e, ?_⟩
          have h0 := hv_nn x0
          have h1 := hv_nn x1
          walk_at "go"
          refine g_append e (by rw [List.length_map]; unfold prs; rw [List.length_map, List.length_range]; exact szl (by omega)) ?_
          walk_at "go"
          refine ⟨_, _, _, rfl, bt.upd, ?_, fun j hj => ?_⟩
          · rw [upd_same, prs_succ, List.map_append]
            congr 3
          · by_cases z : j < 2 * i
            · exact ha j z
            · obtain rfl | rfl : j = 2 * i ∨ j = 2 * i + 1 := by omega
              · exact x0
              · exact x1
def sp_l_base (K : PySem.W.Frag) : Sp := fun vs H Q _ => ∃ l : List Nat, vs = [.str (Tx l)] ∧ l.length ≤ 1000 ∧ (l.length % 2 = 1 ∨ ∃ c ∈ l, ishex c = false) ∧ (∀ H', Same H H' → Q (.bl true) H')
theorem ok_l_base (T : Txt K mg) : FnOk P w K mg base CX0 2 T.f_l_base T.d_l_base ["text"] (sp_l_base K) := by
  refine T.F_l_base.ok sc_l_base (fun vs H Q E h => ?_) (fun cdv A outer s H vs Q E hr h => ?_)
  · obtain ⟨l, rfl, hl, hb, q⟩ := h
    rfl
  · obtain ⟨l, rfl, hl, hb, q⟩ := h
    have hu := hu_of hr
    refine ⟨_, (pss_cons (ps_tryA (i := 1) rfl rfl sc_l_base.nd rfl rfl ⟨rfl, by decide, .inl T.c_ThroughlineError⟩ takes0 (fun W pn xe tk po_ => (pss_one (ps_expr (pe_callS (ok_from_hex T) (hr.mono (by decide)) rfl T.m_from_hex T.F_from_hex.kp T.b_from_hex (fun σ => passAt tk σ) (pa_cons (pv 0) pa_nil))))) (fun a oe cls d pn hz_ hf_ => (pss_one (ps_ret (pe_and (pe_callB (call_isE2 hz_ hf_) (by rfl) T.n_isinstance (by decide +kernel) (pa_cons (pv 1) (pa_cons (pe_bltn (v := .ty "ValueError") (by rfl) T.n_ValueError (by decide +kernel) rfl) pa_nil))) (pe_one (pe_not (pe_callB (call_isE2 hz_ hf_) (by rfl) T.n_isinstance (by decide +kernel) (pa_cons (pv 1) (pa_cons (pe_glob (v := .ref T.C_DamagedSegment) (by rfl) T.c_DamagedSegment rfl) pa_nil))))))))))
        (pss_one (ps_ret pe_bl))), ?_⟩
    dsimp only [cxOf, Cx.nox, Cx.wish, L2.start, List.map, List.cons_append, List.nil_append, List.length_cons, List.length_nil, Nat.reduceAdd, Nat.reduceSub, Nat.zero_add, List.replicate_succ, List.replicate_zero]
    walk_at "go"
    refine ⟨l, rfl, hl, .inl ⟨hb, fun H1 s1 => ?_⟩⟩
    refine g_caught T.em_InvalidOctets_ThroughlineError fun e he => ?_
    dsimp only [List.set_cons_succ, List.set_cons_zero]
    walk_at "go"
    refine g_isET T.xc_InvalidOctets T.ko_InvalidOctets_ValueError ?_
    walk_at "go"
    refine g_isER T.xc_InvalidOctets T.ko_InvalidOctets_DamagedSegment ?_
    walk_at "go"
    exact q _ s1
end
end My
namespace My
open PySem PySem.Spec L2
local macro_rules | `(tactic| walk_at "side") => `(tactic| first | assumption | decide | omega | exact ⟨by decide, by decide⟩ | exact ⟨by decide, by decide, by decide⟩ | decide +kernel | exact cdivW (by decide +kernel) (by decide +kernel) | exact Or.inl ⟨by omega, by omega⟩ | exact Or.inr ⟨by omega, by omega⟩ | (simp only [List.length_map, List.length_cons, List.length_nil, List.length_append]; omega))
local macro_rules | `(tactic| walk_at "fact") => `(tactic| first | assumption | omega | with_reducible rfl)
local macro_rules | `(tactic| walk_at "use") => `(tactic| fail "use")
local macro_rules | `(tactic| walk_at "go1") => `(tactic| with_reducible first | refine g_seq ?_ | refine g_asg ?_ | refine g_ret ?_ | refine g_ifS ?_ | refine g_drop ?_ | refine g_star ?_ | refine g_nx ?_ | refine g_rt ?_ | refine g_bkE ?_ | refine g_ctE ?_ | refine g_next ?_ | refine g_retN ?_ | refine g_brk ?_ | refine g_ct ?_ | refine g_c ?_ | refine g_op ?_ | refine g_un ?_ | refine g_rI0 ?_ | refine g_rU ?_ | refine g_rEqI ?_ | refine g_rNeI ?_ | refine g_isN ?_ | refine g_rIsB ?_ | refine g_rNotB ?_ | refine g_test ?_ | refine g_B ?_ | refine g_bl ?_ | refine g_and ?_ | refine g_or ?_ | refine g_not ?_ | refine g_andV ?_ | refine g_orV ?_ | refine g_notV ?_ | refine g_if ?_ | refine g_chain ?_ | refine g_yes ?_ | refine g_lc ?_ | refine g_revR ?_ | refine g_rng1 ?_ | refine g_iList ?_ | refine g_nil ?_ | refine g_cons ?_ | refine g_tup ?_ | refine g_lst ?_ | refine g_call ?_ | refine g_CB ?_ | refine g_sl ?_ | refine g_noPart ?_ | refine g_part ?_ | refine g_intE ?_ | refine g_ref ?_ | refine g_fld ?_ | refine g_sfld ?_ | refine g_meth ?_ | refine g_make ?_ | refine g_prop ?_  | refine g_ipI ?_ | refine g_int1 ?_ | refine g_int1B ?_ | refine g_one ?_ | refine g_two ?_ | refine g_isiI ?_ | refine g_isiIB ?_ | refine g_isiB ?_ | refine g_BM ?_ | refine g_BM0 ?_ | refine g_sub ?_)
local macro_rules | `(tactic| walk_at "go") => `(tactic| repeat (first | walk_at "go1" | ((with_reducible refine' g_nameE ?sd_ ?_); case sd_ => dsimp only [List.set_cons_succ, List.set_cons_zero]) | ((with_reducible refine' g_var ?sd_ ?_); case sd_ => exact rfl) | ((with_reducible refine' g_aug ?sd_ ?_); case sd_ => exact rfl) | ((with_reducible refine' g_rI ?sd_ ?_); case sd_ => walk_at "side") | ((with_reducible refine' g_dT ?sd_ ?_); case sd_ => walk_at "fact") | ((with_reducible refine' g_dF ?sd_ ?_); case sd_ => walk_at "fact") | ((with_reducible refine' g_nT ?sd_ ?_); case sd_ => walk_at "fact") | ((with_reducible refine' g_nF ?sd_ ?_); case sd_ => walk_at "fact") | (with_reducible refine g_iT rfl ?_) | (with_reducible refine g_iF rfl ?_) | walk_at "use"))
section
variable {P : Program} {w : World} {K : PySem.W.Frag} {mg : Str → Option Value} {base : Heap}
local macro_rules | `(tactic| walk_at "use") => `(tactic| with_reducible first | refine g_rs0 ?_ | refine g_rs1 ?_ | refine g_tryA ?_ | refine g_tryO ?_ | refine g_callS ?_ | refine g_joined ?_ | refine g_jsnil ?_ | refine g_jscons ?_ | refine g_fmt ?_)
local macro_rules | `(tactic| walk_at "fit") => `(tactic| (refine fit2 ?_; (try simp only [PySem.Str.length_append]); omega))
local macro_rules | `(tactic| walk_at "use") => `(tactic| first | ((with_reducible refine' g_addS ?sd_ ?_); case sd_ => (first | omega | (simp only [PySem.Str.length_append]; omega))) | ((with_reducible refine' g_slS ?sd_ ?_); case sd_ => omega) | (with_reducible refine g_m0 ?_))

local macro_rules | `(tactic| walk_at "use") => `(tactic| with_reducible first | refine u_isint ?_ | refine g_rEqS ?_ | refine g_rNeS ?_ | refine g_isiS ?_ | refine g_iStr ?_ | refine g_hx ?_ | refine g_m1 ?_ | refine u_cell (by assumption) (by decide) ?_ | refine u_cell (by assumption) (by omega) ?_)
def sp_law (K : PySem.W.Frag) : Sp := fun vs H Q _ => ∃ (a : Addr) (ns : List Int), vs = [.ref a] ∧ SqL K H a (ns.map V.int) ∧ ns.length ≤ 63 ∧ ∀ H', Q (.bl true) H'

theorem ok_law (T : Txt K mg) : FnOk P w K mg base CX0 3 T.f_law T.d_law ["script"] (sp_law K) := by
  refine T.F_law.ok sc_law (fun vs H Q E h => ?_) (fun cdv A outer s H vs Q E hr h => ?_)
  · obtain ⟨a, ns, rfl, hS, hlen, q⟩ := h
    rfl
  · obtain ⟨a, ns, rfl, hS, hlen, q⟩ := h
    have hu := hu_of hr
    refine ⟨_, (pss_cons (ps_set (i := 1) sc_law.nd rfl (Or.inl rfl) (pe_call (ok_l_row T) (hr.mono (by decide)) rfl T.m_l_row T.F_l_row.kp T.b_l_row .nil pass0 (pa_cons (pe_call (ok_l_cell T) (hr.mono (by decide)) rfl T.m_l_cell T.F_l_cell.kp T.b_l_cell .nil pass0 (pa_cons (pv 0) (pa_cons pe_int pa_nil))) (pa_cons (pe_op op_mod (pe_callTy call_int1 (by rfl) T.n_int (by decide +kernel) (pa_cons (pe_call (ok_l_cell T) (hr.mono (by decide)) rfl T.m_l_cell T.F_l_cell.kp T.b_l_cell .nil pass0 (pa_cons (pv 0) (pa_cons pe_int pa_nil))) pa_nil)) pe_int) (pa_cons pe_int pa_nil)))))
        (pss_cons (ps_set (i := 2) sc_law.nd rfl (Or.inl rfl) (pe_join pe_str (pe_lc (own := [("octet", 9)]) (g := gName 9) (tt := tYes) rfl sc_law.nd (pi_list (pv 1)) (blkOk_by (N := ["script", "row", "text", "given", "actual", "changed", "expected", "raised", "octets", "octet"]) (sc := defScope s_law) (by decide +kernel)) (fun _ _ _ _ _ => (pg_name (i := 9) sc_law.nd rfl (Or.inl rfl))) (fun _ _ _ _ _ => pts_nil) (fun _ _ _ _ _ => (pe_op op_addS (pe_ix ix_str pe_str (pe_op op_fdiv (pv 9) pe_int) (fun _ _ => rfl)) (pe_ix ix_str pe_str (pe_op op_sub (pv 9) (pe_op op_mul (pe_op op_fdiv (pv 9) pe_int) pe_int)) (fun _ _ => rfl)))))))
        (pss_cons (ps_set (i := 3) sc_law.nd rfl (Or.inl rfl) (pe_callTy call_list_of (by rfl) T.n_list (by decide +kernel) (pa_cons (pv 1) pa_nil)))
        (pss_cons (ps_set (i := 4) sc_law.nd rfl (Or.inl rfl) (pe_call (ok_to_hex T) (hr.mono (by decide)) rfl T.m_to_hex T.F_to_hex.kp T.b_to_hex .nil pass0 (pa_cons (pv 3) pa_nil)))
        (pss_cons (ps_if (PW.pt (pw_or (pt_not (pt_val (pe_callB call_isi (by rfl) T.n_isinstance (by decide +kernel) (pa_cons (pv 4) (pa_cons (pe_bltn (v := .ty "str") (by rfl) T.n_str (by decide +kernel) rfl) pa_nil))))) (pw_or (pt_cmpR op_ne (pv 4) (pv 2) (nomark _)) (pw_or1 (pt_not (pt_val (pe_call (ok_l_octets T) (hr.mono (by decide)) rfl T.m_l_octets T.F_l_octets.kp T.b_l_octets .nil pass0 (pa_cons (pv 3) (pa_cons (pv 1) pa_nil))))))))) (pss_one (ps_ret pe_bl)) pss_nil)
        (pss_cons (ps_set (i := 5) sc_law.nd rfl (Or.inl rfl) (pe_call (ok_l_changed T) (hr.mono (by decide)) rfl T.m_l_changed T.F_l_changed.kp T.b_l_changed .nil pass0 (pa_cons (pv 2) (pa_cons (pe_op op_mod (pe_callTy call_int1 (by rfl) T.n_int (by decide +kernel) (pa_cons (pe_call (ok_l_cell T) (hr.mono (by decide)) rfl T.m_l_cell T.F_l_cell.kp T.b_l_cell .nil pass0 (pa_cons (pv 0) (pa_cons pe_int pa_nil))) pa_nil)) pe_int) (pa_cons (pe_call (ok_l_cell T) (hr.mono (by decide)) rfl T.m_l_cell T.F_l_cell.kp T.b_l_cell .nil pass0 (pa_cons (pv 0) (pa_cons pe_int pa_nil))) pa_nil)))))
        (pss_cons (ps_set (i := 6) sc_law.nd rfl (Or.inl rfl) (pe_call (ok_l_expected T) (hr.mono (by decide)) rfl T.m_l_expected T.F_l_expected.kp T.b_l_expected .nil pass0 (pa_cons (pv 5) pa_nil)))
        (pss_cons (ps_set (i := 7) sc_law.nd rfl (Or.inl rfl) pe_bl)
        (pss_cons (ps_set (i := 8) sc_law.nd rfl (Or.inl rfl) pe_non)
        (pss_cons (ps_tryO rfl rfl ⟨rfl, by decide, .inl T.c_InvalidOctets⟩ takes0 (fun W pn xe tk po_ => (pss_one (ps_set (i := 8) sc_law.nd rfl (Or.inl rfl) (pe_callS (ok_from_hex T) (hr.mono (by decide)) rfl T.m_from_hex T.F_from_hex.kp T.b_from_hex (fun σ => passAt tk σ) (pa_cons (pv 5) pa_nil))))) (fun a oe cls d pn hz_ hf_ => (pss_one (ps_set (i := 7) sc_law.nd rfl (Or.inl rfl) pe_bl))))
        (pss_cons (ps_if (pt_cmpR op_isN (pv 6) pe_non (nomark _)) (pss_one (ps_ret (pe_and (pv 7) (pe_one (pe_call (ok_l_base T) (hr.mono (by decide)) rfl T.m_l_base T.F_l_base.kp T.b_l_base .nil pass0 (pa_cons (pv 5) pa_nil)))))) pss_nil)
        (pss_one (ps_ret (pe_and (pe_not (pv 7)) (pe_one (pe_call (ok_l_octets T) (hr.mono (by decide)) rfl T.m_l_octets T.F_l_octets.kp T.b_l_octets .nil pass0 (pa_cons (pv 8) (pa_cons (pv 6) pa_nil)))))))))))))))))), ?_⟩
    dsimp only [cxOf, Cx.nox, Cx.wish, L2.start, List.map, List.cons_append, List.nil_append, List.length_cons, List.length_nil, Nat.reduceAdd, Nat.reduceSub, Nat.zero_add, List.replicate_succ, List.replicate_zero]
    walk_at "go"
    refine u_row ⟨by omega, by omega, by decide, by decide⟩ fun pr row H1 lrow brow nr s1 er => ?_
    have hS1 := s1.seq hS
    have hrl : row.length ≤ 24 := by omega
    walk_at "go"
    refine ⟨⟨_, rfl⟩, ?_⟩
    walk_at "go"
    refine ⟨⟨_, sl er⟩, fun D hD => ?_⟩
    refine lc_vals walk_list (((hx2 row).map SX.S).map V.str) hD (by rw [List.length_map, List.length_map, List.length_map]; unfold hx2; rw [List.length_map]) (fun H s => s.seq (sl er)) ?turn0 ?done0
    case turn0 =>
      rintro i x H2 H3 hi2 p ⟨rfl, hx⟩
      obtain ⟨n, hn, rfl⟩ := map_get hx
      obtain ⟨n0, n1⟩ := brow n (List.mem_of_getElem? hn)
      obtain ⟨m, rfl⟩ := Int.eq_ofNat_of_zero_le n0
      have hzd : dig16.length ≤ sizeLine := by decide +kernel
      have e1 := hxd_ish (m / 16) (by omega)
      have e2 := hxd_ish (m % 16) (by omega)
      refine ⟨rfl, ?_⟩
      walk_at "go"
      refine ⟨dig16, _, _, rfl, rfl, hzd, at_nat (j := m / 16) (by omega) e1, ?_⟩
      walk_at "go"
      refine ⟨dig16, _, _, rfl, rfl, hzd, at_nat (j := m % 16) (by omega) e2, ?_⟩
      refine g_addS (by show 1 + 1 ≤ 16777216; decide) ?_
      refine lc_next hD p (by rw [List.length_map, List.length_map]; unfold hx2; rw [List.length_map]; omega) ?_
      rw [List.getElem?_map, List.getElem?_map]
      unfold hx2
      rw [List.getElem?_map, hn]
      rfl
    case done0 =>
    intro H2 s2 e2
    have er2 := s2 _ _ er
    refine ⟨Str.empty, D, (hx2 row).map SX.S, rfl, rfl, .inl (sl e2), ?_, ?_⟩
    · rw [hx2_sum, List.length_map]
      unfold hx2
      rw [List.length_map]
      show 2 * row.length + row.length * 0 ≤ _
      omega
    rw [join0]
    show gName 2 (V.str (Tx (hexes row))) _ _ _
    walk_at "go"
    refine ⟨pr, _, rfl, .inl (sl er2), fun g hg => ?_⟩
    walk_at "go"
    generalize z3 : upd H2 g _ = H3
    have s3 : Same H2 H3 := by rw [← z3]; exact same_upd hg
    have k3 : H3 g = some (.lst (row.map V.int)) := (congrFun z3 g).symm.trans upd_same
    clear z3
    refine u_tohex (sl k3) brow (by omega) fun H4 s4 => ?_
    walk_at "go"
    refine u_octets (s4 _ _ k3) (sl (s4 _ _ (s3 _ _ er2))) (by omega) ?_
    have hS4 := (s2.trans (s3.trans s4)).seq hS1
    walk_at "go"
    refine u_changed (by rw [Tx_len, hexes_len]; omega) fun z hz => ?_
    obtain ⟨⟨l⟩⟩ := z
    have hll : l.length ≤ 101 := hz
    show gName 5 (V.str (Tx l)) _ _ _
    walk_at "go"
    by_cases hb : l.length % 2 = 1 ∨ ∃ c ∈ l, ishex c = false
    · refine ⟨l, rfl, by omega, .inl ⟨hb, fun H5 s5 => ?_⟩⟩
      walk_at "go"
      refine ⟨l, rfl, by omega, .inl ⟨hb, fun H6 s6 => ?_⟩⟩
      refine g_caughtO T.em_InvalidOctets_InvalidOctets fun e he => ?_
      walk_at "go"
      refine ⟨l, rfl, by omega, hb, fun H7 s7 => ?_⟩
      walk_at "go"
      exact q _
    · have he : l.length % 2 = 0 := by
        have : ¬ l.length % 2 = 1 := fun z => hb (.inl z)
        omega
      have ha : ∀ c ∈ l, ishex c = true := fun c hc => by
        cases z : ishex c with
        | true => rfl
        | false => exact absurd (.inr ⟨c, hc, z⟩) hb
      refine ⟨l, rfl, by omega, .inr ⟨he, ha, fun pe H5 hpe s5 e5 => ?_⟩⟩
      walk_at "go"
      refine ⟨l, rfl, by omega, .inr ⟨he, ha, fun po H6 hpo s6 e6 => ?_⟩⟩
      walk_at "go"
      refine u_octets e6 (sl (s6 _ _ e5)) (by unfold prs; rw [List.length_map, List.length_range]; omega) ?_
      exact q _
end
end My
namespace My
open PySem PySem.Spec L2
local macro_rules | `(tactic| walk_at "side") => `(tactic| first | assumption | decide | omega | exact ⟨by decide, by decide⟩ | exact ⟨by decide, by decide, by decide⟩ | decide +kernel | exact cdivW (by decide +kernel) (by decide +kernel) | exact Or.inl ⟨by omega, by omega⟩ | exact Or.inr ⟨by omega, by omega⟩ | (simp only [List.length_map, List.length_cons, List.length_nil, List.length_append]; omega))
local macro_rules | `(tactic| walk_at "fact") => `(tactic| first | assumption | omega | with_reducible rfl)
local macro_rules | `(tactic| walk_at "use") => `(tactic| fail "use")
local macro_rules | `(tactic| walk_at "go1") => `(tactic| with_reducible first | refine g_seq ?_ | refine g_asg ?_ | refine g_ret ?_ | refine g_ifS ?_ | refine g_drop ?_ | refine g_star ?_ | refine g_nx ?_ | refine g_rt ?_ | refine g_bkE ?_ | refine g_ctE ?_ | refine g_next ?_ | refine g_retN ?_ | refine g_brk ?_ | refine g_ct ?_ | refine g_c ?_ | refine g_op ?_ | refine g_un ?_ | refine g_rI0 ?_ | refine g_rU ?_ | refine g_rEqI ?_ | refine g_rNeI ?_ | refine g_isN ?_ | refine g_rIsB ?_ | refine g_rNotB ?_ | refine g_test ?_ | refine g_B ?_ | refine g_bl ?_ | refine g_and ?_ | refine g_or ?_ | refine g_not ?_ | refine g_andV ?_ | refine g_orV ?_ | refine g_notV ?_ | refine g_if ?_ | refine g_chain ?_ | refine g_yes ?_ | refine g_lc ?_ | refine g_revR ?_ | refine g_rng1 ?_ | refine g_iList ?_ | refine g_nil ?_ | refine g_cons ?_ | refine g_tup ?_ | refine g_lst ?_ | refine g_call ?_ | refine g_CB ?_ | refine g_sl ?_ | refine g_noPart ?_ | refine g_part ?_ | refine g_intE ?_ | refine g_ref ?_ | refine g_fld ?_ | refine g_sfld ?_ | refine g_meth ?_ | refine g_make ?_ | refine g_prop ?_  | refine g_ipI ?_ | refine g_int1 ?_ | refine g_int1B ?_ | refine g_one ?_ | refine g_two ?_ | refine g_isiI ?_ | refine g_isiIB ?_ | refine g_isiB ?_ | refine g_BM ?_ | refine g_BM0 ?_ | refine g_sub ?_)
local macro_rules | `(tactic| walk_at "go") => `(tactic| repeat (first | walk_at "go1" | ((with_reducible refine' g_nameE ?sd_ ?_); case sd_ => dsimp only [List.set_cons_succ, List.set_cons_zero]) | ((with_reducible refine' g_var ?sd_ ?_); case sd_ => exact rfl) | ((with_reducible refine' g_aug ?sd_ ?_); case sd_ => exact rfl) | ((with_reducible refine' g_rI ?sd_ ?_); case sd_ => walk_at "side") | ((with_reducible refine' g_dT ?sd_ ?_); case sd_ => walk_at "fact") | ((with_reducible refine' g_dF ?sd_ ?_); case sd_ => walk_at "fact") | ((with_reducible refine' g_nT ?sd_ ?_); case sd_ => walk_at "fact") | ((with_reducible refine' g_nF ?sd_ ?_); case sd_ => walk_at "fact") | (with_reducible refine g_iT rfl ?_) | (with_reducible refine g_iF rfl ?_) | walk_at "use"))
theorem all_mk {l : PySem.W.OpenLaw} {w : World} {K : PySem.W.Frag} {h : Heap} {mg : Str → Option Value} {fa : Addr} (X : K.In h) (G : h.Ns mainGlobals mg) (hfa : mg "law" = some (.ref fa))
    {t_HEX_DIGITS : Tok} {C_ThroughlineError : Addr} {C_InvalidOctets : Addr} {C_DamagedSegment : Addr} {f_to_hex : Addr} {od_to_hex an_to_hex : Option Addr} {sl_to_hex : Array (Option Value)} {oc_to_hex kV_to_hex dc_to_hex pm_to_hex cd_to_hex ct_to_hex : Value} {f_from_hex : Addr} {od_from_hex an_from_hex : Option Addr} {sl_from_hex : Array (Option Value)} {oc_from_hex kV_from_hex dc_from_hex pm_from_hex cd_from_hex ct_from_hex : Value} {f_l_is_integer : Addr} {od_l_is_integer an_l_is_integer : Option Addr} {sl_l_is_integer : Array (Option Value)} {oc_l_is_integer kV_l_is_integer dc_l_is_integer pm_l_is_integer cd_l_is_integer ct_l_is_integer : Value} {f_l_cell : Addr} {od_l_cell an_l_cell : Option Addr} {sl_l_cell : Array (Option Value)} {oc_l_cell kV_l_cell dc_l_cell pm_l_cell cd_l_cell ct_l_cell : Value} {f_l_row : Addr} {od_l_row an_l_row : Option Addr} {sl_l_row : Array (Option Value)} {oc_l_row kV_l_row dc_l_row pm_l_row cd_l_row ct_l_row : Value} {f_l_octets : Addr} {od_l_octets an_l_octets : Option Addr} {sl_l_octets : Array (Option Value)} {oc_l_octets kV_l_octets dc_l_octets pm_l_octets cd_l_octets ct_l_octets : Value} {f_l_char : Addr} {od_l_char an_l_char : Option Addr} {sl_l_char : Array (Option Value)} {oc_l_char kV_l_char dc_l_char pm_l_char cd_l_char ct_l_char : Value} {f_l_changed : Addr} {od_l_changed an_l_changed : Option Addr} {sl_l_changed : Array (Option Value)} {oc_l_changed kV_l_changed dc_l_changed pm_l_changed cd_l_changed ct_l_changed : Value} {f_l_expected : Addr} {od_l_expected an_l_expected : Option Addr} {sl_l_expected : Array (Option Value)} {oc_l_expected kV_l_expected dc_l_expected pm_l_expected cd_l_expected ct_l_expected : Value} {f_l_base : Addr} {od_l_base an_l_base : Option Addr} {sl_l_base : Array (Option Value)} {oc_l_base kV_l_base dc_l_base pm_l_base cd_l_base ct_l_base : Value} {f_law : Addr} {od_law an_law : Option Addr} {sl_law : Array (Option Value)} {oc_law kV_law dc_law pm_law cd_law ct_law : Value}
    (v_HEX_DIGITS : PySem.W.nsIn K mainGlobals "HEX_DIGITS" = some (some (.str (PySem.Str.ofString "0123456789abcdef") t_HEX_DIGITS)))
    (c_ThroughlineError : PySem.W.nsIn K mainGlobals "ThroughlineError" = some (some (.ref C_ThroughlineError)))
    (be_ThroughlineError : PySem.W.subIn K (.ref C_ThroughlineError) (.type "BaseException") = some true)
    (te_ThroughlineError : PySem.W.typeIn K (.ref C_ThroughlineError) = some (.type "type"))
    (hd_ThroughlineError : PySem.W.hasDictIn K C_ThroughlineError = true)
    (ic_ThroughlineError : PySem.W.isClsIn K C_ThroughlineError = true)
    (c_InvalidOctets : PySem.W.nsIn K mainGlobals "InvalidOctets" = some (some (.ref C_InvalidOctets)))
    (be_InvalidOctets : PySem.W.subIn K (.ref C_InvalidOctets) (.type "BaseException") = some true)
    (te_InvalidOctets : PySem.W.typeIn K (.ref C_InvalidOctets) = some (.type "type"))
    (hd_InvalidOctets : PySem.W.hasDictIn K C_InvalidOctets = true)
    (ic_InvalidOctets : PySem.W.isClsIn K C_InvalidOctets = true)
    (c_DamagedSegment : PySem.W.nsIn K mainGlobals "DamagedSegment" = some (some (.ref C_DamagedSegment)))
    (be_DamagedSegment : PySem.W.subIn K (.ref C_DamagedSegment) (.type "BaseException") = some true)
    (te_DamagedSegment : PySem.W.typeIn K (.ref C_DamagedSegment) = some (.type "type"))
    (hd_DamagedSegment : PySem.W.hasDictIn K C_DamagedSegment = true)
    (ic_DamagedSegment : PySem.W.isClsIn K C_DamagedSegment = true)
    (xP_InvalidOctets : PySem.W.excIn K C_InvalidOctets [.type "ValueError", .type "Exception", .type "BaseException", .type "object"] "ValueError.__new__" = true)
    (ke_InvalidOctets : PySem.W.keepIn K (.ref C_InvalidOctets) = true)
    (xg_InvalidOctets : PySem.W.findIn K (.ref C_InvalidOctets) "__getattribute__" = some (some (.builtin "BaseException.__getattribute__")))
    (xk_InvalidOctets : PySem.W.findIn K (.ref C_InvalidOctets) "__getattr__" = some none)
    (xa_InvalidOctets : PySem.W.findIn K (.ref C_InvalidOctets) "__class__" = some (some (.builtin "object.__class__")))
    (xm_InvalidOctets : PySem.W.mroIn K C_InvalidOctets (.type "object") = some true)
    (hn_all : PySem.W.specialIn K (.builtin "object.__class__") "__get__" = some (some (.builtin "getset_descriptor.__get__")))
    (ht_all : PySem.W.takesIn K (.builtin "object.__class__") = some true)
    (su_InvalidOctets_ThroughlineError : PySem.W.subIn K (.ref C_InvalidOctets) (.ref C_ThroughlineError) = some true)
    (su_InvalidOctets_InvalidOctets : PySem.W.subIn K (.ref C_InvalidOctets) (.ref C_InvalidOctets) = some true)
    (su_InvalidOctets_ValueError : PySem.W.subIn K (.ref C_InvalidOctets) (.type "ValueError") = some true)
    (su_InvalidOctets_DamagedSegment : PySem.W.subIn K (.ref C_InvalidOctets) (.ref C_DamagedSegment) = some false)
    (sr_InvalidOctets : PySem.W.subIn K (.ref C_InvalidOctets) (.ref C_InvalidOctets) = some true)
    (a_to_hex : PySem.W.nsIn K mainGlobals "to_hex" = some (some (.ref f_to_hex)))
    (l_to_hex : K.lookup f_to_hex = some ⟨oc_to_hex, od_to_hex, .func (PySem.W.fnOf "to_hex" "to_hex" (defArgs s_to_hex) (defBody s_to_hex) (defScope s_to_hex) .none kV_to_hex dc_to_hex pm_to_hex an_to_hex cd_to_hex ct_to_hex), sl_to_hex⟩)
    (cc_to_hex : PySem.W.codeIn K cd_to_hex "to_hex" = true)
    (kk_to_hex : PySem.W.keepIn K (.ref f_to_hex) = true)
    (a_from_hex : PySem.W.nsIn K mainGlobals "from_hex" = some (some (.ref f_from_hex)))
    (l_from_hex : K.lookup f_from_hex = some ⟨oc_from_hex, od_from_hex, .func (PySem.W.fnOf "from_hex" "from_hex" (defArgs s_from_hex) (defBody s_from_hex) (defScope s_from_hex) .none kV_from_hex dc_from_hex pm_from_hex an_from_hex cd_from_hex ct_from_hex), sl_from_hex⟩)
    (cc_from_hex : PySem.W.codeIn K cd_from_hex "from_hex" = true)
    (kk_from_hex : PySem.W.keepIn K (.ref f_from_hex) = true)
    (a_l_is_integer : PySem.W.nsIn K mainGlobals "_law_is_integer" = some (some (.ref f_l_is_integer)))
    (l_l_is_integer : K.lookup f_l_is_integer = some ⟨oc_l_is_integer, od_l_is_integer, .func (PySem.W.fnOf "_law_is_integer" "_law_is_integer" (defArgs s_l_is_integer) (defBody s_l_is_integer) (defScope s_l_is_integer) .none kV_l_is_integer dc_l_is_integer pm_l_is_integer an_l_is_integer cd_l_is_integer ct_l_is_integer), sl_l_is_integer⟩)
    (cc_l_is_integer : PySem.W.codeIn K cd_l_is_integer "_law_is_integer" = true)
    (kk_l_is_integer : PySem.W.keepIn K (.ref f_l_is_integer) = true)
    (a_l_cell : PySem.W.nsIn K mainGlobals "_law_cell" = some (some (.ref f_l_cell)))
    (l_l_cell : K.lookup f_l_cell = some ⟨oc_l_cell, od_l_cell, .func (PySem.W.fnOf "_law_cell" "_law_cell" (defArgs s_l_cell) (defBody s_l_cell) (defScope s_l_cell) .none kV_l_cell dc_l_cell pm_l_cell an_l_cell cd_l_cell ct_l_cell), sl_l_cell⟩)
    (cc_l_cell : PySem.W.codeIn K cd_l_cell "_law_cell" = true)
    (kk_l_cell : PySem.W.keepIn K (.ref f_l_cell) = true)
    (a_l_row : PySem.W.nsIn K mainGlobals "_law_row" = some (some (.ref f_l_row)))
    (l_l_row : K.lookup f_l_row = some ⟨oc_l_row, od_l_row, .func (PySem.W.fnOf "_law_row" "_law_row" (defArgs s_l_row) (defBody s_l_row) (defScope s_l_row) .none kV_l_row dc_l_row pm_l_row an_l_row cd_l_row ct_l_row), sl_l_row⟩)
    (cc_l_row : PySem.W.codeIn K cd_l_row "_law_row" = true)
    (kk_l_row : PySem.W.keepIn K (.ref f_l_row) = true)
    (a_l_octets : PySem.W.nsIn K mainGlobals "_law_octets" = some (some (.ref f_l_octets)))
    (l_l_octets : K.lookup f_l_octets = some ⟨oc_l_octets, od_l_octets, .func (PySem.W.fnOf "_law_octets" "_law_octets" (defArgs s_l_octets) (defBody s_l_octets) (defScope s_l_octets) .none kV_l_octets dc_l_octets pm_l_octets an_l_octets cd_l_octets ct_l_octets), sl_l_octets⟩)
    (cc_l_octets : PySem.W.codeIn K cd_l_octets "_law_octets" = true)
    (kk_l_octets : PySem.W.keepIn K (.ref f_l_octets) = true)
    (a_l_char : PySem.W.nsIn K mainGlobals "_law_char" = some (some (.ref f_l_char)))
    (l_l_char : K.lookup f_l_char = some ⟨oc_l_char, od_l_char, .func (PySem.W.fnOf "_law_char" "_law_char" (defArgs s_l_char) (defBody s_l_char) (defScope s_l_char) .none kV_l_char dc_l_char pm_l_char an_l_char cd_l_char ct_l_char), sl_l_char⟩)
    (cc_l_char : PySem.W.codeIn K cd_l_char "_law_char" = true)
    (kk_l_char : PySem.W.keepIn K (.ref f_l_char) = true)
    (a_l_changed : PySem.W.nsIn K mainGlobals "_law_changed" = some (some (.ref f_l_changed)))
    (l_l_changed : K.lookup f_l_changed = some ⟨oc_l_changed, od_l_changed, .func (PySem.W.fnOf "_law_changed" "_law_changed" (defArgs s_l_changed) (defBody s_l_changed) (defScope s_l_changed) .none kV_l_changed dc_l_changed pm_l_changed an_l_changed cd_l_changed ct_l_changed), sl_l_changed⟩)
    (cc_l_changed : PySem.W.codeIn K cd_l_changed "_law_changed" = true)
    (kk_l_changed : PySem.W.keepIn K (.ref f_l_changed) = true)
    (a_l_expected : PySem.W.nsIn K mainGlobals "_law_expected" = some (some (.ref f_l_expected)))
    (l_l_expected : K.lookup f_l_expected = some ⟨oc_l_expected, od_l_expected, .func (PySem.W.fnOf "_law_expected" "_law_expected" (defArgs s_l_expected) (defBody s_l_expected) (defScope s_l_expected) .none kV_l_expected dc_l_expected pm_l_expected an_l_expected cd_l_expected ct_l_expected), sl_l_expected⟩)
    (cc_l_expected : PySem.W.codeIn K cd_l_expected "_law_expected" = true)
    (kk_l_expected : PySem.W.keepIn K (.ref f_l_expected) = true)
    (a_l_base : PySem.W.nsIn K mainGlobals "_law_base" = some (some (.ref f_l_base)))
    (l_l_base : K.lookup f_l_base = some ⟨oc_l_base, od_l_base, .func (PySem.W.fnOf "_law_base" "_law_base" (defArgs s_l_base) (defBody s_l_base) (defScope s_l_base) .none kV_l_base dc_l_base pm_l_base an_l_base cd_l_base ct_l_base), sl_l_base⟩)
    (cc_l_base : PySem.W.codeIn K cd_l_base "_law_base" = true)
    (kk_l_base : PySem.W.keepIn K (.ref f_l_base) = true)
    (a_law : PySem.W.nsIn K mainGlobals "law" = some (some (.ref f_law)))
    (l_law : K.lookup f_law = some ⟨oc_law, od_law, .func (PySem.W.fnOf "law" "law" (defArgs s_law) (defBody s_law) (defScope s_law) .none kV_law dc_law pm_law an_law cd_law ct_law), sl_law⟩)
    (cc_law : PySem.W.codeIn K cd_law "law" = true)
    (kk_law : PySem.W.keepIn K (.ref f_law) = true)
    (z_ValueError : PySem.W.nsIn K mainGlobals "ValueError" = some none)
    (z_any : PySem.W.nsIn K mainGlobals "any" = some none)
    (z_bool : PySem.W.nsIn K mainGlobals "bool" = some none)
    (z_int : PySem.W.nsIn K mainGlobals "int" = some none)
    (z_isinstance : PySem.W.nsIn K mainGlobals "isinstance" = some none)
    (z_len : PySem.W.nsIn K mainGlobals "len" = some none)
    (z_list : PySem.W.nsIn K mainGlobals "list" = some none)
    (z_range : PySem.W.nsIn K mainGlobals "range" = some none)
    (z_str : PySem.W.nsIn K mainGlobals "str" = some none)
    : ∃ fd : FuncData, (∀ (s : Shared) (v : Value), BindsTo s fd ⟨[v], []⟩ [("script", v)]) ∧ ∀ base : Heap, K.In base → base.Ns mainGlobals mg → FnOk l.prog w K mg base CX0 3 fa fd ["script"] (sp_law K) := by
  have e := hfa.symm.trans (PySem.W.mg_of X G a_law)
  have e2 : f_law = fa := by
    injection e with e
    injection e with e
    exact e.symm
  subst e2
  have F_to_hex := fun_mk (st := s_to_hex) l_to_hex cc_to_hex kk_to_hex
  have b_to_hex := F_to_hex.binds (ps := ["octets"]) fun _ _ _ _ _ _ us hl => match us, hl with | [_], _ => rfl
  have F_from_hex := fun_mk (st := s_from_hex) l_from_hex cc_from_hex kk_from_hex
  have b_from_hex := F_from_hex.binds (ps := ["text"]) fun _ _ _ _ _ _ us hl => match us, hl with | [_], _ => rfl
  have F_l_is_integer := fun_mk (st := s_l_is_integer) l_l_is_integer cc_l_is_integer kk_l_is_integer
  have b_l_is_integer := F_l_is_integer.binds (ps := ["actual"]) fun _ _ _ _ _ _ us hl => match us, hl with | [_], _ => rfl
  have F_l_cell := fun_mk (st := s_l_cell) l_l_cell cc_l_cell kk_l_cell
  have b_l_cell := F_l_cell.binds (ps := ["script", "k"]) fun _ _ _ _ _ _ us hl => match us, hl with | [_, _], _ => rfl
  have F_l_row := fun_mk (st := s_l_row) l_l_row cc_l_row kk_l_row
  have b_l_row := F_l_row.binds (ps := ["cell", "size", "base"]) fun _ _ _ _ _ _ us hl => match us, hl with | [_, _, _], _ => rfl
  have F_l_octets := fun_mk (st := s_l_octets) l_l_octets cc_l_octets kk_l_octets
  have b_l_octets := F_l_octets.binds (ps := ["actual", "expected"]) fun _ _ _ _ _ _ us hl => match us, hl with | [_, _], _ => rfl
  have F_l_char := fun_mk (st := s_l_char) l_l_char cc_l_char kk_l_char
  have b_l_char := F_l_char.binds (ps := ["cell"]) fun _ _ _ _ _ _ us hl => match us, hl with | [_], _ => rfl
  have F_l_changed := fun_mk (st := s_l_changed) l_l_changed cc_l_changed kk_l_changed
  have b_l_changed := F_l_changed.binds (ps := ["text", "choice", "cell"]) fun _ _ _ _ _ _ us hl => match us, hl with | [_, _, _], _ => rfl
  have F_l_expected := fun_mk (st := s_l_expected) l_l_expected cc_l_expected kk_l_expected
  have b_l_expected := F_l_expected.binds (ps := ["text"]) fun _ _ _ _ _ _ us hl => match us, hl with | [_], _ => rfl
  have F_l_base := fun_mk (st := s_l_base) l_l_base cc_l_base kk_l_base
  have b_l_base := F_l_base.binds (ps := ["text"]) fun _ _ _ _ _ _ us hl => match us, hl with | [_], _ => rfl
  have F_law := fun_mk (st := s_law) l_law cc_law kk_law
  have b_law := F_law.binds (ps := ["script"]) fun _ _ _ _ _ _ us hl => match us, hl with | [_], _ => rfl
  let T : Txt K mg := { t_HEX_DIGITS := t_HEX_DIGITS, C_ThroughlineError := C_ThroughlineError, C_InvalidOctets := C_InvalidOctets, C_DamagedSegment := C_DamagedSegment, f_to_hex := f_to_hex, d_to_hex := _, f_from_hex := f_from_hex, d_from_hex := _, f_l_is_integer := f_l_is_integer, d_l_is_integer := _, f_l_cell := f_l_cell, d_l_cell := _, f_l_row := f_l_row, d_l_row := _, f_l_octets := f_l_octets, d_l_octets := _, f_l_char := f_l_char, d_l_char := _, f_l_changed := f_l_changed, d_l_changed := _, f_l_expected := f_l_expected, d_l_expected := _, f_l_base := f_l_base, d_l_base := _, f_law := f_law, d_law := _, v_HEX_DIGITS := PySem.W.mg_of X G v_HEX_DIGITS, c_ThroughlineError := PySem.W.mg_of X G c_ThroughlineError, c_InvalidOctets := PySem.W.mg_of X G c_InvalidOctets, c_DamagedSegment := PySem.W.mg_of X G c_DamagedSegment, xP_InvalidOctets := xP_InvalidOctets, ke_InvalidOctets := ke_InvalidOctets, be_InvalidOctets := be_InvalidOctets, te_InvalidOctets := te_InvalidOctets, xc_InvalidOctets := ⟨xg_InvalidOctets, xk_InvalidOctets, be_InvalidOctets, hd_InvalidOctets, xa_InvalidOctets, hn_all, ht_all, xm_InvalidOctets⟩, em_InvalidOctets_ThroughlineError := PySem.W.exm_ref be_ThroughlineError hd_ThroughlineError te_ThroughlineError su_InvalidOctets_ThroughlineError, em_InvalidOctets_InvalidOctets := PySem.W.exm_ref be_InvalidOctets hd_InvalidOctets te_InvalidOctets su_InvalidOctets_InvalidOctets, ko_InvalidOctets_ValueError := kit_tyT (by decide +kernel) su_InvalidOctets_ValueError, ko_InvalidOctets_DamagedSegment := kit_refF ic_DamagedSegment te_DamagedSegment su_InvalidOctets_DamagedSegment sr_InvalidOctets, F_to_hex := F_to_hex, b_to_hex := b_to_hex, m_to_hex := PySem.W.mg_of X G a_to_hex, F_from_hex := F_from_hex, b_from_hex := b_from_hex, m_from_hex := PySem.W.mg_of X G a_from_hex, F_l_is_integer := F_l_is_integer, b_l_is_integer := b_l_is_integer, m_l_is_integer := PySem.W.mg_of X G a_l_is_integer, F_l_cell := F_l_cell, b_l_cell := b_l_cell, m_l_cell := PySem.W.mg_of X G a_l_cell, F_l_row := F_l_row, b_l_row := b_l_row, m_l_row := PySem.W.mg_of X G a_l_row, F_l_octets := F_l_octets, b_l_octets := b_l_octets, m_l_octets := PySem.W.mg_of X G a_l_octets, F_l_char := F_l_char, b_l_char := b_l_char, m_l_char := PySem.W.mg_of X G a_l_char, F_l_changed := F_l_changed, b_l_changed := b_l_changed, m_l_changed := PySem.W.mg_of X G a_l_changed, F_l_expected := F_l_expected, b_l_expected := b_l_expected, m_l_expected := PySem.W.mg_of X G a_l_expected, F_l_base := F_l_base, b_l_base := b_l_base, m_l_base := PySem.W.mg_of X G a_l_base, F_law := F_law, b_law := b_law, m_law := PySem.W.mg_of X G a_law, n_ValueError := PySem.W.mg_none_of X G z_ValueError, n_any := PySem.W.mg_none_of X G z_any, n_bool := PySem.W.mg_none_of X G z_bool, n_int := PySem.W.mg_none_of X G z_int, n_isinstance := PySem.W.mg_none_of X G z_isinstance, n_len := PySem.W.mg_none_of X G z_len, n_list := PySem.W.mg_none_of X G z_list, n_range := PySem.W.mg_none_of X G z_range, n_str := PySem.W.mg_none_of X G z_str }
  exact ⟨PySem.W.fnOf "law" "law" (defArgs s_law) (defBody s_law) (defScope s_law) .none kV_law dc_law pm_law an_law cd_law ct_law, fun s v => .of_eq rfl, fun base _ _ => ok_law T⟩
theorem walk {l : PySem.W.OpenLaw} {q : Program} {loose : List Str} {XP : (Str → Option Value) → Heap → Prop} {YP : World → Heap → Prop} {d : DefRec} {K : Params → PySem.W.Frag} (hn : l.most = some 63) (hdf : d.params.defaults = [])
    (hY : ∀ (w : World) (h : Heap), YP w h → (K w.params).In h)
    (F : ∀ (w : World) (mg : Str → Option Value) (fa : Addr) (h : Heap), (K w.params).In h → h.Ns mainGlobals mg → mg d.name = some (.ref fa) →
      ∃ fd : FuncData, (∀ (s : Shared) (u : Value), BindsTo s fd ⟨[u], []⟩ [("script", u)]) ∧ ∀ base : Heap, (K w.params).In base → base.Ns mainGlobals mg → FnOk l.prog w (K w.params) mg base CX0 3 fa fd ["script"] (sp_law (K w.params))) :
    PySem.W.WalkO q loose XP YP l.row.toRowW d [] (fun f vs => PySem.call f vs) :=
  L2.walk_of (n := 63) (k := 3) (x := "script") (CX := fun _ => CX0) (sp := fun w => sp_law (K w.params)) hn (by decide) hdf ⟨rfl, by decide, by decide⟩ hY F (fun _ _ a ns hl _ hS => ⟨a, ns, rfl, hS, hl, fun _ => rfl⟩) fun _ _ _ _ _ z => z
end My
open PySem PySem.W PyProof.Rows
set_option maxRecDepth 100000 in
set_option maxHeartbeats 0 in
theorem PySem.Challenge.cw_throughline_k02_hexadecimal_texts_holds : PySem.Challenge.rw_throughline_k02_hexadecimal_texts.Holds := by
  w_on; o_law; k_head; (case hw => w_witness2)
  k_fill
  refine My.walk (l := PySem.Challenge.rw_throughline_k02_hexadecimal_texts) rfl rfl (fun w h Y => PySem.W.kIn_of Y) ?F
  case F =>
    intro w mg fa h KX G hmg
    refine' My.all_mk KX G hmg ?v_HEX_DIGITS ?c_ThroughlineError ?be_ThroughlineError ?te_ThroughlineError ?hd_ThroughlineError ?ic_ThroughlineError ?c_InvalidOctets ?be_InvalidOctets ?te_InvalidOctets ?hd_InvalidOctets ?ic_InvalidOctets ?c_DamagedSegment ?be_DamagedSegment ?te_DamagedSegment ?hd_DamagedSegment ?ic_DamagedSegment ?xP_InvalidOctets ?ke_InvalidOctets ?xg_InvalidOctets ?xk_InvalidOctets ?xa_InvalidOctets ?xm_InvalidOctets ?hn_all ?ht_all ?su_InvalidOctets_ThroughlineError ?su_InvalidOctets_InvalidOctets ?su_InvalidOctets_ValueError ?su_InvalidOctets_DamagedSegment ?sr_InvalidOctets ?a_to_hex ?l_to_hex ?cc_to_hex ?kk_to_hex ?a_from_hex ?l_from_hex ?cc_from_hex ?kk_from_hex ?a_l_is_integer ?l_l_is_integer ?cc_l_is_integer ?kk_l_is_integer ?a_l_cell ?l_l_cell ?cc_l_cell ?kk_l_cell ?a_l_row ?l_l_row ?cc_l_row ?kk_l_row ?a_l_octets ?l_l_octets ?cc_l_octets ?kk_l_octets ?a_l_char ?l_l_char ?cc_l_char ?kk_l_char ?a_l_changed ?l_l_changed ?cc_l_changed ?kk_l_changed ?a_l_expected ?l_l_expected ?cc_l_expected ?kk_l_expected ?a_l_base ?l_l_base ?cc_l_base ?kk_l_base ?a_law ?l_law ?cc_law ?kk_law ?z_ValueError ?z_any ?z_bool ?z_int ?z_isinstance ?z_len ?z_list ?z_range ?z_str
    (case v_HEX_DIGITS => k_is)
    (case c_ThroughlineError => k_is)
    (case be_ThroughlineError => k_is)
    (case te_ThroughlineError => k_is)
    (case hd_ThroughlineError => k_is)
    (case ic_ThroughlineError => k_is)
    (case c_InvalidOctets => k_is)
    (case be_InvalidOctets => k_is)
    (case te_InvalidOctets => k_is)
    (case hd_InvalidOctets => k_is)
    (case ic_InvalidOctets => k_is)
    (case c_DamagedSegment => k_is)
    (case be_DamagedSegment => k_is)
    (case te_DamagedSegment => k_is)
    (case hd_DamagedSegment => k_is)
    (case ic_DamagedSegment => k_is)
    (case xP_InvalidOctets => k_exc)
    (case ke_InvalidOctets => k_is)
    (case xg_InvalidOctets => k_is)
    (case xk_InvalidOctets => k_is)
    (case xa_InvalidOctets => k_is)
    (case xm_InvalidOctets => k_is)
    (case hn_all => k_is)
    (case ht_all => k_is)
    (case su_InvalidOctets_ThroughlineError => first | k_is | rfl)
    (case su_InvalidOctets_InvalidOctets => first | k_is | rfl)
    (case su_InvalidOctets_ValueError => first | k_is | rfl)
    (case su_InvalidOctets_DamagedSegment => first | k_is | rfl)
    (case sr_InvalidOctets => first | rfl | k_is)
    (case a_to_hex => k_is)
    (case l_to_hex => k_is)
    (case cc_to_hex => k_is)
    (case kk_to_hex => k_is)
    (case a_from_hex => k_is)
    (case l_from_hex => k_is)
    (case cc_from_hex => k_is)
    (case kk_from_hex => k_is)
    (case a_l_is_integer => k_is)
    (case l_l_is_integer => k_is)
    (case cc_l_is_integer => k_is)
    (case kk_l_is_integer => k_is)
    (case a_l_cell => k_is)
    (case l_l_cell => k_is)
    (case cc_l_cell => k_is)
    (case kk_l_cell => k_is)
    (case a_l_row => k_is)
    (case l_l_row => k_is)
    (case cc_l_row => k_is)
    (case kk_l_row => k_is)
    (case a_l_octets => k_is)
    (case l_l_octets => k_is)
    (case cc_l_octets => k_is)
    (case kk_l_octets => k_is)
    (case a_l_char => k_is)
    (case l_l_char => k_is)
    (case cc_l_char => k_is)
    (case kk_l_char => k_is)
    (case a_l_changed => k_is)
    (case l_l_changed => k_is)
    (case cc_l_changed => k_is)
    (case kk_l_changed => k_is)
    (case a_l_expected => k_is)
    (case l_l_expected => k_is)
    (case cc_l_expected => k_is)
    (case kk_l_expected => k_is)
    (case a_l_base => k_is)
    (case l_l_base => k_is)
    (case cc_l_base => k_is)
    (case kk_l_base => k_is)
    (case a_law => k_is)
    (case l_law => k_is)
    (case cc_law => k_is)
    (case kk_law => k_is)
    (case z_ValueError => k_is)
    (case z_any => k_is)
    (case z_bool => k_is)
    (case z_int => k_is)
    (case z_isinstance => k_is)
    (case z_len => k_is)
    (case z_list => k_is)
    (case z_range => k_is)
    (case z_str => k_is)
#print axioms PySem.Challenge.cw_throughline_k02_hexadecimal_texts_holds

