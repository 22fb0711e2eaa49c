import PyProof.Rows.All
import Wide.All
import OpenK.AllK
import Wide.FinOn
import HandS.ForMost
import HandS.IsInst
import HandS.Wide
import HandS.Style
import HandS.Conv
import HandS.RevRange
import HandS.Walk
import HandS.Property
import HandS.Star
import HandS.Codes
import HandS.TupAny
import HandS.WideBits
import KE.KSuper
import KE.RegKSuper
import HandS.MakeKwOnly
import HandS.Defaults
import HandS.Nested
import HandS.ClsMeth
import HandS.Flow
import HandS.Rev
import HandS.Iter
import HandS.Dict
import HandS.Small
import HandS.FStr
import HandS.More
import HandS.Exc
import HandS.ExcIs
import HandS.ForExc
import HandS.RaiseMore
import HandS.WrittenGet
import HandS.SortInts
import HandS.IterVal
import HandS.IterNext
import HandS.OwnIter
import PyProof.DictMoreH
import HandS.Deep
import HandS.WordsDict
import HandS.Comp
import HandS.DictEq
import HandS.Star
import HandS.SetFor
import HandS.Style
import HandS.Flt
import HandS.DictComp
import PySem.Challenge.RW_throughline_k00_sides_at_their_bounds
set_option Elab.async false
set_option linter.all false
set_option maxRecDepth 100000
set_option maxHeartbeats 4000000
namespace My
open PySem PySem.Spec L2
/-! ### readings, one rule a construct -/
section
variable {K : PySem.W.Frag} {σ : St} {H : Hp} {Q : VK} {v x y z : V} {ta tb te tc : TE} {tt tu : TT} {r : R2} {D : Ends} {ts us : TS} {P : Bool → Hp → Prop} {i j : Int}
theorem g_var {i : Nat} (h : σ[i]? = some (some v)) (q : Q v H) : tVar i σ H Q := ⟨v, h, q⟩
theorem g_c (q : Q v H) : tC v σ H Q := q
theorem g_op (h : ta σ H fun x H1 => tb σ H1 fun y H2 => r x y H2 Q) : tOp r ta tb σ H Q := h
theorem g_un {r : V → Hp → VK → Prop} (h : ta σ H fun x H1 => r x H1 Q) : tUn r ta σ H Q := h
theorem g_rI0 {g : Int → Int → V} (q : Q (g i j) H) : rI0 g (.int i) (.int j) H Q := ⟨i, j, rfl, rfl, q⟩
theorem g_rI {C : Int → Int → Prop} {g : Int → Int → V} (c : C i j) (q : Q (g i j) H) : rI C g (.int i) (.int j) H Q := ⟨i, j, rfl, rfl, c, q⟩
theorem g_rU {g : Int → V} (q : Q (g i) H) : rU g (.int i) H Q := ⟨i, rfl, q⟩
theorem g_rEqI (q : Q (.bl (decide (i = j))) H) : rEq (.int i) (.int j) H Q := ⟨rfl, by rw [dec_int]; exact q⟩
theorem g_rNeI (q : Q (.bl (!decide (i = j))) H) : rNe (.int i) (.int j) H Q := ⟨rfl, by rw [dec_int]; exact q⟩
theorem g_rEq (s : scal x y = true) (q : Q (.bl (decide (x = y))) H) : rEq x y H Q := ⟨s, q⟩
theorem g_rNe (s : scal x y = true) (q : Q (.bl (!decide (x = y))) H) : rNe x y H Q := ⟨s, q⟩
theorem g_isN {A : Prop} (q : A) : V.non = V.non ∧ A := ⟨rfl, q⟩
theorem g_rIsB {a b : Bool} (q : Q (.bl (decide (a = b))) H) : rIsB (.bl a) (.bl b) H Q := ⟨a, b, rfl, rfl, q⟩
theorem g_rNotB {a b : Bool} (q : Q (.bl (!decide (a = b))) H) : rNotB (.bl a) (.bl b) H Q := ⟨a, b, rfl, rfl, q⟩
theorem g_test {t : TE} (h : t σ H fun x H' => ∃ k, x = .bl k ∧ P k H') : tTest t σ H P := h
theorem g_B {t : TE} (h : t σ H fun x H' => ∃ k, x = .bl k ∧ P k H') : tB t σ H P := h
theorem g_bl {b : Bool} {A : Bool → Prop} (q : A b) : ∃ k, V.bl b = .bl k ∧ A k := ⟨b, rfl, q⟩
theorem g_and (h : tt σ H fun c H1 => if c = true then tu σ H1 P else P false H1) : tAnd tt tu σ H P := h
theorem g_or (h : tt σ H fun c H1 => if c = true then P true H1 else tu σ H1 P) : tOr tt tu σ H P := h
theorem g_not (h : tt σ H fun c H1 => P (!c) H1) : tNot tt σ H P := h
theorem g_andV (h : ta σ H fun x H1 => ∃ c, x = .bl c ∧ if c = true then tb σ H1 Q else Q (.bl false) H1) : tAndV ta tb σ H Q := h
theorem g_orV (h : ta σ H fun x H1 => ∃ c, x = .bl c ∧ if c = true then Q (.bl true) H1 else tb σ H1 Q) : tOrV ta tb σ H Q := h
theorem g_notV (h : ta σ H fun x H1 => ∃ c, x = .bl c ∧ Q (.bl (!c)) H1) : tNotV ta σ H Q := h
theorem g_if (h : tt σ H fun c H1 => if c = true then ta σ H1 Q else tb σ H1 Q) : tIf tt ta tb σ H Q := h
theorem g_chain {r' : R2} (h : ta σ H fun x H1 => tb σ H1 fun y H2 => r x y H2 fun z H3 => ∃ k, z = .bl k ∧ (if k = true then tc σ H3 fun w' H4 => r' y w' H4 Q else Q (.bl false) H3)) : tChain r r' ta tb tc σ H Q := h
theorem g_nil {A : List V → Hp → Prop} (q : A [] H) : tNil σ H A := q
theorem g_cons {tr : TA} {A : List V → Hp → Prop} (h : ta σ H fun x H1 => tr σ H1 fun xs H2 => A (x :: xs) H2) : tCons ta tr σ H A := h
theorem g_tup {t : TA} (h : t σ H fun xs H1 => xs.length ≤ sizeLine ∧ ∀ p, H1 p = none → Q (.ref p) (upd H1 p (.tup xs))) : tTup t σ H Q := h
theorem g_lst {t : TA} (h : t σ H fun xs H1 => xs.length ≤ sizeLine ∧ ∀ p, H1 p = none → Q (.ref p) (upd H1 p (.lst xs))) : tLst t σ H Q := h
theorem g_call {sp : Sp} {dvs : List V} {E : XK} {t : TA} (h : t σ H fun vs H1 => sp (vs ++ dvs) H1 Q E) : tCall sp dvs E t σ H Q := h
theorem g_CB {r : List V → Hp → VK → Prop} {t : TA} (h : t σ H fun vs H1 => r vs H1 Q) : tCB r t σ H Q := h
theorem g_sl {r : V → Option Int → Option Int → Hp → VK → Prop} {tl th : TO} (h : te σ H fun x H1 => tl σ H1 fun l H2 => th σ H2 fun u H3 => r x l u H3 Q) : tSl r te tl th σ H Q := h
theorem g_noPart {A : Option Int → Hp → Prop} (q : A none H) : tNoPart σ H A := q
theorem g_part {A : Option Int → Hp → Prop} (h : te σ H fun x H1 => ∃ i, x = .int i ∧ A (some i) H1) : tPart te σ H A := h
theorem g_intE {A : Int → Prop} (q : A i) : ∃ k, V.int i = .int k ∧ A k := ⟨i, rfl, q⟩
theorem g_seq (h : ts { D with nx := us D } σ H) : tSeq ts us D σ H := h
theorem g_next (q : D.nx σ H) : tNext D σ H := q
theorem g_brk (q : D.bk σ H) : tBreak D σ H := q
theorem g_ct (q : D.ct σ H) : tCont D σ H := q
theorem g_asg {g : TG} (h : te σ H fun x H1 => g x σ H1 D.nx) : tAsg te g D σ H := h
theorem g_name {i : Nat} {A : St → Hp → Prop} (q : A (σ.set i (some v)) H) : gName i v σ H A := q
theorem g_aug {i : Nat} {ti : TIp} (h : σ[i]? = some (some x)) (q : te σ H fun y H1 => ti x y H1 fun z H2 => D.nx (σ.set i (some z)) H2) : tAug i te ti D σ H := ⟨x, h, q⟩
theorem g_ipI {f : Int → Int → Int} (q : Q (.int (f i j)) H) : ipI f (.int i) (.int j) H Q := ⟨i, j, rfl, rfl, q⟩
theorem g_drop (h : te σ H fun _ H1 => D.nx σ H1) : tDrop te D σ H := h
theorem g_ret (h : te σ H D.rt) : tRet te D σ H := h
theorem g_retN (q : D.rt .non H) : tRetN D σ H := q
theorem g_ifS (h : tt σ H fun b H1 => if b = true then ts D σ H1 else us D σ H1) : tIfS tt ts us D σ H := h
theorem g_for {wi : TI} {g : TG} {tb : TS} (h : wi σ H fun J H1 => ∃ W : Nat → Nat → St → Hp → Prop, (∃ m, W 0 m σ H1) ∧ ∀ i m σ H, W i m σ H →
    (J.stop i H ∧ D.nx σ H) ∨ (J.go i H ∧ ∃ N : St → Hp → Prop, (∀ σ' H', N σ' H' → ∃ m', m' < m ∧ W (i + 1) m' σ' H') ∧ ∀ x H', J.yld i H x H' → g x σ H' fun σ2 H2 => tb { D with nx := N, ct := N, bk := D.nx } σ2 H2)) : tFor wi g tb D σ H := h
theorem g_iT {c : Bool} {A B : Prop} (e : c = true) (h : A) : if c = true then A else B := by rw [if_pos e]; exact h
theorem g_iF {c : Bool} {A B : Prop} (e : c = false) (h : B) : if c = true then A else B := by rw [e]; exact iteF h
theorem g_ite {p A B : Prop} [Decidable p] (h1 : p → A) (h2 : ¬ p → B) : if decide p = true then A else B := by
  by_cases h : p
  · rw [decide_eq_true h]; exact iteT (h1 h)
  · rw [decide_eq_false h]; exact iteF (h2 h)
theorem g_iteN {p A B : Prop} [Decidable p] (h1 : ¬ p → A) (h2 : p → B) : if (!decide p) = true then A else B := by
  by_cases h : p
  · rw [decide_eq_true h]; exact iteF (h2 h)
  · rw [decide_eq_false h]; exact iteT (h1 h)
theorem g_iteB {b : Bool} {A B : Prop} (h1 : b = true → A) (h2 : b = false → B) : if b = true then A else B := by
  cases b with
  | true => exact iteT (h1 rfl)
  | false => exact iteF (h2 rfl)
theorem g_iteNB {b : Bool} {A B : Prop} (h1 : b = false → A) (h2 : b = true → B) : if (!b) = true then A else B := by
  cases b with
  | true => exact iteF (h2 rfl)
  | false => exact iteT (h1 rfl)
/-! calls of built-ins, by values -/
theorem g_int1 {A : Int → Prop} {B : Bool → Prop} (q : A i) : (∃ i', [V.int i] = [V.int i'] ∧ A i') ∨ ∃ k, [V.int i] = [V.bl k] ∧ B k := .inl ⟨i, rfl, q⟩
theorem g_int1B {b : Bool} {A : Int → Prop} {B : Bool → Prop} (q : B b) : (∃ i', [V.bl b] = [V.int i'] ∧ A i') ∨ ∃ k, [V.bl b] = [V.bl k] ∧ B k := .inr ⟨b, rfl, q⟩
theorem g_one {A : Int → Prop} (q : A i) : ∃ i', [V.int i] = [V.int i'] ∧ A i' := ⟨i, rfl, q⟩
theorem g_two {A : Int → Int → Prop} (q : A i j) : ∃ i' j', [V.int i, V.int j] = [V.int i', V.int j'] ∧ A i' j' := ⟨i, j, rfl, q⟩
theorem g_isi {c : V} {t u : Value} {b : Bool} (hc : ClsV c u) (ht : TyX K H x t) (e : PySem.W.kitOne K t u = some b) (q : Q (.bl b) H) : rIsi K [x, c] H Q := ⟨x, c, t, u, b, rfl, hc, ht, e, q⟩
theorem g_isiI (q : Q (.bl true) H) : rIsi K [.int i, .ty "int"] H Q := g_isi (.ty _) (.base (.int _)) (kit_ty (by decide +kernel)) q
theorem g_isiB {b : Bool} (q : Q (.bl true) H) : rIsi K [.bl b, .ty "bool"] H Q := g_isi (.ty _) (.base (.bl _)) (kit_ty (by decide +kernel)) q
theorem g_isiIB (q : Q (.bl false) H) : rIsi K [.int i, .ty "bool"] H Q := g_isi (.ty _) (.base (.int _)) (kit_ty (by decide +kernel)) q
theorem g_isiL {p : Addr} {xs : List V} (h : H p = some (.lst xs)) (q : Q (.bl true) H) : rIsi K [.ref p, .ty "list"] H Q := g_isi (.ty _) (.base (.lst h)) (kit_ty (by decide +kernel)) q
theorem g_isiU {p : Addr} {xs : List V} (h : H p = some (.tup xs)) (q : Q (.bl true) H) : rIsi K [.ref p, .ty "tuple"] H Q := g_isi (.ty _) (.base (.tup h)) (kit_ty (by decide +kernel)) q
theorem g_ixL {p : Addr} {xs : List V} (h : SqL K H p xs) (e : atI xs i = some v) (q : Q v H) : rIxL K (.ref p) (.int i) H Q := ⟨p, xs, i, v, rfl, rfl, h, e, q⟩
theorem g_ixT {p : Addr} {xs : List V} (h : SqT K H p xs) (e : atI xs i = some v) (q : Q v H) : rIxT K (.ref p) (.int i) H Q := ⟨p, xs, i, v, rfl, rfl, h, e, q⟩
theorem g_append {p : Addr} {xs : List V} (h : H p = some (.lst xs)) (l : xs.length < sizeLine) (q : Q .non (upd H p (.lst (xs ++ [y])))) : rAppend (.ref p) [y] H Q := ⟨p, xs, y, rfl, rfl, h, l, q⟩
theorem g_BM {T : String} {r : V → List V → Hp → VK → Prop} {t : TA} (h : te σ H fun x H1 => tyV K T x H1 ∧ t σ H1 fun xs H2 => r x xs H2 Q) : tBM K T r te t σ H Q := h
theorem g_BM0 {T : String} {r : V → List V → Hp → VK → Prop} (h : te σ H fun x H1 => tyV K T x H1 ∧ r x [] H1 Q) : tBM0 K T r te σ H Q := h
theorem ty_l {p : Addr} {xs : List V} (h : H p = some (.lst xs)) : tyV K "list" (.ref p) H := Or.inl ⟨rfl, _, Or.inl (Or.inl h)⟩
theorem g_setL {p : Addr} {xs : List V} {k : Int} {j : Nat} {A : Hp → Prop} (h : H p = some (.lst xs)) (e : ixN xs.length k = some j) (q : A (upd H p (.lst (xs.set j v)))) : rSetL (.ref p) (.int k) v H A := ⟨p, xs, k, j, rfl, rfl, h, e, q⟩
theorem g_sub {to ti : TE} {t : TSet} {A : St → Hp → Prop} (h : to σ H fun o H1 => ti σ H1 fun i H2 => t o i v H2 fun H3 => A σ H3) : gSub to ti t v σ H A := h
theorem g_len {p : Addr} {xs : List V} {A : Addr → List V → Prop} (h : SqL K H p xs ∨ SqT K H p xs) (q : A p xs) : ∃ p' ys, [V.ref p] = [V.ref p'] ∧ (SqL K H p' ys ∨ SqT K H p' ys) ∧ A p' ys := ⟨p, xs, rfl, h, q⟩
theorem g_slL {p : Addr} {xs : List V} {lo hi : Option Int} (h : SqL K H p xs) (q : ∀ l, H l = none → Q (.ref l) (upd H l (.lst (cutV xs lo hi)))) : rSlL K (.ref p) lo hi H Q := ⟨p, xs, rfl, h, q⟩
theorem g_cat {p q : Addr} {xs ys : List V} (h : H p = some (.lst xs)) (h2 : H q = some (.lst ys)) (l : xs.length + ys.length ≤ sizeLine) (k : ∀ l, H l = none → Q (.ref l) (upd H l (.lst (xs ++ ys)))) : rCat (.ref p) (.ref q) H Q := ⟨p, q, xs, ys, rfl, rfl, h, h2, l, k⟩
end
/-! ### heaps -/
theorem same_upd {H : Hp} {p : Addr} {o : HO} (h : H p = none) : Same H (upd H p o) := fun b x e => by
  rw [upd_ne (ne_of_none e h)]
  exact e
theorem sm {H H' : Hp} {p : Addr} {o : HO} (s : Same H H') (h : H p = some o) : H' p = some o := s p o h
theorem sq_upd {K : PySem.W.Frag} {H : Hp} {p a : Addr} {o : HO} {xs : List V} (n : H p = none) (h : SqL K H a xs) : SqL K (upd H p o) a xs := (same_upd n).seq h
theorem sl {K : PySem.W.Frag} {H : Hp} {a : Addr} {xs : List V} (h : H a = some (.lst xs)) : SqL K H a xs := Or.inl (Or.inl h)
theorem st {K : PySem.W.Frag} {H : Hp} {a : Addr} {xs : List V} (h : H a = some (.tup xs)) : SqT K H a xs := Or.inl (Or.inl h)
theorem Same.sqt {K : PySem.W.Frag} {H H' : Hp} {a : Addr} {xs : List V} (e : Same H H') (h : SqT K H a xs) : SqT K H' a xs := by
  rcases h with (h | ⟨o, h⟩) | h
  · exact .inl (.inl (e _ _ h))
  · exact .inl (.inr ⟨o, e _ _ h⟩)
  · exact .inr h
theorem upd_keep {H : Hp} {p b : Addr} {o o' : HO} (n : H p = none) (h : H b = some o') : upd H p o b = some o' := (same_upd n) b o' h
theorem ne_new {H : Hp} {p b : Addr} {o : HO} (h : H b = some o) (n : H p = none) : b ≠ p := ne_of_none h n
/-- H' is H but at p -/
def But (p : Addr) (H H' : Hp) : Prop := ∀ b o, b ≠ p → H b = some o → H' b = some o
theorem But.refl {p : Addr} {H : Hp} : But p H H := fun _ _ _ h => h
theorem But.of {p : Addr} {H H' : Hp} (s : Same H H') : But p H H' := fun b o _ h => s b o h
theorem But.trans {p : Addr} {H H1 H2 : Hp} (a : But p H H1) (b : But p H1 H2) : But p H H2 := fun c o n h => b c o n (a c o n h)
theorem But.upd {p : Addr} {H H' : Hp} {o : HO} (a : But p H H') : But p H (upd H' p o) := fun b o n h => by rw [upd_ne n]; exact a b o n h
theorem But.same {p : Addr} {H H' : Hp} (a : But p H H') (n : H p = none) : Same H H' := fun b o h => a b o (ne_of_none h n) h
theorem But.tr2 {p : Addr} {H H1 H2 : Hp} (s : Same H H1) (n : H p = none) (a : But p H1 H2) : Same H H2 := fun b o h => a b o (ne_of_none h n) (s b o h)
/-! ### numbers -/
theorem cdivW {a b : Int} (h : 0 < b) (h2 : b < 2 ^ 8000) : CDivW a b := by
  refine ⟨h, ?_⟩
  have e : b.natAbs < 2 ^ 8000 := by
    have : ((b.natAbs : Nat) : Int) < ((2 ^ 8000 : Nat) : Int) := by
      rw [Int.natAbs_of_nonneg (Int.le_of_lt h)]
      exact_mod_cast h2
    exact_mod_cast this
  by_cases z : b.natAbs = 0
  · rw [z]; decide
  · exact Nat.lt_of_lt_of_le (Nat.log2_lt z |>.mpr e) (by decide)
theorem sz {n : Nat} (h : n ≤ 100000) : n ≤ sizeLine := Nat.le_trans h (by decide)
theorem szl {n : Nat} (h : n < 100000) : n < sizeLine := Nat.lt_of_lt_of_le h (by decide)
/-! ### loops -/
theorem for_l {K : PySem.W.Frag} {tl : TE} {g : TG} {tb : TS} {D : Ends} {σ : St} {H : Hp} {a : Addr} {xs : List V} (Pv : Nat → St → Hp → Prop) (hs : SqL K H a xs) (h0 : Pv 0 σ H) (hl : ∀ i σ H, i ≤ xs.length → Pv i σ H → SqL K H a xs)
    (turn : ∀ i x σ H, xs[i]? = some x → Pv i σ H → g x σ H fun σ2 H2 => tb { D with nx := Pv (i + 1), ct := Pv (i + 1), bk := D.nx } σ2 H2) (hd : ∀ σ H, Pv xs.length σ H → D.nx σ H) (e : ∀ R : V → Hp → Prop, R (.ref a) H → tl σ H R) : tFor (iList K tl) g tb D σ H := by
  refine g_for ?_
  refine e _ ⟨a, rfl, ⟨_, hs⟩, ?_⟩
  exact for_list (xs := xs) Pv h0 hl turn hd
theorem for_r {ta : TA} {g : TG} {tb : TS} {D : Ends} {σ : St} {H : Hp} {n : Int} (N : Nat) (en : n.toNat = N) (b1 : -(2 ^ 62) ≤ n) (b2 : n < 2 ^ 62) (Pv : Nat → St → Hp → Prop) (h0 : Pv 0 σ H)
    (turn : ∀ (i : Nat) σ H, i < N → Pv i σ H → g (.int (i : Int)) σ H fun σ2 H2 => tb { D with nx := Pv (i + 1), ct := Pv (i + 1), bk := D.nx } σ2 H2) (hd : ∀ σ H, Pv N σ H → D.nx σ H) (e : ∀ R : List V → Hp → Prop, R [.int n] H → ta σ H R) : tFor (iRng1 ta) g tb D σ H := by
  subst en
  refine g_for ?_
  refine e _ ⟨n, rfl, b1, b2, ?_⟩
  refine for_range (lo := 0) Pv h0 (fun i σ H hi p => ?_) hd
  have z := turn i σ H hi p
  rw [Int.zero_add]
  exact z
theorem g_nx {nx : St → Hp → Prop} {rt : VK} {bk ct : St → Hp → Prop} {σ : St} {H : Hp} (q : nx σ H) : (Ends.mk nx rt bk ct).nx σ H := q
theorem g_bkE {nx : St → Hp → Prop} {rt : VK} {bk ct : St → Hp → Prop} {σ : St} {H : Hp} (q : bk σ H) : (Ends.mk nx rt bk ct).bk σ H := q
theorem g_ctE {nx : St → Hp → Prop} {rt : VK} {bk ct : St → Hp → Prop} {σ : St} {H : Hp} (q : ct σ H) : (Ends.mk nx rt bk ct).ct σ H := q
theorem g_rt {nx : St → Hp → Prop} {rt : VK} {bk ct : St → Hp → Prop} {v : V} {H : Hp} (q : rt v H) : (Ends.mk nx rt bk ct).rt v H := q
/-- a cell of the script -/
def cell (ns : List Int) (k : Int) : Int := ns.getD k.toNat 0
theorem atI_map {ns : List Int} {k : Int} (h0 : 0 ≤ k) (h : k < (ns.length : Int)) : atI (ns.map V.int) k = some (.int (cell ns k)) := by
  have e : k = ((k.toNat : Nat) : Int) := by omega
  have hl : k.toNat < ns.length := by omega
  have e2 : cell ns k = ns[k.toNat] := by
    unfold cell
    rw [List.getD_eq_getElem?_getD, List.getElem?_eq_getElem hl]; rfl
  rw [e2]
  refine at_of e ?_
  rw [List.getElem?_map, List.getElem?_eq_getElem hl]; rfl
theorem cell_out {ns : List Int} {k : Int} (h : ¬ k < (ns.length : Int)) : cell ns k = 0 := by
  unfold cell
  rw [List.getD_eq_getElem?_getD, List.getElem?_eq_none (by omega)]; rfl
theorem atI_some {xs : List V} {i : Int} (h0 : 0 ≤ i) (h : i < (xs.length : Int)) : ∃ v, xs[i.toNat]? = some v ∧ atI xs i = some v := by
  have hl : i.toNat < xs.length := by omega
  exact ⟨xs[i.toNat], List.getElem?_eq_getElem hl, at_of (by omega) (List.getElem?_eq_getElem hl)⟩
theorem atI_ints {xs : List Int} {i : Int} (h0 : 0 ≤ i) (h : i < (xs.length : Int)) : ∃ n, atI (xs.map V.int) i = some (.int n) ∧ xs[i.toNat]? = some n := by
  have hl : i.toNat < xs.length := by omega
  refine ⟨xs[i.toNat], at_of (j := i.toNat) (by omega) ?_, List.getElem?_eq_getElem hl⟩
  rw [List.getElem?_map, List.getElem?_eq_getElem hl]; rfl
theorem g_dT {p A B : Prop} [Decidable p] (h : p) (q : A) : if decide p = true then A else B := by rw [decide_eq_true h]; exact iteT q
theorem g_dF {p A B : Prop} [Decidable p] (h : ¬ p) (q : B) : if decide p = true then A else B := by rw [decide_eq_false h]; exact iteF q
theorem g_nT {p A B : Prop} [Decidable p] (h : ¬ p) (q : A) : if (!decide p) = true then A else B := by rw [decide_eq_false h]; exact iteT q
theorem g_nF {p A B : Prop} [Decidable p] (h : p) (q : B) : if (!decide p) = true then A else B := by rw [decide_eq_true h]; exact iteF q
/-! ### comprehensions: the list ys, value by value -/
theorem g_yes {σ : St} {H : Hp} {P : Bool → Hp → Prop} (q : P true H) : tYes σ H P := q
theorem g_lc {wi : TI} {g : TG} {tt : TT} {te : TE} {vs : List Nat} {σ : St} {H : Hp} {Q : VK} (h : wi σ H fun J H1 => ∀ D, H1 D = none → ∃ W : Nat → Nat → Hp → Prop, (∃ m, W 0 m (upd H1 D (.lst []))) ∧ ∀ i m H, W i m H →
  (J.stop i H ∧ Q (.ref D) H) ∨ (J.go i H ∧ ∃ Nx : Hp → Prop, (∀ H', Nx H' → ∃ m', m' < m ∧ W (i + 1) m' H') ∧ ∀ x H', J.yld i H x H' → g x (wipe σ vs) H' fun σ2 H2 => wipe σ2 vs = wipe σ vs ∧ tt σ2 H2 fun b H3 =>
    if b = true then te σ2 H3 fun y H4 => ∃ acc, H4 D = some (.lst acc) ∧ acc.length < sizeLine ∧ Nx (upd H4 D (.lst (acc ++ [y]))) else Nx H3)) : tLc wi g tt te vs σ H Q := h
theorem g_revR {ta : TE} {σ : St} {H : Hp} {R : It → Hp → Prop} (h : ta σ H fun x H1 => ∃ n : Int, x = .int n ∧ -(2 ^ 62) ≤ (0 : Int) ∧ (0 : Int) < 2 ^ 62 ∧ -(2 ^ 62) ≤ n ∧ n < 2 ^ 62 ∧ R (Itc (0 + (((n - 0).toNat : Nat) : Int) - 1) (-1) (n - 0).toNat) H1) : iRevR (tRg1 ta) σ H R := h
theorem g_rng1 {ta : TA} {σ : St} {H : Hp} {R : It → Hp → Prop} (h : ta σ H fun vs H1 => ∃ j : Int, vs = [.int j] ∧ -(2 ^ 62) ≤ j ∧ j < 2 ^ 62 ∧ R (Itr 0 j.toNat) H1) : iRng1 ta σ H R := h
theorem g_iList {K : PySem.W.Frag} {tl : TE} {σ : St} {H : Hp} {R : It → Hp → Prop} (h : tl σ H fun x H1 => ∃ a, x = .ref a ∧ (∃ xs, SqL K H1 a xs) ∧ R (Itl K a) H1) : iList K tl σ H R := h
def LcP (H1 : Hp) (D : Addr) (ys : List V) (i : Nat) (H : Hp) : Prop := Same H1 H ∧ H D = some (.lst (ys.take i))
theorem lc_vals {J : It} {n : Nat} {G : Hp → Prop} {Y : Nat → Hp → V → Hp → Prop} (w : Walk J n G Y) (ys : List V) {g : TG} {tt : TT} {te : TE} {vs : List Nat} {σ : St} {H1 : Hp} {D : Addr} {Qd : Hp → Prop} (hD : H1 D = none) (hlen : ys.length = n) (hG : ∀ H, Same H1 H → G H)
    (hs : ∀ i x H H', i < n → LcP H1 D ys i H → Y i H x H' → g x (wipe σ vs) H' fun σ2 H2 => wipe σ2 vs = wipe σ vs ∧ tt σ2 H2 fun b H3 =>
      if b = true then te σ2 H3 fun y H4 => ∃ acc, H4 D = some (.lst acc) ∧ acc.length < sizeLine ∧ LcP H1 D ys (i + 1) (upd H4 D (.lst (acc ++ [y]))) else LcP H1 D ys (i + 1) H3)
    (hd : ∀ H, Same H1 H → H D = some (.lst ys) → Qd H) :
    ∃ W : Nat → Nat → Hp → Prop, (∃ m, W 0 m (upd H1 D (.lst []))) ∧ ∀ i m H, W i m H →
      (J.stop i H ∧ Qd H) ∨ (J.go i H ∧ ∃ Nx : Hp → Prop, (∀ H', Nx H' → ∃ m', m' < m ∧ W (i + 1) m' H') ∧ ∀ x H', J.yld i H x H' → g x (wipe σ vs) H' fun σ2 H2 => wipe σ2 vs = wipe σ vs ∧ tt σ2 H2 fun b H3 =>
        if b = true then te σ2 H3 fun y H4 => ∃ acc, H4 D = some (.lst acc) ∧ acc.length < sizeLine ∧ Nx (upd H4 D (.lst (acc ++ [y]))) else Nx H3) := by
  refine lc_it w (LcP H1 D ys) ⟨same_upd hD, by rw [upd_same]; rfl⟩ (fun i H _ p => hG H p.1) hs (fun H p => hd H p.1 ?_)
  have e := p.2
  rw [← hlen, List.take_length] at e
  exact e
theorem lc_next {H1 H4 : Hp} {D : Addr} {ys : List V} {i : Nat} {y : V} (hD : H1 D = none) (p : LcP H1 D ys i H4) (hz : ys.length ≤ 100000) (hy : ys[i]? = some y) :
    ∃ acc, H4 D = some (.lst acc) ∧ acc.length < sizeLine ∧ LcP H1 D ys (i + 1) (upd H4 D (.lst (acc ++ [y]))) := by
  refine ⟨_, p.2, ?_, ?_, ?_⟩
  · rw [List.length_take]
    obtain ⟨h, _⟩ := List.getElem?_eq_some_iff.mp hy
    exact szl (by omega)
  · exact (But.of p.1).upd.same hD
  · rw [upd_same, List.take_add_one, hy]
    rfl
theorem LcP.same {H1 H4 H5 : Hp} {D : Addr} {ys : List V} {i : Nat} (p : LcP H1 D ys i H4) (s : Same H4 H5) : LcP H1 D ys i H5 := ⟨p.1.trans s, s _ _ p.2⟩
theorem map_get {α : Type} {f : α → V} {xs : List α} {i : Nat} {y : V} (h : (xs.map f)[i]? = some y) : ∃ z, xs[i]? = some z ∧ y = f z := by
  rw [List.getElem?_map] at h
  cases e : xs[i]? with
  | none => rw [e] at h; cases h
  | some z => rw [e] at h; exact ⟨z, rfl, (Option.some.inj h).symm⟩
/-! ### == of lists of ints -/
section
variable {K : PySem.W.Frag} {H : Hp} {Q : VK}
theorem dpAll_ints : ∀ {ns : List Int}, DpAll K H (ns.map V.int) (ns.map PyData.int)
  | [] => .nil
  | n :: _ => .cons (.int n) dpAll_ints
theorem lay_ints : ∀ {ns : List Int}, PyData.canLayAll0 (ns.map PyData.int) = true
  | [] => rfl
  | _ :: ns => by
    show (true && PyData.canLayAll0 (ns.map PyData.int)) = true
    rw [lay_ints]; rfl
theorem depth_ints : ∀ {ns : List Int}, PyData.depthAll (ns.map PyData.int) = 0
  | [] => rfl
  | _ :: ns => by
    show max 0 (PyData.depthAll (ns.map PyData.int)) = 0
    rw [depth_ints]; rfl
theorem shaped_ints {ns : List Int} : SeqAt.shaped (.list (ns.map PyData.int)) = true := by
  show (PyData.canLayAll0 (ns.map PyData.int) && decide (PyData.depthAll (ns.map PyData.int) + 1 ≤ 64)) = true
  rw [lay_ints, depth_ints]; rfl
theorem eqvAll_ints : ∀ {ns ms : List Int}, PyData.eqvAll (ns.map PyData.int) (ms.map PyData.int) = decide (ns = ms)
  | [], [] => rfl
  | [], _ :: _ => rfl
  | _ :: _, [] => rfl
  | n :: ns, m :: ms => by
    show ((n == m) && PyData.eqvAll (ns.map PyData.int) (ms.map PyData.int)) = decide (n :: ns = m :: ms)
    rw [eqvAll_ints, Bool.eq_iff_iff]
    simp
theorem dp_ints {a : Addr} {ns : List Int} (h : SqL K H a (ns.map V.int)) : Dp K H (.ref a) (.list (ns.map PyData.int)) := .lst h dpAll_ints
theorem g_eqL {a b : Addr} {ns ms : List Int} (h1 : SqL K H a (ns.map V.int)) (h2 : SqL K H b (ms.map V.int)) (q : Q (.bl (decide (ns = ms))) H) : rEqD K (.ref a) (.ref b) H Q :=
  ⟨_, _, dp_ints h1, dp_ints h2, shaped_ints, shaped_ints, by rw [show PyData.eqv (.list (ns.map PyData.int)) (.list (ms.map PyData.int)) = decide (ns = ms) from eqvAll_ints]; exact q⟩
theorem g_neL {a b : Addr} {ns ms : List Int} (h1 : SqL K H a (ns.map V.int)) (h2 : SqL K H b (ms.map V.int)) (q : Q (.bl (!decide (ns = ms))) H) : rNeD K (.ref a) (.ref b) H Q :=
  ⟨_, _, dp_ints h1, dp_ints h2, shaped_ints, shaped_ints, by rw [show PyData.eqv (.list (ns.map PyData.int)) (.list (ms.map PyData.int)) = decide (ns = ms) from eqvAll_ints]; exact q⟩
theorem g_sum {a : Addr} {ns : List Int} (h : SqL K H a (ns.map V.int)) (q : Q (.int ns.sum) H) : rSum K [.ref a] H Q := ⟨a, ns, rfl, h, q⟩
end
theorem ixN_nat {n : Nat} {k : Int} (h0 : 0 ≤ k) (h : k < (n : Int)) : ixN n k = some k.toNat := by
  unfold ixN
  rw [if_pos h0, if_pos h]
theorem g_ref {a : Addr} {A : Addr → Prop} (q : A a) : ∃ b, V.ref a = .ref b ∧ A b := ⟨a, rfl, q⟩
/-! ### objects: the attributes by their places -/
def obj : List Str → List V → List (Str × V)
  | k :: ks, v :: vs => (k, v) :: obj ks vs
  | _, _ => []
theorem obj_len : ∀ (ks : List Str) (vs : List V), (obj ks vs).length ≤ ks.length
  | [], _ => Nat.zero_le _
  | _ :: _, [] => Nat.zero_le _
  | _ :: ks, _ :: vs => Nat.succ_le_succ (obj_len ks vs)
theorem obj_get : ∀ {ks : List Str} {vs : List V} {i : Nat} {k : Str}, ks.Nodup → ks[i]? = some k → (obj ks vs).lookup k = vs[i]?
  | [], _, _, _, _, h => by cases h
  | k0 :: ks, [], i, k, _, _ => by simp [obj]
  | k0 :: ks, v :: vs, 0, k, _, h => by
    have e : k0 = k := Option.some.inj h
    subst e
    simp [obj]
  | k0 :: ks, v :: vs, i + 1, k, nd, h => by
    have nd' := List.nodup_cons.mp nd
    have hk : k ∈ ks := List.mem_of_getElem? h
    have ne : (k == k0) = false := by
      rw [beq_eq_false_iff_ne]
      intro e
      subst e
      exact nd'.1 hk
    show List.lookup k ((k0, v) :: obj ks vs) = vs[i]?
    rw [List.lookup_cons, ne]
    exact obj_get nd'.2 h
theorem obj_none : ∀ {ks : List Str} {vs : List V} {k : Str}, k ∉ ks → (obj ks vs).lookup k = none
  | [], _, _, _ => rfl
  | _ :: _, [], _, _ => rfl
  | k0 :: ks, v :: vs, k, h => by
    have ne : (k == k0) = false := by
      rw [beq_eq_false_iff_ne]
      intro e
      subst e
      exact h (List.mem_cons_self ..)
    show List.lookup k ((k0, v) :: obj ks vs) = none
    rw [List.lookup_cons, ne]
    exact obj_none fun z => h (List.mem_cons_of_mem _ z)
theorem obj_put : ∀ {ks : List Str} {vs : List V} {i : Nat} {k : Str} {y : V}, ks.Nodup → ks[i]? = some k → i < vs.length → putF k y (obj ks vs) = obj ks (vs.set i y)
  | [], _, _, _, _, _, h, _ => by cases h
  | _ :: _, [], _, _, _, _, _, h => by simp at h
  | k0 :: ks, v :: vs, 0, k, y, _, h, _ => by
    have e : k0 = k := Option.some.inj h
    subst e
    show (if k0 = k0 then _ else _) = _
    rw [if_pos rfl]
    rfl
  | k0 :: ks, v :: vs, i + 1, k, y, nd, h, hl => by
    have nd' := List.nodup_cons.mp nd
    have hk : k ∈ ks := List.mem_of_getElem? h
    have ne : ¬ k0 = k := by
      intro e
      subst e
      exact nd'.1 hk
    show (if k0 = k then _ else (k0, v) :: putF k y (obj ks vs)) = (k0, v) :: obj ks (vs.set i y)
    rw [if_neg ne, obj_put nd'.2 h (by simpa using hl)]
theorem obj_new : ∀ {ks : List Str} {vs : List V} {k : Str} {y : V}, ks.Nodup → ks[vs.length]? = some k → putF k y (obj ks vs) = obj ks (vs ++ [y])
  | [], _, _, _, _, h => by simp at h
  | k0 :: ks, [], k, y, _, h => by
    have e : k0 = k := Option.some.inj h
    subst e
    show [(k0, y)] = obj (k0 :: ks) [y]
    cases ks <;> rfl
  | k0 :: ks, v :: vs, k, y, nd, h => by
    have nd' := List.nodup_cons.mp nd
    have h' : ks[vs.length]? = some k := h
    have hk : k ∈ ks := List.mem_of_getElem? h'
    have ne : ¬ k0 = k := by
      intro e
      subst e
      exact nd'.1 hk
    show (if k0 = k then _ else (k0, v) :: putF k y (obj ks vs)) = (k0, v) :: obj ks (vs ++ [y])
    rw [if_neg ne, obj_new nd'.2 h']
section
variable {K : PySem.W.Frag} {σ : St} {H : Hp} {Q : VK} {v y : V} {ta tv : TE} {D : Ends} {f m : Str} {a C dx : Addr} {ks : List Str} {vs : List V} {i : Nat}
theorem g_fld (h : ta σ H fun x H1 => ∃ a C dx fs v, x = .ref a ∧ H1 a = some (.ins C dx fs) ∧ Cls K C ∧ NoAttr K C f ∧ fs.lookup f = some v ∧ Q v H1) : tFld K ta f σ H Q := h
theorem g_fldE {A : V → Prop} (ho : H a = some (.ins C dx (obj ks vs))) (c : Cls K C) (n : NoAttr K C f) (nd : ks.Nodup) (hk : ks[i]? = some f) (hv : vs[i]? = some v) (q : A v) :
    ∃ a' C' dx' fs v', V.ref a = .ref a' ∧ H a' = some (.ins C' dx' fs) ∧ Cls K C' ∧ NoAttr K C' f ∧ fs.lookup f = some v' ∧ A v' := ⟨a, C, dx, _, v, rfl, ho, c, n, (obj_get nd hk).trans hv, q⟩
theorem g_sfld (h : tv σ H fun y H1 => ta σ H1 fun x H2 => ∃ a C dx fs, x = .ref a ∧ H2 a = some (.ins C dx fs) ∧ Cls K C ∧ NoAttr K C f ∧ fs.length < 1000 ∧ D.nx σ (upd H2 a (.ins C dx (putF f y fs)))) : sFld K ta tv f D σ H := h
theorem g_putE {A : Hp → Prop} (ho : H a = some (.ins C dx (obj ks vs))) (c : Cls K C) (n : NoAttr K C f) (nd : ks.Nodup) (h1 : ks.length < 1000) (hk : ks[i]? = some f) (hv : i < vs.length) (q : A (upd H a (.ins C dx (obj ks (vs.set i y))))) :
    ∃ a' C' dx' fs, V.ref a = .ref a' ∧ H a' = some (.ins C' dx' fs) ∧ Cls K C' ∧ NoAttr K C' f ∧ fs.length < 1000 ∧ A (upd H a' (.ins C' dx' (putF f y fs))) :=
  ⟨a, C, dx, _, rfl, ho, c, n, Nat.lt_of_le_of_lt (obj_len ks vs) h1, by rw [obj_put nd hk hv]; exact q⟩
theorem g_newE {A : Hp → Prop} (ho : H a = some (.ins C dx (obj ks vs))) (c : Cls K C) (n : NoAttr K C f) (nd : ks.Nodup) (h1 : ks.length < 1000) (hk : ks[vs.length]? = some f) (q : A (upd H a (.ins C dx (obj ks (vs ++ [y]))))) :
    ∃ a' C' dx' fs, V.ref a = .ref a' ∧ H a' = some (.ins C' dx' fs) ∧ Cls K C' ∧ NoAttr K C' f ∧ fs.length < 1000 ∧ A (upd H a' (.ins C' dx' (putF f y fs))) :=
  ⟨a, C, dx, _, rfl, ho, c, n, Nat.lt_of_le_of_lt (obj_len ks vs) h1, by rw [obj_new nd hk]; exact q⟩
theorem g_meth {sp : Sp} {dvs : List V} {E : XK} {t : TA} (h : ta σ H fun x H1 => ∃ a dx fs, x = .ref a ∧ H1 a = some (.ins C dx fs) ∧ fs.lookup m = none ∧ t σ H1 fun vs H2 => sp (x :: (vs ++ dvs)) H2 Q E) : tMeth C m sp dvs E ta t σ H Q := h
theorem g_methE {A : Prop} (ho : H a = some (.ins C dx (obj ks vs))) (no : m ∉ ks) (q : A) : ∃ a' dx' fs, V.ref a = .ref a' ∧ H a' = some (.ins C dx' fs) ∧ fs.lookup m = none ∧ A := ⟨a, dx, _, rfl, ho, obj_none no, q⟩
theorem g_make {sp : Sp} {dvs : List V} {E : XK} {t : TA} (h : t σ H fun vs H1 => ∀ x dx, H1 x = none → H1 dx = none → dx ≠ x → sp (.ref x :: (vs ++ dvs)) (upd (upd H1 dx (.own x)) x (.ins C dx [])) (fun v H2 => v = .non ∧ Q (.ref x) H2) E) : tMake C sp dvs E t σ H Q := h
theorem g_prop {sp : Sp} {dvs : List V} {E : XK} (h : ta σ H fun x H1 => ∃ a dx fs, x = .ref a ∧ H1 a = some (.ins C dx fs) ∧ sp (.ref a :: dvs) H1 Q E) : tProp C sp dvs E ta σ H Q := h
theorem g_propE {A : Addr → Prop} (ho : H a = some (.ins C dx (obj ks vs))) (q : A a) : ∃ a' dx' fs, V.ref a = .ref a' ∧ H a' = some (.ins C dx' fs) ∧ A a' := ⟨a, dx, _, rfl, ho, q⟩
theorem g_absE {A : Int → Prop} {n : Int} (q : A n) : ∃ i, [V.int n] = [V.int i] ∧ A i := ⟨n, rfl, q⟩
end
/-- a slice of ints -/
theorem cut_ints (ns : List Int) (lo hi : Option Int) : ∃ ms : List Int, cutV (ns.map V.int) lo hi = ms.map V.int ∧ ms.length ≤ ns.length := by
  unfold cutV
  refine ⟨(ns.drop (HT.sIx (ns.map V.int).length 0 lo)).take (HT.sIx (ns.map V.int).length (ns.map V.int).length hi - HT.sIx (ns.map V.int).length 0 lo), ?_, ?_⟩
  · rw [List.map_take, List.map_drop]
  · rw [List.length_take, List.length_drop]
    omega
theorem g_nameE {i : Nat} {v : V} {σ σ' : St} {H : Hp} {A : St → Hp → Prop} (e : σ.set i (some v) = σ') (q : A σ' H) : gName i v σ H A := by
  subst e
  exact q
theorem but_sq {K : PySem.W.Frag} {p : Addr} {H H' : Hp} {a : Addr} {xs : List V} (e : But p H H') (n : a ≠ p) (h : SqL K H a xs) : SqL K H' a xs := by
  rcases h with (h | ⟨o, h⟩) | h
  · exact .inl (.inl (e _ _ n h))
  · exact .inl (.inr ⟨o, e _ _ n h⟩)
  · exact .inr h
theorem g_star {K : PySem.W.Frag} {te : TE} {t : TA} {σ : St} {H : Hp} {Q : List V → Hp → Prop} (h : te σ H fun x H1 => ∃ p xs, x = V.ref p ∧ (SqT K H1 p xs ∨ SqL K H1 p xs) ∧ t σ H1 fun ys H2 => Q (xs ++ ys) H2) : StX.tStar K te t σ H Q := h
theorem g_while {c : TT} {tb : TS} {D : Ends} {σ : St} {H : Hp} (W : Nat → St → Hp → Prop) (h0 : ∃ m, W m σ H) (h : ∀ m σ H, W m σ H → c σ H fun b H1 => if b = true then ∃ N : St → Hp → Prop, (∀ σ' H', N σ' H' → ∃ m', m' < m ∧ W m' σ' H') ∧ tb { D with nx := N, ct := N, bk := D.nx } σ H1 else D.nx σ H1) : tWhile c tb D σ H := ⟨W, h0, h⟩
theorem g_cut {t u : TS} {D : Ends} {σ : St} {H : Hp} (Mid : St → Hp → Prop) (h1 : t { D with nx := Mid } σ H) (h2 : ∀ σ' H', Mid σ' H' → u D σ' H') : C8.tCut t u D σ H := ⟨Mid, h1, h2⟩
theorem g_min {K : PySem.W.Frag} {a : Addr} {ns : List Int} {H : Hp} {Q : VK} (h : SqL K H a (ns.map V.int)) (h0 : 0 < ns.length) (q : ∀ m, m ∈ ns → (∀ y, y ∈ ns → m ≤ y) → Q (.int m) H) : rMin K [.ref a] H Q := ⟨a, ns, rfl, h, h0, q⟩
theorem g_max {K : PySem.W.Frag} {a : Addr} {ns : List Int} {H : Hp} {Q : VK} (h : SqL K H a (ns.map V.int)) (h0 : 0 < ns.length) (q : ∀ m, m ∈ ns → (∀ y, y ∈ ns → y ≤ m) → Q (.int m) H) : rMax K [.ref a] H Q := ⟨a, ns, rfl, h, h0, q⟩
theorem atI_nat' {xs : List V} {i : Int} {j : Nat} {v : V} (e : i = (j : Int)) (h : xs[j]? = some v) : atI xs i = some v := at_of e h
theorem ixN_last {n : Nat} (h : 0 < n) : ixN n (-1) = some (n - 1) := by
  unfold ixN
  rw [if_neg (by decide), if_pos (by omega)]
  congr 1
  omega
theorem atI_neg1 {xs : List V} {v : V} (h : xs[xs.length - 1]? = some v) : atI xs (-1) = some v := by
  obtain ⟨hl, _⟩ := List.getElem?_eq_some_iff.mp h
  unfold atI
  rw [ixN_last (by omega)]
  exact h
theorem snoc_of {α : Type} {xs : List α} (h : 0 < xs.length) : ∃ a x, xs = a ++ [x] :=
  ⟨xs.dropLast, xs.getLast (List.ne_nil_of_length_pos h), (List.dropLast_concat_getLast _).symm⟩
theorem set_last {α : Type} {a : List α} {x y : α} : (a ++ [x]).set a.length y = a ++ [y] := by
  rw [List.set_append_right _ _ (Nat.le_refl _), Nat.sub_self]
  rfl
end My
namespace My
open PySem PySem.Spec L2
local macro_rules | `(tactic| walk_at "side") => `(tactic| first | assumption | decide | omega | exact ⟨by decide, by decide⟩ | exact ⟨by decide, by decide, by decide⟩ | decide +kernel | exact cdivW (by decide +kernel) (by decide +kernel) | exact Or.inl ⟨by omega, by omega⟩ | exact Or.inr ⟨by omega, by omega⟩ | (simp only [List.length_map, List.length_cons, List.length_nil, List.length_append]; omega))
local macro_rules | `(tactic| walk_at "fact") => `(tactic| first | assumption | omega | with_reducible rfl)
local macro_rules | `(tactic| walk_at "use") => `(tactic| fail "use")
local macro_rules | `(tactic| walk_at "go1") => `(tactic| with_reducible first | refine g_seq ?_ | refine g_asg ?_ | refine g_ret ?_ | refine g_ifS ?_ | refine g_drop ?_ | refine g_star ?_ | refine g_nx ?_ | refine g_rt ?_ | refine g_bkE ?_ | refine g_ctE ?_ | refine g_next ?_ | refine g_retN ?_ | refine g_brk ?_ | refine g_ct ?_ | refine g_c ?_ | refine g_op ?_ | refine g_un ?_ | refine g_rI0 ?_ | refine g_rU ?_ | refine g_rEqI ?_ | refine g_rNeI ?_ | refine g_isN ?_ | refine g_rIsB ?_ | refine g_rNotB ?_ | refine g_test ?_ | refine g_B ?_ | refine g_bl ?_ | refine g_and ?_ | refine g_or ?_ | refine g_not ?_ | refine g_andV ?_ | refine g_orV ?_ | refine g_notV ?_ | refine g_if ?_ | refine g_chain ?_ | refine g_yes ?_ | refine g_lc ?_ | refine g_revR ?_ | refine g_rng1 ?_ | refine g_iList ?_ | refine g_nil ?_ | refine g_cons ?_ | refine g_tup ?_ | refine g_lst ?_ | refine g_call ?_ | refine g_CB ?_ | refine g_sl ?_ | refine g_noPart ?_ | refine g_part ?_ | refine g_intE ?_ | refine g_ref ?_ | refine g_fld ?_ | refine g_sfld ?_ | refine g_meth ?_ | refine g_make ?_ | refine g_prop ?_  | refine g_ipI ?_ | refine g_int1 ?_ | refine g_int1B ?_ | refine g_one ?_ | refine g_two ?_ | refine g_isiI ?_ | refine g_isiIB ?_ | refine g_isiB ?_ | refine g_BM ?_ | refine g_BM0 ?_ | refine g_sub ?_)
local macro_rules | `(tactic| walk_at "go") => `(tactic| repeat (first | walk_at "go1" | ((with_reducible refine' g_nameE ?sd_ ?_); case sd_ => dsimp only [List.set_cons_succ, List.set_cons_zero]) | ((with_reducible refine' g_var ?sd_ ?_); case sd_ => exact rfl) | ((with_reducible refine' g_aug ?sd_ ?_); case sd_ => exact rfl) | ((with_reducible refine' g_rI ?sd_ ?_); case sd_ => walk_at "side") | ((with_reducible refine' g_dT ?sd_ ?_); case sd_ => walk_at "fact") | ((with_reducible refine' g_dF ?sd_ ?_); case sd_ => walk_at "fact") | ((with_reducible refine' g_nT ?sd_ ?_); case sd_ => walk_at "fact") | ((with_reducible refine' g_nF ?sd_ ?_); case sd_ => walk_at "fact") | (with_reducible refine g_iT rfl ?_) | (with_reducible refine g_iF rfl ?_) | walk_at "use"))
local macro_rules | `(tactic| walk_at "nw") => `(tactic| (generalize zq : upd _ _ _ = Hq; have sq : Same _ Hq := (by rw [← zq]; exact same_upd (by assumption)); have kq := (congrFun zq _).symm.trans upd_same; clear zq))
local macro_rules | `(tactic| walk_at "bt") => `(tactic| (generalize zq : upd _ _ _ = Hq; have bq : But _ _ Hq := (by rw [← zq]; exact But.refl.upd); have kq := (congrFun zq _).symm.trans upd_same; clear zq))
/-! ### a method whose first statement is super().__init__(e, ..) of a plain class -/
structure PSsS (X : Cx) (body : List Stmt) (t : TS) : Prop where
  run : ∀ (b0 : List Stmt) (pins : List (Addr × Obj)) (s : Shared) (σ : L2.St) (H : Hp) (D : Ends), Inv X pins σ H s → t D σ H → PySem.wpAt (model X.prog X.w) X.A (.func b0 X.env) (execs body X.env) (SP X pins D) X.xe s
/-- what of the text such a method must have: f of the class at C, over a base whose __init__ is f2 -/
structure SupK (K : PySem.W.Frag) (P : Program) (f f2 C cda cc : Addr) (fd : FuncData) : Prop where
  fo : ∃ oc od sl, K.lookup f = some ⟨oc, od, .func fd, sl⟩
  code : ∃ ccl cdd ccs vs file tf, K.lookup cda = some ⟨ccl, cdd, .fields vs, ccs⟩ ∧ vs[2]? = some (.str file tf) ∧ ((P.main.file : Str) == file) = true
  cell : ∃ cl cld csl, K.lookup cc = some ⟨cl, cld, .cell (some (.ref C)), csl⟩
  cls : ∃ cd, PySem.W.clsIn K C = some cd
  sub : PySem.W.mroIn K C (.ref C) = some true
  top : (P.main.scope.names.lookup ("super" : Str)).isSome = false
  up : PySem.W.ks_superIn K C C "__init__" = some (some (.ref f2))
  ty : PySem.W.typeIn K (.ref f2) = some (.type "function")
  fn : PySem.W.fnIn K f2 = true
  op : PySem.W.nsIn K cStatics "thirdparty.any" = some none
def tSup (C : Addr) (sp : Sp) (ta : TA) (t : TS) : TS := fun D σ H => ∃ x dx fs, σ[0]? = some (some (.ref x)) ∧ H x = some (.ins C dx fs) ∧ ta σ H fun us H1 => sp (.ref x :: us) H1 (fun _ H2 => t D σ H2) E0
theorem pss_super {X : Cx} {f f2 C cda cc : Addr} {fd fd2 : FuncData} {k : Nat} {ps2 : List Str} {sp2 : Sp} {ta : TA} {t : TS} {pl : Sem Bool} {p0 p1 p2 p3 p4 : Pos} {e : Expr} {es : List Expr} {rest : List Stmt} {ar : Arg} {prm : Arguments}
    (F : SupK X.K X.prog f f2 C cda cc fd) (hfu : X.env.func = some f) (hco : X.env.code = .ref cda) (hcl : X.env.cells.lookup ("__class__" : Str) = some cc) (hmg : X.mg "super" = none) (hks : X.env.kindOf "super" = some .globalImplicit) (hkc : X.env.kindOf "__class__" = some .free)
    (hpar : fd.params = prm) (hp : (prm.posonlyargs ++ prm.args).head? = some ar) (h0 : X.N[0]? = some ar.arg) (hka : X.env.kindOf ar.arg = some .local)
    (F2 : FnOk X.prog X.w X.K X.mg X.base CX0 k f2 fd2 ps2 sp2) (b2 : Binds X.K fd2 ps2 []) (hr : Room k X.A) (ha : PA X (e :: es) ta) (hs : PSs X rest t)
    (hi : interactive X.env = false := by rfl) (hsw : swapsWith (.Call (.Attribute (.Call (.Name "super" p0) [] [] p1) "__init__" p2) (e :: es) [] p3) none p4.line X.env = pure false := by rfl)
    (hst : starEach (e :: es) X.env = (false, eval e X.env) :: starEach es X.env := by rfl) (hpl : (backTo p3 (starEach es X.env)).any (·.1) = false := by rfl)
    (ht : eval (.Call (.Attribute (.Call (.Name "super" p0) [] [] p1) "__init__" p2) (e :: es) [] p3) X.env = (do
      let ov ← attributeBase (.Call (.Name "super" p0) [] [] p1) "__init__" X.env (eval (.Call (.Name "super" p0) [] [] p1) X.env)
      standAt p2.atName
      let (f, first) ← holding [ov] (getMethod ov "__init__" pl)
      callWith p3 f first (backTo p3 (starEach (e :: es) X.env)) []) := by rfl) :
    PSsS X (.Expr (.Call (.Attribute (.Call (.Name "super" p0) [] [] p1) "__init__" p2) (e :: es) [] p3) p4 :: rest) (tSup C sp2 ta t) := by
  refine ⟨fun b0 pins s σ H D I hq => ?_⟩
  obtain ⟨x, dx, fs, hx0, hx, hq⟩ := hq
  obtain ⟨oc, od, sl, hfo⟩ := F.fo
  obtain ⟨ccl, cdd, ccs, cvs, file, tf, hcode, hvs, hfile⟩ := F.code
  obtain ⟨cl, cld, csl, hcell⟩ := F.cell
  obtain ⟨cd, hcd⟩ := F.cls
  have KX : X.K.In s.heap := I.kIn
  obtain ⟨oD, hD1, hD2⟩ : ∃ oD, s.heap.get? C = some oD ∧ oD.data = .cls cd := by
    unfold PySem.W.clsIn at hcd
    split at hcd
    · rename_i c d cd' sl' ho
      cases hcd
      exact ⟨_, KX _ _ ho, rfl⟩
    · cases hcd
  obtain ⟨mA, J0, _⟩ := ins_get I.hok hx
  obtain ⟨odx, J, _⟩ := J0.look
  obtain ⟨m, hns, hvals⟩ := I.loc
  have hself : m ar.arg = some (.ref x) := by
    obtain ⟨u, ru, lk⟩ := hvals 0 ar.arg (.ref x) h0 hx0 (.inl hka)
    cases ru
    rcases lk with ⟨_, z⟩ | ⟨z, _⟩
    · exact z
    · rw [hka] at z
      rcases z with z | z <;> cases z
  refine ks_wpAt_execs_cons (ks_wpAt_Expr_any (ks_wpAt_MethodCall (pl := pl) ?_ ht) hi hsw)
  refine ks_wpAt_super_base hks hkc (by decide) hfu (KX _ _ hfo) rfl (by rw [hpar]; exact hp) hco (KX _ _ hcode) rfl hvs hfile F.top ?_
  obtain ⟨mb, hb1, hb2⟩ := I.mod.blt
  refine PySem.W.ks_loadName_global I.ok.kind hks (Calls.loadGlobal_builtin (by rw [I.ok.glob]; exact I.mod.glob.keeps I.bk) hmg (by rw [I.ok.blt]; exact hb1.keeps I.bk) ((hb2 "super" (by decide)).trans (show bootBuiltins "super" = some (.type "super") by first | boot_by_name | rfl | kernel_rfl)) ⟨rfl, ?_⟩)
  refine wpAny_loadName_free I.ok.kind hkc hcl ⟨_, KX _ _ hcell, rfl⟩ ?_
  refine wpAny_loadName_local I.ok.kind hka hns hself ?_
  refine ks_wpAny_isType_cls hD1 hD2 ⟨rfl, ?_⟩
  refine ks_wpAny_call_super hD1 hD2 J.at_ J.cls (fun c e => ?_) (PySem.W.looks_mroIn KX F.sub) (fun h' eso ks => ?_)
  · have := J.no
    unfold PySem.W.notCls at this
    rw [e] at this
    exact Bool.noConfusion this
  have I1 : Inv X pins σ H { s with heap := h' } := I.kept ks
  obtain ⟨mA', J0', _⟩ := ins_get I1.hok hx
  obtain ⟨odx', J1, _⟩ := J0'.look
  have hxC : x ≠ C := PySem.W.ks_ne I1.kIn J1 hcd
  obtain ⟨of, hof, hofc⟩ : ∃ of, h'.get? f2 = some of ∧ of.cls = .type "function" := by
    have ht' : (X.K.lookup f2).map (·.cls) = some (.type "function") := F.ty
    cases z : X.K.lookup f2 with
    | none => rw [z] at ht'; cases ht'
    | some of => rw [z] at ht'; exact ⟨of, I1.kIn _ _ z, Option.some.inj ht'⟩
  have hm := F.up
  unfold PySem.W.ks_superIn at hm
  rw [hcd] at hm
  refine ks_wpAny_getMethod_super eso (PySem.W.looks_opaque I1.kIn F.op) (l₀ := cd.mro) ?_ rfl I1.kIn hm hof hofc hxC (by decide) ?_
  · exact fun A Q E s k q => wpAny_bind ((PySem.W.looks_clsIn I1.kIn hcd) A _ E s k (wpAny_pure q))
  have hb : (h'.push (PySem.W.methodObj (.ref f2) (.ref x))).get? h'.objs.size = some (PySem.W.methodObj (.ref f2) (.ref x)) := Heap.get?_push_at rfl rfl
  have I2 : Inv X pins σ H { s with heap := h'.push (PySem.W.methodObj (.ref f2) (.ref x)), toks := s.toks + 1 } := I1.kept (t' := s.toks + 1) fun b ob z => Heap.get?_push_of_some _ z
  have I3 : Inv X ((h'.objs.size, PySem.W.methodObj (.ref f2) (.ref x)) :: pins) σ H { s with heap := h'.push (PySem.W.methodObj (.ref f2) (.ref x)), toks := s.toks + 1 } := I2.pins_of fun q hq => by
    rcases List.mem_cons.mp hq with e | e
    · subst e
      exact ⟨hb, I1.hok.fresh (Nat.le_refl _), Nat.ne_of_gt I1.lt, I1.nofs (Nat.le_refl _), fun v z => nomatch z⟩
    · exact I2.pin q (List.mem_append_right _ e)
  rw [hst]
  refine PySem.W.callWith_of (P := PySem.W.MethP X.K h'.objs.size f2 (.ref x)) (by show ((false || (backTo p3 (starEach es X.env)).any (·.1)) || false) = false; rw [hpl]; rfl) (PySem.W.keeps_M F.fn) (Calls.evalArgs_plain ?_)
  have har := ha.run p3 _ _ σ H _ I3 hq
  rw [hst] at har
  refine thn har fun us s3 ⟨vs, H1, I4, rv, q⟩ => ?_
  have hp4 := (I4.pin (h'.objs.size, PySem.W.methodObj (.ref f2) (.ref x)) (List.mem_append_right _ List.mem_cons_self)).1
  have I5 : Inv X pins σ H1 s3 := I4.pins_of fun q hq => I4.pin q (List.mem_append_right _ (List.mem_cons_of_mem _ hq))
  refine ⟨⟨hp4, I4.kIn⟩, ?_⟩
  have r2 : Vals (V.ref x :: vs) (Value.ref x :: us) := .cons rfl rv
  have hl := F2.len _ _ _ _ q
  refine wpAny_call (ks_codeAny_call_bound hp4 (codeAny_mono (F2.run X.A X.stack s3 H1 ⟨Value.ref x :: us, []⟩ (Value.ref x :: us) (V.ref x :: vs) _ E0 hr I5.env0 (by
    have := b2 s3 (Value.ref x :: us) I5.kIn (by rw [List.append_nil, ← r2.length]; exact hl)
    simpa using this) r2 q) fun r s' hq => ?_))
  cases r with
  | error e => exact hq.elim
  | ok fl =>
    cases fl with
    | ret w =>
      obtain ⟨z, H', I', rz, q⟩ := I5.after hq
      exact wpAt_of_wpAny (hs.run pins s' σ H' D I' q)
    | next => exact False.elim hq
    | brk => exact False.elim hq
    | cont => exact False.elim hq
/-- THE RULE: such a method by its body -/
theorem fn_ofS {CX : CXT} {P : Program} {w : World} {K : PySem.W.Frag} {mg : Str → Option Value} {base : Heap} {k : Nat} {f f2 C cda cc : Addr} {name qual : Str} {params : Arguments} {body : List Stmt} {scope : Scope} {dV kV doc pm ct : Value} {an : Option Addr}
    {N ps : List Str} {sp : Sp} (F : SupK K P f f2 C cda cc (PySem.W.fnX name qual params body scope [("__class__", cc)] dV kV doc pm an (.ref cda) ct)) (hcd : PySem.W.codeIn K (.ref cda) qual = true) (S : NdefX.NScope N ps ["__class__"] scope)
    (len : ∀ vs H Q E, sp vs H Q E → vs.length = ps.length)
    (hbody : ∀ (A : Around) (outer : List Env) (s : Shared) (H : Hp) (vs : List V) (Q : VK) (E : XK), Room k (A.deeper (NdefX.envF ⟨name, qual, params, body, scope, [("__class__", cc)], cda⟩ f s.heap.objs.size)) → sp vs H Q E →
      ∃ t, PSsS (NdefX.ncx CX P w K mg base N ⟨name, qual, params, body, scope, [("__class__", cc)], cda⟩ f A outer s H E) body t ∧ t { nx := fun _ H' => Q .non H', rt := Q } (NdefX.startF N vs [none]) H) :
    FnOk P w K mg base CX (k + 1) f (PySem.W.fnX name qual params body scope [("__class__", cc)] dV kV doc pm an (.ref cda) ct) ps sp := by
  refine ⟨len, fun A outer s H args us vs Q E hr e0 hb r hsp => ?_⟩
  have hl := len _ _ _ _ hsp
  obtain ⟨oc, od, sl, lk⟩ := F.fo
  obtain ⟨cl, cld, csl, hcell⟩ := F.cell
  have KX : K.In s.heap := e0.mod.kin.keeps fun b o e => (e0.bs b o e).1
  have lim : s.heap.NoLimit := e0.mod.nolimit.keeps fun b o e => (e0.bs b o e).1
  have look1 : ∀ (y : Str) (c : Addr), List.lookup y [(("__class__" : Str), cc)] = some c → c = cc ∧ y = "__class__" := fun y c e => by
    rw [List.lookup_cons] at e
    split at e
    · rename_i z
      cases e
      exact ⟨rfl, beq_iff_eq.mp z⟩
    · cases e
  have CA : NdefX.CellsAt [("__class__", cc)] ["__class__"] [none] s.heap H := by
    refine ⟨rfl, fun y c e => ?_, fun x y c e1 e2 => ?_, fun i y e => ?_⟩
    · obtain ⟨rfl, _⟩ := look1 y c e
      exact ⟨(e0.bs _ _ (e0.mod.kin _ _ hcell)).2, _, _, KX _ _ hcell, rfl⟩
    · rw [(look1 x c e1).2, (look1 y c e2).2]
    · cases i with
      | zero =>
        cases e
        refine ⟨cc, by rw [List.lookup_cons, beq_self_eq_true], fun v z => ?_⟩
        cases z
      | succ j => simp at e
  refine ks_codeAny_call_defAt hr.depth (KX _ _ lk) rfl lim (PySem.W.codeRec_of KX hcd) rfl hb S.nocell (fun ⟨n, _⟩ hy => S.par n (List.of_mem_zip hy).1) (fun h₁ hns kp => ?_) S.co S.gen S.kind
  obtain ⟨t, ht, hq⟩ := hbody A outer s H vs Q E (hr.deeper _) hsp
  have I : Inv (NdefX.ncx CX P w K mg base N ⟨name, qual, params, body, scope, [("__class__", cc)], cda⟩ f A outer s H E) [] (NdefX.startF N vs [none]) H { s with heap := h₁, toks := s.toks + (ps.zip us).length } := NdefX.inv_startN S hr.hd e0 hl r CA hns kp
  refine ks_wpAt_mono (ht.run body [] _ (NdefX.startF N vs [none]) H _ I hq) (fun fl s' hs => ?_) fun e s' hs => hs
  have fin : ∀ {σ' : L2.St} {H' : Hp} {v : V} {u : Value}, Inv (NdefX.ncx CX P w K mg base N ⟨name, qual, params, body, scope, [("__class__", cc)], cda⟩ f A outer s H E) [] σ' H' s' → L2.RelV v u → Q v H' → CE outer P w H s Q u s' :=
    fun {σ' H' v u} J rv q => ⟨v, H', J.os, J.bare, J.base, J.hok, rv, q⟩
  cases fl with
  | ret u =>
    obtain ⟨v, σ', H', J, rv, q⟩ := hs
    exact fin J rv q
  | next =>
    obtain ⟨σ', H', J, q⟩ := hs
    exact fin (v := V.non) (u := Value.none) J rfl q
  | brk =>
    obtain ⟨_, _, _, q⟩ := hs
    exact False.elim q
  | cont =>
    obtain ⟨_, _, _, q⟩ := hs
    exact False.elim q
/-- such a method of the text as it stands behind the top -/
structure FunS (K : PySem.W.Frag) (P : Program) (x qual : Str) (st : Stmt) (f f2 C cda cc : Addr) (fd : FuncData) : Prop where
  ex : ∃ (kV doc pm ct : Value) (an : Option Addr), fd = PySem.W.fnX x qual (defArgs st) (defBody st) (defScope st) [("__class__", cc)] .none kV doc pm an (.ref cda) ct
  sup : SupK K P f f2 C cda cc fd
  code : PySem.W.codeIn K (.ref cda) qual = true
  kp : PySem.W.keepIn K (.ref f) = true
theorem FunS.params {P : Program} {K : PySem.W.Frag} {f f2 C cda cc : Addr} {x qual : Str} {st : Stmt} {fd : FuncData} (F : FunS K P x qual st f f2 C cda cc fd) : fd.params = defArgs st := by
  obtain ⟨kV, doc, pm, ct, an, rfl⟩ := F.ex
  rfl
theorem FunS.ok {P : Program} {w : World} {K : PySem.W.Frag} {mg : Str → Option Value} {base : Heap} {k : Nat} {f f2 C cda cc : Addr} {x qual : Str} {st : Stmt} {fd : FuncData} {N ps : List Str} {sp : Sp} (F : FunS K P x qual st f f2 C cda cc fd) (S : NdefX.NScope N ps ["__class__"] (defScope st))
    (len : ∀ vs H Q E, sp vs H Q E → vs.length = ps.length)
    (hbody : ∀ (A : Around) (outer : List Env) (s : Shared) (H : Hp) (vs : List V) (Q : VK) (E : XK), Room k (A.deeper (NdefX.envF ⟨x, qual, defArgs st, defBody st, defScope st, [("__class__", cc)], cda⟩ f s.heap.objs.size)) → sp vs H Q E →
      ∃ t, PSsS (NdefX.ncx CX0 P w K mg base N ⟨x, qual, defArgs st, defBody st, defScope st, [("__class__", cc)], cda⟩ f A outer s H E) (defBody st) t ∧ t { nx := fun _ H' => Q .non H', rt := Q } (NdefX.startF N vs [none]) H) :
    FnOk P w K mg base CX0 (k + 1) f fd ps sp := by
  obtain ⟨kV, doc, pm, ct, an, rfl⟩ := F.ex
  exact fn_ofS F.sup F.code S len hbody
theorem FunS.binds {P : Program} {K : PySem.W.Frag} {f f2 C cda cc : Addr} {x qual : Str} {st : Stmt} {fd : FuncData} {ps : List Str} (F : FunS K P x qual st f f2 C cda cc fd)
    (h : ∀ (kV doc pm : Value) (an : Option Addr) (cdv ct : Value) (us : List Value), us.length = ps.length → bindArgs (PySem.W.fnX x qual (defArgs st) (defBody st) (defScope st) [("__class__", cc)] .none kV doc pm an cdv ct) ⟨us, []⟩ = pure (ps.zip us)) : Binds K fd ps [] := by
  obtain ⟨kV, doc, pm, ct, an, rfl⟩ := F.ex
  exact .all (h kV doc pm an (.ref cda) ct)
/-- C.f is a constant of the class -/
def CValE (K : PySem.W.Frag) (C : Addr) (mc : Value) (f : Str) (v : V) : Prop := ∃ u, ClX.CVal K C mc f v u
theorem g_cval {K : PySem.W.Frag} {ta : TE} {f : Str} {σ : L2.St} {H : Hp} {Q : VK} (h : ta σ H fun x H1 => ∃ C mc v u, x = .ref C ∧ ClX.CRead K C mc ∧ ClX.CVal K C mc f v u ∧ Q v H1) : ClX.tCVal K ta f σ H Q := h

def topS (i : Nat) : Stmt := PySem.Challenge.pw_throughline_k00_sides_at_their_bounds.main.body.getD i (.Pass ⟨0, 0, 0, 0⟩)
abbrev s_Channel_init__ : Stmt := inClass (topS 1) 0
abbrev s_Channel_break_off : Stmt := inClass (topS 1) 1
abbrev s_Channel_fork : Stmt := inClass (topS 1) 7
abbrev s_read_number : Stmt := topS 11
abbrev s_frame_at : Stmt := topS 18
abbrev s_Channels_init__ : Stmt := inClass (topS 22) 1
abbrev s_Channels_len__ : Stmt := inClass (topS 22) 2
abbrev s_Channels_iter__ : Stmt := inClass (topS 22) 3
abbrev s_Channels_open_channel : Stmt := inClass (topS 22) 4
abbrev s_Channels_accept : Stmt := inClass (topS 22) 5
abbrev s_Channels_finish : Stmt := inClass (topS 22) 8
abbrev s_Channels_reset : Stmt := inClass (topS 22) 9
abbrev s_Channels_status : Stmt := inClass (topS 22) 10
abbrev s_Channels_take : Stmt := inClass (topS 22) 11
abbrev s_Channels_receive : Stmt := inClass (topS 22) 12
abbrev s_Channels_fork : Stmt := inClass (topS 22) 13
abbrev s_Channels_known : Stmt := inClass (topS 22) 14
abbrev s_Channels_add : Stmt := inClass (topS 22) 15
abbrev s_Channels_room_of : Stmt := inClass (topS 22) 16
abbrev s_Channels_take_frame : Stmt := inClass (topS 22) 19
abbrev s_Channels_failure_of : Stmt := inClass (topS 22) 20
abbrev s_Channels_apply : Stmt := inClass (topS 22) 21
abbrev s_failure_on : Stmt := topS 23
abbrev s_l_cell : Stmt := topS 25
abbrev s_l_is_integer : Stmt := topS 26
abbrev s_l_start : Stmt := topS 27
abbrev s_l_digit : Stmt := topS 28
abbrev s_l_many : Stmt := topS 29
abbrev s_l_frame : Stmt := topS 30
abbrev s_l_negative : Stmt := topS 31
abbrev s_l_open : Stmt := topS 32
abbrev s_l_opens : Stmt := topS 33
abbrev s_l_shown : Stmt := topS 34
abbrev s_l_accepts : Stmt := topS 35
abbrev s_l_goes_on : Stmt := topS 36
abbrev s_law : Stmt := topS 37
theorem sc_Channel_init__ : FnScope ["self", "number", "announced"] ["self", "number", "announced"] (defScope s_Channel_init__) := ⟨rfl, rfl, rfl, by decide +kernel, rfl, by decide +kernel, by decide +kernel⟩
theorem sc_Channel_break_off : FnScope ["self", "place", "code"] ["self", "place", "code"] (defScope s_Channel_break_off) := ⟨rfl, rfl, rfl, by decide +kernel, rfl, by decide +kernel, by decide +kernel⟩
theorem sc_Channel_fork : FnScope ["self", "other"] ["self"] (defScope s_Channel_fork) := ⟨rfl, rfl, rfl, by decide +kernel, rfl, by decide +kernel, by decide +kernel⟩
theorem sc_read_number : FnScope ["octets", "number", "octet"] ["octets"] (defScope s_read_number) := ⟨rfl, rfl, rfl, by decide +kernel, rfl, by decide +kernel, by decide +kernel⟩
theorem sc_frame_at : FnScope ["octets", "at", "word", "channel", "number", "stop"] ["octets", "at"] (defScope s_frame_at) := ⟨rfl, rfl, rfl, by decide +kernel, rfl, by decide +kernel, by decide +kernel⟩
theorem sc_Channels_init__ : FnScope ["self", "first", "window", "most"] ["self", "first", "window", "most"] (defScope s_Channels_init__) := ⟨rfl, rfl, rfl, by decide +kernel, rfl, by decide +kernel, by decide +kernel⟩
theorem sc_Channels_len__ : FnScope ["self"] ["self"] (defScope s_Channels_len__) := ⟨rfl, rfl, rfl, by decide +kernel, rfl, by decide +kernel, by decide +kernel⟩
theorem sc_Channels_iter__ : FnScope ["self"] ["self"] (defScope s_Channels_iter__) := ⟨rfl, rfl, rfl, by decide +kernel, rfl, by decide +kernel, by decide +kernel⟩
theorem sc_Channels_open_channel : FnScope ["self", "number"] ["self"] (defScope s_Channels_open_channel) := ⟨rfl, rfl, rfl, by decide +kernel, rfl, by decide +kernel, by decide +kernel⟩
theorem sc_Channels_accept : FnScope ["self"] ["self"] (defScope s_Channels_accept) := ⟨rfl, rfl, rfl, by decide +kernel, rfl, by decide +kernel, by decide +kernel⟩
theorem sc_Channels_finish : FnScope ["self", "channel", "found"] ["self", "channel"] (defScope s_Channels_finish) := ⟨rfl, rfl, rfl, by decide +kernel, rfl, by decide +kernel, by decide +kernel⟩
theorem sc_Channels_reset : FnScope ["self", "channel", "code", "found"] ["self", "channel", "code"] (defScope s_Channels_reset) := ⟨rfl, rfl, rfl, by decide +kernel, rfl, by decide +kernel, by decide +kernel⟩
theorem sc_Channels_status : FnScope ["self", "channel", "found"] ["self", "channel"] (defScope s_Channels_status) := ⟨rfl, rfl, rfl, by decide +kernel, rfl, by decide +kernel, by decide +kernel⟩
theorem sc_Channels_take : FnScope ["self", "count", "frame", "octets"] ["self", "count"] (defScope s_Channels_take) := ⟨rfl, rfl, rfl, by decide +kernel, rfl, by decide +kernel, by decide +kernel⟩
theorem sc_Channels_receive : FnScope ["self", "octets", "at", "size"] ["self", "octets"] (defScope s_Channels_receive) := ⟨rfl, rfl, rfl, by decide +kernel, rfl, by decide +kernel, by decide +kernel⟩
theorem sc_Channels_fork : FnScope ["self", "other", "number"] ["self"] (defScope s_Channels_fork) := ⟨rfl, rfl, rfl, by decide +kernel, rfl, by decide +kernel, by decide +kernel⟩
theorem sc_Channels_known : FnScope ["self", "number"] ["self", "number"] (defScope s_Channels_known) := ⟨rfl, rfl, rfl, by decide +kernel, rfl, by decide +kernel, by decide +kernel⟩
theorem sc_Channels_add : FnScope ["self", "channel"] ["self", "channel"] (defScope s_Channels_add) := ⟨rfl, rfl, rfl, by decide +kernel, rfl, by decide +kernel, by decide +kernel⟩
theorem sc_Channels_room_of : FnScope ["self", "channel"] ["self", "channel"] (defScope s_Channels_room_of) := ⟨rfl, rfl, rfl, by decide +kernel, rfl, by decide +kernel, by decide +kernel⟩
theorem sc_Channels_take_frame : FnScope ["self", "at", "found", "frame", "size"] ["self", "at"] (defScope s_Channels_take_frame) := ⟨rfl, rfl, rfl, by decide +kernel, rfl, by decide +kernel, by decide +kernel⟩
theorem sc_Channels_failure_of : FnScope ["self", "frame", "word", "number", "is_next", "channel"] ["self", "frame"] (defScope s_Channels_failure_of) := ⟨rfl, rfl, rfl, by decide +kernel, rfl, by decide +kernel, by decide +kernel⟩
theorem sc_Channels_apply : FnScope ["self", "frame", "word", "number", "channel"] ["self", "frame"] (defScope s_Channels_apply) := ⟨rfl, rfl, rfl, by decide +kernel, rfl, by decide +kernel, by decide +kernel⟩
theorem sc_failure_on : FnScope ["channel", "frame", "word"] ["channel", "frame"] (defScope s_failure_on) := ⟨rfl, rfl, rfl, by decide +kernel, rfl, by decide +kernel, by decide +kernel⟩
theorem sc_l_cell : FnScope ["script", "k"] ["script", "k"] (defScope s_l_cell) := ⟨rfl, rfl, rfl, by decide +kernel, rfl, by decide +kernel, by decide +kernel⟩
theorem sc_l_is_integer : FnScope ["told"] ["told"] (defScope s_l_is_integer) := ⟨rfl, rfl, rfl, by decide +kernel, rfl, by decide +kernel, by decide +kernel⟩
theorem sc_l_start : FnScope ["cell", "k", "prime", "mixed"] ["cell", "k"] (defScope s_l_start) := ⟨rfl, rfl, rfl, by decide +kernel, rfl, by decide +kernel, by decide +kernel⟩
theorem sc_l_digit : FnScope ["state", "many", "digit"] ["state", "many"] (defScope s_l_digit) := ⟨rfl, rfl, rfl, by decide +kernel, rfl, by decide +kernel, by decide +kernel⟩
theorem sc_l_many : FnScope ["state"] ["state"] (defScope s_l_many) := ⟨rfl, rfl, rfl, by decide +kernel, rfl, by decide +kernel, by decide +kernel⟩
theorem sc_l_frame : FnScope ["number"] ["number"] (defScope s_l_frame) := ⟨rfl, rfl, rfl, by decide +kernel, rfl, by decide +kernel, by decide +kernel⟩
theorem sc_l_negative : FnScope ["side", "state", "e"] ["side", "state"] (defScope s_l_negative) := ⟨rfl, rfl, rfl, by decide +kernel, rfl, by decide +kernel, by decide +kernel⟩
theorem sc_l_open : FnScope ["side", "e"] ["side"] (defScope s_l_open) := ⟨rfl, rfl, rfl, by decide +kernel, rfl, by decide +kernel, by decide +kernel⟩
theorem sc_l_opens : FnScope ["side", "turn", "many", "k"] ["side", "turn", "many"] (defScope s_l_opens) := ⟨rfl, rfl, rfl, by decide +kernel, rfl, by decide +kernel, by decide +kernel⟩
theorem sc_l_shown : FnScope ["side", "rows", "number", "told"] ["side"] (defScope s_l_shown) := ⟨rfl, rfl, rfl, by decide +kernel, rfl, by decide +kernel, by decide +kernel⟩
theorem sc_l_accepts : FnScope ["side", "turn", "many", "k", "told"] ["side", "turn", "many"] (defScope s_l_accepts) := ⟨rfl, rfl, rfl, by decide +kernel, rfl, by decide +kernel, by decide +kernel⟩
theorem sc_l_goes_on : FnScope ["side", "turn", "mine", "theirs", "state", "due", "numbers", "number", "code"] ["side", "turn", "mine", "theirs", "state"] (defScope s_l_goes_on) := ⟨rfl, rfl, rfl, by decide +kernel, rfl, by decide +kernel, by decide +kernel⟩
theorem sc_law : FnScope ["script", "state", "turn", "side", "theirs", "mine", "k", "failed", "shown", "double", "again", "more"] ["script"] (defScope s_law) := ⟨rfl, rfl, rfl, by decide +kernel, rfl, by decide +kernel, by decide +kernel⟩
/-! ### several except clauses, each with a name of its own -/
/-- what the clauses wish, one after the other: the class, the slot, the suite -/
def wManyA (K : PySem.W.Frag) (Wout : WX) (D : Ends) : List (Value × Nat × (Addr → Value → Option Addr → TS)) → WX
  | [] => Wout
  | (c, i, ts) :: r => wAs K c i ts (wManyA K Wout D r) D
inductive HdsA (X : Cx) : List ExceptHandler → List (Value × Nat × (Addr → Value → Option Addr → TS)) → Prop
  | nil : HdsA X [] []
  | cons {x n : Str} {c : Value} {i : Nat} {ts : Addr → Value → Option Addr → TS} {b₀ : Stmt} {suite : List Stmt} {np pos' : Pos} {hds : List ExceptHandler} {l : List (Value × Nat × (Addr → Value → Option Addr → TS))}
      (hi : X.N[i]? = some n) (hln : X.env.kindOf n = some .local) (hc : Names X x c)
      (hsu : ∀ (a : Addr) (oe : Obj) (cls : Value) (d : Option Addr) (pn : List (Addr × Obj)), Zc cls d oe → (∃ vs, oe.data = .fields vs) → PSs (X.suite a ((a, oe) :: pn)) (b₀ :: suite) (ts a cls d)) (r : HdsA X hds l) :
      HdsA X (.ExceptHandler (some (.Name x np)) (some n) (b₀ :: suite) pos' :: hds) ((c, i, ts) :: l)
def tTryMA (K : PySem.W.Frag) (tb : WX → TS) (l : List (Value × Nat × (Addr → Value → Option Addr → TS))) (Wout : WX) : TS := fun D σ H => tb (wManyA K Wout D l) D σ H
theorem g_tryMA {K : PySem.W.Frag} {tb : WX → TS} {l : List (Value × Nat × (Addr → Value → Option Addr → TS))} {Wout : WX} {D : Ends} {σ : St} {H : Hp} (h : tb (wManyA K Wout D l) D σ H) : tTryMA K tb l Wout D σ H := h
/-- the clause does not name the exception's class: the next one -/
theorem g_missed {K : PySem.W.Frag} {c cls : Value} {d : Option Addr} {i : Nat} {ts : Addr → Value → Option Addr → TS} {Wout : WX} {D : Ends} {σ : St} {H : Hp} (e : PySem.W.exmOne K cls c = some false) (h : Wout cls d σ H) : wAs K c i ts Wout D cls d σ H := ⟨false, e, (fun z => absurd z Bool.false_ne_true), fun _ => h⟩
section
variable {X : Cx} {body : List Stmt} {h₀ : ExceptHandler} {hds : List ExceptHandler} {l : List (Value × Nat × (Addr → Value → Option Addr → TS))} {pos : Pos} {tb : WX → TS} {Wout : WX}
theorem ps_tryMA (hs : X.stack = X.env :: X.outer) (hf : X.env.frame = some X.env.locals) (hN : X.N.Nodup) (tk : Takes X Wout)
    (hb : ∀ (W : WX) (pn : List (Addr × Obj)) (xe : Value → Shared → Prop), Takes (X.tr pn xe) W → PassesOwn (model X.prog X.w) X.A X.env xe → PSs (X.tr pn xe) body (tb W))
    (hh : HdsA X (h₀ :: hds) l) : PS X (.Try body (h₀ :: hds) [] [] pos) (tTryMA X.K tb l Wout) := by
  refine ⟨fun pins s σ H D I h => ?_⟩
  have ok := I.ok
  have hfr : X.A.frames = some (X.env :: X.outer) := by rw [ok.frames, hs]
  refine wpAny_Try_except (wpAny_mono ((hb (wManyA X.K Wout D l) (X.pn ++ pins) (fun e s₁ => wpAny (model X.prog X.w) X.A (noteFrame e X.env) (fun _ s₂ => wpAny (model X.prog X.w) X.A (setFlight e none) (fun _ s₃ =>
    wpAny (model X.prog X.w) X.A (handleBy e X.env (h₀ :: hds)) (SP X pins D) X.xe s₃) X.xe s₂) X.xe s₁) (fun u s' xx => ?_) PassesOwn.looking).run [] s σ H D (I.toTry _) h) (fun f s1 hsp => ?_) fun e s1 he => he)
  · obtain ⟨a, B, sI, pins', σ', H', cls, d, rfl, J', nb, up, sky, na, os, ag, w⟩ := xx
    have J : Inv X pins σ' H' sI := J'.ofTry ok
    rw [show (X.tr (X.pn ++ pins) _).stack = X.env :: X.outer from hs] at sky
    show wpAny (model X.prog X.w) X.A (noteFrame (.ref a) X.env) _ _ _
    refine Sky.land Zc.steady hfr hf sky fun h3 fl3 up3 => ?_
    obtain ⟨oe3, vs3, he3, hz3, hd3⟩ := fl3.there
    have nfr : a ∉ frs (X.env :: X.outer) := fun hm => by
      obtain ⟨_, o', e', hnf⟩ := fl3.2.2.1.mem hm
      rw [he3] at e'
      cases e'
      exact hnf _ hd3
    have nL : a ≠ X.env.locals := fun z => nfr (List.mem_filterMap.mpr ⟨X.env, List.mem_cons_self, by rw [hf, z]⟩)
    have nF : a ∉ X.fs := fun hm => by
      obtain ⟨e, he, q⟩ := List.mem_filterMap.mp hm
      exact nfr (List.mem_filterMap.mpr ⟨e, List.mem_cons_of_mem _ he, q⟩)
    have J3 : Inv X pins σ' H' { s' with heap := h3 } := J.landed nb fl3.1 (up.trans up3) os ag
    have S3 := J3.suite he3 hd3 na nL nF
    have go : ∀ {hs' : List ExceptHandler} {l' : List (Value × Nat × (Addr → Value → Option Addr → TS))}, HdsA X hs' l' → wManyA X.K Wout D l' cls d σ' H' → wpAny (model X.prog X.w) X.A (handleBy (.ref a) X.env hs') (SP X pins D) X.xe { s' with heap := h3 } := by
      intro hs' l' hk
      induction hk with
      | nil =>
        intro w
        refine wpAny_handleBy_nil ?_
        obtain ⟨k1, k2, k3, oe, vs, T, oT, ts', he, hz, hd, h1, hr⟩ := id fl3
        unfold PySem.passOn
        refine wpAny_bind (wpAny_field he hd h1 ?_)
        rw [if_neg (show ¬ ((Value.ref T == Value.none) = true) from by simp)]
        have fin : wpAny (model X.prog X.w) X.A (setFlight (.ref a) X.env.frame) (fun _ s4 => wpAny (model X.prog X.w) X.A (throw (.ref a) : Sem Flow) (SP X pins D) X.xe s4) X.xe { s' with heap := h3 } := by
          rw [hf]
          exact HandSPX.setFlight_upZ fl3 fun h4 hh4 up4 => wpAny_throw (tk _ _ ⟨a, B, sI, pins, σ', H', cls, d, rfl, J, nb, (up.trans up3).trans up4, .inr (.inr (by rw [hs]; exact hh4)), na, os, ag, w⟩)
        first
          | exact wpAny_bind (wpAny_pure (wpAny_bind fin))
          | exact wpAny_bind fin
      | @cons x n c i ts b₀ suite np pos' hds2 l2 hi hln hc hsu r ih =>
        intro w
        obtain ⟨b, hb1, hyes, hno⟩ := w
        refine wpAny_handleBy_cons (codeAny_handlers_test ?_) (by intro q; cases q)
        have LT : PySem.W.Looks (model X.prog X.w) h3 (typeOf (.ref a)) cls := fun A Q E s k q => wpAny_typeOf_ref (k _ _ he3) (by rw [hz3.1]; exact q)
        have test : ∀ {Q : Value → Shared → Prop} {E : Value → Shared → Prop}, Q c { s' with heap := h3 } → wpAny (model X.prog X.w) (X.A.mark (some (.ref a))) (eval (.Name x np) X.env) Q E { s' with heap := h3 } := fun {Q E} q => by
          obtain ⟨hg, hdbg, hm | ⟨hm, hv, hnn⟩⟩ := hc
          · exact ld_glob (X := X.suite a ((a, oe3) :: (X.pn ++ pins))) S3 hg hm q hdbg
          · exact ld_blt (X := X.suite a ((a, oe3) :: (X.pn ++ pins))) S3 hg hm hv q hnn hdbg
        refine test ((PySem.W.exm_one (M := model X.prog X.w) J3.kIn LT hb1).here ?_)
        cases b with
        | false => exact ih (hno rfl)
        | true =>
          refine codeAny_handlers_suite_as (HandSPX.lands_againZ fl3 fun h4 fl4 up4 => ?_)
          obtain ⟨oe4, vs4, he4, hz4, hd4⟩ := fl4.there
          have J4 : Inv X pins σ' H' { s' with heap := h4 } := J.landed nb fl4.1 ((up.trans up3).trans up4) os ag
          have S4 := J4.suite he4 hd4 na nL nF
          refine store_ok (X := X.suite a ((a, oe4) :: (X.pn ++ pins))) (v := .ref a) S4 hN hi (.inl hln) rfl (fun s5 S5 => ?_) (.inr hln)
          refine wpAny_mono ((hsu a oe4 cls d (X.pn ++ pins) hz4 ⟨_, hd4⟩).run [] s5 _ H' _ S5 (hyes rfl a na)) (fun f s6 hsp => ?_) fun _ _ z => False.elim z
          have gone : ∀ {σ6 : St} {H6 : Hp} {Q : Shared → Prop}, Inv (X.suite a ((a, oe4) :: (X.pn ++ pins))) [] σ6 H6 s6 → (∀ s7, Inv X pins (σ6.set i none) H6 s7 → Q s7) →
              wpAny (model X.prog X.w) X.A (do bindName X.env n .none; unbindBehindTheSuite X.env n pos') (fun _ s7 => Q s7) X.xe s6 := fun {σ6 H6 Q} S6 hq => gone_ok (S6.unsuite ok) hN hi hln hq
          cases f with
          | ret u =>
            obtain ⟨v6, σ6, H6, S6, r6, q6⟩ := hsp
            exact gone S6 fun s7 J7 => ⟨_, _, _, J7, r6, q6⟩
          | next =>
            obtain ⟨σ6, H6, S6, q6⟩ := hsp
            exact gone S6 fun s7 J7 => ⟨_, _, J7, q6⟩
          | brk =>
            obtain ⟨σ6, H6, S6, q6⟩ := hsp
            exact gone S6 fun s7 J7 => ⟨_, _, J7, q6⟩
          | cont =>
            obtain ⟨σ6, H6, S6, q6⟩ := hsp
            exact gone S6 fun s7 J7 => ⟨_, _, J7, q6⟩
    exact go hh w
  · cases f with
    | next =>
      obtain ⟨σ', H', J', q⟩ := hsp
      exact wpAny_execs_nil ⟨σ', H', J'.ofTry ok, q⟩
    | brk =>
      obtain ⟨σ', H', J', q⟩ := hsp
      exact ⟨σ', H', J'.ofTry ok, q⟩
    | cont =>
      obtain ⟨σ', H', J', q⟩ := hsp
      exact ⟨σ', H', J'.ofTry ok, q⟩
    | ret u =>
      obtain ⟨v, σ', H', J', r, q⟩ := hsp
      exact ⟨v, σ', H', J'.ofTry ok, r, q⟩
end

/-! ### methods and makers that may raise, called inside a try -/
section
variable {X : Cx} {CX : CXT} {k : Nat} {f C : Addr} {fd : FuncData} {ps ks : List Str} {sp : Sp} {E : St → XK} {x m : Str} {p pos apos : Pos} {e o : Expr} {es : List Expr} {kws : List Keyword} {ta : TE} {t tk : TA} {g : List Value → List Value → List Value} {gV : List V → List V → List V}
def tMethT (C : Addr) (m : Str) (sp : Sp) (E : St → XK) (ta : TE) (t : TA) : TE := fun σ H Q => ta σ H fun x H1 => ∃ a dx fs, x = .ref a ∧ H1 a = some (.ins C dx fs) ∧ fs.lookup m = none ∧ t σ H1 fun vs H2 => sp (x :: vs) H2 Q (E σ)
theorem pe_methT {pl : Sem Bool} (he : PE X o ta) (c : Cls X.K C) (hm : Meth X.K C m f) (F : FnOk X.prog X.w X.K X.mg X.base CX k f fd ps sp) (hr : Room k X.A) (hb : Binds X.K fd ps []) (hx : ∀ σ, PassesAt CX X σ (E σ)) (ha : PA X (e :: es) t)
    (hst : starEach (e :: es) X.env = (false, eval e X.env) :: starEach es X.env := by rfl) (hpl : (backTo pos (starEach es X.env)).any (·.1) = false := by rfl)
    (ht : eval (.Call (.Attribute o m apos) (e :: es) [] pos) X.env = (do
      let ov ← eval o X.env
      standAt apos.atName
      let (f, first) ← holding [ov] (getMethod ov m pl)
      callWith pos f first (backTo pos (starEach (e :: es) X.env)) (backToKw pos (keywordEach [] X.env))) := by rfl) :
    PE X (.Call (.Attribute o m apos) (e :: es) [] pos) (tMethT C m sp E ta t) := by
  refine ⟨fun pins s σ H Q I h => PySem.W.methodCall_KW (pl := pl) (thn (he.run pins s σ H _ I h) fun u s1 ⟨x, H1, I1, rx, a, dx, fs, ex, ea, l, q⟩ => ?_) ht⟩
  subst ex
  obtain rfl : u = Value.ref a := rx
  refine getmeth_ok I1 ea c hm l (PySem.W.callWith_K (first := [.ref a]) (h₀ := X.base) I.ok.mod.kin hm.kp (thn (ha.run pos pins s1 σ H1 _ I1 q) fun us s2 ⟨vs, H2, I2, r, q2⟩ => ⟨I2.kIn, ?_⟩) hst hpl)
  exact run_fnS (us := .ref a :: us) (vs := .ref a :: vs) F hr hb (hx σ) I2 (.cons rfl r) q2
theorem pe_meth0T {pl : Sem Bool} (he : PE X o ta) (c : Cls X.K C) (hm : Meth X.K C m f) (F : FnOk X.prog X.w X.K X.mg X.base CX k f fd ps sp) (hr : Room k X.A) (hb : Binds X.K fd ps []) (hx : ∀ σ, PassesAt CX X σ (E σ))
    (ht : eval (.Call (.Attribute o m apos) [] [] pos) X.env = (do
      let ov ← eval o X.env
      standAt apos.atName
      let (f, first) ← holding [ov] (getMethod ov m pl)
      callWith pos f first (backTo pos (starEach [] X.env)) (backToKw pos (keywordEach [] X.env))) := by rfl) :
    PE X (.Call (.Attribute o m apos) [] [] pos) (tMethT C m sp E ta tNil) := by
  refine ⟨fun pins s σ H Q I h => PySem.W.methodCall_KW (pl := pl) (thn (he.run pins s σ H _ I h) fun u s1 ⟨x, H1, I1, rx, a, dx, fs, ex, ea, l, q⟩ => ?_) ht⟩
  subst ex
  obtain rfl : u = Value.ref a := rx
  exact getmeth_ok I1 ea c hm l (PySem.W.callWith_K0 (first := [.ref a]) I1.kIn hm.kp (run_fnS (us := [.ref a]) (vs := [.ref a]) F hr hb (hx σ) I1 (.cons rfl .nil) q))
def tMakeKT (C : Addr) (m : Nat) (sp : Sp) (gV : List V → List V → List V) (E : St → XK) (tk : TA) : TE := fun σ H Q => tk σ H fun zs H2 => zs.length = m ∧ ∀ x dx, H2 x = none → H2 dx = none → dx ≠ x →
  sp (gV [.ref x] zs) (upd (upd H2 dx (.own x)) x (.ins C dx [])) (fun v H3 => v = .non ∧ Q (.ref x) H3) (E σ)
theorem pe_makeK0T (M : Mk X.K C f) (F : FnOk X.prog X.w X.K X.mg X.base CX k f fd ps sp) (hr : Room (k + 1) X.A) (hg : Gl X x) (hm : X.mg x = some (.ref C)) (hb : KBn X.K fd ps 1 ks g gV) (hx : ∀ σ, PassesAt CX X σ (E σ)) (hkw : PK X kws tk)
    (hall : (backToKw pos (keywordEach kws X.env)).all (·.1.isSome) = true := by rfl) (hks : (backToKw pos (keywordEach kws X.env)).filterMap (·.1) = ks := by rfl) (hdb : (x == ("__debug__" : Str)) = false := by decide)
    (hpl : ((backTo pos (starEach [] X.env)).any (·.1) || (backToKw pos (keywordEach kws X.env)).any (·.1.isNone)) = false := by rfl) :
    PE X (.Call (.Name x p) [] kws pos) (tMakeKT C ks.length sp gV E tk) := by
  refine ⟨fun pins s σ H Q I h => ?_⟩
  refine wpAny_Call_Name_kw (ld_glob I hg hm ?_ hdb)
  refine PySem.W.callWith_KW0 (h₀ := X.base) I.ok.mod.kin M.kp hall ?_ hpl
  refine thn (hkw.run pos pins s σ H _ I h) fun ws s2 ⟨zs, H2, I2, rz, l2, q2⟩ => ⟨I2.kIn, ?_⟩
  rw [hks]
  have hq := q2 (s2.heap.objs.size + 1) s2.heap.objs.size (I2.hok.fresh (Nat.le_succ _)) (I2.hok.fresh (Nat.le_refl _)) (Nat.ne_of_lt (Nat.lt_succ_self _))
  have I3 := Inv.made (C := C) I2
  have r1 : Vals [V.ref (s2.heap.objs.size + 1)] [Value.ref (s2.heap.objs.size + 1)] := .cons rfl .nil
  refine wpAny_call (make_map (f := f) I2.kIn M.makes M.init (beq_iff_eq.mp M.fn) (codeAny_mono (F.run _ X.stack _ _ ⟨[Value.ref (s2.heap.objs.size + 1)], ks.zip ws⟩ (g [Value.ref (s2.heap.objs.size + 1)] ws) _ _ (E σ) (hr.make C [] (ks.zip ws))
    (I3.env0.make C [] (ks.zip ws)) (hb.to _ [Value.ref (s2.heap.objs.size + 1)] ws I3.kIn rfl (rz.length.symm.trans l2)) (hb.rel r1 rz) hq) fun r s' hq' => ?_))
  cases r with
  | error e => exact hx σ pins _ _ e s' I3 hq'
  | ok fl =>
    cases fl with
    | ret u =>
      obtain ⟨v, H', I4, rv, ev, q3⟩ := I3.after hq'
      subst ev
      exact ⟨rv, ⟨V.ref (s2.heap.objs.size + 1), H', I4, rfl, q3⟩⟩
    | next => exact False.elim hq'
    | brk => exact False.elim hq'
    | cont => exact False.elim hq'
variable {σ : St} {H : Hp} {Q : VK}
theorem g_methT (h : ta σ H fun x H1 => ∃ a dx fs, x = .ref a ∧ H1 a = some (.ins C dx fs) ∧ fs.lookup m = none ∧ t σ H1 fun vs H2 => sp (x :: vs) H2 Q (E σ)) : tMethT C m sp E ta t σ H Q := h
theorem g_makeKT {m : Nat} (h : tk σ H fun zs H2 => zs.length = m ∧ ∀ x dx, H2 x = none → H2 dx = none → dx ≠ x → sp (gV [.ref x] zs) (upd (upd H2 dx (.own x)) x (.ins C dx [])) (fun v H3 => v = .non ∧ Q (.ref x) H3) (E σ)) : tMakeKT C m sp gV E tk σ H Q := h
end

/-! ### sorted(d): a dict whose keys are ints, any number of them -/
section
variable {X : Cx}
def rSortedDI : List V → Hp → VK → Prop := fun xs H Q => ∃ (a : Addr) (kvs : List (Key × V)) (ks : List Int), xs = [.ref a] ∧ Rd H a (.dK kvs) ∧ kvs.map (·.1) = ks.map Sum.inl ∧
  ∀ (ys : List Int) (p : Addr), ys.Perm ks → ys.Pairwise (· ≤ ·) → H p = none → Q (.ref p) (upd H p (.lst (ys.map V.int)))
open PyProof.Rows in
theorem cr_sortedDI (hcalm : X.calm = true) : CallR X (.builtin "sorted") rSortedDI := by
  intro pins s σ H xs us Q I r q
  obtain ⟨a, kvs, ks, rfl, hd, hks, q⟩ := q
  obtain ⟨u, rfl, rx⟩ := vals1 r
  cases rx
  obtain ⟨hzl, lo, vs, rel, dd⟩ := dk_rd I.hok hd
  obtain ⟨ep, hat⟩ := dd.dictAt
  have hkeys : vs.map (·.1) = ks.map Sum.inl := rel.keys.symm.trans hks
  have hl : vs.length = ks.length := by simpa using congrArg List.length hkeys
  have hz : vs.length ≤ sizeLine := by
    have e := congrArg List.length rel.keys
    rw [List.length_map, List.length_map] at e
    first
      | omega
      | (rw [← e]; exact hzl)
      | (rw [← e]; exact Nat.le_of_lt hzl)
  refine Calls.call_function_entry kind_sorted plain_sorted entry_sorted (args_sorted1 _) ?_
  unfold Builtin.«sorted»
  refine wpAny_bind (m := checkCount "sorted" 1 1 _) (wpAny_pure ?_)
  refine wpAny_bind (PySem.W.kdu_collect (A := X.A.in1) (PySem.W.kdl_dict (knd := mixKind X.prog X.w) (kvs := vs) (ep := ep) lo) (I.ok.hd hcalm) hat hz fun h' tk acc hk hacc => ?_)
  have hal : acc.toList.length = ks.length := by rw [Array.length_toList, hacc.1, hl]
  have hS : IntsAre acc.toList ks := ints_each hal fun j v e => by
    obtain ⟨k, x, e1, e2⟩ := hacc.2 j v (by rw [← Array.getElem?_toList]; exact e)
    have e3 : (vs.map (·.1))[j]? = some k := by rw [List.getElem?_map, e1]; rfl
    rw [hkeys, List.getElem?_map] at e3
    obtain ⟨y, e4, e5⟩ := Option.map_eq_some_iff.mp e3
    subst e5
    rcases keyIs_shape (show keyIs (Sum.inl y) v = true from e2) with ⟨i, t, ek, ev⟩ | ⟨z, t, ek, ev⟩
    · cases ek
      exact ⟨y, t, e4, ev⟩
    · cases ek
  have I1 : Inv X pins σ H { s with heap := h', toks := tk } := I.kept hk
  have hz2 : acc.toList.length ≤ sizeLine := by rw [hal, ← hl]; exact hz
  refine wpAny_bind (wpAny_newList ?_ hz2)
  have hoL : (h'.push (seqObj "list" acc.toList.toArray 0)).get? h'.objs.size = some (seqObj "list" acc.toList.toArray 0) := Heap.get?_push_size _ rfl
  show wpAny _ _ _ _ _ { s with heap := h'.push (seqObj "list" acc.toList.toArray 0), toks := tk }
  refine wpAny_bind (wpAny_holding (wpAny_call_entry slot_list_sort ⟨_, hoL, rfl⟩ entry_list_sort
    (SrtO.list_sort_ord (s := { s with heap := h'.push (seqObj "list" acc.toList.toArray 0), toks := tk }) SrtO.swo_int hoL hz2 (fun h2 => SrtO.ints_sortable hS h2) fun out g1 g2 => ⟨_, rfl, ?_⟩) (args_list_sort _)))
  obtain ⟨k1, k2, k3⟩ := SrtO.ints_out hS g1 g2
  obtain ⟨e', he'⟩ := sortedHeap_at (vs := acc.toList) (out := out.toArray) hoL
  have hlen : ((out.map SrtO.iv).map V.int).length ≤ sizeLine := by
    rw [List.length_map, k2.length_eq, ← hal]
    exact hz2
  refine wpAny_pure ⟨_, rfl, .ref h'.objs.size, upd H h'.objs.size (.lst ((out.map SrtO.iv).map V.int)), I1.laid (t' := tk) (fun b u e => ?_) (Nat.le_refl _)
    (show ObjOk X.prog X.w _ _ _ (.lst ((out.map SrtO.iv).map V.int)) from ⟨hlen, out, e', vals_of_ints k1, he'⟩), rfl, q _ _ k2 k3 (I1.hok.fresh (Nat.le_refl _))⟩
  have hb : b < h'.objs.size := Heap.lt_size e
  rw [sortedHeap_old (Nat.ne_of_lt hb) (by rw [size_push']; exact Nat.lt_succ_of_lt hb)]
  exact Heap.get?_push_of_some _ e
end

/-! ### a written dict with ints as keys -/
structure KDictI (K : PySem.W.Frag) (d : Addr) (es : Array DictEntry) (n : Nat) : Prop where
  at_ : K.lookup d = some ⟨.type "dict", none, .dict es n, #[]⟩
  lit : ∀ e ∈ es.toList, ∃ (i : Int) (t : Tok), e.key = .int i t ∧ e.hash = hashInt i
  low : (d == sysModules) = false
def fI (es : Array DictEntry) (k : Int) : Option Value := findBy Value.isInt es k
theorem KDictI.mapOf {K : PySem.W.Frag} {d : Addr} {es : Array DictEntry} {n : Nat} {h : Heap} {prog : Program} {w : World} (D : KDictI K d es n) (X : K.In h) : h.MapOf (intKind prog w) d (fI es) :=
  ⟨_, es, n, X _ _ D.at_, ⟨rfl, rfl, rfl⟩, rfl, (fun e he => by
    obtain ⟨i, t, e1, e2⟩ := D.lit e (Array.mem_toList_iff.mpr he)
    exact ⟨i, by rw [e1]; exact intKind_is prog w i t, e2⟩), fun _ => rfl⟩
def rInI (es : Array DictEntry) (d : Addr) : R2 := fun x y H Q => ∃ k : Int, x = .int k ∧ y = .ref d ∧ Q (.bl (fI es k).isSome) H
def rNotInI (es : Array DictEntry) (d : Addr) : R2 := fun x y H Q => ∃ k : Int, x = .int k ∧ y = .ref d ∧ Q (.bl (!(fI es k).isSome)) H
def rIxI (es : Array DictEntry) (d : Addr) : R2 := fun x y H Q => ∃ (k : Int) (u : Value) (v : V), x = .ref d ∧ y = .int k ∧ fI es k = some u ∧ RelV v u ∧ Q v H
section
variable {X : Cx} {d : Addr} {es : Array DictEntry} {n : Nat}
theorem op_inI (D : KDictI X.K d es n) : OpR X (compareOp .In) (rInI es d) := by
  intro pins s σ H x y v u Q I rx ry h
  obtain ⟨k, rfl, rfl, q⟩ := h
  obtain ⟨t, rfl⟩ := rx
  cases ry
  exact wpAny_in_of (intKind_is X.prog X.w k t) D.low (D.mapOf I.kIn) ⟨.bl (fI es k).isSome, H, I.tok _, rfl, q⟩
theorem op_notInI (D : KDictI X.K d es n) : OpR X (compareOp .NotIn) (rNotInI es d) := by
  intro pins s σ H x y v u Q I rx ry h
  obtain ⟨k, rfl, rfl, q⟩ := h
  obtain ⟨t, rfl⟩ := rx
  cases ry
  exact wpAny_notIn_of (intKind_is X.prog X.w k t) D.low (D.mapOf I.kIn) ⟨.bl (!(fI es k).isSome), H, I.tok _, rfl, q⟩
theorem ix_dI (D : KDictI X.K d es n) : IxR X (rIxI es d) := by
  intro value slice pins s σ H x y v u Q I rx ry h hs
  obtain ⟨k, u0, v0, rfl, rfl, e, r, q⟩ := h
  cases rx
  obtain ⟨t, rfl⟩ := ry
  have hm := D.mapOf (prog := X.prog) (w := X.w) I.kIn
  exact PyProof.Rows.tail_any hm.typeIs slot_dict_getitem.lookup (wpAny_getItem_of (intKind_is X.prog X.w k t) hm e ⟨v0, H, I.tok _, r, q⟩) hs
end
theorem g_inI {es : Array DictEntry} {d : Addr} {k : Int} {H : Hp} {Q : VK} (q : Q (.bl (fI es k).isSome) H) : rInI es d (.int k) (.ref d) H Q := ⟨k, rfl, rfl, q⟩
theorem g_notInI {es : Array DictEntry} {d : Addr} {k : Int} {H : Hp} {Q : VK} (q : Q (.bl (!(fI es k).isSome)) H) : rNotInI es d (.int k) (.ref d) H Q := ⟨k, rfl, rfl, q⟩
theorem g_ixI {es : Array DictEntry} {d : Addr} {k : Int} {u : Value} {v : V} {H : Hp} {Q : VK} (e : fI es k = some u) (r : RelV v u) (q : Q v H) : rIxI es d (.ref d) (.int k) H Q := ⟨k, u, v, rfl, rfl, e, r, q⟩
theorem fI_entry {es : Array DictEntry} {k : Int} {u : Value} (e : (es.toList.find? (fun e => Value.isInt k e.key)).map (·.val) = some u) : fI es k = some u := by
  unfold fI findBy
  obtain ⟨l⟩ := es
  rw [List.find?_toArray]
  exact e
def keyI (e : DictEntry) : Option Int := match e.key with | .int i _ => some i | _ => none
theorem fI_out {es : Array DictEntry} {k : Int} {ks : List Int} (e : es.toList.map keyI = ks.map some) (h : k ∉ ks) : fI es k = none := by
  unfold fI findBy
  obtain ⟨l⟩ := es
  rw [List.find?_toArray]
  have : ∀ {l : List DictEntry} {ks : List Int}, l.map keyI = ks.map some → k ∉ ks → l.find? (fun e => Value.isInt k e.key) = none := by
    intro l
    induction l with
    | nil => intro ks _ _; rfl
    | cons a l ih =>
      intro ks e h
      cases ks with
      | nil => cases e
      | cons i ks =>
        simp only [List.map_cons, List.cons.injEq] at e
        obtain ⟨e1, e2⟩ := e
        have h1 := ih e2 fun z => h (List.mem_cons_of_mem _ z)
        unfold keyI at e1
        obtain ⟨hs, key, val⟩ := a
        dsimp only at e1
        cases key with
        | int j t =>
          injection e1 with e1
          subst e1
          have ne : Value.isInt k (.int j t) = false := by
            show (j == k) = false
            rw [beq_eq_false_iff_ne]
            intro z
            exact h (z ▸ List.mem_cons_self ..)
          rw [List.find?_cons]
          show (match Value.isInt k (.int j t) with | true => _ | false => _) = none
          rw [ne]
          exact h1
        | _ => cases e1
  rw [this e h]
  rfl

structure Txt (P : Program) (w : World) (K : PySem.W.Frag) (mg : Str → Option Value) where
  t_KINDS : Addr
  de_KINDS : Array DictEntry
  dn_KINDS : Nat
  t_HEAD : Tok
  t_LONG_HEAD : Tok
  t_GREATEST_SIZE : Tok
  t_GREATEST_CODE : Tok
  t_WORDS : Addr
  de_WORDS : Array DictEntry
  dn_WORDS : Nat
  C_ThroughlineError : Addr
  C_InvalidOptions : Addr
  C_InvalidAmount : Addr
  C_InvalidFrame : Addr
  C_UnknownChannel : Addr
  C_TooManyChannels : Addr
  C_Channel : Addr
  C_Channels : Addr
  f_Channel_init__ : Addr
  d_Channel_init__ : FuncData
  f_Channel_break_off : Addr
  d_Channel_break_off : FuncData
  f_Channel_fork : Addr
  d_Channel_fork : FuncData
  f_read_number : Addr
  d_read_number : FuncData
  f_frame_at : Addr
  d_frame_at : FuncData
  f_Channels_init__ : Addr
  d_Channels_init__ : FuncData
  f_Channels_len__ : Addr
  d_Channels_len__ : FuncData
  f_Channels_iter__ : Addr
  d_Channels_iter__ : FuncData
  f_Channels_open_channel : Addr
  d_Channels_open_channel : FuncData
  f_Channels_accept : Addr
  d_Channels_accept : FuncData
  f_Channels_finish : Addr
  d_Channels_finish : FuncData
  f_Channels_reset : Addr
  d_Channels_reset : FuncData
  f_Channels_status : Addr
  d_Channels_status : FuncData
  f_Channels_take : Addr
  d_Channels_take : FuncData
  f_Channels_receive : Addr
  d_Channels_receive : FuncData
  f_Channels_fork : Addr
  d_Channels_fork : FuncData
  f_Channels_known : Addr
  d_Channels_known : FuncData
  f_Channels_add : Addr
  d_Channels_add : FuncData
  f_Channels_room_of : Addr
  d_Channels_room_of : FuncData
  f_Channels_take_frame : Addr
  d_Channels_take_frame : FuncData
  f_Channels_failure_of : Addr
  d_Channels_failure_of : FuncData
  f_Channels_apply : Addr
  d_Channels_apply : FuncData
  f_failure_on : Addr
  d_failure_on : FuncData
  f_l_cell : Addr
  d_l_cell : FuncData
  f_l_is_integer : Addr
  d_l_is_integer : FuncData
  f_l_start : Addr
  d_l_start : FuncData
  f_l_digit : Addr
  d_l_digit : FuncData
  f_l_many : Addr
  d_l_many : FuncData
  f_l_frame : Addr
  d_l_frame : FuncData
  f_l_negative : Addr
  d_l_negative : FuncData
  f_l_open : Addr
  d_l_open : FuncData
  f_l_opens : Addr
  d_l_opens : FuncData
  f_l_shown : Addr
  d_l_shown : FuncData
  f_l_accepts : Addr
  d_l_accepts : FuncData
  f_l_goes_on : Addr
  d_l_goes_on : FuncData
  f_law : Addr
  d_law : FuncData
  v_KINDS : mg "KINDS" = some (.ref t_KINDS)
  kd_KINDS : KDict K w t_KINDS de_KINDS dn_KINDS
  ik_KINDS_open : ∃ u, PySem.W.nsIn K t_KINDS (PySem.Str.ofString "open") = some (some u) ∧ RelV (.int 1) u
  ik_KINDS_octets : ∃ u, PySem.W.nsIn K t_KINDS (PySem.Str.ofString "octets") = some (some u) ∧ RelV (.int 2) u
  ik_KINDS_permit : ∃ u, PySem.W.nsIn K t_KINDS (PySem.Str.ofString "permit") = some (some u) ∧ RelV (.int 3) u
  ik_KINDS_end : ∃ u, PySem.W.nsIn K t_KINDS (PySem.Str.ofString "end") = some (some u) ∧ RelV (.int 4) u
  ik_KINDS_reset : ∃ u, PySem.W.nsIn K t_KINDS (PySem.Str.ofString "reset") = some (some u) ∧ RelV (.int 5) u
  nk_KINDS : ∀ z : Str, z ∉ ([PySem.Str.ofString "open", PySem.Str.ofString "octets", PySem.Str.ofString "permit", PySem.Str.ofString "end", PySem.Str.ofString "reset"] : List Str) → PySem.W.nsIn K t_KINDS z = some none
  v_HEAD : mg "HEAD" = some (.int 3 t_HEAD)
  v_LONG_HEAD : mg "LONG_HEAD" = some (.int 5 t_LONG_HEAD)
  v_GREATEST_SIZE : mg "GREATEST_SIZE" = some (.int 65535 t_GREATEST_SIZE)
  v_GREATEST_CODE : mg "GREATEST_CODE" = some (.int 65535 t_GREATEST_CODE)
  v_WORDS : mg "WORDS" = some (.ref t_WORDS)
  kd_WORDS : KDictI K t_WORDS de_WORDS dn_WORDS
  ik_WORDS_1 : ∃ u, fI de_WORDS 1 = some u ∧ RelV (.str (PySem.Str.ofString "open")) u
  ik_WORDS_2 : ∃ u, fI de_WORDS 2 = some u ∧ RelV (.str (PySem.Str.ofString "octets")) u
  ik_WORDS_3 : ∃ u, fI de_WORDS 3 = some u ∧ RelV (.str (PySem.Str.ofString "permit")) u
  ik_WORDS_4 : ∃ u, fI de_WORDS 4 = some u ∧ RelV (.str (PySem.Str.ofString "end")) u
  ik_WORDS_5 : ∃ u, fI de_WORDS 5 = some u ∧ RelV (.str (PySem.Str.ofString "reset")) u
  nk_WORDS : ∀ z : Int, z ∉ ([1, 2, 3, 4, 5] : List Int) → fI de_WORDS z = none
  c_ThroughlineError : mg "ThroughlineError" = some (.ref C_ThroughlineError)
  c_InvalidOptions : mg "InvalidOptions" = some (.ref C_InvalidOptions)
  c_InvalidAmount : mg "InvalidAmount" = some (.ref C_InvalidAmount)
  c_InvalidFrame : mg "InvalidFrame" = some (.ref C_InvalidFrame)
  c_UnknownChannel : mg "UnknownChannel" = some (.ref C_UnknownChannel)
  c_TooManyChannels : mg "TooManyChannels" = some (.ref C_TooManyChannels)
  xP_InvalidFrame : PySem.W.excIn K C_InvalidFrame [.type "ValueError", .type "Exception", .type "BaseException", .type "object"] "ValueError.__new__" = true
  ke_InvalidFrame : PySem.W.keepIn K (.ref C_InvalidFrame) = true
  be_InvalidFrame : PySem.W.subIn K (.ref C_InvalidFrame) (.type "BaseException") = some true
  te_InvalidFrame : PySem.W.typeIn K (.ref C_InvalidFrame) = some (.type "type")
  xc_InvalidFrame : ExcC K C_InvalidFrame
  em_InvalidFrame_InvalidFrame : PySem.W.exmOne K (.ref C_InvalidFrame) (.ref C_InvalidFrame) = some true
  em_InvalidFrame_InvalidAmount : PySem.W.exmOne K (.ref C_InvalidFrame) (.ref C_InvalidAmount) = some false
  em_InvalidFrame_TooManyChannels : PySem.W.exmOne K (.ref C_InvalidFrame) (.ref C_TooManyChannels) = some false
  ko_InvalidFrame_ThroughlineError : PySem.W.kitOne K (.ref C_InvalidFrame) (.ref C_ThroughlineError) = some true
  ko_InvalidFrame_InvalidOptions : PySem.W.kitOne K (.ref C_InvalidFrame) (.ref C_InvalidOptions) = some false
  xP_InvalidOptions : PySem.W.excIn K C_InvalidOptions [.type "ValueError", .type "Exception", .type "BaseException", .type "object"] "ValueError.__new__" = true
  ke_InvalidOptions : PySem.W.keepIn K (.ref C_InvalidOptions) = true
  be_InvalidOptions : PySem.W.subIn K (.ref C_InvalidOptions) (.type "BaseException") = some true
  te_InvalidOptions : PySem.W.typeIn K (.ref C_InvalidOptions) = some (.type "type")
  xc_InvalidOptions : ExcC K C_InvalidOptions
  em_InvalidOptions_InvalidFrame : PySem.W.exmOne K (.ref C_InvalidOptions) (.ref C_InvalidFrame) = some false
  em_InvalidOptions_InvalidAmount : PySem.W.exmOne K (.ref C_InvalidOptions) (.ref C_InvalidAmount) = some false
  em_InvalidOptions_TooManyChannels : PySem.W.exmOne K (.ref C_InvalidOptions) (.ref C_TooManyChannels) = some false
  ko_InvalidOptions_ThroughlineError : PySem.W.kitOne K (.ref C_InvalidOptions) (.ref C_ThroughlineError) = some true
  ko_InvalidOptions_InvalidOptions : PySem.W.kitOne K (.ref C_InvalidOptions) (.ref C_InvalidOptions) = some true
  xP_TooManyChannels : PySem.W.excIn K C_TooManyChannels [.type "ValueError", .type "Exception", .type "BaseException", .type "object"] "ValueError.__new__" = true
  ke_TooManyChannels : PySem.W.keepIn K (.ref C_TooManyChannels) = true
  be_TooManyChannels : PySem.W.subIn K (.ref C_TooManyChannels) (.type "BaseException") = some true
  te_TooManyChannels : PySem.W.typeIn K (.ref C_TooManyChannels) = some (.type "type")
  xc_TooManyChannels : ExcC K C_TooManyChannels
  em_TooManyChannels_InvalidFrame : PySem.W.exmOne K (.ref C_TooManyChannels) (.ref C_InvalidFrame) = some false
  em_TooManyChannels_InvalidAmount : PySem.W.exmOne K (.ref C_TooManyChannels) (.ref C_InvalidAmount) = some false
  em_TooManyChannels_TooManyChannels : PySem.W.exmOne K (.ref C_TooManyChannels) (.ref C_TooManyChannels) = some true
  ko_TooManyChannels_ThroughlineError : PySem.W.kitOne K (.ref C_TooManyChannels) (.ref C_ThroughlineError) = some true
  ko_TooManyChannels_InvalidOptions : PySem.W.kitOne K (.ref C_TooManyChannels) (.ref C_InvalidOptions) = some false
  xP_InvalidAmount : PySem.W.excIn K C_InvalidAmount [.type "ValueError", .type "Exception", .type "BaseException", .type "object"] "ValueError.__new__" = true
  ke_InvalidAmount : PySem.W.keepIn K (.ref C_InvalidAmount) = true
  be_InvalidAmount : PySem.W.subIn K (.ref C_InvalidAmount) (.type "BaseException") = some true
  te_InvalidAmount : PySem.W.typeIn K (.ref C_InvalidAmount) = some (.type "type")
  xc_InvalidAmount : ExcC K C_InvalidAmount
  em_InvalidAmount_InvalidFrame : PySem.W.exmOne K (.ref C_InvalidAmount) (.ref C_InvalidFrame) = some false
  em_InvalidAmount_InvalidAmount : PySem.W.exmOne K (.ref C_InvalidAmount) (.ref C_InvalidAmount) = some true
  em_InvalidAmount_TooManyChannels : PySem.W.exmOne K (.ref C_InvalidAmount) (.ref C_TooManyChannels) = some false
  ko_InvalidAmount_ThroughlineError : PySem.W.kitOne K (.ref C_InvalidAmount) (.ref C_ThroughlineError) = some true
  ko_InvalidAmount_InvalidOptions : PySem.W.kitOne K (.ref C_InvalidAmount) (.ref C_InvalidOptions) = some false
  xP_UnknownChannel : PySem.W.excIn K C_UnknownChannel [.type "ValueError", .type "Exception", .type "BaseException", .type "object"] "ValueError.__new__" = true
  ke_UnknownChannel : PySem.W.keepIn K (.ref C_UnknownChannel) = true
  be_UnknownChannel : PySem.W.subIn K (.ref C_UnknownChannel) (.type "BaseException") = some true
  te_UnknownChannel : PySem.W.typeIn K (.ref C_UnknownChannel) = some (.type "type")
  xc_UnknownChannel : ExcC K C_UnknownChannel
  em_UnknownChannel_InvalidFrame : PySem.W.exmOne K (.ref C_UnknownChannel) (.ref C_InvalidFrame) = some false
  em_UnknownChannel_InvalidAmount : PySem.W.exmOne K (.ref C_UnknownChannel) (.ref C_InvalidAmount) = some false
  em_UnknownChannel_TooManyChannels : PySem.W.exmOne K (.ref C_UnknownChannel) (.ref C_TooManyChannels) = some false
  ko_UnknownChannel_ThroughlineError : PySem.W.kitOne K (.ref C_UnknownChannel) (.ref C_ThroughlineError) = some true
  ko_UnknownChannel_InvalidOptions : PySem.W.kitOne K (.ref C_UnknownChannel) (.ref C_InvalidOptions) = some false
  c_Channel : mg "Channel" = some (.ref C_Channel)
  k_Channel : Cls K C_Channel
  n_Channel_number : NoAttr K C_Channel "number"
  n_Channel_announced : NoAttr K C_Channel "announced"
  n_Channel_queue : NoAttr K C_Channel "queue"
  n_Channel_credit : NoAttr K C_Channel "credit"
  n_Channel_finished : NoAttr K C_Channel "finished"
  n_Channel_end_sent : NoAttr K C_Channel "end_sent"
  n_Channel_unread : NoAttr K C_Channel "unread"
  n_Channel_due : NoAttr K C_Channel "due"
  n_Channel_end_came : NoAttr K C_Channel "end_came"
  n_Channel_broken : NoAttr K C_Channel "broken"
  n_Channel_reset_told : NoAttr K C_Channel "reset_told"
  c_Channels : mg "Channels" = some (.ref C_Channels)
  k_Channels : Cls K C_Channels
  n_Channels_failure : NoAttr K C_Channels "failure"
  n_Channels__window : NoAttr K C_Channels "_window"
  n_Channels__most : NoAttr K C_Channels "_most"
  n_Channels__next_here : NoAttr K C_Channels "_next_here"
  n_Channels__next_there : NoAttr K C_Channels "_next_there"
  n_Channels__channels : NoAttr K C_Channels "_channels"
  n_Channels__numbers : NoAttr K C_Channels "_numbers"
  n_Channels__turns : NoAttr K C_Channels "_turns"
  n_Channels__offered : NoAttr K C_Channels "_offered"
  n_Channels__going : NoAttr K C_Channels "_going"
  n_Channels__coming : NoAttr K C_Channels "_coming"
  F_Channel_init__ : FunD K "__init__" "Channel.__init__" (defArgs s_Channel_init__) (defBody s_Channel_init__) (defScope s_Channel_init__) [] [] f_Channel_init__ d_Channel_init__
  mk_Channel : Mk K C_Channel f_Channel_init__
  F_Channel_break_off : Fun K "break_off" "Channel.break_off" s_Channel_break_off f_Channel_break_off d_Channel_break_off
  b_Channel_break_off : Binds K d_Channel_break_off ["self", "place", "code"] []
  a_Channel_break_off : Meth K C_Channel "break_off" f_Channel_break_off
  F_Channel_fork : Fun K "fork" "Channel.fork" s_Channel_fork f_Channel_fork d_Channel_fork
  b_Channel_fork : Binds K d_Channel_fork ["self"] []
  a_Channel_fork : Meth K C_Channel "fork" f_Channel_fork
  F_read_number : Fun K "read_number" "read_number" s_read_number f_read_number d_read_number
  b_read_number : Binds K d_read_number ["octets"] []
  m_read_number : mg "read_number" = some (.ref f_read_number)
  F_frame_at : Fun K "frame_at" "frame_at" s_frame_at f_frame_at d_frame_at
  b_frame_at : Binds K d_frame_at ["octets", "at"] []
  m_frame_at : mg "frame_at" = some (.ref f_frame_at)
  F_Channels_init__ : FunD K "__init__" "Channels.__init__" (defArgs s_Channels_init__) (defBody s_Channels_init__) (defScope s_Channels_init__) [] [] f_Channels_init__ d_Channels_init__
  mk_Channels : Mk K C_Channels f_Channels_init__
  F_Channels_len__ : Fun K "__len__" "Channels.__len__" s_Channels_len__ f_Channels_len__ d_Channels_len__
  b_Channels_len__ : Binds K d_Channels_len__ ["self"] []
  a_Channels_len__ : Meth K C_Channels "__len__" f_Channels_len__
  F_Channels_iter__ : Fun K "__iter__" "Channels.__iter__" s_Channels_iter__ f_Channels_iter__ d_Channels_iter__
  b_Channels_iter__ : Binds K d_Channels_iter__ ["self"] []
  a_Channels_iter__ : Meth K C_Channels "__iter__" f_Channels_iter__
  F_Channels_open_channel : Fun K "open_channel" "Channels.open_channel" s_Channels_open_channel f_Channels_open_channel d_Channels_open_channel
  b_Channels_open_channel : Binds K d_Channels_open_channel ["self"] []
  a_Channels_open_channel : Meth K C_Channels "open_channel" f_Channels_open_channel
  F_Channels_accept : Fun K "accept" "Channels.accept" s_Channels_accept f_Channels_accept d_Channels_accept
  b_Channels_accept : Binds K d_Channels_accept ["self"] []
  a_Channels_accept : Meth K C_Channels "accept" f_Channels_accept
  F_Channels_finish : Fun K "finish" "Channels.finish" s_Channels_finish f_Channels_finish d_Channels_finish
  b_Channels_finish : Binds K d_Channels_finish ["self", "channel"] []
  a_Channels_finish : Meth K C_Channels "finish" f_Channels_finish
  F_Channels_reset : Fun K "reset" "Channels.reset" s_Channels_reset f_Channels_reset d_Channels_reset
  b_Channels_reset : Binds K d_Channels_reset ["self", "channel", "code"] []
  a_Channels_reset : Meth K C_Channels "reset" f_Channels_reset
  F_Channels_status : Fun K "status" "Channels.status" s_Channels_status f_Channels_status d_Channels_status
  b_Channels_status : Binds K d_Channels_status ["self", "channel"] []
  a_Channels_status : Meth K C_Channels "status" f_Channels_status
  F_Channels_take : Fun K "take" "Channels.take" s_Channels_take f_Channels_take d_Channels_take
  b_Channels_take : Binds K d_Channels_take ["self", "count"] []
  a_Channels_take : Meth K C_Channels "take" f_Channels_take
  F_Channels_receive : Fun K "receive" "Channels.receive" s_Channels_receive f_Channels_receive d_Channels_receive
  b_Channels_receive : Binds K d_Channels_receive ["self", "octets"] []
  a_Channels_receive : Meth K C_Channels "receive" f_Channels_receive
  F_Channels_fork : Fun K "fork" "Channels.fork" s_Channels_fork f_Channels_fork d_Channels_fork
  b_Channels_fork : Binds K d_Channels_fork ["self"] []
  a_Channels_fork : Meth K C_Channels "fork" f_Channels_fork
  F_Channels_known : Fun K "_known" "Channels._known" s_Channels_known f_Channels_known d_Channels_known
  b_Channels_known : Binds K d_Channels_known ["self", "number"] []
  a_Channels_known : Meth K C_Channels "_known" f_Channels_known
  F_Channels_add : Fun K "_add" "Channels._add" s_Channels_add f_Channels_add d_Channels_add
  b_Channels_add : Binds K d_Channels_add ["self", "channel"] []
  a_Channels_add : Meth K C_Channels "_add" f_Channels_add
  F_Channels_room_of : Fun K "_room_of" "Channels._room_of" s_Channels_room_of f_Channels_room_of d_Channels_room_of
  b_Channels_room_of : Binds K d_Channels_room_of ["self", "channel"] []
  a_Channels_room_of : Meth K C_Channels "_room_of" f_Channels_room_of
  F_Channels_take_frame : Fun K "_take_frame" "Channels._take_frame" s_Channels_take_frame f_Channels_take_frame d_Channels_take_frame
  b_Channels_take_frame : Binds K d_Channels_take_frame ["self", "at"] []
  a_Channels_take_frame : Meth K C_Channels "_take_frame" f_Channels_take_frame
  F_Channels_failure_of : Fun K "_failure_of" "Channels._failure_of" s_Channels_failure_of f_Channels_failure_of d_Channels_failure_of
  b_Channels_failure_of : Binds K d_Channels_failure_of ["self", "frame"] []
  a_Channels_failure_of : Meth K C_Channels "_failure_of" f_Channels_failure_of
  F_Channels_apply : Fun K "_apply" "Channels._apply" s_Channels_apply f_Channels_apply d_Channels_apply
  b_Channels_apply : Binds K d_Channels_apply ["self", "frame"] []
  a_Channels_apply : Meth K C_Channels "_apply" f_Channels_apply
  F_failure_on : Fun K "_failure_on" "_failure_on" s_failure_on f_failure_on d_failure_on
  b_failure_on : Binds K d_failure_on ["channel", "frame"] []
  m_failure_on : mg "_failure_on" = some (.ref f_failure_on)
  F_l_cell : Fun K "_law_cell" "_law_cell" s_l_cell f_l_cell d_l_cell
  b_l_cell : Binds K d_l_cell ["script", "k"] []
  m_l_cell : mg "_law_cell" = some (.ref f_l_cell)
  F_l_is_integer : Fun K "_law_is_integer" "_law_is_integer" s_l_is_integer f_l_is_integer d_l_is_integer
  b_l_is_integer : Binds K d_l_is_integer ["told"] []
  m_l_is_integer : mg "_law_is_integer" = some (.ref f_l_is_integer)
  F_l_start : Fun K "_law_start" "_law_start" s_l_start f_l_start d_l_start
  b_l_start : Binds K d_l_start ["cell", "k"] []
  m_l_start : mg "_law_start" = some (.ref f_l_start)
  F_l_digit : Fun K "_law_digit" "_law_digit" s_l_digit f_l_digit d_l_digit
  b_l_digit : Binds K d_l_digit ["state", "many"] []
  m_l_digit : mg "_law_digit" = some (.ref f_l_digit)
  F_l_many : Fun K "_law_many" "_law_many" s_l_many f_l_many d_l_many
  b_l_many : Binds K d_l_many ["state"] []
  m_l_many : mg "_law_many" = some (.ref f_l_many)
  F_l_frame : Fun K "_law_frame" "_law_frame" s_l_frame f_l_frame d_l_frame
  b_l_frame : Binds K d_l_frame ["number"] []
  m_l_frame : mg "_law_frame" = some (.ref f_l_frame)
  F_l_negative : Fun K "_law_negative" "_law_negative" s_l_negative f_l_negative d_l_negative
  b_l_negative : Binds K d_l_negative ["side", "state"] []
  m_l_negative : mg "_law_negative" = some (.ref f_l_negative)
  F_l_open : Fun K "_law_open" "_law_open" s_l_open f_l_open d_l_open
  b_l_open : Binds K d_l_open ["side"] []
  m_l_open : mg "_law_open" = some (.ref f_l_open)
  F_l_opens : Fun K "_law_opens" "_law_opens" s_l_opens f_l_opens d_l_opens
  b_l_opens : Binds K d_l_opens ["side", "turn", "many"] []
  m_l_opens : mg "_law_opens" = some (.ref f_l_opens)
  F_l_shown : Fun K "_law_shown" "_law_shown" s_l_shown f_l_shown d_l_shown
  b_l_shown : Binds K d_l_shown ["side"] []
  m_l_shown : mg "_law_shown" = some (.ref f_l_shown)
  F_l_accepts : Fun K "_law_accepts" "_law_accepts" s_l_accepts f_l_accepts d_l_accepts
  b_l_accepts : Binds K d_l_accepts ["side", "turn", "many"] []
  m_l_accepts : mg "_law_accepts" = some (.ref f_l_accepts)
  F_l_goes_on : Fun K "_law_goes_on" "_law_goes_on" s_l_goes_on f_l_goes_on d_l_goes_on
  b_l_goes_on : Binds K d_l_goes_on ["side", "turn", "mine", "theirs", "state"] []
  m_l_goes_on : mg "_law_goes_on" = some (.ref f_l_goes_on)
  F_law : Fun K "law" "law" s_law f_law d_law
  b_law : Binds K d_law ["script"] []
  m_law : mg "law" = some (.ref f_law)
  cr_Channels : ClX.CRead K C_Channels (.type "type")
  cv_Channels_MOST_CHANNELS : CValE K C_Channels (.type "type") "MOST_CHANNELS" (.int 100)
  n_bool : mg "bool" = none
  n_int : mg "int" = none
  n_isinstance : mg "isinstance" = none
  n_iter : mg "iter" = none
  n_len : mg "len" = none
  n_list : mg "list" = none
  n_min : mg "min" = none
  n_range : mg "range" = none
  n_sorted : mg "sorted" = none
theorem cvq_Channels_MOST_CHANNELS {K : PySem.W.Frag} {mg : Str → Option Value} {T : Txt P w K mg} {A : V → Prop} (q : A (.int 100)) : ∃ C mc v u, V.ref T.C_Channels = .ref C ∧ ClX.CRead K C mc ∧ ClX.CVal K C mc "MOST_CHANNELS" v u ∧ A v := let ⟨u, h⟩ := T.cv_Channels_MOST_CHANNELS
  ⟨_, _, _, u, rfl, T.cr_Channels, h, q⟩
def ky_Channel : List Str := ["number", "announced", "queue", "credit", "finished", "end_sent", "unread", "due", "end_came", "broken", "reset_told"]
theorem nd_Channel : ky_Channel.Nodup := by decide +kernel
section
variable {P : Program} {w : World} {K : PySem.W.Frag} {mg : Str → Option Value} {T : Txt P w K mg} {H : Hp} {a dx : Addr} {vs : List V} {v y : V}
theorem fd_Channel_number {A : V → Prop} (ho : H a = some (.ins T.C_Channel dx (obj ky_Channel vs))) (hv : vs[0]? = some v) (q : A v) : ∃ a' C' dx' fs v', V.ref a = .ref a' ∧ H a' = some (.ins C' dx' fs) ∧ Cls K C' ∧ NoAttr K C' "number" ∧ fs.lookup ("number" : Str) = some v' ∧ A v' := g_fldE ho T.k_Channel T.n_Channel_number nd_Channel rfl hv q
theorem st_Channel_number {A : Hp → Prop} (ho : H a = some (.ins T.C_Channel dx (obj ky_Channel vs))) (hv : 0 < vs.length) (q : A (upd H a (.ins T.C_Channel dx (obj ky_Channel (vs.set 0 y))))) : ∃ a' C' dx' fs, V.ref a = .ref a' ∧ H a' = some (.ins C' dx' fs) ∧ Cls K C' ∧ NoAttr K C' "number" ∧ fs.length < 1000 ∧ A (upd H a' (.ins C' dx' (putF "number" y fs))) := g_putE ho T.k_Channel T.n_Channel_number nd_Channel (by decide) rfl hv q
theorem nw_Channel_number {A : Hp → Prop} (ho : H a = some (.ins T.C_Channel dx (obj ky_Channel vs))) (hv : vs.length = 0) (q : A (upd H a (.ins T.C_Channel dx (obj ky_Channel (vs ++ [y]))))) : ∃ a' C' dx' fs, V.ref a = .ref a' ∧ H a' = some (.ins C' dx' fs) ∧ Cls K C' ∧ NoAttr K C' "number" ∧ fs.length < 1000 ∧ A (upd H a' (.ins C' dx' (putF "number" y fs))) := g_newE ho T.k_Channel T.n_Channel_number nd_Channel (by decide) (by rw [hv]; rfl) q
theorem fd_Channel_announced {A : V → Prop} (ho : H a = some (.ins T.C_Channel dx (obj ky_Channel vs))) (hv : vs[1]? = some v) (q : A v) : ∃ a' C' dx' fs v', V.ref a = .ref a' ∧ H a' = some (.ins C' dx' fs) ∧ Cls K C' ∧ NoAttr K C' "announced" ∧ fs.lookup ("announced" : Str) = some v' ∧ A v' := g_fldE ho T.k_Channel T.n_Channel_announced nd_Channel rfl hv q
theorem st_Channel_announced {A : Hp → Prop} (ho : H a = some (.ins T.C_Channel dx (obj ky_Channel vs))) (hv : 1 < vs.length) (q : A (upd H a (.ins T.C_Channel dx (obj ky_Channel (vs.set 1 y))))) : ∃ a' C' dx' fs, V.ref a = .ref a' ∧ H a' = some (.ins C' dx' fs) ∧ Cls K C' ∧ NoAttr K C' "announced" ∧ fs.length < 1000 ∧ A (upd H a' (.ins C' dx' (putF "announced" y fs))) := g_putE ho T.k_Channel T.n_Channel_announced nd_Channel (by decide) rfl hv q
theorem nw_Channel_announced {A : Hp → Prop} (ho : H a = some (.ins T.C_Channel dx (obj ky_Channel vs))) (hv : vs.length = 1) (q : A (upd H a (.ins T.C_Channel dx (obj ky_Channel (vs ++ [y]))))) : ∃ a' C' dx' fs, V.ref a = .ref a' ∧ H a' = some (.ins C' dx' fs) ∧ Cls K C' ∧ NoAttr K C' "announced" ∧ fs.length < 1000 ∧ A (upd H a' (.ins C' dx' (putF "announced" y fs))) := g_newE ho T.k_Channel T.n_Channel_announced nd_Channel (by decide) (by rw [hv]; rfl) q
theorem fd_Channel_queue {A : V → Prop} (ho : H a = some (.ins T.C_Channel dx (obj ky_Channel vs))) (hv : vs[2]? = some v) (q : A v) : ∃ a' C' dx' fs v', V.ref a = .ref a' ∧ H a' = some (.ins C' dx' fs) ∧ Cls K C' ∧ NoAttr K C' "queue" ∧ fs.lookup ("queue" : Str) = some v' ∧ A v' := g_fldE ho T.k_Channel T.n_Channel_queue nd_Channel rfl hv q
theorem st_Channel_queue {A : Hp → Prop} (ho : H a = some (.ins T.C_Channel dx (obj ky_Channel vs))) (hv : 2 < vs.length) (q : A (upd H a (.ins T.C_Channel dx (obj ky_Channel (vs.set 2 y))))) : ∃ a' C' dx' fs, V.ref a = .ref a' ∧ H a' = some (.ins C' dx' fs) ∧ Cls K C' ∧ NoAttr K C' "queue" ∧ fs.length < 1000 ∧ A (upd H a' (.ins C' dx' (putF "queue" y fs))) := g_putE ho T.k_Channel T.n_Channel_queue nd_Channel (by decide) rfl hv q
theorem nw_Channel_queue {A : Hp → Prop} (ho : H a = some (.ins T.C_Channel dx (obj ky_Channel vs))) (hv : vs.length = 2) (q : A (upd H a (.ins T.C_Channel dx (obj ky_Channel (vs ++ [y]))))) : ∃ a' C' dx' fs, V.ref a = .ref a' ∧ H a' = some (.ins C' dx' fs) ∧ Cls K C' ∧ NoAttr K C' "queue" ∧ fs.length < 1000 ∧ A (upd H a' (.ins C' dx' (putF "queue" y fs))) := g_newE ho T.k_Channel T.n_Channel_queue nd_Channel (by decide) (by rw [hv]; rfl) q
theorem fd_Channel_credit {A : V → Prop} (ho : H a = some (.ins T.C_Channel dx (obj ky_Channel vs))) (hv : vs[3]? = some v) (q : A v) : ∃ a' C' dx' fs v', V.ref a = .ref a' ∧ H a' = some (.ins C' dx' fs) ∧ Cls K C' ∧ NoAttr K C' "credit" ∧ fs.lookup ("credit" : Str) = some v' ∧ A v' := g_fldE ho T.k_Channel T.n_Channel_credit nd_Channel rfl hv q
theorem st_Channel_credit {A : Hp → Prop} (ho : H a = some (.ins T.C_Channel dx (obj ky_Channel vs))) (hv : 3 < vs.length) (q : A (upd H a (.ins T.C_Channel dx (obj ky_Channel (vs.set 3 y))))) : ∃ a' C' dx' fs, V.ref a = .ref a' ∧ H a' = some (.ins C' dx' fs) ∧ Cls K C' ∧ NoAttr K C' "credit" ∧ fs.length < 1000 ∧ A (upd H a' (.ins C' dx' (putF "credit" y fs))) := g_putE ho T.k_Channel T.n_Channel_credit nd_Channel (by decide) rfl hv q
theorem nw_Channel_credit {A : Hp → Prop} (ho : H a = some (.ins T.C_Channel dx (obj ky_Channel vs))) (hv : vs.length = 3) (q : A (upd H a (.ins T.C_Channel dx (obj ky_Channel (vs ++ [y]))))) : ∃ a' C' dx' fs, V.ref a = .ref a' ∧ H a' = some (.ins C' dx' fs) ∧ Cls K C' ∧ NoAttr K C' "credit" ∧ fs.length < 1000 ∧ A (upd H a' (.ins C' dx' (putF "credit" y fs))) := g_newE ho T.k_Channel T.n_Channel_credit nd_Channel (by decide) (by rw [hv]; rfl) q
theorem fd_Channel_finished {A : V → Prop} (ho : H a = some (.ins T.C_Channel dx (obj ky_Channel vs))) (hv : vs[4]? = some v) (q : A v) : ∃ a' C' dx' fs v', V.ref a = .ref a' ∧ H a' = some (.ins C' dx' fs) ∧ Cls K C' ∧ NoAttr K C' "finished" ∧ fs.lookup ("finished" : Str) = some v' ∧ A v' := g_fldE ho T.k_Channel T.n_Channel_finished nd_Channel rfl hv q
theorem st_Channel_finished {A : Hp → Prop} (ho : H a = some (.ins T.C_Channel dx (obj ky_Channel vs))) (hv : 4 < vs.length) (q : A (upd H a (.ins T.C_Channel dx (obj ky_Channel (vs.set 4 y))))) : ∃ a' C' dx' fs, V.ref a = .ref a' ∧ H a' = some (.ins C' dx' fs) ∧ Cls K C' ∧ NoAttr K C' "finished" ∧ fs.length < 1000 ∧ A (upd H a' (.ins C' dx' (putF "finished" y fs))) := g_putE ho T.k_Channel T.n_Channel_finished nd_Channel (by decide) rfl hv q
theorem nw_Channel_finished {A : Hp → Prop} (ho : H a = some (.ins T.C_Channel dx (obj ky_Channel vs))) (hv : vs.length = 4) (q : A (upd H a (.ins T.C_Channel dx (obj ky_Channel (vs ++ [y]))))) : ∃ a' C' dx' fs, V.ref a = .ref a' ∧ H a' = some (.ins C' dx' fs) ∧ Cls K C' ∧ NoAttr K C' "finished" ∧ fs.length < 1000 ∧ A (upd H a' (.ins C' dx' (putF "finished" y fs))) := g_newE ho T.k_Channel T.n_Channel_finished nd_Channel (by decide) (by rw [hv]; rfl) q
theorem fd_Channel_end_sent {A : V → Prop} (ho : H a = some (.ins T.C_Channel dx (obj ky_Channel vs))) (hv : vs[5]? = some v) (q : A v) : ∃ a' C' dx' fs v', V.ref a = .ref a' ∧ H a' = some (.ins C' dx' fs) ∧ Cls K C' ∧ NoAttr K C' "end_sent" ∧ fs.lookup ("end_sent" : Str) = some v' ∧ A v' := g_fldE ho T.k_Channel T.n_Channel_end_sent nd_Channel rfl hv q
theorem st_Channel_end_sent {A : Hp → Prop} (ho : H a = some (.ins T.C_Channel dx (obj ky_Channel vs))) (hv : 5 < vs.length) (q : A (upd H a (.ins T.C_Channel dx (obj ky_Channel (vs.set 5 y))))) : ∃ a' C' dx' fs, V.ref a = .ref a' ∧ H a' = some (.ins C' dx' fs) ∧ Cls K C' ∧ NoAttr K C' "end_sent" ∧ fs.length < 1000 ∧ A (upd H a' (.ins C' dx' (putF "end_sent" y fs))) := g_putE ho T.k_Channel T.n_Channel_end_sent nd_Channel (by decide) rfl hv q
theorem nw_Channel_end_sent {A : Hp → Prop} (ho : H a = some (.ins T.C_Channel dx (obj ky_Channel vs))) (hv : vs.length = 5) (q : A (upd H a (.ins T.C_Channel dx (obj ky_Channel (vs ++ [y]))))) : ∃ a' C' dx' fs, V.ref a = .ref a' ∧ H a' = some (.ins C' dx' fs) ∧ Cls K C' ∧ NoAttr K C' "end_sent" ∧ fs.length < 1000 ∧ A (upd H a' (.ins C' dx' (putF "end_sent" y fs))) := g_newE ho T.k_Channel T.n_Channel_end_sent nd_Channel (by decide) (by rw [hv]; rfl) q
theorem fd_Channel_unread {A : V → Prop} (ho : H a = some (.ins T.C_Channel dx (obj ky_Channel vs))) (hv : vs[6]? = some v) (q : A v) : ∃ a' C' dx' fs v', V.ref a = .ref a' ∧ H a' = some (.ins C' dx' fs) ∧ Cls K C' ∧ NoAttr K C' "unread" ∧ fs.lookup ("unread" : Str) = some v' ∧ A v' := g_fldE ho T.k_Channel T.n_Channel_unread nd_Channel rfl hv q
theorem st_Channel_unread {A : Hp → Prop} (ho : H a = some (.ins T.C_Channel dx (obj ky_Channel vs))) (hv : 6 < vs.length) (q : A (upd H a (.ins T.C_Channel dx (obj ky_Channel (vs.set 6 y))))) : ∃ a' C' dx' fs, V.ref a = .ref a' ∧ H a' = some (.ins C' dx' fs) ∧ Cls K C' ∧ NoAttr K C' "unread" ∧ fs.length < 1000 ∧ A (upd H a' (.ins C' dx' (putF "unread" y fs))) := g_putE ho T.k_Channel T.n_Channel_unread nd_Channel (by decide) rfl hv q
theorem nw_Channel_unread {A : Hp → Prop} (ho : H a = some (.ins T.C_Channel dx (obj ky_Channel vs))) (hv : vs.length = 6) (q : A (upd H a (.ins T.C_Channel dx (obj ky_Channel (vs ++ [y]))))) : ∃ a' C' dx' fs, V.ref a = .ref a' ∧ H a' = some (.ins C' dx' fs) ∧ Cls K C' ∧ NoAttr K C' "unread" ∧ fs.length < 1000 ∧ A (upd H a' (.ins C' dx' (putF "unread" y fs))) := g_newE ho T.k_Channel T.n_Channel_unread nd_Channel (by decide) (by rw [hv]; rfl) q
theorem fd_Channel_due {A : V → Prop} (ho : H a = some (.ins T.C_Channel dx (obj ky_Channel vs))) (hv : vs[7]? = some v) (q : A v) : ∃ a' C' dx' fs v', V.ref a = .ref a' ∧ H a' = some (.ins C' dx' fs) ∧ Cls K C' ∧ NoAttr K C' "due" ∧ fs.lookup ("due" : Str) = some v' ∧ A v' := g_fldE ho T.k_Channel T.n_Channel_due nd_Channel rfl hv q
theorem st_Channel_due {A : Hp → Prop} (ho : H a = some (.ins T.C_Channel dx (obj ky_Channel vs))) (hv : 7 < vs.length) (q : A (upd H a (.ins T.C_Channel dx (obj ky_Channel (vs.set 7 y))))) : ∃ a' C' dx' fs, V.ref a = .ref a' ∧ H a' = some (.ins C' dx' fs) ∧ Cls K C' ∧ NoAttr K C' "due" ∧ fs.length < 1000 ∧ A (upd H a' (.ins C' dx' (putF "due" y fs))) := g_putE ho T.k_Channel T.n_Channel_due nd_Channel (by decide) rfl hv q
theorem nw_Channel_due {A : Hp → Prop} (ho : H a = some (.ins T.C_Channel dx (obj ky_Channel vs))) (hv : vs.length = 7) (q : A (upd H a (.ins T.C_Channel dx (obj ky_Channel (vs ++ [y]))))) : ∃ a' C' dx' fs, V.ref a = .ref a' ∧ H a' = some (.ins C' dx' fs) ∧ Cls K C' ∧ NoAttr K C' "due" ∧ fs.length < 1000 ∧ A (upd H a' (.ins C' dx' (putF "due" y fs))) := g_newE ho T.k_Channel T.n_Channel_due nd_Channel (by decide) (by rw [hv]; rfl) q
theorem fd_Channel_end_came {A : V → Prop} (ho : H a = some (.ins T.C_Channel dx (obj ky_Channel vs))) (hv : vs[8]? = some v) (q : A v) : ∃ a' C' dx' fs v', V.ref a = .ref a' ∧ H a' = some (.ins C' dx' fs) ∧ Cls K C' ∧ NoAttr K C' "end_came" ∧ fs.lookup ("end_came" : Str) = some v' ∧ A v' := g_fldE ho T.k_Channel T.n_Channel_end_came nd_Channel rfl hv q
theorem st_Channel_end_came {A : Hp → Prop} (ho : H a = some (.ins T.C_Channel dx (obj ky_Channel vs))) (hv : 8 < vs.length) (q : A (upd H a (.ins T.C_Channel dx (obj ky_Channel (vs.set 8 y))))) : ∃ a' C' dx' fs, V.ref a = .ref a' ∧ H a' = some (.ins C' dx' fs) ∧ Cls K C' ∧ NoAttr K C' "end_came" ∧ fs.length < 1000 ∧ A (upd H a' (.ins C' dx' (putF "end_came" y fs))) := g_putE ho T.k_Channel T.n_Channel_end_came nd_Channel (by decide) rfl hv q
theorem nw_Channel_end_came {A : Hp → Prop} (ho : H a = some (.ins T.C_Channel dx (obj ky_Channel vs))) (hv : vs.length = 8) (q : A (upd H a (.ins T.C_Channel dx (obj ky_Channel (vs ++ [y]))))) : ∃ a' C' dx' fs, V.ref a = .ref a' ∧ H a' = some (.ins C' dx' fs) ∧ Cls K C' ∧ NoAttr K C' "end_came" ∧ fs.length < 1000 ∧ A (upd H a' (.ins C' dx' (putF "end_came" y fs))) := g_newE ho T.k_Channel T.n_Channel_end_came nd_Channel (by decide) (by rw [hv]; rfl) q
theorem fd_Channel_broken {A : V → Prop} (ho : H a = some (.ins T.C_Channel dx (obj ky_Channel vs))) (hv : vs[9]? = some v) (q : A v) : ∃ a' C' dx' fs v', V.ref a = .ref a' ∧ H a' = some (.ins C' dx' fs) ∧ Cls K C' ∧ NoAttr K C' "broken" ∧ fs.lookup ("broken" : Str) = some v' ∧ A v' := g_fldE ho T.k_Channel T.n_Channel_broken nd_Channel rfl hv q
theorem st_Channel_broken {A : Hp → Prop} (ho : H a = some (.ins T.C_Channel dx (obj ky_Channel vs))) (hv : 9 < vs.length) (q : A (upd H a (.ins T.C_Channel dx (obj ky_Channel (vs.set 9 y))))) : ∃ a' C' dx' fs, V.ref a = .ref a' ∧ H a' = some (.ins C' dx' fs) ∧ Cls K C' ∧ NoAttr K C' "broken" ∧ fs.length < 1000 ∧ A (upd H a' (.ins C' dx' (putF "broken" y fs))) := g_putE ho T.k_Channel T.n_Channel_broken nd_Channel (by decide) rfl hv q
theorem nw_Channel_broken {A : Hp → Prop} (ho : H a = some (.ins T.C_Channel dx (obj ky_Channel vs))) (hv : vs.length = 9) (q : A (upd H a (.ins T.C_Channel dx (obj ky_Channel (vs ++ [y]))))) : ∃ a' C' dx' fs, V.ref a = .ref a' ∧ H a' = some (.ins C' dx' fs) ∧ Cls K C' ∧ NoAttr K C' "broken" ∧ fs.length < 1000 ∧ A (upd H a' (.ins C' dx' (putF "broken" y fs))) := g_newE ho T.k_Channel T.n_Channel_broken nd_Channel (by decide) (by rw [hv]; rfl) q
theorem fd_Channel_reset_told {A : V → Prop} (ho : H a = some (.ins T.C_Channel dx (obj ky_Channel vs))) (hv : vs[10]? = some v) (q : A v) : ∃ a' C' dx' fs v', V.ref a = .ref a' ∧ H a' = some (.ins C' dx' fs) ∧ Cls K C' ∧ NoAttr K C' "reset_told" ∧ fs.lookup ("reset_told" : Str) = some v' ∧ A v' := g_fldE ho T.k_Channel T.n_Channel_reset_told nd_Channel rfl hv q
theorem st_Channel_reset_told {A : Hp → Prop} (ho : H a = some (.ins T.C_Channel dx (obj ky_Channel vs))) (hv : 10 < vs.length) (q : A (upd H a (.ins T.C_Channel dx (obj ky_Channel (vs.set 10 y))))) : ∃ a' C' dx' fs, V.ref a = .ref a' ∧ H a' = some (.ins C' dx' fs) ∧ Cls K C' ∧ NoAttr K C' "reset_told" ∧ fs.length < 1000 ∧ A (upd H a' (.ins C' dx' (putF "reset_told" y fs))) := g_putE ho T.k_Channel T.n_Channel_reset_told nd_Channel (by decide) rfl hv q
theorem nw_Channel_reset_told {A : Hp → Prop} (ho : H a = some (.ins T.C_Channel dx (obj ky_Channel vs))) (hv : vs.length = 10) (q : A (upd H a (.ins T.C_Channel dx (obj ky_Channel (vs ++ [y]))))) : ∃ a' C' dx' fs, V.ref a = .ref a' ∧ H a' = some (.ins C' dx' fs) ∧ Cls K C' ∧ NoAttr K C' "reset_told" ∧ fs.length < 1000 ∧ A (upd H a' (.ins C' dx' (putF "reset_told" y fs))) := g_newE ho T.k_Channel T.n_Channel_reset_told nd_Channel (by decide) (by rw [hv]; rfl) q
theorem me_Channel_break_off {A : Prop} (ho : H a = some (.ins T.C_Channel dx (obj ky_Channel vs))) (q : A) : ∃ a' dx' fs, V.ref a = .ref a' ∧ H a' = some (.ins T.C_Channel dx' fs) ∧ fs.lookup ("break_off" : Str) = none ∧ A := g_methE ho (by decide +kernel) q
theorem me_Channel_fork {A : Prop} (ho : H a = some (.ins T.C_Channel dx (obj ky_Channel vs))) (q : A) : ∃ a' dx' fs, V.ref a = .ref a' ∧ H a' = some (.ins T.C_Channel dx' fs) ∧ fs.lookup ("fork" : Str) = none ∧ A := g_methE ho (by decide +kernel) q
end
def ky_Channels : List Str := ["failure", "_window", "_most", "_next_here", "_next_there", "_channels", "_numbers", "_turns", "_offered", "_going", "_coming"]
theorem nd_Channels : ky_Channels.Nodup := by decide +kernel
section
variable {P : Program} {w : World} {K : PySem.W.Frag} {mg : Str → Option Value} {T : Txt P w K mg} {H : Hp} {a dx : Addr} {vs : List V} {v y : V}
theorem fd_Channels_failure {A : V → Prop} (ho : H a = some (.ins T.C_Channels dx (obj ky_Channels vs))) (hv : vs[0]? = some v) (q : A v) : ∃ a' C' dx' fs v', V.ref a = .ref a' ∧ H a' = some (.ins C' dx' fs) ∧ Cls K C' ∧ NoAttr K C' "failure" ∧ fs.lookup ("failure" : Str) = some v' ∧ A v' := g_fldE ho T.k_Channels T.n_Channels_failure nd_Channels rfl hv q
theorem st_Channels_failure {A : Hp → Prop} (ho : H a = some (.ins T.C_Channels dx (obj ky_Channels vs))) (hv : 0 < vs.length) (q : A (upd H a (.ins T.C_Channels dx (obj ky_Channels (vs.set 0 y))))) : ∃ a' C' dx' fs, V.ref a = .ref a' ∧ H a' = some (.ins C' dx' fs) ∧ Cls K C' ∧ NoAttr K C' "failure" ∧ fs.length < 1000 ∧ A (upd H a' (.ins C' dx' (putF "failure" y fs))) := g_putE ho T.k_Channels T.n_Channels_failure nd_Channels (by decide) rfl hv q
theorem nw_Channels_failure {A : Hp → Prop} (ho : H a = some (.ins T.C_Channels dx (obj ky_Channels vs))) (hv : vs.length = 0) (q : A (upd H a (.ins T.C_Channels dx (obj ky_Channels (vs ++ [y]))))) : ∃ a' C' dx' fs, V.ref a = .ref a' ∧ H a' = some (.ins C' dx' fs) ∧ Cls K C' ∧ NoAttr K C' "failure" ∧ fs.length < 1000 ∧ A (upd H a' (.ins C' dx' (putF "failure" y fs))) := g_newE ho T.k_Channels T.n_Channels_failure nd_Channels (by decide) (by rw [hv]; rfl) q
theorem fd_Channels__window {A : V → Prop} (ho : H a = some (.ins T.C_Channels dx (obj ky_Channels vs))) (hv : vs[1]? = some v) (q : A v) : ∃ a' C' dx' fs v', V.ref a = .ref a' ∧ H a' = some (.ins C' dx' fs) ∧ Cls K C' ∧ NoAttr K C' "_window" ∧ fs.lookup ("_window" : Str) = some v' ∧ A v' := g_fldE ho T.k_Channels T.n_Channels__window nd_Channels rfl hv q
theorem st_Channels__window {A : Hp → Prop} (ho : H a = some (.ins T.C_Channels dx (obj ky_Channels vs))) (hv : 1 < vs.length) (q : A (upd H a (.ins T.C_Channels dx (obj ky_Channels (vs.set 1 y))))) : ∃ a' C' dx' fs, V.ref a = .ref a' ∧ H a' = some (.ins C' dx' fs) ∧ Cls K C' ∧ NoAttr K C' "_window" ∧ fs.length < 1000 ∧ A (upd H a' (.ins C' dx' (putF "_window" y fs))) := g_putE ho T.k_Channels T.n_Channels__window nd_Channels (by decide) rfl hv q
theorem nw_Channels__window {A : Hp → Prop} (ho : H a = some (.ins T.C_Channels dx (obj ky_Channels vs))) (hv : vs.length = 1) (q : A (upd H a (.ins T.C_Channels dx (obj ky_Channels (vs ++ [y]))))) : ∃ a' C' dx' fs, V.ref a = .ref a' ∧ H a' = some (.ins C' dx' fs) ∧ Cls K C' ∧ NoAttr K C' "_window" ∧ fs.length < 1000 ∧ A (upd H a' (.ins C' dx' (putF "_window" y fs))) := g_newE ho T.k_Channels T.n_Channels__window nd_Channels (by decide) (by rw [hv]; rfl) q
theorem fd_Channels__most {A : V → Prop} (ho : H a = some (.ins T.C_Channels dx (obj ky_Channels vs))) (hv : vs[2]? = some v) (q : A v) : ∃ a' C' dx' fs v', V.ref a = .ref a' ∧ H a' = some (.ins C' dx' fs) ∧ Cls K C' ∧ NoAttr K C' "_most" ∧ fs.lookup ("_most" : Str) = some v' ∧ A v' := g_fldE ho T.k_Channels T.n_Channels__most nd_Channels rfl hv q
theorem st_Channels__most {A : Hp → Prop} (ho : H a = some (.ins T.C_Channels dx (obj ky_Channels vs))) (hv : 2 < vs.length) (q : A (upd H a (.ins T.C_Channels dx (obj ky_Channels (vs.set 2 y))))) : ∃ a' C' dx' fs, V.ref a = .ref a' ∧ H a' = some (.ins C' dx' fs) ∧ Cls K C' ∧ NoAttr K C' "_most" ∧ fs.length < 1000 ∧ A (upd H a' (.ins C' dx' (putF "_most" y fs))) := g_putE ho T.k_Channels T.n_Channels__most nd_Channels (by decide) rfl hv q
theorem nw_Channels__most {A : Hp → Prop} (ho : H a = some (.ins T.C_Channels dx (obj ky_Channels vs))) (hv : vs.length = 2) (q : A (upd H a (.ins T.C_Channels dx (obj ky_Channels (vs ++ [y]))))) : ∃ a' C' dx' fs, V.ref a = .ref a' ∧ H a' = some (.ins C' dx' fs) ∧ Cls K C' ∧ NoAttr K C' "_most" ∧ fs.length < 1000 ∧ A (upd H a' (.ins C' dx' (putF "_most" y fs))) := g_newE ho T.k_Channels T.n_Channels__most nd_Channels (by decide) (by rw [hv]; rfl) q
theorem fd_Channels__next_here {A : V → Prop} (ho : H a = some (.ins T.C_Channels dx (obj ky_Channels vs))) (hv : vs[3]? = some v) (q : A v) : ∃ a' C' dx' fs v', V.ref a = .ref a' ∧ H a' = some (.ins C' dx' fs) ∧ Cls K C' ∧ NoAttr K C' "_next_here" ∧ fs.lookup ("_next_here" : Str) = some v' ∧ A v' := g_fldE ho T.k_Channels T.n_Channels__next_here nd_Channels rfl hv q
theorem st_Channels__next_here {A : Hp → Prop} (ho : H a = some (.ins T.C_Channels dx (obj ky_Channels vs))) (hv : 3 < vs.length) (q : A (upd H a (.ins T.C_Channels dx (obj ky_Channels (vs.set 3 y))))) : ∃ a' C' dx' fs, V.ref a = .ref a' ∧ H a' = some (.ins C' dx' fs) ∧ Cls K C' ∧ NoAttr K C' "_next_here" ∧ fs.length < 1000 ∧ A (upd H a' (.ins C' dx' (putF "_next_here" y fs))) := g_putE ho T.k_Channels T.n_Channels__next_here nd_Channels (by decide) rfl hv q
theorem nw_Channels__next_here {A : Hp → Prop} (ho : H a = some (.ins T.C_Channels dx (obj ky_Channels vs))) (hv : vs.length = 3) (q : A (upd H a (.ins T.C_Channels dx (obj ky_Channels (vs ++ [y]))))) : ∃ a' C' dx' fs, V.ref a = .ref a' ∧ H a' = some (.ins C' dx' fs) ∧ Cls K C' ∧ NoAttr K C' "_next_here" ∧ fs.length < 1000 ∧ A (upd H a' (.ins C' dx' (putF "_next_here" y fs))) := g_newE ho T.k_Channels T.n_Channels__next_here nd_Channels (by decide) (by rw [hv]; rfl) q
theorem fd_Channels__next_there {A : V → Prop} (ho : H a = some (.ins T.C_Channels dx (obj ky_Channels vs))) (hv : vs[4]? = some v) (q : A v) : ∃ a' C' dx' fs v', V.ref a = .ref a' ∧ H a' = some (.ins C' dx' fs) ∧ Cls K C' ∧ NoAttr K C' "_next_there" ∧ fs.lookup ("_next_there" : Str) = some v' ∧ A v' := g_fldE ho T.k_Channels T.n_Channels__next_there nd_Channels rfl hv q
theorem st_Channels__next_there {A : Hp → Prop} (ho : H a = some (.ins T.C_Channels dx (obj ky_Channels vs))) (hv : 4 < vs.length) (q : A (upd H a (.ins T.C_Channels dx (obj ky_Channels (vs.set 4 y))))) : ∃ a' C' dx' fs, V.ref a = .ref a' ∧ H a' = some (.ins C' dx' fs) ∧ Cls K C' ∧ NoAttr K C' "_next_there" ∧ fs.length < 1000 ∧ A (upd H a' (.ins C' dx' (putF "_next_there" y fs))) := g_putE ho T.k_Channels T.n_Channels__next_there nd_Channels (by decide) rfl hv q
theorem nw_Channels__next_there {A : Hp → Prop} (ho : H a = some (.ins T.C_Channels dx (obj ky_Channels vs))) (hv : vs.length = 4) (q : A (upd H a (.ins T.C_Channels dx (obj ky_Channels (vs ++ [y]))))) : ∃ a' C' dx' fs, V.ref a = .ref a' ∧ H a' = some (.ins C' dx' fs) ∧ Cls K C' ∧ NoAttr K C' "_next_there" ∧ fs.length < 1000 ∧ A (upd H a' (.ins C' dx' (putF "_next_there" y fs))) := g_newE ho T.k_Channels T.n_Channels__next_there nd_Channels (by decide) (by rw [hv]; rfl) q
theorem fd_Channels__channels {A : V → Prop} (ho : H a = some (.ins T.C_Channels dx (obj ky_Channels vs))) (hv : vs[5]? = some v) (q : A v) : ∃ a' C' dx' fs v', V.ref a = .ref a' ∧ H a' = some (.ins C' dx' fs) ∧ Cls K C' ∧ NoAttr K C' "_channels" ∧ fs.lookup ("_channels" : Str) = some v' ∧ A v' := g_fldE ho T.k_Channels T.n_Channels__channels nd_Channels rfl hv q
theorem st_Channels__channels {A : Hp → Prop} (ho : H a = some (.ins T.C_Channels dx (obj ky_Channels vs))) (hv : 5 < vs.length) (q : A (upd H a (.ins T.C_Channels dx (obj ky_Channels (vs.set 5 y))))) : ∃ a' C' dx' fs, V.ref a = .ref a' ∧ H a' = some (.ins C' dx' fs) ∧ Cls K C' ∧ NoAttr K C' "_channels" ∧ fs.length < 1000 ∧ A (upd H a' (.ins C' dx' (putF "_channels" y fs))) := g_putE ho T.k_Channels T.n_Channels__channels nd_Channels (by decide) rfl hv q
theorem nw_Channels__channels {A : Hp → Prop} (ho : H a = some (.ins T.C_Channels dx (obj ky_Channels vs))) (hv : vs.length = 5) (q : A (upd H a (.ins T.C_Channels dx (obj ky_Channels (vs ++ [y]))))) : ∃ a' C' dx' fs, V.ref a = .ref a' ∧ H a' = some (.ins C' dx' fs) ∧ Cls K C' ∧ NoAttr K C' "_channels" ∧ fs.length < 1000 ∧ A (upd H a' (.ins C' dx' (putF "_channels" y fs))) := g_newE ho T.k_Channels T.n_Channels__channels nd_Channels (by decide) (by rw [hv]; rfl) q
theorem fd_Channels__numbers {A : V → Prop} (ho : H a = some (.ins T.C_Channels dx (obj ky_Channels vs))) (hv : vs[6]? = some v) (q : A v) : ∃ a' C' dx' fs v', V.ref a = .ref a' ∧ H a' = some (.ins C' dx' fs) ∧ Cls K C' ∧ NoAttr K C' "_numbers" ∧ fs.lookup ("_numbers" : Str) = some v' ∧ A v' := g_fldE ho T.k_Channels T.n_Channels__numbers nd_Channels rfl hv q
theorem st_Channels__numbers {A : Hp → Prop} (ho : H a = some (.ins T.C_Channels dx (obj ky_Channels vs))) (hv : 6 < vs.length) (q : A (upd H a (.ins T.C_Channels dx (obj ky_Channels (vs.set 6 y))))) : ∃ a' C' dx' fs, V.ref a = .ref a' ∧ H a' = some (.ins C' dx' fs) ∧ Cls K C' ∧ NoAttr K C' "_numbers" ∧ fs.length < 1000 ∧ A (upd H a' (.ins C' dx' (putF "_numbers" y fs))) := g_putE ho T.k_Channels T.n_Channels__numbers nd_Channels (by decide) rfl hv q
theorem nw_Channels__numbers {A : Hp → Prop} (ho : H a = some (.ins T.C_Channels dx (obj ky_Channels vs))) (hv : vs.length = 6) (q : A (upd H a (.ins T.C_Channels dx (obj ky_Channels (vs ++ [y]))))) : ∃ a' C' dx' fs, V.ref a = .ref a' ∧ H a' = some (.ins C' dx' fs) ∧ Cls K C' ∧ NoAttr K C' "_numbers" ∧ fs.length < 1000 ∧ A (upd H a' (.ins C' dx' (putF "_numbers" y fs))) := g_newE ho T.k_Channels T.n_Channels__numbers nd_Channels (by decide) (by rw [hv]; rfl) q
theorem fd_Channels__turns {A : V → Prop} (ho : H a = some (.ins T.C_Channels dx (obj ky_Channels vs))) (hv : vs[7]? = some v) (q : A v) : ∃ a' C' dx' fs v', V.ref a = .ref a' ∧ H a' = some (.ins C' dx' fs) ∧ Cls K C' ∧ NoAttr K C' "_turns" ∧ fs.lookup ("_turns" : Str) = some v' ∧ A v' := g_fldE ho T.k_Channels T.n_Channels__turns nd_Channels rfl hv q
theorem st_Channels__turns {A : Hp → Prop} (ho : H a = some (.ins T.C_Channels dx (obj ky_Channels vs))) (hv : 7 < vs.length) (q : A (upd H a (.ins T.C_Channels dx (obj ky_Channels (vs.set 7 y))))) : ∃ a' C' dx' fs, V.ref a = .ref a' ∧ H a' = some (.ins C' dx' fs) ∧ Cls K C' ∧ NoAttr K C' "_turns" ∧ fs.length < 1000 ∧ A (upd H a' (.ins C' dx' (putF "_turns" y fs))) := g_putE ho T.k_Channels T.n_Channels__turns nd_Channels (by decide) rfl hv q
theorem nw_Channels__turns {A : Hp → Prop} (ho : H a = some (.ins T.C_Channels dx (obj ky_Channels vs))) (hv : vs.length = 7) (q : A (upd H a (.ins T.C_Channels dx (obj ky_Channels (vs ++ [y]))))) : ∃ a' C' dx' fs, V.ref a = .ref a' ∧ H a' = some (.ins C' dx' fs) ∧ Cls K C' ∧ NoAttr K C' "_turns" ∧ fs.length < 1000 ∧ A (upd H a' (.ins C' dx' (putF "_turns" y fs))) := g_newE ho T.k_Channels T.n_Channels__turns nd_Channels (by decide) (by rw [hv]; rfl) q
theorem fd_Channels__offered {A : V → Prop} (ho : H a = some (.ins T.C_Channels dx (obj ky_Channels vs))) (hv : vs[8]? = some v) (q : A v) : ∃ a' C' dx' fs v', V.ref a = .ref a' ∧ H a' = some (.ins C' dx' fs) ∧ Cls K C' ∧ NoAttr K C' "_offered" ∧ fs.lookup ("_offered" : Str) = some v' ∧ A v' := g_fldE ho T.k_Channels T.n_Channels__offered nd_Channels rfl hv q
theorem st_Channels__offered {A : Hp → Prop} (ho : H a = some (.ins T.C_Channels dx (obj ky_Channels vs))) (hv : 8 < vs.length) (q : A (upd H a (.ins T.C_Channels dx (obj ky_Channels (vs.set 8 y))))) : ∃ a' C' dx' fs, V.ref a = .ref a' ∧ H a' = some (.ins C' dx' fs) ∧ Cls K C' ∧ NoAttr K C' "_offered" ∧ fs.length < 1000 ∧ A (upd H a' (.ins C' dx' (putF "_offered" y fs))) := g_putE ho T.k_Channels T.n_Channels__offered nd_Channels (by decide) rfl hv q
theorem nw_Channels__offered {A : Hp → Prop} (ho : H a = some (.ins T.C_Channels dx (obj ky_Channels vs))) (hv : vs.length = 8) (q : A (upd H a (.ins T.C_Channels dx (obj ky_Channels (vs ++ [y]))))) : ∃ a' C' dx' fs, V.ref a = .ref a' ∧ H a' = some (.ins C' dx' fs) ∧ Cls K C' ∧ NoAttr K C' "_offered" ∧ fs.length < 1000 ∧ A (upd H a' (.ins C' dx' (putF "_offered" y fs))) := g_newE ho T.k_Channels T.n_Channels__offered nd_Channels (by decide) (by rw [hv]; rfl) q
theorem fd_Channels__going {A : V → Prop} (ho : H a = some (.ins T.C_Channels dx (obj ky_Channels vs))) (hv : vs[9]? = some v) (q : A v) : ∃ a' C' dx' fs v', V.ref a = .ref a' ∧ H a' = some (.ins C' dx' fs) ∧ Cls K C' ∧ NoAttr K C' "_going" ∧ fs.lookup ("_going" : Str) = some v' ∧ A v' := g_fldE ho T.k_Channels T.n_Channels__going nd_Channels rfl hv q
theorem st_Channels__going {A : Hp → Prop} (ho : H a = some (.ins T.C_Channels dx (obj ky_Channels vs))) (hv : 9 < vs.length) (q : A (upd H a (.ins T.C_Channels dx (obj ky_Channels (vs.set 9 y))))) : ∃ a' C' dx' fs, V.ref a = .ref a' ∧ H a' = some (.ins C' dx' fs) ∧ Cls K C' ∧ NoAttr K C' "_going" ∧ fs.length < 1000 ∧ A (upd H a' (.ins C' dx' (putF "_going" y fs))) := g_putE ho T.k_Channels T.n_Channels__going nd_Channels (by decide) rfl hv q
theorem nw_Channels__going {A : Hp → Prop} (ho : H a = some (.ins T.C_Channels dx (obj ky_Channels vs))) (hv : vs.length = 9) (q : A (upd H a (.ins T.C_Channels dx (obj ky_Channels (vs ++ [y]))))) : ∃ a' C' dx' fs, V.ref a = .ref a' ∧ H a' = some (.ins C' dx' fs) ∧ Cls K C' ∧ NoAttr K C' "_going" ∧ fs.length < 1000 ∧ A (upd H a' (.ins C' dx' (putF "_going" y fs))) := g_newE ho T.k_Channels T.n_Channels__going nd_Channels (by decide) (by rw [hv]; rfl) q
theorem fd_Channels__coming {A : V → Prop} (ho : H a = some (.ins T.C_Channels dx (obj ky_Channels vs))) (hv : vs[10]? = some v) (q : A v) : ∃ a' C' dx' fs v', V.ref a = .ref a' ∧ H a' = some (.ins C' dx' fs) ∧ Cls K C' ∧ NoAttr K C' "_coming" ∧ fs.lookup ("_coming" : Str) = some v' ∧ A v' := g_fldE ho T.k_Channels T.n_Channels__coming nd_Channels rfl hv q
theorem st_Channels__coming {A : Hp → Prop} (ho : H a = some (.ins T.C_Channels dx (obj ky_Channels vs))) (hv : 10 < vs.length) (q : A (upd H a (.ins T.C_Channels dx (obj ky_Channels (vs.set 10 y))))) : ∃ a' C' dx' fs, V.ref a = .ref a' ∧ H a' = some (.ins C' dx' fs) ∧ Cls K C' ∧ NoAttr K C' "_coming" ∧ fs.length < 1000 ∧ A (upd H a' (.ins C' dx' (putF "_coming" y fs))) := g_putE ho T.k_Channels T.n_Channels__coming nd_Channels (by decide) rfl hv q
theorem nw_Channels__coming {A : Hp → Prop} (ho : H a = some (.ins T.C_Channels dx (obj ky_Channels vs))) (hv : vs.length = 10) (q : A (upd H a (.ins T.C_Channels dx (obj ky_Channels (vs ++ [y]))))) : ∃ a' C' dx' fs, V.ref a = .ref a' ∧ H a' = some (.ins C' dx' fs) ∧ Cls K C' ∧ NoAttr K C' "_coming" ∧ fs.length < 1000 ∧ A (upd H a' (.ins C' dx' (putF "_coming" y fs))) := g_newE ho T.k_Channels T.n_Channels__coming nd_Channels (by decide) (by rw [hv]; rfl) q
theorem me_Channels_len__ {A : Prop} (ho : H a = some (.ins T.C_Channels dx (obj ky_Channels vs))) (q : A) : ∃ a' dx' fs, V.ref a = .ref a' ∧ H a' = some (.ins T.C_Channels dx' fs) ∧ fs.lookup ("__len__" : Str) = none ∧ A := g_methE ho (by decide +kernel) q
theorem me_Channels_iter__ {A : Prop} (ho : H a = some (.ins T.C_Channels dx (obj ky_Channels vs))) (q : A) : ∃ a' dx' fs, V.ref a = .ref a' ∧ H a' = some (.ins T.C_Channels dx' fs) ∧ fs.lookup ("__iter__" : Str) = none ∧ A := g_methE ho (by decide +kernel) q
theorem me_Channels_open_channel {A : Prop} (ho : H a = some (.ins T.C_Channels dx (obj ky_Channels vs))) (q : A) : ∃ a' dx' fs, V.ref a = .ref a' ∧ H a' = some (.ins T.C_Channels dx' fs) ∧ fs.lookup ("open_channel" : Str) = none ∧ A := g_methE ho (by decide +kernel) q
theorem me_Channels_accept {A : Prop} (ho : H a = some (.ins T.C_Channels dx (obj ky_Channels vs))) (q : A) : ∃ a' dx' fs, V.ref a = .ref a' ∧ H a' = some (.ins T.C_Channels dx' fs) ∧ fs.lookup ("accept" : Str) = none ∧ A := g_methE ho (by decide +kernel) q
theorem me_Channels_finish {A : Prop} (ho : H a = some (.ins T.C_Channels dx (obj ky_Channels vs))) (q : A) : ∃ a' dx' fs, V.ref a = .ref a' ∧ H a' = some (.ins T.C_Channels dx' fs) ∧ fs.lookup ("finish" : Str) = none ∧ A := g_methE ho (by decide +kernel) q
theorem me_Channels_reset {A : Prop} (ho : H a = some (.ins T.C_Channels dx (obj ky_Channels vs))) (q : A) : ∃ a' dx' fs, V.ref a = .ref a' ∧ H a' = some (.ins T.C_Channels dx' fs) ∧ fs.lookup ("reset" : Str) = none ∧ A := g_methE ho (by decide +kernel) q
theorem me_Channels_status {A : Prop} (ho : H a = some (.ins T.C_Channels dx (obj ky_Channels vs))) (q : A) : ∃ a' dx' fs, V.ref a = .ref a' ∧ H a' = some (.ins T.C_Channels dx' fs) ∧ fs.lookup ("status" : Str) = none ∧ A := g_methE ho (by decide +kernel) q
theorem me_Channels_take {A : Prop} (ho : H a = some (.ins T.C_Channels dx (obj ky_Channels vs))) (q : A) : ∃ a' dx' fs, V.ref a = .ref a' ∧ H a' = some (.ins T.C_Channels dx' fs) ∧ fs.lookup ("take" : Str) = none ∧ A := g_methE ho (by decide +kernel) q
theorem me_Channels_receive {A : Prop} (ho : H a = some (.ins T.C_Channels dx (obj ky_Channels vs))) (q : A) : ∃ a' dx' fs, V.ref a = .ref a' ∧ H a' = some (.ins T.C_Channels dx' fs) ∧ fs.lookup ("receive" : Str) = none ∧ A := g_methE ho (by decide +kernel) q
theorem me_Channels_fork {A : Prop} (ho : H a = some (.ins T.C_Channels dx (obj ky_Channels vs))) (q : A) : ∃ a' dx' fs, V.ref a = .ref a' ∧ H a' = some (.ins T.C_Channels dx' fs) ∧ fs.lookup ("fork" : Str) = none ∧ A := g_methE ho (by decide +kernel) q
theorem me_Channels_known {A : Prop} (ho : H a = some (.ins T.C_Channels dx (obj ky_Channels vs))) (q : A) : ∃ a' dx' fs, V.ref a = .ref a' ∧ H a' = some (.ins T.C_Channels dx' fs) ∧ fs.lookup ("_known" : Str) = none ∧ A := g_methE ho (by decide +kernel) q
theorem me_Channels_add {A : Prop} (ho : H a = some (.ins T.C_Channels dx (obj ky_Channels vs))) (q : A) : ∃ a' dx' fs, V.ref a = .ref a' ∧ H a' = some (.ins T.C_Channels dx' fs) ∧ fs.lookup ("_add" : Str) = none ∧ A := g_methE ho (by decide +kernel) q
theorem me_Channels_room_of {A : Prop} (ho : H a = some (.ins T.C_Channels dx (obj ky_Channels vs))) (q : A) : ∃ a' dx' fs, V.ref a = .ref a' ∧ H a' = some (.ins T.C_Channels dx' fs) ∧ fs.lookup ("_room_of" : Str) = none ∧ A := g_methE ho (by decide +kernel) q
theorem me_Channels_take_frame {A : Prop} (ho : H a = some (.ins T.C_Channels dx (obj ky_Channels vs))) (q : A) : ∃ a' dx' fs, V.ref a = .ref a' ∧ H a' = some (.ins T.C_Channels dx' fs) ∧ fs.lookup ("_take_frame" : Str) = none ∧ A := g_methE ho (by decide +kernel) q
theorem me_Channels_failure_of {A : Prop} (ho : H a = some (.ins T.C_Channels dx (obj ky_Channels vs))) (q : A) : ∃ a' dx' fs, V.ref a = .ref a' ∧ H a' = some (.ins T.C_Channels dx' fs) ∧ fs.lookup ("_failure_of" : Str) = none ∧ A := g_methE ho (by decide +kernel) q
theorem me_Channels_apply {A : Prop} (ho : H a = some (.ins T.C_Channels dx (obj ky_Channels vs))) (q : A) : ∃ a' dx' fs, V.ref a = .ref a' ∧ H a' = some (.ins T.C_Channels dx' fs) ∧ fs.lookup ("_apply" : Str) = none ∧ A := g_methE ho (by decide +kernel) q
end
local macro_rules | `(tactic| walk_at "use") => `(tactic| first | ((with_reducible refine' fd_Channel_number ?ho_ ?hv_ ?_); (case ho_ => first | assumption | exact upd_same); (case hv_ => exact rfl)) | ((with_reducible refine' fd_Channel_announced ?ho_ ?hv_ ?_); (case ho_ => first | assumption | exact upd_same); (case hv_ => exact rfl)) | ((with_reducible refine' fd_Channel_queue ?ho_ ?hv_ ?_); (case ho_ => first | assumption | exact upd_same); (case hv_ => exact rfl)) | ((with_reducible refine' fd_Channel_credit ?ho_ ?hv_ ?_); (case ho_ => first | assumption | exact upd_same); (case hv_ => exact rfl)) | ((with_reducible refine' fd_Channel_finished ?ho_ ?hv_ ?_); (case ho_ => first | assumption | exact upd_same); (case hv_ => exact rfl)) | ((with_reducible refine' fd_Channel_end_sent ?ho_ ?hv_ ?_); (case ho_ => first | assumption | exact upd_same); (case hv_ => exact rfl)) | ((with_reducible refine' fd_Channel_unread ?ho_ ?hv_ ?_); (case ho_ => first | assumption | exact upd_same); (case hv_ => exact rfl)) | ((with_reducible refine' fd_Channel_due ?ho_ ?hv_ ?_); (case ho_ => first | assumption | exact upd_same); (case hv_ => exact rfl)) | ((with_reducible refine' fd_Channel_end_came ?ho_ ?hv_ ?_); (case ho_ => first | assumption | exact upd_same); (case hv_ => exact rfl)) | ((with_reducible refine' fd_Channel_broken ?ho_ ?hv_ ?_); (case ho_ => first | assumption | exact upd_same); (case hv_ => exact rfl)) | ((with_reducible refine' fd_Channel_reset_told ?ho_ ?hv_ ?_); (case ho_ => first | assumption | exact upd_same); (case hv_ => exact rfl)) | ((with_reducible refine' nw_Channel_number ?ho_ ?hv_ ?_); (case ho_ => first | assumption | exact upd_same); (case hv_ => exact rfl)) | ((with_reducible refine' nw_Channel_announced ?ho_ ?hv_ ?_); (case ho_ => first | assumption | exact upd_same); (case hv_ => exact rfl)) | ((with_reducible refine' nw_Channel_queue ?ho_ ?hv_ ?_); (case ho_ => first | assumption | exact upd_same); (case hv_ => exact rfl)) | ((with_reducible refine' nw_Channel_credit ?ho_ ?hv_ ?_); (case ho_ => first | assumption | exact upd_same); (case hv_ => exact rfl)) | ((with_reducible refine' nw_Channel_finished ?ho_ ?hv_ ?_); (case ho_ => first | assumption | exact upd_same); (case hv_ => exact rfl)) | ((with_reducible refine' nw_Channel_end_sent ?ho_ ?hv_ ?_); (case ho_ => first | assumption | exact upd_same); (case hv_ => exact rfl)) | ((with_reducible refine' nw_Channel_unread ?ho_ ?hv_ ?_); (case ho_ => first | assumption | exact upd_same); (case hv_ => exact rfl)) | ((with_reducible refine' nw_Channel_due ?ho_ ?hv_ ?_); (case ho_ => first | assumption | exact upd_same); (case hv_ => exact rfl)) | ((with_reducible refine' nw_Channel_end_came ?ho_ ?hv_ ?_); (case ho_ => first | assumption | exact upd_same); (case hv_ => exact rfl)) | ((with_reducible refine' nw_Channel_broken ?ho_ ?hv_ ?_); (case ho_ => first | assumption | exact upd_same); (case hv_ => exact rfl)) | ((with_reducible refine' nw_Channel_reset_told ?ho_ ?hv_ ?_); (case ho_ => first | assumption | exact upd_same); (case hv_ => exact rfl)) | ((with_reducible refine' st_Channel_number ?ho_ ?hv_ ?_); (case ho_ => first | assumption | exact upd_same); (case hv_ => exact Nat.le_of_ble_eq_true rfl)) | ((with_reducible refine' st_Channel_announced ?ho_ ?hv_ ?_); (case ho_ => first | assumption | exact upd_same); (case hv_ => exact Nat.le_of_ble_eq_true rfl)) | ((with_reducible refine' st_Channel_queue ?ho_ ?hv_ ?_); (case ho_ => first | assumption | exact upd_same); (case hv_ => exact Nat.le_of_ble_eq_true rfl)) | ((with_reducible refine' st_Channel_credit ?ho_ ?hv_ ?_); (case ho_ => first | assumption | exact upd_same); (case hv_ => exact Nat.le_of_ble_eq_true rfl)) | ((with_reducible refine' st_Channel_finished ?ho_ ?hv_ ?_); (case ho_ => first | assumption | exact upd_same); (case hv_ => exact Nat.le_of_ble_eq_true rfl)) | ((with_reducible refine' st_Channel_end_sent ?ho_ ?hv_ ?_); (case ho_ => first | assumption | exact upd_same); (case hv_ => exact Nat.le_of_ble_eq_true rfl)) | ((with_reducible refine' st_Channel_unread ?ho_ ?hv_ ?_); (case ho_ => first | assumption | exact upd_same); (case hv_ => exact Nat.le_of_ble_eq_true rfl)) | ((with_reducible refine' st_Channel_due ?ho_ ?hv_ ?_); (case ho_ => first | assumption | exact upd_same); (case hv_ => exact Nat.le_of_ble_eq_true rfl)) | ((with_reducible refine' st_Channel_end_came ?ho_ ?hv_ ?_); (case ho_ => first | assumption | exact upd_same); (case hv_ => exact Nat.le_of_ble_eq_true rfl)) | ((with_reducible refine' st_Channel_broken ?ho_ ?hv_ ?_); (case ho_ => first | assumption | exact upd_same); (case hv_ => exact Nat.le_of_ble_eq_true rfl)) | ((with_reducible refine' st_Channel_reset_told ?ho_ ?hv_ ?_); (case ho_ => first | assumption | exact upd_same); (case hv_ => exact Nat.le_of_ble_eq_true rfl)) | ((with_reducible refine' me_Channel_break_off ?ho_ ?_); (case ho_ => first | assumption | exact upd_same)) | ((with_reducible refine' me_Channel_fork ?ho_ ?_); (case ho_ => first | assumption | exact upd_same)))
local macro_rules | `(tactic| walk_at "use") => `(tactic| first | ((with_reducible refine' fd_Channels_failure ?ho_ ?hv_ ?_); (case ho_ => first | assumption | exact upd_same); (case hv_ => exact rfl)) | ((with_reducible refine' fd_Channels__window ?ho_ ?hv_ ?_); (case ho_ => first | assumption | exact upd_same); (case hv_ => exact rfl)) | ((with_reducible refine' fd_Channels__most ?ho_ ?hv_ ?_); (case ho_ => first | assumption | exact upd_same); (case hv_ => exact rfl)) | ((with_reducible refine' fd_Channels__next_here ?ho_ ?hv_ ?_); (case ho_ => first | assumption | exact upd_same); (case hv_ => exact rfl)) | ((with_reducible refine' fd_Channels__next_there ?ho_ ?hv_ ?_); (case ho_ => first | assumption | exact upd_same); (case hv_ => exact rfl)) | ((with_reducible refine' fd_Channels__channels ?ho_ ?hv_ ?_); (case ho_ => first | assumption | exact upd_same); (case hv_ => exact rfl)) | ((with_reducible refine' fd_Channels__numbers ?ho_ ?hv_ ?_); (case ho_ => first | assumption | exact upd_same); (case hv_ => exact rfl)) | ((with_reducible refine' fd_Channels__turns ?ho_ ?hv_ ?_); (case ho_ => first | assumption | exact upd_same); (case hv_ => exact rfl)) | ((with_reducible refine' fd_Channels__offered ?ho_ ?hv_ ?_); (case ho_ => first | assumption | exact upd_same); (case hv_ => exact rfl)) | ((with_reducible refine' fd_Channels__going ?ho_ ?hv_ ?_); (case ho_ => first | assumption | exact upd_same); (case hv_ => exact rfl)) | ((with_reducible refine' fd_Channels__coming ?ho_ ?hv_ ?_); (case ho_ => first | assumption | exact upd_same); (case hv_ => exact rfl)) | ((with_reducible refine' nw_Channels_failure ?ho_ ?hv_ ?_); (case ho_ => first | assumption | exact upd_same); (case hv_ => exact rfl)) | ((with_reducible refine' nw_Channels__window ?ho_ ?hv_ ?_); (case ho_ => first | assumption | exact upd_same); (case hv_ => exact rfl)) | ((with_reducible refine' nw_Channels__most ?ho_ ?hv_ ?_); (case ho_ => first | assumption | exact upd_same); (case hv_ => exact rfl)) | ((with_reducible refine' nw_Channels__next_here ?ho_ ?hv_ ?_); (case ho_ => first | assumption | exact upd_same); (case hv_ => exact rfl)) | ((with_reducible refine' nw_Channels__next_there ?ho_ ?hv_ ?_); (case ho_ => first | assumption | exact upd_same); (case hv_ => exact rfl)) | ((with_reducible refine' nw_Channels__channels ?ho_ ?hv_ ?_); (case ho_ => first | assumption | exact upd_same); (case hv_ => exact rfl)) | ((with_reducible refine' nw_Channels__numbers ?ho_ ?hv_ ?_); (case ho_ => first | assumption | exact upd_same); (case hv_ => exact rfl)) | ((with_reducible refine' nw_Channels__turns ?ho_ ?hv_ ?_); (case ho_ => first | assumption | exact upd_same); (case hv_ => exact rfl)) | ((with_reducible refine' nw_Channels__offered ?ho_ ?hv_ ?_); (case ho_ => first | assumption | exact upd_same); (case hv_ => exact rfl)) | ((with_reducible refine' nw_Channels__going ?ho_ ?hv_ ?_); (case ho_ => first | assumption | exact upd_same); (case hv_ => exact rfl)) | ((with_reducible refine' nw_Channels__coming ?ho_ ?hv_ ?_); (case ho_ => first | assumption | exact upd_same); (case hv_ => exact rfl)) | ((with_reducible refine' st_Channels_failure ?ho_ ?hv_ ?_); (case ho_ => first | assumption | exact upd_same); (case hv_ => exact Nat.le_of_ble_eq_true rfl)) | ((with_reducible refine' st_Channels__window ?ho_ ?hv_ ?_); (case ho_ => first | assumption | exact upd_same); (case hv_ => exact Nat.le_of_ble_eq_true rfl)) | ((with_reducible refine' st_Channels__most ?ho_ ?hv_ ?_); (case ho_ => first | assumption | exact upd_same); (case hv_ => exact Nat.le_of_ble_eq_true rfl)) | ((with_reducible refine' st_Channels__next_here ?ho_ ?hv_ ?_); (case ho_ => first | assumption | exact upd_same); (case hv_ => exact Nat.le_of_ble_eq_true rfl)) | ((with_reducible refine' st_Channels__next_there ?ho_ ?hv_ ?_); (case ho_ => first | assumption | exact upd_same); (case hv_ => exact Nat.le_of_ble_eq_true rfl)) | ((with_reducible refine' st_Channels__channels ?ho_ ?hv_ ?_); (case ho_ => first | assumption | exact upd_same); (case hv_ => exact Nat.le_of_ble_eq_true rfl)) | ((with_reducible refine' st_Channels__numbers ?ho_ ?hv_ ?_); (case ho_ => first | assumption | exact upd_same); (case hv_ => exact Nat.le_of_ble_eq_true rfl)) | ((with_reducible refine' st_Channels__turns ?ho_ ?hv_ ?_); (case ho_ => first | assumption | exact upd_same); (case hv_ => exact Nat.le_of_ble_eq_true rfl)) | ((with_reducible refine' st_Channels__offered ?ho_ ?hv_ ?_); (case ho_ => first | assumption | exact upd_same); (case hv_ => exact Nat.le_of_ble_eq_true rfl)) | ((with_reducible refine' st_Channels__going ?ho_ ?hv_ ?_); (case ho_ => first | assumption | exact upd_same); (case hv_ => exact Nat.le_of_ble_eq_true rfl)) | ((with_reducible refine' st_Channels__coming ?ho_ ?hv_ ?_); (case ho_ => first | assumption | exact upd_same); (case hv_ => exact Nat.le_of_ble_eq_true rfl)) | ((with_reducible refine' me_Channels_len__ ?ho_ ?_); (case ho_ => first | assumption | exact upd_same)) | ((with_reducible refine' me_Channels_iter__ ?ho_ ?_); (case ho_ => first | assumption | exact upd_same)) | ((with_reducible refine' me_Channels_open_channel ?ho_ ?_); (case ho_ => first | assumption | exact upd_same)) | ((with_reducible refine' me_Channels_accept ?ho_ ?_); (case ho_ => first | assumption | exact upd_same)) | ((with_reducible refine' me_Channels_finish ?ho_ ?_); (case ho_ => first | assumption | exact upd_same)) | ((with_reducible refine' me_Channels_reset ?ho_ ?_); (case ho_ => first | assumption | exact upd_same)) | ((with_reducible refine' me_Channels_status ?ho_ ?_); (case ho_ => first | assumption | exact upd_same)) | ((with_reducible refine' me_Channels_take ?ho_ ?_); (case ho_ => first | assumption | exact upd_same)) | ((with_reducible refine' me_Channels_receive ?ho_ ?_); (case ho_ => first | assumption | exact upd_same)) | ((with_reducible refine' me_Channels_fork ?ho_ ?_); (case ho_ => first | assumption | exact upd_same)) | ((with_reducible refine' me_Channels_known ?ho_ ?_); (case ho_ => first | assumption | exact upd_same)) | ((with_reducible refine' me_Channels_add ?ho_ ?_); (case ho_ => first | assumption | exact upd_same)) | ((with_reducible refine' me_Channels_room_of ?ho_ ?_); (case ho_ => first | assumption | exact upd_same)) | ((with_reducible refine' me_Channels_take_frame ?ho_ ?_); (case ho_ => first | assumption | exact upd_same)) | ((with_reducible refine' me_Channels_failure_of ?ho_ ?_); (case ho_ => first | assumption | exact upd_same)) | ((with_reducible refine' me_Channels_apply ?ho_ ?_); (case ho_ => first | assumption | exact upd_same)))
/-! ### dicts with written texts as keys, by place -/
def dk (ks : List Str) (vs : List V) : List (Key × V) := (obj ks vs).map fun p => (Sum.inr p.1, p.2)
theorem val_map : ∀ {l : List (Str × V)} {k : Str}, valV (l.map fun p => ((Sum.inr p.1 : Key), p.2)) (.inr k) = l.lookup k
  | [], _ => rfl
  | p :: r, k => by
    by_cases e : k = p.1
    · subst e
      rw [List.map_cons, valV_pos (p := ((Sum.inr p.1 : Key), p.2)) rfl, List.lookup_cons_self]
    · rw [List.map_cons, valV_neg (p := ((Sum.inr p.1 : Key), p.2)) (fun z => e (Sum.inr.inj z).symm), List.lookup_cons, beq_eq_false_iff_ne.mpr e]
      exact val_map
theorem g_dgetT {td ty : TE} {σ : St} {H : Hp} {Q : VK} (h : td σ H fun x H1 => ty σ H1 fun y H2 => ∃ a v, x = .ref a ∧ DGet H2 a y (some v) ∧ Q v H2) : tDGet td ty σ H Q := h
theorem g_dputT {td ty tv : TE} {D : Ends} {σ : St} {H : Hp} (h : tv σ H fun v H1 => td σ H1 fun x H2 => ty σ H2 fun y H3 => ∃ a H4, x = .ref a ∧ DPut H3 a y v H4 ∧ D.nx σ H4) : sDPut td ty tv D σ H := h
theorem g_dget {H : Hp} {a : Addr} {ks : List Str} {vs : List V} {i : Nat} {k : Str} {v : V} {A : V → Prop} (ho : H a = some (.dK (dk ks vs))) (nd : ks.Nodup) (hk : ks[i]? = some k) (hv : vs[i]? = some v) (q : A v) : ∃ a' v', V.ref a = .ref a' ∧ DGet H a' (.str k) (some v') ∧ A v' := by
  refine ⟨a, v, rfl, ?_, q⟩
  have z := DGet.k (k := .inr k) ho
  rw [show valV (dk ks vs) (.inr k) = some v by unfold dk; rw [val_map, obj_get nd hk, hv]] at z
  exact z
theorem map_any {l : List (Str × V)} {k : Str} : ((l.map fun p => ((Sum.inr p.1 : Key), p.2)).any fun kv => decide (kv.1 = .inr k)) = (l.lookup k).isSome := by
  rw [valV_any, val_map]
theorem dk_put {ks : List Str} {vs : List V} {i : Nat} {k : Str} {y : V} (nd : ks.Nodup) (hk : ks[i]? = some k) (hv : i < vs.length) : putK (dk ks vs) (.inr k) y = dk ks (vs.set i y) := by
  have e1 : ((dk ks vs).any fun kv => decide (kv.1 = .inr k)) = true := by
    unfold dk
    rw [map_any, obj_get nd hk, List.getElem?_eq_getElem hv]
    rfl
  have e2 : dk ks (vs.set i y) = (putF k y (obj ks vs)).map fun p => ((Sum.inr p.1 : Key), p.2) := by rw [obj_put nd hk hv]; rfl
  rw [e2]
  unfold putK
  rw [if_pos e1]
  clear e1 e2
  unfold dk
  have nk : ((obj ks vs).map (·.1)).Nodup := by
    clear hv hk
    induction ks generalizing vs with
    | nil => exact List.nodup_nil
    | cons k0 ks ih =>
      cases vs with
      | nil => exact List.nodup_nil
      | cons v vs =>
        have nd' := List.nodup_cons.mp nd
        refine List.nodup_cons.mpr ⟨fun z => nd'.1 ?_, ih nd'.2⟩
        clear ih nd nd'
        induction ks generalizing vs with
        | nil => simp [obj] at z
        | cons k1 ks ih2 =>
          cases vs with
          | nil => simp [obj] at z
          | cons v1 vs =>
            rcases List.mem_cons.mp z with e | z
            · rw [show k0 = k1 from e]; exact List.mem_cons_self ..
            · exact List.mem_cons_of_mem _ (ih2 (vs := vs) z)
  have hm : k ∈ (obj ks vs).map (·.1) := by
    have : ((obj ks vs).lookup k).isSome = true := by rw [obj_get nd hk, List.getElem?_eq_getElem hv]; rfl
    clear nk hv hk nd
    generalize obj ks vs = l at this ⊢
    induction l with
    | nil => cases this
    | cons p r ih =>
      by_cases e : k = p.1
      · rw [e]; exact List.mem_cons_self ..
      · rw [List.lookup_cons, beq_eq_false_iff_ne.mpr e] at this
        exact List.mem_cons_of_mem _ (ih this)
  generalize obj ks vs = l at nk hm ⊢
  clear nd hk hv
  induction l with
  | nil => cases hm
  | cons p r ih =>
    obtain ⟨n1, n2⟩ := List.nodup_cons.mp nk
    show _ = (if p.1 = k then (p.1, y) :: r else p :: putF k y r).map _
    by_cases e : p.1 = k
    · rw [if_pos e, List.map_cons, List.map_cons, List.map_cons]
      subst e
      rw [if_pos rfl]
      congr 1
      rw [List.map_map]
      refine List.map_congr_left fun q hq => ?_
      show (if (Sum.inr q.1 : Key) = Sum.inr p.1 then ((Sum.inr q.1 : Key), y) else (Sum.inr q.1, q.2)) = (Sum.inr q.1, q.2)
      rw [if_neg]
      intro z
      have w : p.1 ∈ r.map (·.1) := by
        rw [← Sum.inr.inj z]
        exact List.mem_map_of_mem (f := (·.1)) hq
      exact n1 w
    · rw [if_neg e, List.map_cons, List.map_cons, List.map_cons, if_neg (fun z => e (Sum.inr.inj z))]
      congr 1
      refine ih n2 ?_
      rcases List.mem_cons.mp hm with z | z
      · exact absurd z.symm e
      · exact z
theorem dk_new {ks : List Str} {vs : List V} {k : Str} {y : V} (nd : ks.Nodup) (hk : ks[vs.length]? = some k) : putK (dk ks vs) (.inr k) y = dk ks (vs ++ [y]) := by
  have e0 : (obj ks vs).lookup k = none := by rw [obj_get nd hk, List.getElem?_eq_none (Nat.le_refl _)]
  have e1 : ((dk ks vs).any fun kv => decide (kv.1 = .inr k)) = false := by
    unfold dk
    rw [map_any, e0]
    rfl
  unfold putK
  rw [e1, if_neg (by decide)]
  unfold dk
  have : obj ks (vs ++ [y]) = obj ks vs ++ [(k, y)] := by
    clear e0 e1 nd
    induction ks generalizing vs with
    | nil => cases hk
    | cons k0 ks ih =>
      cases vs with
      | nil =>
        have e : k0 = k := Option.some.inj hk
        subst e
        cases ks <;> rfl
      | cons v vs =>
        show (k0, v) :: obj ks (vs ++ [y]) = (k0, v) :: (obj ks vs ++ [(k, y)])
        rw [ih hk]
  rw [this, List.map_append]
  rfl
theorem dk_len {ks : List Str} {vs : List V} : (dk ks vs).length ≤ ks.length := by
  unfold dk
  rw [List.length_map]
  exact obj_len ks vs
theorem g_dput {H : Hp} {a : Addr} {ks : List Str} {vs : List V} {i : Nat} {k : Str} {v : V} {A : Hp → Prop} (ho : H a = some (.dK (dk ks vs))) (nd : ks.Nodup) (hl : ks.length < 100000) (hk : ks[i]? = some k) (hv : i < vs.length) (q : A (upd H a (.dK (dk ks (vs.set i v))))) : ∃ a' H', V.ref a = .ref a' ∧ DPut H a' (.str k) v H' ∧ A H' := by
  refine ⟨a, _, rfl, DPut.k (k := .inr k) ho (szl (Nat.lt_of_le_of_lt dk_len hl)), ?_⟩
  rw [dk_put nd hk hv]
  exact q
theorem g_dnew {H : Hp} {a : Addr} {ks : List Str} {vs : List V} {k : Str} {v : V} {A : Hp → Prop} (ho : H a = some (.dK (dk ks vs))) (nd : ks.Nodup) (hl : ks.length < 100000) (hk : ks[vs.length]? = some k) (q : A (upd H a (.dK (dk ks (vs ++ [v]))))) : ∃ a' H', V.ref a = .ref a' ∧ DPut H a' (.str k) v H' ∧ A H' := by
  refine ⟨a, _, rfl, DPut.k (k := .inr k) ho (szl (Nat.lt_of_le_of_lt dk_len hl)), ?_⟩
  rw [dk_new nd hk]
  exact q
local macro_rules | `(tactic| walk_at "use") => `(tactic| with_reducible first | refine g_dgetT ?_ | refine g_dputT ?_)

def kd_D : List Str := ["writable", "waiting", "readable", "finished", "at_end", "reset"]
theorem ndd_D : kd_D.Nodup := by decide +kernel
section
variable {H : Hp} {a : Addr} {vs : List V} {v y : V}
theorem dg_D_writable {A : V → Prop} (ho : H a = some (.dK (dk kd_D vs))) (hv : vs[0]? = some v) (q : A v) : ∃ a' v', V.ref a = .ref a' ∧ DGet H a' (.str "writable") (some v') ∧ A v' := g_dget ho ndd_D rfl hv q
theorem dp_D_writable {A : Hp → Prop} (ho : H a = some (.dK (dk kd_D vs))) (hv : 0 < vs.length) (q : A (upd H a (.dK (dk kd_D (vs.set 0 y))))) : ∃ a' H', V.ref a = .ref a' ∧ DPut H a' (.str "writable") y H' ∧ A H' := g_dput ho ndd_D (by decide) rfl hv q
theorem dn_D_writable {A : Hp → Prop} (ho : H a = some (.dK (dk kd_D vs))) (hv : vs.length = 0) (q : A (upd H a (.dK (dk kd_D (vs ++ [y]))))) : ∃ a' H', V.ref a = .ref a' ∧ DPut H a' (.str "writable") y H' ∧ A H' := g_dnew ho ndd_D (by decide) (by rw [hv]; rfl) q
theorem dg_D_waiting {A : V → Prop} (ho : H a = some (.dK (dk kd_D vs))) (hv : vs[1]? = some v) (q : A v) : ∃ a' v', V.ref a = .ref a' ∧ DGet H a' (.str "waiting") (some v') ∧ A v' := g_dget ho ndd_D rfl hv q
theorem dp_D_waiting {A : Hp → Prop} (ho : H a = some (.dK (dk kd_D vs))) (hv : 1 < vs.length) (q : A (upd H a (.dK (dk kd_D (vs.set 1 y))))) : ∃ a' H', V.ref a = .ref a' ∧ DPut H a' (.str "waiting") y H' ∧ A H' := g_dput ho ndd_D (by decide) rfl hv q
theorem dn_D_waiting {A : Hp → Prop} (ho : H a = some (.dK (dk kd_D vs))) (hv : vs.length = 1) (q : A (upd H a (.dK (dk kd_D (vs ++ [y]))))) : ∃ a' H', V.ref a = .ref a' ∧ DPut H a' (.str "waiting") y H' ∧ A H' := g_dnew ho ndd_D (by decide) (by rw [hv]; rfl) q
theorem dg_D_readable {A : V → Prop} (ho : H a = some (.dK (dk kd_D vs))) (hv : vs[2]? = some v) (q : A v) : ∃ a' v', V.ref a = .ref a' ∧ DGet H a' (.str "readable") (some v') ∧ A v' := g_dget ho ndd_D rfl hv q
theorem dp_D_readable {A : Hp → Prop} (ho : H a = some (.dK (dk kd_D vs))) (hv : 2 < vs.length) (q : A (upd H a (.dK (dk kd_D (vs.set 2 y))))) : ∃ a' H', V.ref a = .ref a' ∧ DPut H a' (.str "readable") y H' ∧ A H' := g_dput ho ndd_D (by decide) rfl hv q
theorem dn_D_readable {A : Hp → Prop} (ho : H a = some (.dK (dk kd_D vs))) (hv : vs.length = 2) (q : A (upd H a (.dK (dk kd_D (vs ++ [y]))))) : ∃ a' H', V.ref a = .ref a' ∧ DPut H a' (.str "readable") y H' ∧ A H' := g_dnew ho ndd_D (by decide) (by rw [hv]; rfl) q
theorem dg_D_finished {A : V → Prop} (ho : H a = some (.dK (dk kd_D vs))) (hv : vs[3]? = some v) (q : A v) : ∃ a' v', V.ref a = .ref a' ∧ DGet H a' (.str "finished") (some v') ∧ A v' := g_dget ho ndd_D rfl hv q
theorem dp_D_finished {A : Hp → Prop} (ho : H a = some (.dK (dk kd_D vs))) (hv : 3 < vs.length) (q : A (upd H a (.dK (dk kd_D (vs.set 3 y))))) : ∃ a' H', V.ref a = .ref a' ∧ DPut H a' (.str "finished") y H' ∧ A H' := g_dput ho ndd_D (by decide) rfl hv q
theorem dn_D_finished {A : Hp → Prop} (ho : H a = some (.dK (dk kd_D vs))) (hv : vs.length = 3) (q : A (upd H a (.dK (dk kd_D (vs ++ [y]))))) : ∃ a' H', V.ref a = .ref a' ∧ DPut H a' (.str "finished") y H' ∧ A H' := g_dnew ho ndd_D (by decide) (by rw [hv]; rfl) q
theorem dg_D_at_end {A : V → Prop} (ho : H a = some (.dK (dk kd_D vs))) (hv : vs[4]? = some v) (q : A v) : ∃ a' v', V.ref a = .ref a' ∧ DGet H a' (.str "at_end") (some v') ∧ A v' := g_dget ho ndd_D rfl hv q
theorem dp_D_at_end {A : Hp → Prop} (ho : H a = some (.dK (dk kd_D vs))) (hv : 4 < vs.length) (q : A (upd H a (.dK (dk kd_D (vs.set 4 y))))) : ∃ a' H', V.ref a = .ref a' ∧ DPut H a' (.str "at_end") y H' ∧ A H' := g_dput ho ndd_D (by decide) rfl hv q
theorem dn_D_at_end {A : Hp → Prop} (ho : H a = some (.dK (dk kd_D vs))) (hv : vs.length = 4) (q : A (upd H a (.dK (dk kd_D (vs ++ [y]))))) : ∃ a' H', V.ref a = .ref a' ∧ DPut H a' (.str "at_end") y H' ∧ A H' := g_dnew ho ndd_D (by decide) (by rw [hv]; rfl) q
theorem dg_D_reset {A : V → Prop} (ho : H a = some (.dK (dk kd_D vs))) (hv : vs[5]? = some v) (q : A v) : ∃ a' v', V.ref a = .ref a' ∧ DGet H a' (.str "reset") (some v') ∧ A v' := g_dget ho ndd_D rfl hv q
theorem dp_D_reset {A : Hp → Prop} (ho : H a = some (.dK (dk kd_D vs))) (hv : 5 < vs.length) (q : A (upd H a (.dK (dk kd_D (vs.set 5 y))))) : ∃ a' H', V.ref a = .ref a' ∧ DPut H a' (.str "reset") y H' ∧ A H' := g_dput ho ndd_D (by decide) rfl hv q
theorem dn_D_reset {A : Hp → Prop} (ho : H a = some (.dK (dk kd_D vs))) (hv : vs.length = 5) (q : A (upd H a (.dK (dk kd_D (vs ++ [y]))))) : ∃ a' H', V.ref a = .ref a' ∧ DPut H a' (.str "reset") y H' ∧ A H' := g_dnew ho ndd_D (by decide) (by rw [hv]; rfl) q
end
local macro_rules | `(tactic| walk_at "use") => `(tactic| first | ((with_reducible refine' dg_D_writable ?ho_ ?hv_ ?_); (case ho_ => first | assumption | exact upd_same); (case hv_ => exact rfl)) | ((with_reducible refine' dg_D_waiting ?ho_ ?hv_ ?_); (case ho_ => first | assumption | exact upd_same); (case hv_ => exact rfl)) | ((with_reducible refine' dg_D_readable ?ho_ ?hv_ ?_); (case ho_ => first | assumption | exact upd_same); (case hv_ => exact rfl)) | ((with_reducible refine' dg_D_finished ?ho_ ?hv_ ?_); (case ho_ => first | assumption | exact upd_same); (case hv_ => exact rfl)) | ((with_reducible refine' dg_D_at_end ?ho_ ?hv_ ?_); (case ho_ => first | assumption | exact upd_same); (case hv_ => exact rfl)) | ((with_reducible refine' dg_D_reset ?ho_ ?hv_ ?_); (case ho_ => first | assumption | exact upd_same); (case hv_ => exact rfl)) | ((with_reducible refine' dn_D_writable ?ho_ ?hv_ ?_); (case ho_ => first | assumption | exact upd_same); (case hv_ => exact rfl)) | ((with_reducible refine' dn_D_waiting ?ho_ ?hv_ ?_); (case ho_ => first | assumption | exact upd_same); (case hv_ => exact rfl)) | ((with_reducible refine' dn_D_readable ?ho_ ?hv_ ?_); (case ho_ => first | assumption | exact upd_same); (case hv_ => exact rfl)) | ((with_reducible refine' dn_D_finished ?ho_ ?hv_ ?_); (case ho_ => first | assumption | exact upd_same); (case hv_ => exact rfl)) | ((with_reducible refine' dn_D_at_end ?ho_ ?hv_ ?_); (case ho_ => first | assumption | exact upd_same); (case hv_ => exact rfl)) | ((with_reducible refine' dn_D_reset ?ho_ ?hv_ ?_); (case ho_ => first | assumption | exact upd_same); (case hv_ => exact rfl)) | ((with_reducible refine' dp_D_writable ?ho_ ?hv_ ?_); (case ho_ => first | assumption | exact upd_same); (case hv_ => exact Nat.le_of_ble_eq_true rfl)) | ((with_reducible refine' dp_D_waiting ?ho_ ?hv_ ?_); (case ho_ => first | assumption | exact upd_same); (case hv_ => exact Nat.le_of_ble_eq_true rfl)) | ((with_reducible refine' dp_D_readable ?ho_ ?hv_ ?_); (case ho_ => first | assumption | exact upd_same); (case hv_ => exact Nat.le_of_ble_eq_true rfl)) | ((with_reducible refine' dp_D_finished ?ho_ ?hv_ ?_); (case ho_ => first | assumption | exact upd_same); (case hv_ => exact Nat.le_of_ble_eq_true rfl)) | ((with_reducible refine' dp_D_at_end ?ho_ ?hv_ ?_); (case ho_ => first | assumption | exact upd_same); (case hv_ => exact Nat.le_of_ble_eq_true rfl)) | ((with_reducible refine' dp_D_reset ?ho_ ?hv_ ?_); (case ho_ => first | assumption | exact upd_same); (case hv_ => exact Nat.le_of_ble_eq_true rfl)))
local macro_rules | `(tactic| walk_at "use") => `(tactic| with_reducible first | refine g_dgetT ?_ | refine g_dputT ?_)
end My
namespace My
open PySem PySem.Spec L2
local macro_rules | `(tactic| walk_at "side") => `(tactic| first | assumption | decide | omega | exact ⟨by decide, by decide⟩ | exact ⟨by decide, by decide, by decide⟩ | decide +kernel | exact cdivW (by decide +kernel) (by decide +kernel) | exact Or.inl ⟨by omega, by omega⟩ | exact Or.inr ⟨by omega, by omega⟩ | (simp only [List.length_map, List.length_cons, List.length_nil, List.length_append]; omega))
local macro_rules | `(tactic| walk_at "fact") => `(tactic| first | assumption | omega | with_reducible rfl)
local macro_rules | `(tactic| walk_at "use") => `(tactic| fail "use")
local macro_rules | `(tactic| walk_at "go1") => `(tactic| with_reducible first | refine g_seq ?_ | refine g_asg ?_ | refine g_ret ?_ | refine g_ifS ?_ | refine g_drop ?_ | refine g_star ?_ | refine g_nx ?_ | refine g_rt ?_ | refine g_bkE ?_ | refine g_ctE ?_ | refine g_next ?_ | refine g_retN ?_ | refine g_brk ?_ | refine g_ct ?_ | refine g_c ?_ | refine g_op ?_ | refine g_un ?_ | refine g_rI0 ?_ | refine g_rU ?_ | refine g_rEqI ?_ | refine g_rNeI ?_ | refine g_isN ?_ | refine g_rIsB ?_ | refine g_rNotB ?_ | refine g_test ?_ | refine g_B ?_ | refine g_bl ?_ | refine g_and ?_ | refine g_or ?_ | refine g_not ?_ | refine g_andV ?_ | refine g_orV ?_ | refine g_notV ?_ | refine g_if ?_ | refine g_chain ?_ | refine g_yes ?_ | refine g_lc ?_ | refine g_revR ?_ | refine g_rng1 ?_ | refine g_iList ?_ | refine g_nil ?_ | refine g_cons ?_ | refine g_tup ?_ | refine g_lst ?_ | refine g_call ?_ | refine g_CB ?_ | refine g_sl ?_ | refine g_noPart ?_ | refine g_part ?_ | refine g_intE ?_ | refine g_ref ?_ | refine g_fld ?_ | refine g_sfld ?_ | refine g_meth ?_ | refine g_make ?_ | refine g_prop ?_  | refine g_ipI ?_ | refine g_int1 ?_ | refine g_int1B ?_ | refine g_one ?_ | refine g_two ?_ | refine g_isiI ?_ | refine g_isiIB ?_ | refine g_isiB ?_ | refine g_BM ?_ | refine g_BM0 ?_ | refine g_sub ?_)
local macro_rules | `(tactic| walk_at "go") => `(tactic| repeat (first | walk_at "go1" | ((with_reducible refine' g_nameE ?sd_ ?_); case sd_ => dsimp only [List.set_cons_succ, List.set_cons_zero]) | ((with_reducible refine' g_var ?sd_ ?_); case sd_ => exact rfl) | ((with_reducible refine' g_aug ?sd_ ?_); case sd_ => exact rfl) | ((with_reducible refine' g_rI ?sd_ ?_); case sd_ => walk_at "side") | ((with_reducible refine' g_dT ?sd_ ?_); case sd_ => walk_at "fact") | ((with_reducible refine' g_dF ?sd_ ?_); case sd_ => walk_at "fact") | ((with_reducible refine' g_nT ?sd_ ?_); case sd_ => walk_at "fact") | ((with_reducible refine' g_nF ?sd_ ?_); case sd_ => walk_at "fact") | (with_reducible refine g_iT rfl ?_) | (with_reducible refine g_iF rfl ?_) | walk_at "use"))
local macro_rules | `(tactic| walk_at "nw") => `(tactic| (generalize zq : upd _ _ _ = Hq; have sq : Same _ Hq := (by rw [← zq]; exact same_upd (by assumption)); have kq := (congrFun zq _).symm.trans upd_same; clear zq))
local macro_rules | `(tactic| walk_at "bt") => `(tactic| (generalize zq : upd _ _ _ = Hq; have bq : But _ _ Hq := (by rw [← zq]; exact But.refl.upd); have kq := (congrFun zq _).symm.trans upd_same; clear zq))
theorem kb_pure {K : PySem.W.Frag} {x qual : Str} {params : Arguments} {body : List Stmt} {scope : Scope} {kws : List (Str × V)} {f : Addr} {fd : FuncData} {ps : List Str} (F : FunD K x qual params body scope [] kws f fd) (n : Nat) (ks : List Str) (g : {α : Type} → List α → List α → List α)
    (hrel : ∀ {vs zs : List V} {us ws : List Value}, Vals vs us → Vals zs ws → Vals (g vs zs) (g us ws))
    (h : ∀ (kV doc pm : Value) (an : Option Addr) (cdv ct : Value) (us ws : List Value), us.length = n → ws.length = ks.length → bindArgs (PySem.W.fnOf x qual params body scope .none kV doc pm an cdv ct) ⟨us, ks.zip ws⟩ = pure (ps.zip (g us ws))) :
    KBn K fd ps n ks (fun us ws => g us ws) (fun vs zs => g vs zs) := by
  obtain ⟨oc, od, dV, kV, doc, pm, an, cdv, ct, osl, rfl, lk, hcd, hD, hK⟩ := F.ex
  rcases hD with ⟨_, rfl⟩ | ⟨e, _⟩
  · exact ⟨fun s us ws X l1 l2 => .of_eq (h kV doc pm an cdv ct us ws l1 l2), fun r1 r2 => hrel r1 r2⟩
  · exact absurd rfl e
theorem pe_callN0 {X : Cx} {CX : CXT} {k : Nat} {f : Addr} {fd : FuncData} {ps ks : List Str} {sp : Sp} {E : XK} {x : Str} {p pos : Pos} {kws : List Keyword} {tk : TA} {g : List Value → List Value → List Value} {gV : List V → List V → List V} (F : FnOk X.prog X.w X.K X.mg X.base CX k f fd ps sp) (hr : Room k X.A) (hg : Gl X x) (hm : X.mg x = some (.ref f)) (hk : PySem.W.keepIn X.K (.ref f) = true) (hb : KBn X.K fd ps 0 ks g gV) (hx : Passes CX X E)
    (hkw : PK X kws tk) (hall : (backToKw pos (keywordEach kws X.env)).all (·.1.isSome) = true := by rfl) (hks : (backToKw pos (keywordEach kws X.env)).filterMap (·.1) = ks := by rfl)
    (hdb : (x == ("__debug__" : Str)) = false := by decide)
    (hpl : ((backTo pos (starEach [] X.env)).any (·.1) || (backToKw pos (keywordEach kws X.env)).any (·.1.isNone)) = false := by rfl) :
    PE X (.Call (.Name x p) [] kws pos) (tCallN 0 ks.length sp gV E tNil tk) := by
  refine ⟨fun pins s σ H Q I h => ?_⟩
  refine wpAny_Call_Name_kw (ld_glob I hg hm ?_ hdb)
  refine PySem.W.callWith_KW0 (h₀ := X.base) I.ok.mod.kin hk hall ?_ hpl
  refine thn (hkw.run pos pins s σ H _ I h) fun ws s2 ⟨zs, H2, I2, rz, l1, l2, q2⟩ => ⟨I2.kIn, ?_⟩
  rw [hks]
  exact run_fnN (us := []) (vs := []) F hr hb hx I2 .nil rz rfl l2 q2
theorem g_callN {n m : Nat} {sp : Sp} {gV : List V → List V → List V} {E : XK} {t tk : TA} {σ : St} {H : Hp} {Q : VK} (h : t σ H fun vs H1 => tk σ H1 fun zs H2 => vs.length = n ∧ zs.length = m ∧ sp (gV vs zs) H2 Q E) : tCallN n m sp gV E t tk σ H Q := h
local macro_rules | `(tactic| walk_at "use") => `(tactic| with_reducible refine g_callN ?_)

local macro_rules | `(tactic| walk_at "use") => `(tactic| first | ((with_reducible refine' fd_Channel_number ?ho_ ?hv_ ?_); (case ho_ => first | assumption | exact upd_same); (case hv_ => exact rfl)) | ((with_reducible refine' fd_Channel_announced ?ho_ ?hv_ ?_); (case ho_ => first | assumption | exact upd_same); (case hv_ => exact rfl)) | ((with_reducible refine' fd_Channel_queue ?ho_ ?hv_ ?_); (case ho_ => first | assumption | exact upd_same); (case hv_ => exact rfl)) | ((with_reducible refine' fd_Channel_credit ?ho_ ?hv_ ?_); (case ho_ => first | assumption | exact upd_same); (case hv_ => exact rfl)) | ((with_reducible refine' fd_Channel_finished ?ho_ ?hv_ ?_); (case ho_ => first | assumption | exact upd_same); (case hv_ => exact rfl)) | ((with_reducible refine' fd_Channel_end_sent ?ho_ ?hv_ ?_); (case ho_ => first | assumption | exact upd_same); (case hv_ => exact rfl)) | ((with_reducible refine' fd_Channel_unread ?ho_ ?hv_ ?_); (case ho_ => first | assumption | exact upd_same); (case hv_ => exact rfl)) | ((with_reducible refine' fd_Channel_due ?ho_ ?hv_ ?_); (case ho_ => first | assumption | exact upd_same); (case hv_ => exact rfl)) | ((with_reducible refine' fd_Channel_end_came ?ho_ ?hv_ ?_); (case ho_ => first | assumption | exact upd_same); (case hv_ => exact rfl)) | ((with_reducible refine' fd_Channel_broken ?ho_ ?hv_ ?_); (case ho_ => first | assumption | exact upd_same); (case hv_ => exact rfl)) | ((with_reducible refine' fd_Channel_reset_told ?ho_ ?hv_ ?_); (case ho_ => first | assumption | exact upd_same); (case hv_ => exact rfl)) | ((with_reducible refine' nw_Channel_number ?ho_ ?hv_ ?_); (case ho_ => first | assumption | exact upd_same); (case hv_ => exact rfl)) | ((with_reducible refine' nw_Channel_announced ?ho_ ?hv_ ?_); (case ho_ => first | assumption | exact upd_same); (case hv_ => exact rfl)) | ((with_reducible refine' nw_Channel_queue ?ho_ ?hv_ ?_); (case ho_ => first | assumption | exact upd_same); (case hv_ => exact rfl)) | ((with_reducible refine' nw_Channel_credit ?ho_ ?hv_ ?_); (case ho_ => first | assumption | exact upd_same); (case hv_ => exact rfl)) | ((with_reducible refine' nw_Channel_finished ?ho_ ?hv_ ?_); (case ho_ => first | assumption | exact upd_same); (case hv_ => exact rfl)) | ((with_reducible refine' nw_Channel_end_sent ?ho_ ?hv_ ?_); (case ho_ => first | assumption | exact upd_same); (case hv_ => exact rfl)) | ((with_reducible refine' nw_Channel_unread ?ho_ ?hv_ ?_); (case ho_ => first | assumption | exact upd_same); (case hv_ => exact rfl)) | ((with_reducible refine' nw_Channel_due ?ho_ ?hv_ ?_); (case ho_ => first | assumption | exact upd_same); (case hv_ => exact rfl)) | ((with_reducible refine' nw_Channel_end_came ?ho_ ?hv_ ?_); (case ho_ => first | assumption | exact upd_same); (case hv_ => exact rfl)) | ((with_reducible refine' nw_Channel_broken ?ho_ ?hv_ ?_); (case ho_ => first | assumption | exact upd_same); (case hv_ => exact rfl)) | ((with_reducible refine' nw_Channel_reset_told ?ho_ ?hv_ ?_); (case ho_ => first | assumption | exact upd_same); (case hv_ => exact rfl)) | ((with_reducible refine' st_Channel_number ?ho_ ?hv_ ?_); (case ho_ => first | assumption | exact upd_same); (case hv_ => exact Nat.le_of_ble_eq_true rfl)) | ((with_reducible refine' st_Channel_announced ?ho_ ?hv_ ?_); (case ho_ => first | assumption | exact upd_same); (case hv_ => exact Nat.le_of_ble_eq_true rfl)) | ((with_reducible refine' st_Channel_queue ?ho_ ?hv_ ?_); (case ho_ => first | assumption | exact upd_same); (case hv_ => exact Nat.le_of_ble_eq_true rfl)) | ((with_reducible refine' st_Channel_credit ?ho_ ?hv_ ?_); (case ho_ => first | assumption | exact upd_same); (case hv_ => exact Nat.le_of_ble_eq_true rfl)) | ((with_reducible refine' st_Channel_finished ?ho_ ?hv_ ?_); (case ho_ => first | assumption | exact upd_same); (case hv_ => exact Nat.le_of_ble_eq_true rfl)) | ((with_reducible refine' st_Channel_end_sent ?ho_ ?hv_ ?_); (case ho_ => first | assumption | exact upd_same); (case hv_ => exact Nat.le_of_ble_eq_true rfl)) | ((with_reducible refine' st_Channel_unread ?ho_ ?hv_ ?_); (case ho_ => first | assumption | exact upd_same); (case hv_ => exact Nat.le_of_ble_eq_true rfl)) | ((with_reducible refine' st_Channel_due ?ho_ ?hv_ ?_); (case ho_ => first | assumption | exact upd_same); (case hv_ => exact Nat.le_of_ble_eq_true rfl)) | ((with_reducible refine' st_Channel_end_came ?ho_ ?hv_ ?_); (case ho_ => first | assumption | exact upd_same); (case hv_ => exact Nat.le_of_ble_eq_true rfl)) | ((with_reducible refine' st_Channel_broken ?ho_ ?hv_ ?_); (case ho_ => first | assumption | exact upd_same); (case hv_ => exact Nat.le_of_ble_eq_true rfl)) | ((with_reducible refine' st_Channel_reset_told ?ho_ ?hv_ ?_); (case ho_ => first | assumption | exact upd_same); (case hv_ => exact Nat.le_of_ble_eq_true rfl)) | ((with_reducible refine' me_Channel_break_off ?ho_ ?_); (case ho_ => first | assumption | exact upd_same)) | ((with_reducible refine' me_Channel_fork ?ho_ ?_); (case ho_ => first | assumption | exact upd_same)))
local macro_rules | `(tactic| walk_at "use") => `(tactic| first | ((with_reducible refine' fd_Channels_failure ?ho_ ?hv_ ?_); (case ho_ => first | assumption | exact upd_same); (case hv_ => exact rfl)) | ((with_reducible refine' fd_Channels__window ?ho_ ?hv_ ?_); (case ho_ => first | assumption | exact upd_same); (case hv_ => exact rfl)) | ((with_reducible refine' fd_Channels__most ?ho_ ?hv_ ?_); (case ho_ => first | assumption | exact upd_same); (case hv_ => exact rfl)) | ((with_reducible refine' fd_Channels__next_here ?ho_ ?hv_ ?_); (case ho_ => first | assumption | exact upd_same); (case hv_ => exact rfl)) | ((with_reducible refine' fd_Channels__next_there ?ho_ ?hv_ ?_); (case ho_ => first | assumption | exact upd_same); (case hv_ => exact rfl)) | ((with_reducible refine' fd_Channels__channels ?ho_ ?hv_ ?_); (case ho_ => first | assumption | exact upd_same); (case hv_ => exact rfl)) | ((with_reducible refine' fd_Channels__numbers ?ho_ ?hv_ ?_); (case ho_ => first | assumption | exact upd_same); (case hv_ => exact rfl)) | ((with_reducible refine' fd_Channels__turns ?ho_ ?hv_ ?_); (case ho_ => first | assumption | exact upd_same); (case hv_ => exact rfl)) | ((with_reducible refine' fd_Channels__offered ?ho_ ?hv_ ?_); (case ho_ => first | assumption | exact upd_same); (case hv_ => exact rfl)) | ((with_reducible refine' fd_Channels__going ?ho_ ?hv_ ?_); (case ho_ => first | assumption | exact upd_same); (case hv_ => exact rfl)) | ((with_reducible refine' fd_Channels__coming ?ho_ ?hv_ ?_); (case ho_ => first | assumption | exact upd_same); (case hv_ => exact rfl)) | ((with_reducible refine' nw_Channels_failure ?ho_ ?hv_ ?_); (case ho_ => first | assumption | exact upd_same); (case hv_ => exact rfl)) | ((with_reducible refine' nw_Channels__window ?ho_ ?hv_ ?_); (case ho_ => first | assumption | exact upd_same); (case hv_ => exact rfl)) | ((with_reducible refine' nw_Channels__most ?ho_ ?hv_ ?_); (case ho_ => first | assumption | exact upd_same); (case hv_ => exact rfl)) | ((with_reducible refine' nw_Channels__next_here ?ho_ ?hv_ ?_); (case ho_ => first | assumption | exact upd_same); (case hv_ => exact rfl)) | ((with_reducible refine' nw_Channels__next_there ?ho_ ?hv_ ?_); (case ho_ => first | assumption | exact upd_same); (case hv_ => exact rfl)) | ((with_reducible refine' nw_Channels__channels ?ho_ ?hv_ ?_); (case ho_ => first | assumption | exact upd_same); (case hv_ => exact rfl)) | ((with_reducible refine' nw_Channels__numbers ?ho_ ?hv_ ?_); (case ho_ => first | assumption | exact upd_same); (case hv_ => exact rfl)) | ((with_reducible refine' nw_Channels__turns ?ho_ ?hv_ ?_); (case ho_ => first | assumption | exact upd_same); (case hv_ => exact rfl)) | ((with_reducible refine' nw_Channels__offered ?ho_ ?hv_ ?_); (case ho_ => first | assumption | exact upd_same); (case hv_ => exact rfl)) | ((with_reducible refine' nw_Channels__going ?ho_ ?hv_ ?_); (case ho_ => first | assumption | exact upd_same); (case hv_ => exact rfl)) | ((with_reducible refine' nw_Channels__coming ?ho_ ?hv_ ?_); (case ho_ => first | assumption | exact upd_same); (case hv_ => exact rfl)) | ((with_reducible refine' st_Channels_failure ?ho_ ?hv_ ?_); (case ho_ => first | assumption | exact upd_same); (case hv_ => exact Nat.le_of_ble_eq_true rfl)) | ((with_reducible refine' st_Channels__window ?ho_ ?hv_ ?_); (case ho_ => first | assumption | exact upd_same); (case hv_ => exact Nat.le_of_ble_eq_true rfl)) | ((with_reducible refine' st_Channels__most ?ho_ ?hv_ ?_); (case ho_ => first | assumption | exact upd_same); (case hv_ => exact Nat.le_of_ble_eq_true rfl)) | ((with_reducible refine' st_Channels__next_here ?ho_ ?hv_ ?_); (case ho_ => first | assumption | exact upd_same); (case hv_ => exact Nat.le_of_ble_eq_true rfl)) | ((with_reducible refine' st_Channels__next_there ?ho_ ?hv_ ?_); (case ho_ => first | assumption | exact upd_same); (case hv_ => exact Nat.le_of_ble_eq_true rfl)) | ((with_reducible refine' st_Channels__channels ?ho_ ?hv_ ?_); (case ho_ => first | assumption | exact upd_same); (case hv_ => exact Nat.le_of_ble_eq_true rfl)) | ((with_reducible refine' st_Channels__numbers ?ho_ ?hv_ ?_); (case ho_ => first | assumption | exact upd_same); (case hv_ => exact Nat.le_of_ble_eq_true rfl)) | ((with_reducible refine' st_Channels__turns ?ho_ ?hv_ ?_); (case ho_ => first | assumption | exact upd_same); (case hv_ => exact Nat.le_of_ble_eq_true rfl)) | ((with_reducible refine' st_Channels__offered ?ho_ ?hv_ ?_); (case ho_ => first | assumption | exact upd_same); (case hv_ => exact Nat.le_of_ble_eq_true rfl)) | ((with_reducible refine' st_Channels__going ?ho_ ?hv_ ?_); (case ho_ => first | assumption | exact upd_same); (case hv_ => exact Nat.le_of_ble_eq_true rfl)) | ((with_reducible refine' st_Channels__coming ?ho_ ?hv_ ?_); (case ho_ => first | assumption | exact upd_same); (case hv_ => exact Nat.le_of_ble_eq_true rfl)) | ((with_reducible refine' me_Channels_len__ ?ho_ ?_); (case ho_ => first | assumption | exact upd_same)) | ((with_reducible refine' me_Channels_iter__ ?ho_ ?_); (case ho_ => first | assumption | exact upd_same)) | ((with_reducible refine' me_Channels_open_channel ?ho_ ?_); (case ho_ => first | assumption | exact upd_same)) | ((with_reducible refine' me_Channels_accept ?ho_ ?_); (case ho_ => first | assumption | exact upd_same)) | ((with_reducible refine' me_Channels_finish ?ho_ ?_); (case ho_ => first | assumption | exact upd_same)) | ((with_reducible refine' me_Channels_reset ?ho_ ?_); (case ho_ => first | assumption | exact upd_same)) | ((with_reducible refine' me_Channels_status ?ho_ ?_); (case ho_ => first | assumption | exact upd_same)) | ((with_reducible refine' me_Channels_take ?ho_ ?_); (case ho_ => first | assumption | exact upd_same)) | ((with_reducible refine' me_Channels_receive ?ho_ ?_); (case ho_ => first | assumption | exact upd_same)) | ((with_reducible refine' me_Channels_fork ?ho_ ?_); (case ho_ => first | assumption | exact upd_same)) | ((with_reducible refine' me_Channels_known ?ho_ ?_); (case ho_ => first | assumption | exact upd_same)) | ((with_reducible refine' me_Channels_add ?ho_ ?_); (case ho_ => first | assumption | exact upd_same)) | ((with_reducible refine' me_Channels_room_of ?ho_ ?_); (case ho_ => first | assumption | exact upd_same)) | ((with_reducible refine' me_Channels_take_frame ?ho_ ?_); (case ho_ => first | assumption | exact upd_same)) | ((with_reducible refine' me_Channels_failure_of ?ho_ ?_); (case ho_ => first | assumption | exact upd_same)) | ((with_reducible refine' me_Channels_apply ?ho_ ?_); (case ho_ => first | assumption | exact upd_same)))
section
variable {P : Program} {w : World} {K : PySem.W.Frag} {mg : Str → Option Value} {base : Heap}
/-! ### exceptions -/
section
variable {X : Cx} {K : PySem.W.Frag} {σ : St} {H : Hp} {Q : VK} {W : WX} {D : Ends} {C : Addr} {ta : TE} {t : St → Hp → XK → Prop}
def tRaise (t : St → Hp → XK → Prop) (W : WX) : TS := fun _ σ H => t σ H fun cls d H' => W cls d σ H'
theorem ps_rs {e : Expr} {pos : Pos} (hc : X.calm = true) (tk : Takes X W) (he : PMk X e t) : PS X (.Raise (some e) none pos) (tRaise t W) := ps_raise hc tk he
def tMk0 (C : Addr) : St → Hp → XK → Prop := fun _ H Q => Q (.ref C) none H
def tMk1 (C : Addr) (ta : TE) : St → Hp → XK → Prop := fun σ H Q => ta σ H fun _ H1 => Q (.ref C) none H1
theorem pmk_0 {x m : Str} {j : Nat} {p p2 pos : Pos} {bmB : List Value} {B newId initId : String} (F : ExcBaseFacts B newId initId bmB) (q : PySem.W.excIn X.K C bmB newId = true) (gC : X.mg x = some (.ref C)) (kC : PySem.W.keepIn X.K (.ref C) = true) (r : Raises X (.ref C)) (hg : Gl X x)
    (hdb : (x == ("__debug__" : Str)) = false := by decide) : PMk X (.Call (.Name x p) [.Constant (.str m) j p2] [] pos) (tMk0 C) := pmk_own F q gC kC r hg hdb
theorem pmk_1 {x : Str} {e : Expr} {p pos : Pos} {bmB : List Value} {B newId initId : String} (F : ExcBaseFacts B newId initId bmB) (q : PySem.W.excIn X.K C bmB newId = true) (gC : X.mg x = some (.ref C)) (kC : PySem.W.keepIn X.K (.ref C) = true) (r : Raises X (.ref C)) (hg : Gl X x)
    (he : PE X e ta) (hs : starEach [e] X.env = (false, eval e X.env) :: starEach [] X.env := by rfl) (hdb : (x == ("__debug__" : Str)) = false := by decide) : PMk X (.Call (.Name x p) [e] [] pos) (tMk1 C ta) := SkE.pmk_own1 F q gC kC r hg he hs hdb
theorem g_rs0 (q : W (.ref C) none σ H) : tRaise (tMk0 C) W D σ H := q
theorem g_rs1 (h : ta σ H fun _ H1 => W (.ref C) none σ H1) : tRaise (tMk1 C ta) W D σ H := h
def tTryA (K : PySem.W.Frag) (c : Value) (i : Nat) (tb : WX → TS) (ts : Addr → Value → Option Addr → TS) (Wout : WX) : TS := fun D σ H => tb (wAs K c i ts Wout D) D σ H
def tTryO (K : PySem.W.Frag) (c : Value) (tb : WX → TS) (ts : Addr → Value → Option Addr → TS) (Wout : WX) : TS := fun D σ H => tb (wOnly K c ts Wout D) D σ H
theorem ps_tryA {x n : Str} {c : Value} {i : Nat} {body suite : List Stmt} {b₀ : Stmt} {np pos pos' : Pos} {tb : WX → TS} {ts : Addr → Value → Option Addr → TS} {Wout : WX} (hs : X.stack = X.env :: X.outer) (hf : X.env.frame = some X.env.locals) (hN : X.N.Nodup) (hi : X.N[i]? = some n) (hln : X.env.kindOf n = some .local) (hc : Names X x c) (tk : Takes X Wout)
    (hb : ∀ (W : WX) (pn : List (Addr × Obj)) (xe : Value → Shared → Prop), Takes (X.tr pn xe) W → PassesOwn (model X.prog X.w) X.A X.env xe → PSs (X.tr pn xe) body (tb W))
    (hsu : ∀ (a : Addr) (oe : Obj) (cls : Value) (d : Option Addr) (pn : List (Addr × Obj)), Zc cls d oe → (∃ vs, oe.data = .fields vs) → PSs (X.suite a ((a, oe) :: pn)) (b₀ :: suite) (ts a cls d)) :
    PS X (.Try body [.ExceptHandler (some (.Name x np)) (some n) (b₀ :: suite) pos'] [] [] pos) (tTryA X.K c i tb ts Wout) := ps_try_as hs hf hN hi hln hc tk hb hsu
theorem ps_tryO {x : Str} {c : Value} {body suite : List Stmt} {b₀ : Stmt} {np pos pos' : Pos} {tb : WX → TS} {ts : Addr → Value → Option Addr → TS} {Wout : WX} (hs : X.stack = X.env :: X.outer) (hf : X.env.frame = some X.env.locals) (hc : Names X x c) (tk : Takes X Wout)
    (hb : ∀ (W : WX) (pn : List (Addr × Obj)) (xe : Value → Shared → Prop), Takes (X.tr pn xe) W → PassesOwn (model X.prog X.w) X.A X.env xe → PSs (X.tr pn xe) body (tb W))
    (hsu : ∀ (a : Addr) (oe : Obj) (cls : Value) (d : Option Addr) (pn : List (Addr × Obj)), Zc cls d oe → (∃ vs, oe.data = .fields vs) → PSs (X.suite a ((a, oe) :: pn)) (b₀ :: suite) (ts a cls d)) :
    PS X (.Try body [.ExceptHandler (some (.Name x np)) none (b₀ :: suite) pos'] [] [] pos) (tTryO X.K c tb ts Wout) := ps_try_only hs hf hc tk hb hsu
variable {c cls : Value} {d : Option Addr} {i : Nat} {tb : WX → TS} {ts : Addr → Value → Option Addr → TS} {Wout : WX}
theorem g_tryA (h : tb (wAs K c i ts Wout D) D σ H) : tTryA K c i tb ts Wout D σ H := h
theorem g_tryO (h : tb (wOnly K c ts Wout D) D σ H) : tTryO K c tb ts Wout D σ H := h
theorem g_caught (e : PySem.W.exmOne K cls c = some true) (h : ∀ a, H a = none → ts a cls d { nx := fun σ' H' => D.nx (σ'.set i none) H', rt := D.rt, bk := fun σ' H' => D.bk (σ'.set i none) H', ct := fun σ' H' => D.ct (σ'.set i none) H' } (σ.set i (some (.ref a))) H) :
    wAs K c i ts Wout D cls d σ H := ⟨true, e, fun _ => h, fun z => nomatch z⟩
theorem g_caughtO (e : PySem.W.exmOne K cls c = some true) (h : ∀ a, H a = none → ts a cls d D σ H) : wOnly K c ts Wout D cls d σ H := ⟨true, e, fun _ => h, fun z => nomatch z⟩
theorem g_callS {sp : Sp} {E : St → XK} {t : TA} (h : t σ H fun vs H1 => sp vs H1 Q (E σ)) : tCallS sp E t σ H Q := h
/-- isinstance(e, c), e the exception that the suite holds, of a class known later -/
def rIsE2 (K : PySem.W.Frag) (a : Addr) (cls : Value) (d : Option Addr) : List V → Hp → VK → Prop := fun xs H Q => ∃ (D : Addr) (c : V) (cv : Value) (b : Bool), cls = .ref D ∧ d = none ∧ ExcC K D ∧ xs = [.ref a, c] ∧ (∀ u, RelV c u → u = cv) ∧ PySem.W.kitOne K (.ref D) cv = some b ∧ Q (.bl b) H
theorem call_isE2 {a : Addr} {oe : Obj} {pn : List (Addr × Obj)} (hz : Zc cls d oe) (hf : ∃ vs, oe.data = .fields vs) : CallR (X.suite a ((a, oe) :: pn)) (.builtin "isinstance") (rIsE2 X.K a cls d) := by
  intro pins s σ H xs us Q I r h
  obtain ⟨D, c, cv, b, rfl, rfl, C, e1, hcv, e, q⟩ := h
  exact call_isE C hz hf pins s σ H xs us Q I r ⟨c, cv, b, e1, hcv, e, q⟩
theorem g_isER {R B a : Addr} {b : Bool} (C : ExcC K R) (e : PySem.W.kitOne K (.ref R) (.ref B) = some b) (q : Q (.bl b) H) : rIsE2 K a (.ref R) none [.ref a, .ref B] H Q := ⟨R, _, _, b, rfl, rfl, C, rfl, fun u r => by cases r; rfl, e, q⟩
theorem g_isET {R a : Addr} {T : String} {b : Bool} (C : ExcC K R) (e : PySem.W.kitOne K (.ref R) (.type T) = some b) (q : Q (.bl b) H) : rIsE2 K a (.ref R) none [.ref a, .ty T] H Q := ⟨R, _, _, b, rfl, rfl, C, rfl, fun u r => by cases r; rfl, e, q⟩
/-! f-strings -/
def tJoined (ts : List TE) : TE := fun σ H Q => tJs ts Str.empty σ H fun out H1 => Q (.str out) H1
theorem pe_joinedJ {v1 v2 : Expr} {rest : List Expr} {ts : List TE} {pos : Pos} (h : PJ X (v1 :: v2 :: rest) ts) : PE X (.JoinedStr (v1 :: v2 :: rest) pos) (tJoined ts) := pe_joined h
theorem g_joined {ts : List TE} (h : tJs ts Str.empty σ H fun out H1 => Q (.str out) H1) : tJoined ts σ H Q := h
theorem g_jsnil {acc : Str} {A : Str → Hp → Prop} (q : A acc H) : tJs [] acc σ H A := q
theorem g_jscons {acc : Str} {A : Str → Hp → Prop} {t : TE} {ts : List TE} (h : t σ H fun x H1 => ∃ y : Str, x = .str y ∧ (acc ++ y).length ≤ sizeLine ∧ tJs ts (acc ++ y) σ H1 A) : tJs (t :: ts) acc σ H A := h
theorem g_jsE {acc y : Str} {A : Str → Prop} (h1 : (acc ++ y).length ≤ sizeLine) (q : A y) : ∃ y' : Str, V.str y = .str y' ∧ (acc ++ y').length ≤ sizeLine ∧ A y' := ⟨y, rfl, h1, q⟩
def rAddS : R2 := fun x y H Q => ∃ i j : Str, x = .str i ∧ y = .str j ∧ i.length + j.length ≤ sizeLine ∧ Q (.str (i ++ j)) H
theorem op_addS : OpR X (binaryOp .Add) rAddS := op_add_str
theorem g_addS {y z : Str} (h : y.length + z.length ≤ 16777216) (q : Q (.str (y ++ z)) H) : rAddS (.str y) (.str z) H Q := ⟨y, z, rfl, rfl, by rw [sizeLine_eq]; exact h, q⟩
theorem g_slS {y : Str} {lo hi : Option Int} (h : y.length ≤ 16777216) (q : Q (.str (cutS y lo hi)) H) : rSlS (.str y) lo hi H Q := ⟨y, rfl, by rw [sizeLine_eq]; exact h, q⟩
theorem g_m0 {r : V → List V → Hp → VK → Prop} {to : TE} (h : to σ H fun x H1 => (∃ a, x = V.str a) ∧ r x [] H1 Q) : tM0 r to σ H Q := h
theorem g_fmtS {y : Str} {A : Str → Prop} {B : Int → Prop} (h : y.length ≤ sizeLine) (q : A y) : (∃ y' : Str, V.str y = .str y' ∧ y'.length ≤ sizeLine ∧ A y') ∨ ∃ i : Int, V.str y = .int i ∧ i.natAbs.log2 < 1920 ∧ B i := .inl ⟨y, rfl, h, q⟩
theorem g_fmtI {j : Int} {A : Str → Prop} {B : Int → Prop} (h : j.natAbs.log2 < 1920) (q : B j) : (∃ y' : Str, V.int j = .str y' ∧ y'.length ≤ sizeLine ∧ A y') ∨ ∃ i : Int, V.int j = .int i ∧ i.natAbs.log2 < 1920 ∧ B i := .inr ⟨j, rfl, h, q⟩
theorem g_fmt (h : ta σ H fun x H1 => (∃ y : Str, x = .str y ∧ y.length ≤ sizeLine ∧ Q (.str y) H1) ∨ ∃ i : Int, x = .int i ∧ i.natAbs.log2 < 1920 ∧ Q (.str (toString i)) H1) : tFmt ta σ H Q := h
end
theorem kit_refT {K : PySem.W.Frag} {t : Value} {C : Addr} (a : PySem.W.isClsIn K C = true) (b : PySem.W.typeIn K (.ref C) = some (.type "type")) (c : PySem.W.subIn K t (.ref C) = some true) : PySem.W.kitOne K t (.ref C) = some true := by
  unfold PySem.W.isClsIn at a
  unfold PySem.W.kitOne
  by_cases z : (t == Value.ref C) = true
  · rw [if_pos z]
  · rw [if_neg z]
    show (if ((PySem.W.clsIn K C).isSome && PySem.W.typeIn K (.ref C) == some (.type "type")) = true then PySem.W.subIn K t (.ref C) else none) = some true
    rw [a, b, if_pos (by rw [Bool.true_and]; exact beq_self_eq_true _)]
    exact c
theorem kit_refF {K : PySem.W.Frag} {R C : Addr} (a : PySem.W.isClsIn K C = true) (b : PySem.W.typeIn K (.ref C) = some (.type "type")) (c : PySem.W.subIn K (.ref R) (.ref C) = some false) (r : PySem.W.subIn K (.ref R) (.ref R) = some true) : PySem.W.kitOne K (.ref R) (.ref C) = some false := by
  unfold PySem.W.isClsIn at a
  unfold PySem.W.kitOne
  by_cases z : (Value.ref R == Value.ref C) = true
  · have e : Value.ref R = Value.ref C := beq_iff_eq.mp z
    injection e with e
    subst e
    rw [c] at r
    cases r
  · rw [if_neg z]
    show (if ((PySem.W.clsIn K C).isSome && PySem.W.typeIn K (.ref C) == some (.type "type")) = true then PySem.W.subIn K (.ref R) (.ref C) else none) = some false
    rw [a, b, if_pos (by rw [Bool.true_and]; exact beq_self_eq_true _)]
    exact c
theorem kit_tyT {K : PySem.W.Frag} {R : Addr} {T : String} {b : Bool} (a : PySem.W.kitMeta T = true) (c : PySem.W.subIn K (.ref R) (.type T) = some b) : PySem.W.kitOne K (.ref R) (.type T) = some b := by
  unfold PySem.W.kitOne
  rw [if_neg (by show ¬ (Value.ref R == Value.type T) = true; exact fun h => by cases (beq_iff_eq.mp h))]
  show (if PySem.W.kitMeta T = true then PySem.W.subIn K (.ref R) (.type T) else none) = some b
  rw [if_pos a]
  exact c
/-! a written dict with texts as keys -/
theorem ns_entry {K : PySem.W.Frag} {a : Addr} {c : Value} {d : Option Addr} {es : Array DictEntry} {n : Nat} {sl : Array (Option Value)} {x : Str} {u : Value} (h : K.lookup a = some ⟨c, d, .dict es n, sl⟩) (e : (es.toList.find? (·.key.isStr x)).map (·.val) = some u) : PySem.W.nsIn K a x = some (some u) := by
  unfold PySem.W.nsIn
  rw [h]
  dsimp only
  cases q : es.toList.find? (·.key.isStr x) with
  | none => rw [q] at e; cases e
  | some z => rw [q] at e; injection e with e; rw [← e]
theorem fit2 {a b : Str} (h : a.length + b.length ≤ 16777216) : (a ++ b).length ≤ sizeLine := by
  rw [PySem.Str.length_append, sizeLine_eq]
  exact h
theorem log_lt {n : Nat} (h : n < 2 ^ 64) : n.log2 < 1920 := by
  by_cases z : n = 0
  · subst z; decide
  · exact Nat.lt_trans (Nat.log2_lt z |>.mpr h) (by decide)
theorem itext {i : Int} (h : i.natAbs < 2 ^ 64) : (Str.ofString (toString i)).length ≤ 1921 := PyProof.Rows.int_text_len_1921 (log_lt h)
def keyS (e : DictEntry) : Option Str := match e.key with | .str s _ => some s | _ => none
theorem find_keys : ∀ {l : List DictEntry} {ks : List Str} {z : Str}, l.map keyS = ks.map some → z ∉ ks → l.find? (·.key.isStr z) = none ∧ l.any (·.refKey) = false
  | [], _, _, _, _ => ⟨rfl, rfl⟩
  | e :: l, [], _, h, _ => by cases h
  | e :: l, k :: ks, z, h, hz => by
    simp only [List.map_cons, List.cons.injEq] at h
    obtain ⟨i1, i2⟩ := find_keys (l := l) (ks := ks) (z := z) h.2 fun m => hz (List.mem_cons_of_mem _ m)
    have h1 := h.1
    unfold keyS at h1
    obtain ⟨hs, key, val⟩ := e
    dsimp only at h1 ⊢
    cases key with
    | str s t =>
      injection h1 with h1
      subst h1
      have ne : (s == z) = false := by
        rw [beq_eq_false_iff_ne]
        intro e
        exact hz (e ▸ List.mem_cons_self ..)
      refine ⟨?_, ?_⟩
      · rw [List.find?_cons]
        show (match (s == z) with | true => _ | false => _) = none
        rw [ne]
        exact i1
      · rw [List.any_cons, i2, Bool.or_false]
        rfl
    | _ => cases h1
theorem ns_out {K : PySem.W.Frag} {a : Addr} {c : Value} {d : Option Addr} {es : Array DictEntry} {n : Nat} {sl : Array (Option Value)} {z : Str} {ks : List Str} (h : K.lookup a = some ⟨c, d, .dict es n, sl⟩) (e : es.toList.map keyS = ks.map some) (hz : z ∉ ks) : PySem.W.nsIn K a z = some none := by
  obtain ⟨i1, i2⟩ := find_keys e hz
  unfold PySem.W.nsIn
  rw [h]
  dsimp only
  rw [i1]
  dsimp only
  rw [i2]
  rfl
section
variable {K : PySem.W.Frag} {H : Hp} {Q : VK}
def rInK (K : PySem.W.Frag) (d : Addr) : R2 := fun x y H Q => ∃ (z : Str) (r : Option Value), x = .str z ∧ y = .ref d ∧ PySem.W.nsIn K d z = some r ∧ Q (.bl r.isSome) H
def rNotInK (K : PySem.W.Frag) (d : Addr) : R2 := fun x y H Q => ∃ (z : Str) (r : Option Value), x = .str z ∧ y = .ref d ∧ PySem.W.nsIn K d z = some r ∧ Q (.bl (!r.isSome)) H
theorem op_inK {X : Cx} {d : Addr} {es : Array DictEntry} {n : Nat} (D : KDict X.K X.w d es n) : OpR X (compareOp .In) (rInK X.K d) := op_in_kd D
theorem op_notInK {X : Cx} {d : Addr} {es : Array DictEntry} {n : Nat} (D : KDict X.K X.w d es n) : OpR X (compareOp .NotIn) (rNotInK X.K d) := op_notIn_kd D
theorem g_inK {d : Addr} {z : Str} {u : Value} (e : PySem.W.nsIn K d z = some (some u)) (q : Q (.bl true) H) : rInK K d (.str z) (.ref d) H Q := ⟨z, _, rfl, rfl, e, q⟩
theorem g_inKn {d : Addr} {z : Str} (e : PySem.W.nsIn K d z = some none) (q : Q (.bl false) H) : rInK K d (.str z) (.ref d) H Q := ⟨z, _, rfl, rfl, e, q⟩
theorem g_notInK {d : Addr} {z : Str} {u : Value} (e : PySem.W.nsIn K d z = some (some u)) (q : Q (.bl false) H) : rNotInK K d (.str z) (.ref d) H Q := ⟨z, _, rfl, rfl, e, q⟩
theorem g_notInKn {d : Addr} {z : Str} (e : PySem.W.nsIn K d z = some none) (q : Q (.bl true) H) : rNotInK K d (.str z) (.ref d) H Q := ⟨z, _, rfl, rfl, e, q⟩
theorem g_ixK {w : World} {d : Addr} {z : Str} {u : Value} {v : V} {es : Array DictEntry} {n : Nat} (D : KDict K w d es n) (e : PySem.W.nsIn K d z = some (some u)) (r : RelV v u) (q : Q v H) : rIxD K w (.ref d) (.str z) H Q := ⟨d, z, v, rfl, rfl, ⟨es, n, u, D.at_, D.lit, e, r⟩, q⟩
end
local macro_rules | `(tactic| walk_at "use") => `(tactic| with_reducible first | refine g_rs0 ?_ | refine g_rs1 ?_ | refine g_tryA ?_ | refine g_tryO ?_ | refine g_callS ?_ | refine g_joined ?_ | refine g_jsnil ?_ | refine g_jscons ?_ | refine g_fmt ?_)
local macro_rules | `(tactic| walk_at "fit") => `(tactic| (refine fit2 ?_; (try simp only [PySem.Str.length_append]); omega))
local macro_rules | `(tactic| walk_at "use") => `(tactic| first | ((with_reducible refine' g_addS ?sd_ ?_); case sd_ => (first | omega | (simp only [PySem.Str.length_append]; omega))) | ((with_reducible refine' g_slS ?sd_ ?_); case sd_ => omega) | (with_reducible refine g_m0 ?_))


/-! ### del xs[:c] -/
theorem sel_drop {c : Int} : ∀ (xs : List Value) (k0 : Nat), (xs.zipIdx k0).filterMap (fun p => if (if (1 : Int) > 0 then decide ((0 : Int) ≤ (p.2 : Int)) && decide ((p.2 : Int) < c) && (((p.2 : Int) - 0) % 1 == 0) else decide (c < (p.2 : Int)) && decide ((p.2 : Int) ≤ 0) && ((0 - (p.2 : Int)) % (-1) == 0)) = true then none else some p.1) = xs.drop (c.toNat - k0)
  | [], k0 => by simp
  | x :: xs, k0 => by
    rw [List.zipIdx_cons, List.filterMap_cons, sel_drop xs (k0 + 1)]
    dsimp only
    rw [if_pos (show (1 : Int) > 0 by decide)]
    by_cases h : (k0 : Int) < c
    · have e : (decide ((0 : Int) ≤ (k0 : Int)) && decide ((k0 : Int) < c) && (((k0 : Int) - 0) % 1 == 0)) = true := by
        rw [decide_eq_true h, decide_eq_true (Int.natCast_nonneg k0), Int.emod_one]
        rfl
      rw [if_pos e]
      dsimp only
      rw [show c.toNat - k0 = (c.toNat - (k0 + 1)) + 1 by omega, List.drop_succ_cons]
    · have e : ¬ (decide ((0 : Int) ≤ (k0 : Int)) && decide ((k0 : Int) < c) && (((k0 : Int) - 0) % 1 == 0)) = true := by
        rw [decide_eq_false h, Bool.and_false, Bool.false_and]
        exact Bool.false_ne_true
      rw [if_neg e]
      dsimp only
      rw [show c.toNat - k0 = 0 by omega, show c.toNat - (k0 + 1) = 0 by omega]
      rfl
theorem bounds_del {c : Int} {n : Nat} (h0 : 0 ≤ c) : sliceBounds none (some c) none n = (0, min c (n : Int), 1) := by
  simp only [sliceBounds, Option.getD_none]
  have h2 : ¬ (c < 0) := by omega
  simp only [h2, if_false, show (1 : Int) > 0 by decide, if_true]
  rw [show max (0 : Int) (min c (n : Int)) = min c (n : Int) by omega]
section
variable {prog : Program} {w : World} {A : Around} {E : Value → Shared → Prop} {s : Shared}
theorem upd_del {M : Model} {F : Array Value → Array Value} {l : Addr} {its : List Value} {n m : Nat} {Q : Unit → Shared → Prop} (hF : ∀ xs : Array Value, F xs = (xs.toList.drop m).toArray)
    (e : s.heap.get? l = some { cls := .type "list", data := .seq its.toArray n }) (hsz : its.length ≤ sizeLine) (h : Q () { s with heap := s.heap.update l (Obj.mapSeq fun xs => (xs.toList.drop m).toArray) }) : wpAny M A (updateSeq l F) Q E s := by
  rw [show F = fun xs => (xs.toList.drop m).toArray from funext hF]
  exact wpAny_updateSeq (hz := by rw [List.size_toArray]; exact hsz) (_hz' := by rw [List.size_toArray, List.length_drop]; show its.length - _ ≤ _; omega) e rfl h
theorem delItem_slice {l sl : Addr} {its : List Value} {n : Nat} {vu : Value} {c : Int} {Q : Unit → Shared → Prop}
    (e : s.heap.get? l = some { cls := .type "list", data := .seq its.toArray n })
    (hs : s.heap.IsSliceOf sl .none vu .none) (pu : PySem.IsPart vu (some c)) (h0 : 0 ≤ c) (hsz : its.length ≤ sizeLine)
    (h : Q () { s with heap := s.heap.update l (Obj.mapSeq fun xs => (xs.toList.drop (min c (its.length : Int)).toNat).toArray) }) :
    wpAny (model prog w) A (delItem (.ref l) (.ref sl)) Q E s := by
  have hl : s.heap.IsList l its.toArray := PySem.IsL.isList e
  obtain ⟨os, hos, hcs, hds⟩ := id hs
  have hTs : s.TypeIs (.ref sl) "slice" := ⟨os, hos, hcs⟩
  have hstep : ¬ ((PySem.rawPart none == rawInt 0) = true) := Bool.false_ne_true
  refine wpAny_delItem_slot hl.typeIs (by decide) PySem.F.slot_list_delitem (wpAny_call_entry PySem.F.slot_list_delitem hl.typeIs PySem.F.entry_list_delitem ?_ (PySem.F.args_list_delitem_2 _ _))
  show wpAny _ _ (Builtin.List.listSubscript? (.ref sl) >>= _) _ _ s
  refine wpAny_bind ?_
  unfold Builtin.List.listSubscript?
  refine wpAny_bind (wpAny_specialOf hTs slice_no_index ?_)
  simp only [Option.isNone_none, if_true]
  refine wpAny_pure ?_
  show wpAny _ _ (typeOf (.ref sl) >>= _) _ _ s
  refine wpAny_bind (wpAny_typeOf hTs ?_)
  first
    | rw [if_neg (by decide)]
    | refine PySem.W.KFB.if_not (by decide) ?_
  rw [listSliceParts_eq]
  refine wpAny_bind (wpAny_bind (wpAny_field hos hds (x := .none) rfl (wpAny_bind (wpAny_listPart .none ?_))))
  rw [if_neg hstep]
  refine wpAny_bind (wpAny_field hos hds (x := .none) rfl (wpAny_bind (wpAny_listPart .none ?_)))
  refine wpAny_bind (wpAny_field hos hds (x := vu) rfl (wpAny_bind (wpAny_listPart pu (wpAny_pure ?_))))
  unfold Builtin.List.listItems
  refine wpAny_bind (wpAny_bind (wpAny_seqItems e rfl (wpAny_pure ?_)))
  refine wpAny_bind (wpAny_of_eq ((sliceIndices_raw none (some c) none its.toArray.size (by simp)).trans (congrArg (pure : Int × Int × Int → Sem (Int × Int × Int)) (bounds_del h0))) ?_)
  refine wpAny_bind (wpAny_rule ?_)
  refine wpAny_bind (m := updateSeq l _) (upd_del (m := (min c (its.length : Int)).toNat) ?hF e hsz ?_)
  case hF =>
    intro xs
    refine congrArg List.toArray (Eq.trans (congrArg (fun f => List.filterMap f xs.toList.zipIdx) (funext fun p => ?_)) (sel_drop (c := min c (its.length : Int)) xs.toList 0))
    obtain ⟨x, k⟩ := p
    kernel_rfl
  refine wpAny_bind (wpAny_letGo ?_)
  first
    | exact wpAny_pure ⟨.none, rfl, h⟩
    | exact wpAny_bind (wpAny_pure (wpAny_pure ⟨.none, rfl, h⟩))
end
def tDelS (to th : TE) : TS := fun D σ H => to σ H fun x H1 => th σ H1 fun y H2 => ∃ (l : Addr) (xs : List V) (c : Int), x = .ref l ∧ y = .int c ∧ H2 l = some (.lst xs) ∧ 0 ≤ c ∧ D.nx σ (upd H2 l (.lst (xs.drop c.toNat)))
theorem ps_delS {X : Cx} {o hi : Expr} {to th : TE} {p2 tpos pos : Pos} (ho : PE X o to) (hi' : PE X hi th) : PS X (.Delete [.Subscript o (.Slice none (some hi) none p2) tpos] pos) (tDelS to th) := by
  refine ⟨fun pins s σ H D I h => ?_⟩
  refine wpAny_Delete (wpAny_deleteEach_cons (wpAny_delete_Subscript (thn (ho.run pins s σ H _ I h) fun u s1 ⟨x, H1, I1, rx, q1⟩ => ?_)))
  refine PySem.wpAny_Slice ?_
  rw [evalPart_none]
  refine wpAny_pure ?_
  rw [PySem.evalPart_some]
  refine thn (hi'.run pins s1 σ H1 _ I1 q1) fun vu s3 ⟨y, H3, I3, ry, q3⟩ => ?_
  refine wpAny_pure ?_
  have I4 : Inv X pins σ H3 { s3 with heap := s3.heap.push { cls := .type "slice", data := .fields #[.none, vu, .none] } } := I3.kept (t' := s3.toks) fun b ob q => Heap.get?_push_of_some _ q
  obtain ⟨l, xs, c, rfl, rfl, e1, h0, q4⟩ := q3
  cases rx
  obtain ⟨t2, rfl⟩ := ry
  obtain ⟨z, its, n, r, hl, e⟩ := I4.lstM e1
  have hm : (min c (its.length : Int)).toNat = min c.toNat its.length := by omega
  refine delItem_slice e (Heap.IsSliceOf.new ..) (.int c t2) h0 (by omega) ?_
  refine wpAny_deleteEach_nil ⟨σ, _, I4.lset (its' := its.drop c.toNat) (t' := s3.toks) e1 e ?_ (r.drop _) ?_, q4⟩
  · rw [hm]
    show (its.drop (min c.toNat its.length)).toArray = _
    congr 1
    by_cases q : c.toNat ≤ its.length
    · rw [Nat.min_eq_left q]
    · rw [Nat.min_eq_right (by omega), List.drop_eq_nil_of_le (Nat.le_refl _), List.drop_eq_nil_of_le (by omega)]
  · rw [List.length_drop]
    omega
theorem g_delS {to th : TE} {D : Ends} {σ : St} {H : Hp} (h : to σ H fun x H1 => th σ H1 fun y H2 => ∃ (l : Addr) (xs : List V) (c : Int), x = .ref l ∧ y = .int c ∧ H2 l = some (.lst xs) ∧ 0 ≤ c ∧ D.nx σ (upd H2 l (.lst (xs.drop c.toNat)))) : tDelS to th D σ H := h
theorem g_delE {l : Addr} {xs : List V} {c : Int} {H : Hp} {A : Hp → Prop} (h : H l = some (.lst xs)) (h0 : 0 ≤ c) (q : A (upd H l (.lst (xs.drop c.toNat)))) : ∃ (l' : Addr) (xs' : List V) (c' : Int), V.ref l = .ref l' ∧ V.int c = .int c' ∧ H l' = some (.lst xs') ∧ 0 ≤ c' ∧ A (upd H l' (.lst (xs'.drop c'.toNat))) := ⟨l, xs, c, rfl, rfl, h, h0, q⟩
local macro_rules | `(tactic| walk_at "use") => `(tactic| with_reducible refine g_delS ?_)

/-! ### walks over an object of an own class, and x in such an object -/
section
open PyProof.Rows
variable {P : Program} {w : World} {K : PySem.W.Frag} {mg : Str → Option Value} {base : Heap}
/-- a def's promise that knows how many objects there were at the call -/
structure FnN (P : Program) (w : World) (K : PySem.W.Frag) (mg : Str → Option Value) (base : Heap) (k : Nat) (f : Addr) (fd : FuncData) (ps : List Str) (sp : Nat → Sp) : Prop where
  len : ∀ n vs H Q E, sp n vs H Q E → vs.length = ps.length
  run : ∀ (A : Around) (outer : List Env) (s : Shared) (H : Hp) (g : Args) (us : List Value) (vs : List V) (Q : VK) (E : XK), Room k A → Env0 P w K mg base A outer s H → BindsTo s fd g (ps.zip us) → Vals vs us →
    sp s.heap.objs.size vs H Q E → codeAny (model P w) A (.call (.ref f) g) (CR CX0 outer P w H s Q E) s
theorem fnN_of {k : Nat} {f : Addr} {fd : FuncData} {x qual : Str} {st : Stmt} {N ps : List Str} {sp : Nat → Sp} (F : Fun K x qual st f fd) (S : FnScope N ps (defScope st)) (hlen : ∀ n vs H Q E, sp n vs H Q E → vs.length = ps.length)
    (hb : ∀ (cdv : Value) (A : Around) (outer : List Env) (s : Shared) (H : Hp) (vs : List V) (Q : VK) (E : XK), Room k (A.deeper (envOfC qual (defScope st) s.heap.objs.size f cdv)) → sp s.heap.objs.size vs H Q E →
      ∃ t, PSs ((cxOf CX0 P w K mg base N qual (defScope st) f cdv A outer s H E).nox) (defBody st) t ∧ t { nx := fun _ H' => Q .non H', rt := Q } (start N vs) H) :
    FnN P w K mg base (k + 1) f fd ps sp := by
  obtain ⟨oc, od, kV, doc, pm, an, cdv, ct, osl, e1, lkp, code⟩ := F.ex
  subst e1
  constructor
  · exact hlen
  intro A outer s H g us vs Q E room env bnd rel hsp
  have len1 : vs.length = ps.length := hlen _ _ _ _ _ hsp
  have kIn : K.In s.heap := env.mod.kin.keeps (fun b o z => (env.bs b o z).1)
  have noLim : s.heap.NoLimit := env.mod.nolimit.keeps (fun b o z => (env.bs b o z).1)
  refine codeAny_call_function room.depth (kIn _ _ lkp) rfl S.co S.gen rfl (PySem.W.codeRec_of kIn code) (bnd _ _ _ _ ?_)
  have kinds : ∀ y ∈ ps.zip us, (defScope st).names.lookup y.1 = some .local ∨ ((defScope st).names.lookup y.1 = some .cell ∧ ((cellsFrom (s.heap.objs.size + 1) (defScope st).names []).lookup y.1).isSome = true) := by
    intro y hy
    obtain ⟨n, v⟩ := y
    cases S.par n (List.of_mem_zip hy).1 with
    | inl z => exact Or.inl z
    | inr z => exact Or.inr ⟨z, PySem.W.cellsFrom_some _ _ _ (Or.inl z)⟩
  refine wpAny_newFunctionEnv_cells S.kind kinds (fun env2 e2 s2 call => ?_)
  subst e2
  refine ⟨noLim.keeps call.toInCall.keep, codeAny_func ?_⟩
  obtain ⟨t, ht0, hq⟩ := hb cdv A outer s H vs Q E (room.deeper _) hsp
  have ht := ht0.nox
  have J0 := inv_start (CX := CX0) (E := E) S room.hd env len1 rel call
  have last : ∀ {σ' : L2.St} {H' : Hp} {v : V} {u : Value} {s' : Shared}, Inv (cxOf CX0 P w K mg base N qual (defScope st) f cdv A outer s H E) [] σ' H' s' → RelV v u → Q v H' → CE outer P w H s Q u s' := by
    intro σ' H' v u s' J rv q
    exact ⟨v, H', J.os, J.bare, J.base, J.hok, rv, q⟩
  refine wpAny_mono (ht.run [] s2 (start N vs) H _ J0 hq) (fun fl s' out => ?_) (fun _ _ z => z)
  cases fl with
  | next =>
    obtain ⟨σ', H', J, q⟩ := out
    exact last (v := .non) (u := .none) J rfl q
  | ret u =>
    obtain ⟨v, σ', H', J, rv, q⟩ := out
    exact last J rv q
  | cont =>
    obtain ⟨_, _, _, q⟩ := out
    exact q.elim
  | brk =>
    obtain ⟨_, _, _, q⟩ := out
    exact q.elim
variable {X : Cx} {tg e : Expr} {te : TE} {C fi : Addr} {fd : FuncData} {ps : List Str} {k : Nat}
/-- the reading: what __iter__ promises (n: how many objects there were), of a list's iterator -/
def iOwnL (K : PySem.W.Frag) (C : Addr) (sp : Nat → Sp) (te : TE) : TI := fun σ H R => te σ H fun x H1 => ∃ a dx fs, x = .ref a ∧ H1 a = some (.ins C dx fs) ∧ ∀ n, sp n [.ref a] H1 (fun v H2 => ∃ it l, v = .ref it ∧ n ≤ it ∧ H2 it = some (ItO l it 0) ∧ R (Itl K l) (ItX.dropH H2 it)) E0
theorem pi_ownL {sp : Nat → Sp} (he : PE X e te) (hm : Meth X.K C "__iter__" fi) (F : FnN X.prog X.w X.K X.mg X.base k fi fd ps sp) (hr : Room k X.A) (hb : Binds X.K fd ps []) : PI X tg e (iOwnL X.K C sp te) := by
  obtain ⟨hit, hfn, _⟩ := hm
  constructor
  intro pins s σ H R I h
  refine thn (he.run pins s σ H _ I h) fun v s1 ⟨x, H1, I1, r1, a, dx, fs, ex, ha, hsp⟩ => ?_
  subst ex
  cases r1
  obtain ⟨mA, J, _⟩ := ins_get I1.hok ha
  obtain ⟨od, J, _⟩ := J.look
  obtain ⟨m, hF⟩ := I1.fr
  have hs := hsp s1.heap.objs.size
  have hl := F.len _ _ _ _ _ hs
  refine PySem.W.owit_iter hF I1.ok.mod.kin J hit hfn ?_
  have bnd : BindsTo s1 fd ⟨[.ref a], []⟩ (ps.zip [.ref a]) := by
    have z := hb s1 [.ref a] I1.kIn (by simpa using hl)
    simpa using z
  refine wpAny_call (codeAny_mono (F.run X.A X.stack s1 H1 ⟨[.ref a], []⟩ [.ref a] [.ref a] _ E0 hr I1.env0 bnd (.cons rfl .nil) hs) fun r s' hq => ?_)
  match r, hq with
  | .error _, hq => exact False.elim hq
  | .ok .next, hq => exact False.elim hq
  | .ok .brk, hq => exact False.elim hq
  | .ok .cont, hq => exact False.elim hq
  | .ok (.ret u), hq =>
    obtain ⟨v, H2, I2, rv, it, l, ev, hsz, eit, q⟩ := I1.after hq
    subst ev
    cases rv
    have eo := itO_get I2 eit
    have ext := eit
    unfold ItO at ext
    unfold PySem.W.OwitIt
    refine wpAny_specialOf (name := Str.ofString "__next__") (T := "list_iterator") ⟨_, eo, rfl⟩ PySem.slot_listiter_next.lookup ?_
    refine ⟨it, [it], _, _, ItX.dropH H2 it, rfl, ItX.inv_drop I2 ext, turn_list l it, ⟨_, eo, rfl, rfl⟩, fun b hb => ?_, q⟩
    have eb : b = it := by simpa using hb
    rw [eb]
    exact ItX.inv_fp I2 eit (Nat.le_trans I1.sz hsz)
theorem g_iOwnL {K : PySem.W.Frag} {C : Addr} {sp : Nat → Sp} {te : TE} {σ : L2.St} {H : Hp} {R : It → Hp → Prop} (h : te σ H fun x H1 => ∃ a dx fs, x = .ref a ∧ H1 a = some (.ins C dx fs) ∧ ∀ n, sp n [.ref a] H1 (fun v H2 => ∃ it l, v = .ref it ∧ n ≤ it ∧ H2 it = some (ItO l it 0) ∧ R (Itl K l) (ItX.dropH H2 it)) E0) : iOwnL K C sp te σ H R := h
/-! x in o -/
def rInO (C : Addr) (sp : Sp) (E : XK) : R2 := fun x y H Q => ∃ a dx fs, y = .ref a ∧ H a = some (.ins C dx fs) ∧ sp [y, x] H (fun v H' => ∃ b, v = .bl b ∧ Q (.bl b) H') E
theorem op_inO {CX : CXT} {f : Addr} {sp : Sp} {E : XK} (F : FnOk X.prog X.w X.K X.mg X.base CX k f fd ps sp) (hr : Room k X.A) (hm : Meth X.K C "__contains__" f) (hb : Binds X.K fd ps []) (hx : Passes CX X E) : OpR X (compareOp .In) (rInO C sp E) := by
  obtain ⟨hco, hfn, _⟩ := hm
  intro pins s σ H x y v u Q I rx ry hq
  obtain ⟨a, dx, fs, ey, ha, hsp⟩ := hq
  subst ey
  cases ry
  obtain ⟨mA, J, _⟩ := ins_get I.hok ha
  obtain ⟨od, J, _⟩ := J.look
  obtain ⟨m, hF⟩ := I.fr
  have kIn := I.kIn
  have hl := F.len _ _ _ _ hsp
  have bnd : BindsTo s fd ⟨[.ref a, v], []⟩ (ps.zip [.ref a, v]) := by
    have z := hb s [.ref a, v] kIn (by simpa using hl)
    simpa using z
  have main : wpAny (model X.prog X.w) X.A (call (.ref f) [.ref a, v]) (fun r s' => ∃ b H', r = .bool b ∧ Inv X pins σ H' s' ∧ Q (.bl b) H') X.xe s := by
    refine wpAny_call (codeAny_mono (F.run X.A X.stack s H ⟨[.ref a, v], []⟩ [.ref a, v] [.ref a, x] _ E hr I.env0 bnd (.cons rfl (.cons rx .nil)) hsp) fun r s' hq => ?_)
    match r, hq with
    | .error _, hq => exact hx pins σ H s _ s' I hq
    | .ok .next, hq => exact False.elim hq
    | .ok .brk, hq => exact False.elim hq
    | .ok .cont, hq => exact False.elim hq
    | .ok (.ret z), hq =>
      obtain ⟨c, H', I', rc, b, ec, q⟩ := I.after hq
      subst ec
      cases rc
      exact ⟨b, H', rfl, I', q⟩
  show wpAny _ _ (contains (.ref a) v >>= fun b => pure (Value.bool b)) _ _ s
  refine wpAny_bind ?_
  unfold contains
  refine wpAny_holding ?_
  have hns : stdlibNamesSay? (.ref a) v = none := rfl
  rw [hns]
  refine wpAny_bind (wpAny_bind (J.type.here ((PySem.W.looks_findIn kIn hco).here ?_)))
  rw [if_neg (show ¬ ((some (Value.ref f) == some Value.none) = true) from Bool.false_ne_true)]
  refine wpAny_bind ?_
  unfold callSpecialUnlessNone?
  refine wpAny_bind (wpAny_bind (J.type.here ((PySem.W.looks_findIn kIn hco).here ?_)))
  refine wpAny_holding ?_
  refine wpAny_bind ((PySem.W.bind_fn kIn _ (beq_iff_eq.mp hfn)).here ?_)
  dsimp only
  rw [if_neg (show ¬ ((Value.ref f == Value.none) = true) from Bool.false_ne_true)]
  refine wpAny_bind (wpAny_mono main (fun r s' ⟨b, H', er, I', q⟩ => ?_) fun _ _ z => z)
  subst er
  refine wpAny_pure ?_
  exact wpAny_truthy_bool (wpAny_pure ⟨.bl b, H', I', rfl, q⟩)
end

/-! ### what is not reached -/
def tDeadE : TE := fun _ _ _ => False
def tDeadS : TS := fun _ _ _ => False
theorem pe_dead {X : Cx} {e : Expr} : PE X e tDeadE := ⟨fun _ _ _ _ _ _ h => (show False from h).elim⟩
theorem ps_dead {X : Cx} {st : Stmt} : PS X st tDeadS := ⟨fun _ _ _ _ _ _ h => (show False from h).elim⟩

/-! ### dicts with ints as keys, by what they hold -/
def Dk (H : Hp) (d : Addr) (f : Int → Option V) (n : Nat) : Prop := ∃ kvs : List (Key × V), H d = some (.dK kvs) ∧ kvs.length ≤ n ∧ ∀ k : Int, valV kvs (.inl k) = f k
theorem Dk.new {H : Hp} {d : Addr} (h : H d = some (.dK [])) : Dk H d (fun _ => none) 0 := ⟨[], h, Nat.le_refl _, fun _ => rfl⟩
theorem Dk.get {H : Hp} {d : Addr} {f : Int → Option V} {n : Nat} (h : Dk H d f n) (k : Int) : DGet H d (.int k) (f k) := by
  obtain ⟨kvs, e, _, hv⟩ := h
  have z := DGet.k (k := .inl k) e
  rw [hv] at z
  exact z
theorem Dk.isD {H : Hp} {d : Addr} {f : Int → Option V} {n : Nat} (h : Dk H d f n) : IsD H d := by
  obtain ⟨kvs, e, _, _⟩ := h
  exact .inl ⟨kvs, .inl e⟩
theorem Dk.put {H : Hp} {d : Addr} {f : Int → Option V} {n : Nat} (h : Dk H d f n) (hn : n < 100000) (k : Int) (v : V) : ∃ H', DPut H d (.int k) v H' ∧ But d H H' ∧ Dk H' d (fun j => if j = k then some v else f j) (n + 1) := by
  obtain ⟨kvs, e, hl, hv⟩ := h
  refine ⟨_, DPut.k (k := .inl k) (v := v) e (szl (by omega)), But.refl.upd, putK kvs (.inl k) v, upd_same, Nat.le_trans (length_putK _ _ _) (by omega), fun j => ?_⟩
  rw [valV_put, hv]
  show _ = if j = k then some v else f j
  by_cases z : j = k
  · subst z
    rw [if_pos rfl, if_pos rfl]
  · rw [if_neg z, if_neg fun w => z (Sum.inl.inj w)]
theorem Dk.at {H H' : Hp} {d : Addr} {f : Int → Option V} {n : Nat} (h : Dk H d f n) (s : ∀ o, H d = some o → H' d = some o) : Dk H' d f n := by
  obtain ⟨kvs, e, hl, hv⟩ := h
  exact ⟨kvs, s _ e, hl, hv⟩
theorem Dk.same {H H' : Hp} {d : Addr} {f : Int → Option V} {n : Nat} (h : Dk H d f n) (s : Same H H') : Dk H' d f n := h.at (s d)
theorem Dk.none {H : Hp} {d : Addr} {f : Int → Option V} {n : Nat} (h : Dk H d f n) {p : Addr} (hp : H p = none) : d ≠ p := by
  obtain ⟨kvs, e, _, _⟩ := h
  exact ne_of_none e hp
theorem g_dgetI {td ty : TE} {σ : St} {H : Hp} {Q : VK} (h : td σ H fun x H1 => ty σ H1 fun y H2 => ∃ a v, x = .ref a ∧ DGet H2 a y (some v) ∧ Q v H2) : tDGet td ty σ H Q := h
theorem g_dputI {td ty tv : TE} {D : Ends} {σ : St} {H : Hp} (h : tv σ H fun v H1 => td σ H1 fun x H2 => ty σ H2 fun y H3 => ∃ a H4, x = .ref a ∧ DPut H3 a y v H4 ∧ D.nx σ H4) : sDPut td ty tv D σ H := h
theorem g_dget1I {td ty : TE} {σ : St} {H : Hp} {Q : VK} (h : td σ H fun x H1 => ∃ a, x = .ref a ∧ IsD H1 a ∧ ty σ H1 fun y H2 => ∃ o, DGet H2 a y o ∧ Q (o.getD .non) H2) : tDGet1 td ty σ H Q := h
theorem g_dget2I {td ty tx : TE} {σ : St} {H : Hp} {Q : VK} (h : td σ H fun x H1 => ∃ a, x = .ref a ∧ IsD H1 a ∧ ty σ H1 fun y H2 => tx σ H2 fun z H3 => ∃ o, DGet H3 a y o ∧ Q (o.getD z) H3) : tDGet2 td ty tx σ H Q := h
theorem g_dinI {td ty : TE} {σ : St} {H : Hp} {Q : VK} (h : ty σ H fun y H1 => td σ H1 fun x H2 => ∃ a o, x = .ref a ∧ DGet H2 a y o ∧ Q (.bl o.isSome) H2) : tDIn ty td σ H Q := h
theorem g_dnotinI {td ty : TE} {σ : St} {H : Hp} {Q : VK} (h : ty σ H fun y H1 => td σ H1 fun x H2 => ∃ a o, x = .ref a ∧ DGet H2 a y o ∧ Q (.bl (!o.isSome)) H2) : tDNotIn ty td σ H Q := h
theorem g_dnewK {σ : St} {H : Hp} {Q : VK} (h : ∀ p, H p = none → Q (.ref p) (upd H p (.dK []))) : tDNewK σ H Q := h
local macro_rules | `(tactic| walk_at "use") => `(tactic| with_reducible first | refine g_dgetI ?_ | refine g_dputI ?_ | refine g_dget1I ?_ | refine g_dget2I ?_ | refine g_dinI ?_ | refine g_dnotinI ?_ | refine g_dnewK ?_)


/-! ### min(a, b, c) of ints -/
section
variable {X : Cx}
theorem nuMin2_int (i j : Int) : nuMin2 (.int i) (.int j) = some (.int (min i j)) := by
  unfold nuMin2
  show Option.map _ (some (decide (j < i))) = _
  by_cases c : j < i
  · rw [decide_eq_true c]
    show some (V.int j) = _
    rw [show min i j = j by omega]
  · rw [decide_eq_false c]
    show some (V.int i) = _
    rw [show min i j = i by omega]
theorem call_min3I (hc : X.calm = true) : CallR X (.builtin "min") (fun xs H Q => ∃ i j k : Int, xs = [.int i, .int j, .int k] ∧ Q (.int (min (min i j) k)) H) := by
  intro pins s σ H xs us Q I r h
  obtain ⟨i, j, k, rfl, q⟩ := h
  refine call_min3Nu hc pins s σ H _ us Q I r ⟨.int i, .int j, .int k, .int (min (min i j) k), rfl, ?_, q⟩
  unfold nuMin3
  rw [nuMin2_int]
  exact nuMin2_int _ _
end

theorem cut_lo {xs : List V} {k : Nat} : cutV xs none (some (k : Int)) = xs.take k := by
  unfold cutV
  rw [HT.sIx_none, HT.sIx_nat, List.drop_zero, Nat.sub_zero]
  rcases Nat.le_total k xs.length with z | z
  · rw [Nat.min_eq_left z]
  · rw [Nat.min_eq_right z, List.take_of_length_le (Nat.le_refl _), List.take_of_length_le z]
theorem cut_hi {xs : List V} {k : Nat} : cutV xs (some (k : Int)) none = xs.drop k := by
  unfold cutV
  rw [HT.sIx_none, HT.sIx_nat]
  rcases Nat.le_total k xs.length with z | z
  · rw [Nat.min_eq_left z, List.take_of_length_le (by rw [List.length_drop]; omega)]
  · rw [Nat.min_eq_right z, List.drop_of_length_le (Nat.le_refl _), List.drop_of_length_le z, List.take_nil]

section
variable {K : PySem.W.Frag} {H : Hp} {Q : VK}
theorem dec_str {s t : Str} : decide (V.str s = V.str t) = decide (s = t) := decide_eq_decide.mpr ⟨V.str.inj, congrArg _⟩
theorem g_rEqS {s t : Str} (q : Q (.bl (decide (s = t))) H) : rEq (.str s) (.str t) H Q := g_rEq rfl (by rw [dec_str]; exact q)
theorem g_rNeS {s t : Str} (q : Q (.bl (!decide (s = t))) H) : rNe (.str s) (.str t) H Q := g_rNe rfl (by rw [dec_str]; exact q)
theorem inV_str {s : Str} : ∀ {ws : List Str}, inV (.str s) (ws.map V.str) = decide (s ∈ ws)
  | [] => (decide_eq_false (by simp)).symm
  | t :: ws => by
    show ((t == s) || inV (.str s) (ws.map V.str)) = _
    rw [inV_str, Bool.eq_iff_iff]
    simp only [Bool.or_eq_true, beq_iff_eq, decide_eq_true_eq, List.mem_cons]
    exact ⟨fun h => h.imp Eq.symm id, fun h => h.imp Eq.symm id⟩
theorem flat_strs : ∀ {ws : List Str}, (ws.map V.str).all flatV = true
  | [] => rfl
  | _ :: ws => flat_strs (ws := ws)
theorem g_inS {p : Addr} {ws : List Str} {s : Str} (h : SqT K H p (ws.map V.str)) (q : Q (.bl (decide (s ∈ ws))) H) : rIn K false (.str s) (.ref p) H Q :=
  ⟨p, _, rfl, .inr h, rfl, flat_strs, by rw [if_neg (by decide), inV_str]; exact q⟩
theorem g_isiS {s : Str} (q : Q (.bl true) H) : rIsi K [.str s, .ty "str"] H Q := g_isi (.ty _) (.base (.str _)) (kit_ty (by decide +kernel)) q
end
local macro_rules | `(tactic| walk_at "use") => `(tactic| with_reducible first | refine g_rEqS ?_ | refine g_rNeS ?_ | refine g_isiS ?_)

/-! an attribute among the targets of a tuple -/
section
variable {X : Cx} {K : PySem.W.Frag} {o : Expr} {ta : TE} {f : Str} {pos : Pos}
def gFld (K : PySem.W.Frag) (ta : TE) (f : Str) : TG := fun v σ H Q => ta σ H fun x H2 => ∃ a C dx fs, x = .ref a ∧ H2 a = some (.ins C dx fs) ∧ Cls K C ∧ NoAttr K C f ∧ fs.length < 1000 ∧ Q σ (upd H2 a (.ins C dx (putF f v fs)))
theorem pg_fld (ho : PE X o ta) : PG X (.Attribute o f pos) (gFld X.K ta f) := by
  refine ⟨fun pins s σ H v u Q I r h => ?_⟩
  rw [assign_Attribute]
  refine wpAny_bind (wpAny_holding (thn (ho.run pins s σ H _ I h) fun ov s1 ⟨x, H1, I1, r1, q1⟩ => ?_))
  obtain ⟨a, C, dx, fs, ex, ea, c, n, l, q⟩ := q1
  subst ex
  obtain rfl : ov = Value.ref a := r1
  refine wpAny_bind (wpAny_standAt (wpAny_bind (wpAny_holding (setattr_ok I1 ea c n l r fun s3 I3 => ?_))))
  exact wpAny_release ⟨σ, _, I3, q⟩
theorem g_gfld {σ : St} {H : Hp} {v : V} {Q : St → Hp → Prop} (h : ta σ H fun x H2 => ∃ a C dx fs, x = .ref a ∧ H2 a = some (.ins C dx fs) ∧ Cls K C ∧ NoAttr K C f ∧ fs.length < 1000 ∧ Q σ (upd H2 a (.ins C dx (putF f v fs)))) : gFld K ta f v σ H Q := h
theorem g_gfldV {σ : St} {H : Hp} {v : V} {Q : St → Hp → Prop} {i j : Nat} {a C dx : Addr} {ks : List Str} {vs : List V} (hσ : σ[i]? = some (some (.ref a))) (ho : H a = some (.ins C dx (obj ks vs))) (c : Cls K C) (n : NoAttr K C f) (nd : ks.Nodup) (h1 : ks.length < 1000) (hk : ks[j]? = some f) (hv : j < vs.length)
    (q : Q σ (upd H a (.ins C dx (obj ks (vs.set j v))))) : gFld K (tVar i) f v σ H Q :=
  ⟨_, hσ, a, C, dx, _, rfl, ho, c, n, Nat.lt_of_le_of_lt (obj_len ks vs) h1, by rw [obj_put nd hk hv]; exact q⟩
end
/-! `xs[i] += n` -/
section
variable {X : Cx}
theorem get_list : PGet X (rIxL X.K) := by
  intro pins s σ H o i ov iv Q I ro ri h
  obtain ⟨p, xs, k, z, rfl, rfl, hq, he, q⟩ := h
  cases ro
  obtain ⟨t, rfl⟩ := ri
  obtain ⟨its, r, pl, hz⟩ := I.list hq
  obtain ⟨j, h1, h2, h3, h4, h5⟩ := atI_get he
  obtain ⟨w, ew, rw'⟩ := r.get h2
  have hl := r.length
  have hn := line63
  have fin : EP X pins σ Q w s := ⟨z, H, I, rw', q⟩
  by_cases h0 : 0 ≤ k
  · have hj : k.toNat = j := by
      rw [seqIndex_of h0 h5] at h1
      exact Option.some.inj h1
    exact wpAny_getItem_list pl.isList h0 (by omega) (by rw [hj]; simpa using ew) fin
  · have hj : (k + (its.toArray.size : Int)).toNat = j := by
      rw [seqIndex_neg (by omega) h4] at h1
      rw [List.size_toArray, ← hl]
      exact Option.some.inj h1
    exact wpAny_getItem_list_neg pl.isList (by omega) (by rw [List.size_toArray] <;> omega) (by omega) (by rw [hj]; simpa using ew) fin
theorem g_augS {to ti te : TE} {tget : V → V → Hp → VK → Prop} {tip : TIp} {tset : TSet} {D : Ends} {σ : St} {H : Hp} (h : to σ H fun o H1 => ti σ H1 fun i H2 => tget o i H2 fun x H3 => te σ H3 fun y H4 => tip x y H4 fun z H5 => tset o i z H5 fun H6 => D.nx σ H6) : tAugS to ti te tget tip tset D σ H := h
end
local macro_rules | `(tactic| walk_at "use") => `(tactic| with_reducible first | refine g_augS ?_)
/-! `o.f += n` -/
section
variable {K : PySem.W.Frag} {f : Str}
theorem g_fldaug {tv : TE} {rd : V → V → Hp → VK → Prop} {D : Ends} {σ : St} {H : Hp} {i j : Nat} {a C dx : Addr} {ks : List Str} {vs : List V} {v : V} (hσ : σ[i]? = some (some (.ref a))) (ho : H a = some (.ins C dx (obj ks vs))) (c : Cls K C) (n : NoAttr K C f) (nd : ks.Nodup) (hk : ks[j]? = some f) (hv : vs[j]? = some v)
    (h : tv σ H fun y H2 => rd v y H2 fun z H3 => ∃ dx' fs', H3 a = some (.ins C dx' fs') ∧ fs'.length < 1000 ∧ D.nx σ (upd H3 a (.ins C dx' (putF f z fs')))) : sFldAug K (tVar i) tv rd f D σ H :=
  ⟨_, hσ, a, C, dx, _, v, rfl, ho, c, n, (obj_get nd hk).trans hv, h⟩
theorem g_fldaugE {H : Hp} {j : Nat} {a C dx : Addr} {ks : List Str} {vs : List V} {z : V} {A : Hp → Prop} (ho : H a = some (.ins C dx (obj ks vs))) (nd : ks.Nodup) (h1 : ks.length < 1000) (hk : ks[j]? = some f) (hv : j < vs.length) (q : A (upd H a (.ins C dx (obj ks (vs.set j z))))) :
    ∃ dx' fs', H a = some (.ins C dx' fs') ∧ fs'.length < 1000 ∧ A (upd H a (.ins C dx' (putF f z fs'))) := ⟨dx, _, ho, Nat.lt_of_le_of_lt (obj_len ks vs) h1, by rw [obj_put nd hk hv]; exact q⟩
end

/-! ### one of two readings (an object of one of two classes) -/
def tOr2 (t1 t2 : TE) : TE := fun σ H Q => t1 σ H Q ∨ t2 σ H Q
theorem pe_or2 {X : Cx} {e : Expr} {t1 t2 : TE} (h1 : PE X e t1) (h2 : PE X e t2) : PE X e (tOr2 t1 t2) := ⟨fun pins s σ H Q I h => h.elim (h1.run pins s σ H Q I) (h2.run pins s σ H Q I)⟩
theorem g_or2l {t1 t2 : TE} {σ : St} {H : Hp} {Q : VK} (h : t1 σ H Q) : tOr2 t1 t2 σ H Q := .inl h
theorem g_or2r {t1 t2 : TE} {σ : St} {H : Hp} {Q : VK} (h : t2 σ H Q) : tOr2 t1 t2 σ H Q := .inr h

local macro_rules | `(tactic| walk_at "use") => `(tactic| with_reducible first | refine g_delS ?_)
/-! ### a channel, exact (k51) -/
structure Cg where
  n : Int
  an : Bool
  q : List Int
  cr : Int
  fin : Bool
  es : Bool
  u : List Int
  du : Int
  ec : Bool
  br : Option (Str × Int)
  rt : Bool
structure Ca where
  a : Addr
  dx : Addr
  q : Addr
  u : Addr
  b : V
def BrG (H : Hp) (b : V) : Option (Str × Int) → Prop
  | none => b = .non
  | some p => ∃ t, b = .ref t ∧ H t = some (.tup [.str p.1, .int p.2])
theorem BrG.same {H H' : Hp} {b : V} {br : Option (Str × Int)} (h : BrG H b br) (s : ∀ t o, (∃ k, o = HO.tup k) → H t = some o → H' t = some o) : BrG H' b br := by
  cases br with
  | none => exact h
  | some p =>
    obtain ⟨t, h1, h2⟩ := h
    exact ⟨t, h1, s _ _ ⟨_, rfl⟩ h2⟩
def CgO (C : Addr) (H : Hp) (x : Ca) (c : Cg) : Prop :=
  H x.a = some (.ins C x.dx (obj ky_Channel [.int c.n, .bl c.an, .ref x.q, .int c.cr, .bl c.fin, .bl c.es, .ref x.u, .int c.du, .bl c.ec, x.b, .bl c.rt])) ∧
  H x.q = some (.lst (c.q.map V.int)) ∧ H x.u = some (.lst (c.u.map V.int)) ∧ x.q ≠ x.u ∧ BrG H x.b c.br
/-- what it owns stays -/
theorem CgO.keep {C : Addr} {H H' : Hp} {x : Ca} {c : Cg} (h : CgO C H x c) (s : ∀ b o, b = x.a ∨ b = x.q ∨ b = x.u ∨ (∃ k, o = HO.tup k) → H b = some o → H' b = some o) : CgO C H' x c :=
  ⟨s _ _ (.inl rfl) h.1, s _ _ (.inr (.inl rfl)) h.2.1, s _ _ (.inr (.inr (.inl rfl))) h.2.2.1, h.2.2.2.1, h.2.2.2.2.same fun t o k e => s t o (.inr (.inr (.inr k))) e⟩
theorem CgO.same {C : Addr} {H H' : Hp} {x : Ca} {c : Cg} (h : CgO C H x c) (s : Same H H') : CgO C H' x c := h.keep fun b o _ e => s b o e
theorem But.free {p l : Addr} {H H' : Hp} {o : HO} (b : But p H H') (k : H' p = some o) (h : H' l = none) : H l = none := by
  cases e : H l with
  | none => rfl
  | some x =>
    by_cases z : l = p
    · rw [z, k] at h
      cases h
    · rw [b _ _ z e] at h
      cases h
def Cg.new (n : Int) (an : Bool) : Cg := ⟨n, an, [], 0, false, false, [], 0, false, none, false⟩
def Cg.off (c : Cg) (pl : Str) (k : Int) : Cg := { c with q := [], u := [], br := some (pl, k) }
def Cg.untold (c : Cg) : Bool := match c.br with
  | none => false
  | some p => decide (p.1 = "here") && !c.rt
def Cg.owed (c : Cg) (w : Int) : Int := if c.br.isSome = true ∨ c.ec = true then 0 else if w ≤ 2 * (w - c.du - c.u.length) then w - c.du - c.u.length else 0
def Cg.hasO (c : Cg) : Bool := c.br.isNone && (decide (0 < c.q.length) && decide (0 < c.cr))
def Cg.hasE (c : Cg) : Bool := c.br.isNone && (c.fin && (decide (c.q.length = 0) && !c.es))
def sp_Channel_init__ (C : Addr) : Sp := fun vs H Q _ => ∃ (p dx : Addr) (n : Int) (an : Bool), vs = [.ref p, .int n, .bl an] ∧ H p = some (.ins C dx []) ∧
  ∀ q u H', H q = none → H u = none → q ≠ u → But p H H' → CgO C H' ⟨p, dx, q, u, .non⟩ (Cg.new n an) → Q .non H'
theorem ok_Channel_init__ (T : Txt P w K mg) : FnOk P w K mg base CX0 1 T.f_Channel_init__ T.d_Channel_init__ ["self", "number", "announced"] (sp_Channel_init__ T.C_Channel) := by
  refine T.F_Channel_init__.ok sc_Channel_init__ (fun vs H Q E h => ?_) (fun cdv A outer s H vs Q E hr h => ?_)
  · obtain ⟨p, dx, n, an, rfl, ho, q⟩ := h
    rfl
  · obtain ⟨p, dx, n, an, rfl, ho, q⟩ := h
    have hu := hu_of hr
    refine ⟨_, (pss_cons (ps_fld (pv 0) (pv 1) rfl)
        (pss_cons (ps_fld (pv 0) (pv 2) rfl)
        (pss_cons (ps_fld (pv 0) (pe_lst pa_nil) rfl)
        (pss_cons (ps_fld (pv 0) pe_int rfl)
        (pss_cons (ps_fld (pv 0) pe_bl rfl)
        (pss_cons (ps_fld (pv 0) pe_bl rfl)
        (pss_cons (ps_fld (pv 0) (pe_lst pa_nil) rfl)
        (pss_cons (ps_fld (pv 0) pe_int rfl)
        (pss_cons (ps_fld (pv 0) pe_bl rfl)
        (pss_cons (ps_fld (pv 0) pe_non rfl)
        (pss_one (ps_fld (pv 0) pe_bl rfl)))))))))))), ?_⟩
    dsimp only [cxOf, Cx.nox, Cx.wish, L2.start, List.map, List.cons_append, List.nil_append, List.length_cons, List.length_nil, Nat.reduceAdd, Nat.reduceSub, Nat.zero_add, List.replicate_succ, List.replicate_zero]
    have ho : H p = some (.ins T.C_Channel dx (obj ky_Channel [])) := ho
    walk_at "go"
    refine ⟨by show 0 ≤ sizeLine; decide, fun l1 h1 => ?_⟩
    simp only [upd_upd, List.nil_append, List.cons_append] at h1 ⊢
    generalize z1 : upd H p _ = H1 at h1 ⊢
    have b1 : But p H H1 := by rw [← z1]; exact But.refl.upd
    have k1 := (congrFun z1 p).symm.trans upd_same
    clear z1
    have f1 := b1.free k1 h1
    have n1 : l1 ≠ p := fun z => by rw [z, k1] at h1; cases h1
    walk_at "nw"
    rename_i H2 s2 k2
    have k1 := s2 _ _ k1
    have b2 := b1.trans (But.of s2)
    walk_at "go"
    refine ⟨by show 0 ≤ sizeLine; decide, fun l2 h2 => ?_⟩
    simp only [upd_upd, List.nil_append, List.cons_append] at h2 ⊢
    generalize z3 : upd H2 p _ = H3 at h2 ⊢
    have b3 : But p H2 H3 := by rw [← z3]; exact But.refl.upd
    have k3 := (congrFun z3 p).symm.trans upd_same
    clear z3
    have k2 := b3 _ _ n1 k2
    have f2 := (b2.trans b3).free k3 h2
    have n2 : l2 ≠ p := fun z => by rw [z, k3] at h2; cases h2
    have n3 : l1 ≠ l2 := fun z => by rw [← z, k2] at h2; cases h2
    walk_at "nw"
    rename_i H4 s4 k4
    have k3 := s4 _ _ k3
    have b4 := (b2.trans b3).trans (But.of s4)
    walk_at "go"
    simp only [upd_upd, List.nil_append, List.cons_append]
    exact q l1 l2 _ f1 f2 n3 b4.upd ⟨upd_same, by rw [upd_ne n1]; exact s4 _ _ k2, by rw [upd_ne n2]; exact k4, n3, rfl⟩
def sp_Channel_break_off (C : Addr) : Sp := fun vs H Q _ => ∃ (x : Ca) (c : Cg) (pl : Str) (k : Int), vs = [.ref x.a, .str pl, .int k] ∧ CgO C H x c ∧
  ∀ t q u H', H t = none → H q = none → H u = none → But x.a H H' → CgO C H' ⟨x.a, x.dx, q, u, .ref t⟩ (c.off pl k) → Q .non H'
theorem ok_Channel_break_off (T : Txt P w K mg) : FnOk P w K mg base CX0 1 T.f_Channel_break_off T.d_Channel_break_off ["self", "place", "code"] (sp_Channel_break_off T.C_Channel) := by
  refine T.F_Channel_break_off.ok sc_Channel_break_off (fun vs H Q E h => ?_) (fun cdv A outer s H vs Q E hr h => ?_)
  · obtain ⟨x, c, pl, k, rfl, ⟨ho, hq, hu, hne, hb⟩, q⟩ := h
    rfl
  · obtain ⟨x, c, pl, k, rfl, ⟨ho, hq, hu, hne, hb⟩, q⟩ := h
    have hu := hu_of hr
    refine ⟨_, (pss_cons (ps_fld (pv 0) (pe_tup (pa_cons (pv 1) (pa_cons (pv 2) pa_nil))) rfl)
        (pss_cons (ps_fld (pv 0) (pe_lst pa_nil) rfl)
        (pss_one (ps_fld (pv 0) (pe_lst pa_nil) rfl)))), ?_⟩
    dsimp only [cxOf, Cx.nox, Cx.wish, L2.start, List.map, List.cons_append, List.nil_append, List.length_cons, List.length_nil, Nat.reduceAdd, Nat.reduceSub, Nat.zero_add, List.replicate_succ, List.replicate_zero]
    walk_at "go"
    refine ⟨by show 2 ≤ sizeLine; decide, fun t ht => ?_⟩
    walk_at "nw"
    rename_i H1 s1 k1
    have k0 := s1 _ _ ho
    walk_at "go"
    refine ⟨by show 0 ≤ sizeLine; decide, fun l1 h1 => ?_⟩
    simp only [upd_upd, List.set_cons_succ, List.set_cons_zero] at h1 ⊢
    generalize z3 : upd H1 x.a _ = H3 at h1 ⊢
    have b3 : But x.a H1 H3 := by rw [← z3]; exact But.refl.upd
    have k3 := (congrFun z3 x.a).symm.trans upd_same
    clear z3
    have b4 := (But.of s1).trans b3
    have f1 := b4.free k3 h1
    have k1 := b3 _ _ (ne_of_none ho ht).symm k1
    have n1 : l1 ≠ x.a := fun z => by rw [z, k3] at h1; cases h1
    walk_at "nw"
    rename_i H4 s4 k4
    have k3 := s4 _ _ k3
    have k1 := s4 _ _ k1
    have b5 := b4.trans (But.of s4)
    walk_at "go"
    refine ⟨by show 0 ≤ sizeLine; decide, fun l2 h2 => ?_⟩
    simp only [upd_upd, List.set_cons_succ, List.set_cons_zero] at h2 ⊢
    generalize z6 : upd H4 x.a _ = H6 at h2 ⊢
    have b6 : But x.a H4 H6 := by rw [← z6]; exact But.refl.upd
    have k6 := (congrFun z6 x.a).symm.trans upd_same
    clear z6
    have b7 := b5.trans b6
    have f2 := b7.free k6 h2
    have k1 := b6 _ _ (ne_of_none ho ht).symm k1
    have k4 := b6 _ _ n1 k4
    have n2 : l2 ≠ x.a := fun z => by rw [z, k6] at h2; cases h2
    have n3 : l1 ≠ l2 := fun z => by rw [← z, k4] at h2; cases h2
    walk_at "nw"
    rename_i H8 s8 k8
    have k6 := s8 _ _ k6
    walk_at "go"
    simp only [upd_upd, List.set_cons_succ, List.set_cons_zero]
    exact q t l1 l2 _ ht f1 f2 (b7.trans (But.of s8)).upd ⟨upd_same, by rw [upd_ne n1]; exact s8 _ _ k4, by rw [upd_ne n2]; exact k8, n3, t, rfl, by rw [upd_ne (ne_of_none ho ht).symm]; exact s8 _ _ k1⟩
def sp_Channel_has_untold_reset (C : Addr) : Sp := fun vs H Q _ => ∃ (x : Ca) (c : Cg), vs = [.ref x.a] ∧ CgO C H x c ∧ Q (.bl c.untold) H
def sp_Channel_owed (C : Addr) : Sp := fun vs H Q _ => ∃ (x : Ca) (c : Cg) (w : Int), vs = [.ref x.a, .int w] ∧ CgO C H x c ∧ 0 ≤ w ∧ w ≤ 1000000 ∧ Q (.int (c.owed w)) H
def sp_Channel_has_octets_to_send (C : Addr) : Sp := fun vs H Q _ => ∃ (x : Ca) (c : Cg), vs = [.ref x.a] ∧ CgO C H x c ∧ Q (.bl c.hasO) H
def sp_Channel_has_end_to_send (C : Addr) : Sp := fun vs H Q _ => ∃ (x : Ca) (c : Cg), vs = [.ref x.a] ∧ CgO C H x c ∧ Q (.bl c.hasE) H
def Cg.takeN (c : Cg) (most : Int) : Nat := (min c.cr most).toNat
def Cg.taken (c : Cg) (most : Int) : Cg := { c with q := c.q.drop (c.takeN most), cr := c.cr - ((c.q.take (c.takeN most)).length : Int) }
def sp_Channel_take_octets (C : Addr) : Sp := fun vs H Q _ => ∃ (x : Ca) (c : Cg) (most : Int), vs = [.ref x.a, .int most] ∧ CgO C H x c ∧ 0 ≤ c.cr ∧ 0 ≤ most ∧
  ∀ l H', H l = none → (∀ b o, b ≠ x.a → b ≠ x.q → H b = some o → H' b = some o) → H' l = some (.lst ((c.q.take (c.takeN most)).map V.int)) → CgO C H' x (c.taken most) → Q (.ref l) H'

theorem g_makeK {C : Addr} {n m : Nat} {sp : Sp} {gV : List V → List V → List V} {E : XK} {t tk : TA} {σ : St} {H : Hp} {Q : VK} (h : t σ H fun vs H1 => tk σ H1 fun zs H2 => vs.length = n ∧ zs.length = m ∧
  ∀ x dx, H2 x = none → H2 dx = none → dx ≠ x → sp (gV (.ref x :: vs) zs) (upd (upd H2 dx (.own x)) x (.ins C dx [])) (fun v H3 => v = .non ∧ Q (.ref x) H3) E) : tMakeK C n m sp gV E t tk σ H Q := h
local macro_rules | `(tactic| walk_at "use") => `(tactic| with_reducible refine g_makeK ?_)

theorem free_same0 {H H' : Hp} {b : Addr} (s : Same H H') (h : H' b = none) : H b = none := by
  cases z : H b with
  | none => rfl
  | some o => rw [s _ _ z] at h; cases h
/-! ### a channel's fork -/
def sp_Channel_fork (C : Addr) : Sp := fun vs H Q _ => ∃ (x : Ca) (c : Cg), vs = [.ref x.a] ∧ CgO C H x c ∧
  ∀ y H', H y.a = none → H y.q = none → H y.u = none → Same H H' → CgO C H' y c → Q (.ref y.a) H'
theorem kbt_0 {P : Program} {w : World} {K : PySem.W.Frag} {mg : Str → Option Value} (T : Txt P w K mg) : ∃ g, KBn K T.d_Channel_init__ ["self", "number", "announced"] 2 ["announced"] g (fun vs zs => vs ++ ((zs.drop 0).take 1)) :=
  ⟨_, kb_pure (ps := ["self", "number", "announced"]) T.F_Channel_init__ 2 ["announced"] (fun vs zs => vs ++ ((zs.drop 0).take 1)) (fun r1 r2 => r1.append ((r2.drop 0).take 1)) (fun kV doc pm an cdv ct us ws l1 l2 => match us, l1, ws, l2 with | [_, _], _, [_], _ => rfl)⟩
theorem ok_Channel_fork (T : Txt P w K mg) : FnOk P w K mg base CX0 3 T.f_Channel_fork T.d_Channel_fork ["self"] (sp_Channel_fork T.C_Channel) := by
  refine T.F_Channel_fork.ok sc_Channel_fork (fun vs H Q E h => ?_) (fun cdv A outer s H vs Q E hr h => ?_)
  · obtain ⟨x, c, rfl, ⟨ho, hq, hun, hne, hb⟩, q⟩ := h
    rfl
  · obtain ⟨x, c, rfl, ⟨ho, hq, hun, hne, hb⟩, q⟩ := h
    have hu := hu_of hr
    obtain ⟨gk_0, kb_0⟩ := kbt_0 T
    refine ⟨_, (pss_cons (ps_set (i := 1) sc_Channel_fork.nd rfl (Or.inl rfl) (pe_makeK T.mk_Channel (ok_Channel_init__ T) (hr.mono (by decide)) rfl T.c_Channel kb_0 pass0 (pa_cons (pe_fld (pv 0) rfl) pa_nil) (pk_cons (pe_fld (pv 0) rfl) pk_nil)))
        (pss_cons (ps_fld (pv 1) (pe_callTy call_list_of (by rfl) T.n_list (by decide +kernel) (pa_cons (pe_fld (pv 0) rfl) pa_nil)) rfl)
        (pss_cons (ps_fld (pv 1) (pe_fld (pv 0) rfl) rfl)
        (pss_cons (ps_fld (pv 1) (pe_fld (pv 0) rfl) rfl)
        (pss_cons (ps_fld (pv 1) (pe_fld (pv 0) rfl) rfl)
        (pss_cons (ps_fld (pv 1) (pe_callTy call_list_of (by rfl) T.n_list (by decide +kernel) (pa_cons (pe_fld (pv 0) rfl) pa_nil)) rfl)
        (pss_cons (ps_fld (pv 1) (pe_fld (pv 0) rfl) rfl)
        (pss_cons (ps_fld (pv 1) (pe_fld (pv 0) rfl) rfl)
        (pss_cons (ps_fld (pv 1) (pe_fld (pv 0) rfl) rfl)
        (pss_cons (ps_fld (pv 1) (pe_fld (pv 0) rfl) rfl)
        (pss_one (ps_ret (pv 1))))))))))))), ?_⟩
    dsimp only [cxOf, Cx.nox, Cx.wish, L2.start, List.map, List.cons_append, List.nil_append, List.length_cons, List.length_nil, Nat.reduceAdd, Nat.reduceSub, Nat.zero_add, List.replicate_succ, List.replicate_zero]
    walk_at "go"
    refine ⟨rfl, rfl, fun y dy hy hdy hnd => ?_⟩
    have s1 : Same H (upd (upd H dy (.own y)) y (.ins T.C_Channel dy [])) := (same_upd hdy).trans (same_upd (by rw [upd_ne hnd.symm]; exact hy))
    refine ⟨y, dy, c.n, c.an, rfl, upd_same, fun lq lu H3 hq3 hu3 hqu b3 cO => ⟨rfl, ?_⟩⟩
    have f0 : Same H H3 := ((But.of s1).trans b3).same hy
    have hoY := cO.1
    have hoX := f0 _ _ ho
    clear s1 b3 cO
    walk_at "go"
    refine ⟨x.q, _, rfl, .inl (sl (f0 _ _ hq)), fun l1 h_l1 => ?_⟩
    have g_l1 := free_same0 f0 h_l1
    walk_at "nw"
    rename_i H4 s4 k_l1
    have hoX := s4 _ _ hoX
    have hoY := s4 _ _ hoY
    have f0 := f0.trans s4
    have n_l1 : l1 ≠ y := fun z => by rw [z, hoY] at k_l1; cases k_l1
    walk_at "go"
    simp only [List.set_cons_succ, List.set_cons_zero]
    walk_at "bt"
    rename_i H5 b5 hoY
    have f0 : Same H H5 := ((But.of f0).trans b5).same hy
    have hoX := f0 _ _ ho
    have k_l1 := b5 _ _ n_l1 k_l1
    walk_at "go"
    simp only [List.set_cons_succ, List.set_cons_zero]
    walk_at "bt"
    rename_i H5 b5 hoY
    have f0 : Same H H5 := ((But.of f0).trans b5).same hy
    have hoX := f0 _ _ ho
    have k_l1 := b5 _ _ n_l1 k_l1
    walk_at "go"
    simp only [List.set_cons_succ, List.set_cons_zero]
    walk_at "bt"
    rename_i H5 b5 hoY
    have f0 : Same H H5 := ((But.of f0).trans b5).same hy
    have hoX := f0 _ _ ho
    have k_l1 := b5 _ _ n_l1 k_l1
    walk_at "go"
    simp only [List.set_cons_succ, List.set_cons_zero]
    walk_at "bt"
    rename_i H5 b5 hoY
    have f0 : Same H H5 := ((But.of f0).trans b5).same hy
    have hoX := f0 _ _ ho
    have k_l1 := b5 _ _ n_l1 k_l1
    walk_at "go"
    refine ⟨x.u, _, rfl, .inl (sl (f0 _ _ hun)), fun l2 h_l2 => ?_⟩
    have k1_ := k_l1
    have g_l2 := free_same0 f0 h_l2
    walk_at "nw"
    rename_i H4 s4 k_l2
    have hoX := s4 _ _ hoX
    have k_l1 := s4 _ _ k_l1
    have d12 : l1 ≠ l2 := fun z => by rw [← z] at h_l2; rw [k1_] at h_l2; cases h_l2
    have hoY := s4 _ _ hoY
    have f0 := f0.trans s4
    have n_l2 : l2 ≠ y := fun z => by rw [z, hoY] at k_l2; cases k_l2
    walk_at "go"
    simp only [List.set_cons_succ, List.set_cons_zero]
    walk_at "bt"
    rename_i H5 b5 hoY
    have f0 : Same H H5 := ((But.of f0).trans b5).same hy
    have hoX := f0 _ _ ho
    have k_l1 := b5 _ _ n_l1 k_l1
    have k_l2 := b5 _ _ n_l2 k_l2
    walk_at "go"
    simp only [List.set_cons_succ, List.set_cons_zero]
    walk_at "bt"
    rename_i H5 b5 hoY
    have f0 : Same H H5 := ((But.of f0).trans b5).same hy
    have hoX := f0 _ _ ho
    have k_l1 := b5 _ _ n_l1 k_l1
    have k_l2 := b5 _ _ n_l2 k_l2
    walk_at "go"
    simp only [List.set_cons_succ, List.set_cons_zero]
    walk_at "bt"
    rename_i H5 b5 hoY
    have f0 : Same H H5 := ((But.of f0).trans b5).same hy
    have hoX := f0 _ _ ho
    have k_l1 := b5 _ _ n_l1 k_l1
    have k_l2 := b5 _ _ n_l2 k_l2
    walk_at "go"
    simp only [List.set_cons_succ, List.set_cons_zero]
    walk_at "bt"
    rename_i H5 b5 hoY
    have f0 : Same H H5 := ((But.of f0).trans b5).same hy
    have hoX := f0 _ _ ho
    have k_l1 := b5 _ _ n_l1 k_l1
    have k_l2 := b5 _ _ n_l2 k_l2
    walk_at "go"
    simp only [List.set_cons_succ, List.set_cons_zero]
    walk_at "bt"
    rename_i H5 b5 hoY
    have f0 : Same H H5 := ((But.of f0).trans b5).same hy
    have hoX := f0 _ _ ho
    have k_l1 := b5 _ _ n_l1 k_l1
    have k_l2 := b5 _ _ n_l2 k_l2
    walk_at "go"
    exact q ⟨y, dy, l1, l2, x.b⟩ _ hy g_l1 g_l2 f0 ⟨hoY, k_l1, k_l2, d12, hb.same fun tt o _ et => f0 _ _ et⟩

end
end My
namespace My
open PySem PySem.Spec L2
local macro_rules | `(tactic| walk_at "side") => `(tactic| first | assumption | decide | omega | exact ⟨by decide, by decide⟩ | exact ⟨by decide, by decide, by decide⟩ | decide +kernel | exact cdivW (by decide +kernel) (by decide +kernel) | exact Or.inl ⟨by omega, by omega⟩ | exact Or.inr ⟨by omega, by omega⟩ | (simp only [List.length_map, List.length_cons, List.length_nil, List.length_append]; omega))
local macro_rules | `(tactic| walk_at "fact") => `(tactic| first | assumption | omega | with_reducible rfl)
local macro_rules | `(tactic| walk_at "use") => `(tactic| fail "use")
local macro_rules | `(tactic| walk_at "go1") => `(tactic| with_reducible first | refine g_seq ?_ | refine g_asg ?_ | refine g_ret ?_ | refine g_ifS ?_ | refine g_drop ?_ | refine g_star ?_ | refine g_nx ?_ | refine g_rt ?_ | refine g_bkE ?_ | refine g_ctE ?_ | refine g_next ?_ | refine g_retN ?_ | refine g_brk ?_ | refine g_ct ?_ | refine g_c ?_ | refine g_op ?_ | refine g_un ?_ | refine g_rI0 ?_ | refine g_rU ?_ | refine g_rEqI ?_ | refine g_rNeI ?_ | refine g_isN ?_ | refine g_rIsB ?_ | refine g_rNotB ?_ | refine g_test ?_ | refine g_B ?_ | refine g_bl ?_ | refine g_and ?_ | refine g_or ?_ | refine g_not ?_ | refine g_andV ?_ | refine g_orV ?_ | refine g_notV ?_ | refine g_if ?_ | refine g_chain ?_ | refine g_yes ?_ | refine g_lc ?_ | refine g_revR ?_ | refine g_rng1 ?_ | refine g_iList ?_ | refine g_nil ?_ | refine g_cons ?_ | refine g_tup ?_ | refine g_lst ?_ | refine g_call ?_ | refine g_CB ?_ | refine g_sl ?_ | refine g_noPart ?_ | refine g_part ?_ | refine g_intE ?_ | refine g_ref ?_ | refine g_fld ?_ | refine g_sfld ?_ | refine g_meth ?_ | refine g_make ?_ | refine g_prop ?_  | refine g_ipI ?_ | refine g_int1 ?_ | refine g_int1B ?_ | refine g_one ?_ | refine g_two ?_ | refine g_isiI ?_ | refine g_isiIB ?_ | refine g_isiB ?_ | refine g_BM ?_ | refine g_BM0 ?_ | refine g_sub ?_)
local macro_rules | `(tactic| walk_at "go") => `(tactic| repeat (first | walk_at "go1" | ((with_reducible refine' g_nameE ?sd_ ?_); case sd_ => dsimp only [List.set_cons_succ, List.set_cons_zero]) | ((with_reducible refine' g_var ?sd_ ?_); case sd_ => exact rfl) | ((with_reducible refine' g_aug ?sd_ ?_); case sd_ => exact rfl) | ((with_reducible refine' g_rI ?sd_ ?_); case sd_ => walk_at "side") | ((with_reducible refine' g_dT ?sd_ ?_); case sd_ => walk_at "fact") | ((with_reducible refine' g_dF ?sd_ ?_); case sd_ => walk_at "fact") | ((with_reducible refine' g_nT ?sd_ ?_); case sd_ => walk_at "fact") | ((with_reducible refine' g_nF ?sd_ ?_); case sd_ => walk_at "fact") | (with_reducible refine g_iT rfl ?_) | (with_reducible refine g_iF rfl ?_) | walk_at "use"))
local macro_rules | `(tactic| walk_at "nw") => `(tactic| (generalize zq : upd _ _ _ = Hq; have sq : Same _ Hq := (by rw [← zq]; exact same_upd (by assumption)); have kq := (congrFun zq _).symm.trans upd_same; clear zq))
local macro_rules | `(tactic| walk_at "bt") => `(tactic| (generalize zq : upd _ _ _ = Hq; have bq : But _ _ Hq := (by rw [← zq]; exact But.refl.upd); have kq := (congrFun zq _).symm.trans upd_same; clear zq))
local macro_rules | `(tactic| walk_at "use") => `(tactic| first | ((with_reducible refine' fd_Channel_number ?ho_ ?hv_ ?_); (case ho_ => first | assumption | exact upd_same); (case hv_ => exact rfl)) | ((with_reducible refine' fd_Channel_announced ?ho_ ?hv_ ?_); (case ho_ => first | assumption | exact upd_same); (case hv_ => exact rfl)) | ((with_reducible refine' fd_Channel_queue ?ho_ ?hv_ ?_); (case ho_ => first | assumption | exact upd_same); (case hv_ => exact rfl)) | ((with_reducible refine' fd_Channel_credit ?ho_ ?hv_ ?_); (case ho_ => first | assumption | exact upd_same); (case hv_ => exact rfl)) | ((with_reducible refine' fd_Channel_finished ?ho_ ?hv_ ?_); (case ho_ => first | assumption | exact upd_same); (case hv_ => exact rfl)) | ((with_reducible refine' fd_Channel_end_sent ?ho_ ?hv_ ?_); (case ho_ => first | assumption | exact upd_same); (case hv_ => exact rfl)) | ((with_reducible refine' fd_Channel_unread ?ho_ ?hv_ ?_); (case ho_ => first | assumption | exact upd_same); (case hv_ => exact rfl)) | ((with_reducible refine' fd_Channel_due ?ho_ ?hv_ ?_); (case ho_ => first | assumption | exact upd_same); (case hv_ => exact rfl)) | ((with_reducible refine' fd_Channel_end_came ?ho_ ?hv_ ?_); (case ho_ => first | assumption | exact upd_same); (case hv_ => exact rfl)) | ((with_reducible refine' fd_Channel_broken ?ho_ ?hv_ ?_); (case ho_ => first | assumption | exact upd_same); (case hv_ => exact rfl)) | ((with_reducible refine' fd_Channel_reset_told ?ho_ ?hv_ ?_); (case ho_ => first | assumption | exact upd_same); (case hv_ => exact rfl)) | ((with_reducible refine' nw_Channel_number ?ho_ ?hv_ ?_); (case ho_ => first | assumption | exact upd_same); (case hv_ => exact rfl)) | ((with_reducible refine' nw_Channel_announced ?ho_ ?hv_ ?_); (case ho_ => first | assumption | exact upd_same); (case hv_ => exact rfl)) | ((with_reducible refine' nw_Channel_queue ?ho_ ?hv_ ?_); (case ho_ => first | assumption | exact upd_same); (case hv_ => exact rfl)) | ((with_reducible refine' nw_Channel_credit ?ho_ ?hv_ ?_); (case ho_ => first | assumption | exact upd_same); (case hv_ => exact rfl)) | ((with_reducible refine' nw_Channel_finished ?ho_ ?hv_ ?_); (case ho_ => first | assumption | exact upd_same); (case hv_ => exact rfl)) | ((with_reducible refine' nw_Channel_end_sent ?ho_ ?hv_ ?_); (case ho_ => first | assumption | exact upd_same); (case hv_ => exact rfl)) | ((with_reducible refine' nw_Channel_unread ?ho_ ?hv_ ?_); (case ho_ => first | assumption | exact upd_same); (case hv_ => exact rfl)) | ((with_reducible refine' nw_Channel_due ?ho_ ?hv_ ?_); (case ho_ => first | assumption | exact upd_same); (case hv_ => exact rfl)) | ((with_reducible refine' nw_Channel_end_came ?ho_ ?hv_ ?_); (case ho_ => first | assumption | exact upd_same); (case hv_ => exact rfl)) | ((with_reducible refine' nw_Channel_broken ?ho_ ?hv_ ?_); (case ho_ => first | assumption | exact upd_same); (case hv_ => exact rfl)) | ((with_reducible refine' nw_Channel_reset_told ?ho_ ?hv_ ?_); (case ho_ => first | assumption | exact upd_same); (case hv_ => exact rfl)) | ((with_reducible refine' st_Channel_number ?ho_ ?hv_ ?_); (case ho_ => first | assumption | exact upd_same); (case hv_ => exact Nat.le_of_ble_eq_true rfl)) | ((with_reducible refine' st_Channel_announced ?ho_ ?hv_ ?_); (case ho_ => first | assumption | exact upd_same); (case hv_ => exact Nat.le_of_ble_eq_true rfl)) | ((with_reducible refine' st_Channel_queue ?ho_ ?hv_ ?_); (case ho_ => first | assumption | exact upd_same); (case hv_ => exact Nat.le_of_ble_eq_true rfl)) | ((with_reducible refine' st_Channel_credit ?ho_ ?hv_ ?_); (case ho_ => first | assumption | exact upd_same); (case hv_ => exact Nat.le_of_ble_eq_true rfl)) | ((with_reducible refine' st_Channel_finished ?ho_ ?hv_ ?_); (case ho_ => first | assumption | exact upd_same); (case hv_ => exact Nat.le_of_ble_eq_true rfl)) | ((with_reducible refine' st_Channel_end_sent ?ho_ ?hv_ ?_); (case ho_ => first | assumption | exact upd_same); (case hv_ => exact Nat.le_of_ble_eq_true rfl)) | ((with_reducible refine' st_Channel_unread ?ho_ ?hv_ ?_); (case ho_ => first | assumption | exact upd_same); (case hv_ => exact Nat.le_of_ble_eq_true rfl)) | ((with_reducible refine' st_Channel_due ?ho_ ?hv_ ?_); (case ho_ => first | assumption | exact upd_same); (case hv_ => exact Nat.le_of_ble_eq_true rfl)) | ((with_reducible refine' st_Channel_end_came ?ho_ ?hv_ ?_); (case ho_ => first | assumption | exact upd_same); (case hv_ => exact Nat.le_of_ble_eq_true rfl)) | ((with_reducible refine' st_Channel_broken ?ho_ ?hv_ ?_); (case ho_ => first | assumption | exact upd_same); (case hv_ => exact Nat.le_of_ble_eq_true rfl)) | ((with_reducible refine' st_Channel_reset_told ?ho_ ?hv_ ?_); (case ho_ => first | assumption | exact upd_same); (case hv_ => exact Nat.le_of_ble_eq_true rfl)) | ((with_reducible refine' me_Channel_break_off ?ho_ ?_); (case ho_ => first | assumption | exact upd_same)) | ((with_reducible refine' me_Channel_fork ?ho_ ?_); (case ho_ => first | assumption | exact upd_same)))
local macro_rules | `(tactic| walk_at "use") => `(tactic| first | ((with_reducible refine' fd_Channels_failure ?ho_ ?hv_ ?_); (case ho_ => first | assumption | exact upd_same); (case hv_ => exact rfl)) | ((with_reducible refine' fd_Channels__window ?ho_ ?hv_ ?_); (case ho_ => first | assumption | exact upd_same); (case hv_ => exact rfl)) | ((with_reducible refine' fd_Channels__most ?ho_ ?hv_ ?_); (case ho_ => first | assumption | exact upd_same); (case hv_ => exact rfl)) | ((with_reducible refine' fd_Channels__next_here ?ho_ ?hv_ ?_); (case ho_ => first | assumption | exact upd_same); (case hv_ => exact rfl)) | ((with_reducible refine' fd_Channels__next_there ?ho_ ?hv_ ?_); (case ho_ => first | assumption | exact upd_same); (case hv_ => exact rfl)) | ((with_reducible refine' fd_Channels__channels ?ho_ ?hv_ ?_); (case ho_ => first | assumption | exact upd_same); (case hv_ => exact rfl)) | ((with_reducible refine' fd_Channels__numbers ?ho_ ?hv_ ?_); (case ho_ => first | assumption | exact upd_same); (case hv_ => exact rfl)) | ((with_reducible refine' fd_Channels__turns ?ho_ ?hv_ ?_); (case ho_ => first | assumption | exact upd_same); (case hv_ => exact rfl)) | ((with_reducible refine' fd_Channels__offered ?ho_ ?hv_ ?_); (case ho_ => first | assumption | exact upd_same); (case hv_ => exact rfl)) | ((with_reducible refine' fd_Channels__going ?ho_ ?hv_ ?_); (case ho_ => first | assumption | exact upd_same); (case hv_ => exact rfl)) | ((with_reducible refine' fd_Channels__coming ?ho_ ?hv_ ?_); (case ho_ => first | assumption | exact upd_same); (case hv_ => exact rfl)) | ((with_reducible refine' nw_Channels_failure ?ho_ ?hv_ ?_); (case ho_ => first | assumption | exact upd_same); (case hv_ => exact rfl)) | ((with_reducible refine' nw_Channels__window ?ho_ ?hv_ ?_); (case ho_ => first | assumption | exact upd_same); (case hv_ => exact rfl)) | ((with_reducible refine' nw_Channels__most ?ho_ ?hv_ ?_); (case ho_ => first | assumption | exact upd_same); (case hv_ => exact rfl)) | ((with_reducible refine' nw_Channels__next_here ?ho_ ?hv_ ?_); (case ho_ => first | assumption | exact upd_same); (case hv_ => exact rfl)) | ((with_reducible refine' nw_Channels__next_there ?ho_ ?hv_ ?_); (case ho_ => first | assumption | exact upd_same); (case hv_ => exact rfl)) | ((with_reducible refine' nw_Channels__channels ?ho_ ?hv_ ?_); (case ho_ => first | assumption | exact upd_same); (case hv_ => exact rfl)) | ((with_reducible refine' nw_Channels__numbers ?ho_ ?hv_ ?_); (case ho_ => first | assumption | exact upd_same); (case hv_ => exact rfl)) | ((with_reducible refine' nw_Channels__turns ?ho_ ?hv_ ?_); (case ho_ => first | assumption | exact upd_same); (case hv_ => exact rfl)) | ((with_reducible refine' nw_Channels__offered ?ho_ ?hv_ ?_); (case ho_ => first | assumption | exact upd_same); (case hv_ => exact rfl)) | ((with_reducible refine' nw_Channels__going ?ho_ ?hv_ ?_); (case ho_ => first | assumption | exact upd_same); (case hv_ => exact rfl)) | ((with_reducible refine' nw_Channels__coming ?ho_ ?hv_ ?_); (case ho_ => first | assumption | exact upd_same); (case hv_ => exact rfl)) | ((with_reducible refine' st_Channels_failure ?ho_ ?hv_ ?_); (case ho_ => first | assumption | exact upd_same); (case hv_ => exact Nat.le_of_ble_eq_true rfl)) | ((with_reducible refine' st_Channels__window ?ho_ ?hv_ ?_); (case ho_ => first | assumption | exact upd_same); (case hv_ => exact Nat.le_of_ble_eq_true rfl)) | ((with_reducible refine' st_Channels__most ?ho_ ?hv_ ?_); (case ho_ => first | assumption | exact upd_same); (case hv_ => exact Nat.le_of_ble_eq_true rfl)) | ((with_reducible refine' st_Channels__next_here ?ho_ ?hv_ ?_); (case ho_ => first | assumption | exact upd_same); (case hv_ => exact Nat.le_of_ble_eq_true rfl)) | ((with_reducible refine' st_Channels__next_there ?ho_ ?hv_ ?_); (case ho_ => first | assumption | exact upd_same); (case hv_ => exact Nat.le_of_ble_eq_true rfl)) | ((with_reducible refine' st_Channels__channels ?ho_ ?hv_ ?_); (case ho_ => first | assumption | exact upd_same); (case hv_ => exact Nat.le_of_ble_eq_true rfl)) | ((with_reducible refine' st_Channels__numbers ?ho_ ?hv_ ?_); (case ho_ => first | assumption | exact upd_same); (case hv_ => exact Nat.le_of_ble_eq_true rfl)) | ((with_reducible refine' st_Channels__turns ?ho_ ?hv_ ?_); (case ho_ => first | assumption | exact upd_same); (case hv_ => exact Nat.le_of_ble_eq_true rfl)) | ((with_reducible refine' st_Channels__offered ?ho_ ?hv_ ?_); (case ho_ => first | assumption | exact upd_same); (case hv_ => exact Nat.le_of_ble_eq_true rfl)) | ((with_reducible refine' st_Channels__going ?ho_ ?hv_ ?_); (case ho_ => first | assumption | exact upd_same); (case hv_ => exact Nat.le_of_ble_eq_true rfl)) | ((with_reducible refine' st_Channels__coming ?ho_ ?hv_ ?_); (case ho_ => first | assumption | exact upd_same); (case hv_ => exact Nat.le_of_ble_eq_true rfl)) | ((with_reducible refine' me_Channels_len__ ?ho_ ?_); (case ho_ => first | assumption | exact upd_same)) | ((with_reducible refine' me_Channels_iter__ ?ho_ ?_); (case ho_ => first | assumption | exact upd_same)) | ((with_reducible refine' me_Channels_open_channel ?ho_ ?_); (case ho_ => first | assumption | exact upd_same)) | ((with_reducible refine' me_Channels_accept ?ho_ ?_); (case ho_ => first | assumption | exact upd_same)) | ((with_reducible refine' me_Channels_finish ?ho_ ?_); (case ho_ => first | assumption | exact upd_same)) | ((with_reducible refine' me_Channels_reset ?ho_ ?_); (case ho_ => first | assumption | exact upd_same)) | ((with_reducible refine' me_Channels_status ?ho_ ?_); (case ho_ => first | assumption | exact upd_same)) | ((with_reducible refine' me_Channels_take ?ho_ ?_); (case ho_ => first | assumption | exact upd_same)) | ((with_reducible refine' me_Channels_receive ?ho_ ?_); (case ho_ => first | assumption | exact upd_same)) | ((with_reducible refine' me_Channels_fork ?ho_ ?_); (case ho_ => first | assumption | exact upd_same)) | ((with_reducible refine' me_Channels_known ?ho_ ?_); (case ho_ => first | assumption | exact upd_same)) | ((with_reducible refine' me_Channels_add ?ho_ ?_); (case ho_ => first | assumption | exact upd_same)) | ((with_reducible refine' me_Channels_room_of ?ho_ ?_); (case ho_ => first | assumption | exact upd_same)) | ((with_reducible refine' me_Channels_take_frame ?ho_ ?_); (case ho_ => first | assumption | exact upd_same)) | ((with_reducible refine' me_Channels_failure_of ?ho_ ?_); (case ho_ => first | assumption | exact upd_same)) | ((with_reducible refine' me_Channels_apply ?ho_ ?_); (case ho_ => first | assumption | exact upd_same)))
section
variable {P : Program} {w : World} {K : PySem.W.Frag} {mg : Str → Option Value} {base : Heap}
local macro_rules | `(tactic| walk_at "use") => `(tactic| with_reducible first | refine g_rs0 ?_ | refine g_rs1 ?_ | refine g_tryA ?_ | refine g_tryO ?_ | refine g_callS ?_ | refine g_joined ?_ | refine g_jsnil ?_ | refine g_jscons ?_ | refine g_fmt ?_)
local macro_rules | `(tactic| walk_at "fit") => `(tactic| (refine fit2 ?_; (try simp only [PySem.Str.length_append]); omega))
local macro_rules | `(tactic| walk_at "use") => `(tactic| first | ((with_reducible refine' g_addS ?sd_ ?_); case sd_ => (first | omega | (simp only [PySem.Str.length_append]; omega))) | ((with_reducible refine' g_slS ?sd_ ?_); case sd_ => omega) | (with_reducible refine g_m0 ?_))

section
variable {K : PySem.W.Frag} {H : Hp} {Q : VK}
end
local macro_rules | `(tactic| walk_at "use") => `(tactic| with_reducible first | refine g_rEqS ?_ | refine g_rNeS ?_ | refine g_isiS ?_)

def dg (n : Int) : Nat → List Int
  | 0 => []
  | k + 1 => (n / 256 ^ k % 256) :: dg n k
theorem dg_len (n : Int) : ∀ k, (dg n k).length = k
  | 0 => rfl
  | k + 1 => congrArg Nat.succ (dg_len n k)
theorem dg_get (n : Int) : ∀ k i, i < k → (dg n k)[i]? = some (n / 256 ^ (k - 1 - i) % 256)
  | 0, _, h => by omega
  | k + 1, 0, _ => rfl
  | k + 1, i + 1, h => by
    show (dg n k)[i]? = _
    rw [dg_get n k i (by omega)]
    rw [show k + 1 - 1 - (i + 1) = k - 1 - i by omega]
theorem pw8 {n pl : Int} {m : Nat} (e : 8 * pl = ((8 * m : Nat) : Int)) : n / 2 ^ (8 * pl).toNat = n / 256 ^ m := by
  rw [e, Int.toNat_natCast, Int.pow_mul]
  rfl
def sp_write_number (K : PySem.W.Frag) : Sp := fun vs H Q _ => ∃ (n k : Int), vs = [.int n, .int k] ∧ (0 ≤ k ∧ k ≤ 1000) ∧ ∀ p H', H p = none → Same H H' → H' p = some (.lst ((dg n k.toNat).map V.int)) → Q (.ref p) H'
theorem u_write {n k : Int} {H Q E} (h : 0 ≤ k ∧ k ≤ 1000) (q : ∀ p H', H p = none → Same H H' → H' p = some (.lst ((dg n k.toNat).map V.int)) → Q (.ref p) H') : sp_write_number K ([.int n, .int k] ++ []) H Q E := ⟨n, k, rfl, h, q⟩
local macro_rules | `(tactic| walk_at "use") => `(tactic| with_reducible refine u_write (by omega) ?_)

def vl (ns : List Int) : Int := ns.foldl (fun v x => 256 * v + x) 0
theorem vl_take {ns : List Int} {i : Nat} {x : Int} (h : ns[i]? = some x) : vl (ns.take (i + 1)) = 256 * vl (ns.take i) + x := by
  unfold vl
  rw [List.take_add_one, h, List.foldl_append]
  rfl
def sp_read_number (K : PySem.W.Frag) : Sp := fun vs H Q _ => ∃ (a : Addr) (ns : List Int), vs = [.ref a] ∧ SqL K H a (ns.map V.int) ∧ Q (.int (vl ns)) H
theorem u_read {a : Addr} {ns : List Int} {H Q E} (h : SqL K H a (ns.map V.int)) (q : Q (.int (vl ns)) H) : sp_read_number K ([.ref a] ++ []) H Q E := ⟨a, ns, rfl, h, q⟩
theorem ok_read_number (T : Txt P w K mg) : FnOk P w K mg base CX0 1 T.f_read_number T.d_read_number ["octets"] (sp_read_number K) := by
  refine T.F_read_number.ok sc_read_number (fun vs H Q E h => ?_) (fun cdv A outer s H vs Q E hr h => ?_)
  · obtain ⟨a, ns, rfl, h, q⟩ := h
    rfl
  · obtain ⟨a, ns, rfl, h, q⟩ := h
    have hu := hu_of hr
    refine ⟨_, (pss_cons (ps_set (i := 1) sc_read_number.nd rfl (Or.inl rfl) pe_int)
        (pss_cons (ps_for PassesOwn.never rfl (pi_list (pv 0)) (pg_name (i := 2) sc_read_number.nd rfl (Or.inl rfl)) (pss_one (ps_set (i := 1) sc_read_number.nd rfl (Or.inl rfl) (pe_op op_add (pe_op op_mul pe_int (pv 1)) (pv 2)))))
        (pss_one (ps_ret (pv 1))))), ?_⟩
    dsimp only [cxOf, Cx.nox, Cx.wish, L2.start, List.map, List.cons_append, List.nil_append, List.length_cons, List.length_nil, Nat.reduceAdd, Nat.reduceSub, Nat.zero_add, List.replicate_succ, List.replicate_zero]
    walk_at "go"
    refine for_l (xs := ns.map V.int) (fun i σ H' => H' = H ∧ ∃ v, σ = [some (.ref a), some (.int (vl (ns.take i))), v]) h ⟨rfl, none, rfl⟩ (fun i σ H' _ ⟨e, _⟩ => by rw [e]; exact h) ?turn ?done ?ev
    case ev =>
      intro R r
      walk_at "go"
      exact r
    case done =>
      rintro σ H' ⟨rfl, v, rfl⟩
      rw [List.length_map, List.take_length]
      walk_at "go"
      exact q
    case turn =>
      rintro i x σ H' hx ⟨rfl, v, rfl⟩
      obtain ⟨z, hz, rfl⟩ := map_get hx
      walk_at "go"
      refine ⟨rfl, some (.int z), ?_⟩
      rw [vl_take hz]

theorem dg2 {n : Int} : dg n 2 = [n / 256 % 256, n % 256] := by
  show [n / 256 ^ 1 % 256, n / 256 ^ 0 % 256] = _
  rw [Int.pow_one, Int.pow_zero, Int.ediv_one]
theorem vl_two {a b : Int} : vl [a, b] = 256 * a + b := by
  show 256 * (256 * 0 + a) + b = _
  omega
theorem vl_dg {n : Int} (h : 0 ≤ n ∧ n < 65536) : vl [n / 256 % 256, n % 256] = n := by
  rw [vl_two]
  omega
def seg (xs : List Int) (a b : Nat) : List Int := (xs.take b).drop a
theorem cutV_seg {bs : List Int} {a b : Nat} (h : a ≤ b) (hb : b ≤ bs.length) : cutV (bs.map V.int) (some (a : Int)) (some (b : Int)) = (seg bs a b).map V.int := by
  unfold cutV seg
  rw [HT.sIx_nat, HT.sIx_nat, List.length_map, Nat.min_eq_left (by omega), Nat.min_eq_left (by omega), List.map_drop, List.map_take, List.drop_take]
inductive Fr where
  | op (c : Int)
  | oc (c : Int) (os : List Int)
  | pm (c n : Int)
  | en (c : Int)
  | rs (c n : Int)
def FrO (H : Hp) (t : Addr) : Fr → Prop
  | .op c => H t = some (.tup [.str "open", .int c])
  | .oc c os => ∃ l, H t = some (.tup [.str "octets", .int c, .ref l]) ∧ H l = some (.lst (os.map V.int))
  | .pm c n => H t = some (.tup [.str "permit", .int c, .int n])
  | .en c => H t = some (.tup [.str "end", .int c])
  | .rs c n => H t = some (.tup [.str "reset", .int c, .int n])
theorem FrO.same {H H' : Hp} {t : Addr} {f : Fr} (h : FrO H t f) (s : Same H H') : FrO H' t f := by
  cases f with
  | oc c os =>
    obtain ⟨l, h1, h2⟩ := h
    exact ⟨l, s _ _ h1, s _ _ h2⟩
  | _ => exact s _ _ h
def W16 (n : Int) : Prop := 0 ≤ n ∧ n < 65536
def FOk : Fr → Prop
  | .op c => W16 c
  | .oc c os => W16 c ∧ os.length ≤ 700
  | .pm c n => W16 c ∧ W16 n
  | .en c => W16 c
  | .rs c n => W16 c ∧ W16 n
def enc : Fr → List Int
  | .op c => [1, c / 256 % 256, c % 256]
  | .oc c os => [2, c / 256 % 256, c % 256, (os.length : Int) / 256 % 256, (os.length : Int) % 256] ++ os
  | .pm c n => [3, c / 256 % 256, c % 256, n / 256 % 256, n % 256]
  | .en c => [4, c / 256 % 256, c % 256]
  | .rs c n => [5, c / 256 % 256, c % 256, n / 256 % 256, n % 256]
theorem enc_len {f : Fr} (h : FOk f) : 3 ≤ (enc f).length ∧ (enc f).length ≤ 705 := by
  cases f with
  | oc c os =>
    show 3 ≤ os.length + 5 ∧ os.length + 5 ≤ 705
    have := h.2
    omega
  | _ => first | exact ⟨by show 3 ≤ 3; decide, by show 3 ≤ 705; decide⟩ | exact ⟨by show 3 ≤ 5; decide, by show 5 ≤ 705; decide⟩
def sp_write_frame (K : PySem.W.Frag) : Sp := fun vs H Q _ => ∃ (t : Addr) (f : Fr), vs = [.ref t] ∧ FrO H t f ∧ FOk f ∧ ∀ p H', H p = none → Same H H' → H' p = some (.lst ((enc f).map V.int)) → Q (.ref p) H'
theorem u_wf {t : Addr} {f : Fr} {H Q E} (h : FrO H t f) (ok : FOk f) (q : ∀ p H', H p = none → Same H H' → H' p = some (.lst ((enc f).map V.int)) → Q (.ref p) H') : sp_write_frame K ([.ref t] ++ []) H Q E := ⟨t, f, rfl, h, ok, q⟩
def tlF : Fr → List Int
  | .op _ => []
  | .oc _ os => [(os.length : Int) / 256 % 256, (os.length : Int) % 256] ++ os
  | .pm _ n => [n / 256 % 256, n % 256]
  | .en _ => []
  | .rs _ n => [n / 256 % 256, n % 256]
def kdF : Fr → Int
  | .op _ => 1
  | .oc _ _ => 2
  | .pm _ _ => 3
  | .en _ => 4
  | .rs _ _ => 5
def chF : Fr → Int
  | .op c => c
  | .oc c _ => c
  | .pm c _ => c
  | .en c => c
  | .rs c _ => c
theorem enc_eq : ∀ {f : Fr}, enc f = kdF f :: chF f / 256 % 256 :: chF f % 256 :: tlF f
  | .op _ => rfl
  | .oc _ _ => rfl
  | .pm _ _ => rfl
  | .en _ => rfl
  | .rs _ _ => rfl
theorem seg_os {kd c : Int} {os r : List Int} : seg (kd :: c / 256 % 256 :: c % 256 :: (tlF (.oc c os) ++ r)) 5 (5 + os.length) = os := by
  unfold seg
  rw [List.drop_take]
  show ((os ++ r).take (5 + os.length - 5)) = os
  rw [show 5 + os.length - 5 = os.length by omega, List.take_left]

end
end My
namespace My
open PySem PySem.Spec L2
local macro_rules | `(tactic| walk_at "side") => `(tactic| first | assumption | decide | omega | exact ⟨by decide, by decide⟩ | exact ⟨by decide, by decide, by decide⟩ | decide +kernel | exact cdivW (by decide +kernel) (by decide +kernel) | exact Or.inl ⟨by omega, by omega⟩ | exact Or.inr ⟨by omega, by omega⟩ | (simp only [List.length_map, List.length_cons, List.length_nil, List.length_append]; omega))
local macro_rules | `(tactic| walk_at "fact") => `(tactic| first | assumption | omega | with_reducible rfl)
local macro_rules | `(tactic| walk_at "use") => `(tactic| fail "use")
local macro_rules | `(tactic| walk_at "go1") => `(tactic| with_reducible first | refine g_seq ?_ | refine g_asg ?_ | refine g_ret ?_ | refine g_ifS ?_ | refine g_drop ?_ | refine g_star ?_ | refine g_nx ?_ | refine g_rt ?_ | refine g_bkE ?_ | refine g_ctE ?_ | refine g_next ?_ | refine g_retN ?_ | refine g_brk ?_ | refine g_ct ?_ | refine g_c ?_ | refine g_op ?_ | refine g_un ?_ | refine g_rI0 ?_ | refine g_rU ?_ | refine g_rEqI ?_ | refine g_rNeI ?_ | refine g_isN ?_ | refine g_rIsB ?_ | refine g_rNotB ?_ | refine g_test ?_ | refine g_B ?_ | refine g_bl ?_ | refine g_and ?_ | refine g_or ?_ | refine g_not ?_ | refine g_andV ?_ | refine g_orV ?_ | refine g_notV ?_ | refine g_if ?_ | refine g_chain ?_ | refine g_yes ?_ | refine g_lc ?_ | refine g_revR ?_ | refine g_rng1 ?_ | refine g_iList ?_ | refine g_nil ?_ | refine g_cons ?_ | refine g_tup ?_ | refine g_lst ?_ | refine g_call ?_ | refine g_CB ?_ | refine g_sl ?_ | refine g_noPart ?_ | refine g_part ?_ | refine g_intE ?_ | refine g_ref ?_ | refine g_fld ?_ | refine g_sfld ?_ | refine g_meth ?_ | refine g_make ?_ | refine g_prop ?_  | refine g_ipI ?_ | refine g_int1 ?_ | refine g_int1B ?_ | refine g_one ?_ | refine g_two ?_ | refine g_isiI ?_ | refine g_isiIB ?_ | refine g_isiB ?_ | refine g_BM ?_ | refine g_BM0 ?_ | refine g_sub ?_)
local macro_rules | `(tactic| walk_at "go") => `(tactic| repeat (first | walk_at "go1" | ((with_reducible refine' g_nameE ?sd_ ?_); case sd_ => dsimp only [List.set_cons_succ, List.set_cons_zero]) | ((with_reducible refine' g_var ?sd_ ?_); case sd_ => exact rfl) | ((with_reducible refine' g_aug ?sd_ ?_); case sd_ => exact rfl) | ((with_reducible refine' g_rI ?sd_ ?_); case sd_ => walk_at "side") | ((with_reducible refine' g_dT ?sd_ ?_); case sd_ => walk_at "fact") | ((with_reducible refine' g_dF ?sd_ ?_); case sd_ => walk_at "fact") | ((with_reducible refine' g_nT ?sd_ ?_); case sd_ => walk_at "fact") | ((with_reducible refine' g_nF ?sd_ ?_); case sd_ => walk_at "fact") | (with_reducible refine g_iT rfl ?_) | (with_reducible refine g_iF rfl ?_) | walk_at "use"))
local macro_rules | `(tactic| walk_at "nw") => `(tactic| (generalize zq : upd _ _ _ = Hq; have sq : Same _ Hq := (by rw [← zq]; exact same_upd (by assumption)); have kq := (congrFun zq _).symm.trans upd_same; clear zq))
local macro_rules | `(tactic| walk_at "bt") => `(tactic| (generalize zq : upd _ _ _ = Hq; have bq : But _ _ Hq := (by rw [← zq]; exact But.refl.upd); have kq := (congrFun zq _).symm.trans upd_same; clear zq))
local macro_rules | `(tactic| walk_at "use") => `(tactic| first | ((with_reducible refine' fd_Channel_number ?ho_ ?hv_ ?_); (case ho_ => first | assumption | exact upd_same); (case hv_ => exact rfl)) | ((with_reducible refine' fd_Channel_announced ?ho_ ?hv_ ?_); (case ho_ => first | assumption | exact upd_same); (case hv_ => exact rfl)) | ((with_reducible refine' fd_Channel_queue ?ho_ ?hv_ ?_); (case ho_ => first | assumption | exact upd_same); (case hv_ => exact rfl)) | ((with_reducible refine' fd_Channel_credit ?ho_ ?hv_ ?_); (case ho_ => first | assumption | exact upd_same); (case hv_ => exact rfl)) | ((with_reducible refine' fd_Channel_finished ?ho_ ?hv_ ?_); (case ho_ => first | assumption | exact upd_same); (case hv_ => exact rfl)) | ((with_reducible refine' fd_Channel_end_sent ?ho_ ?hv_ ?_); (case ho_ => first | assumption | exact upd_same); (case hv_ => exact rfl)) | ((with_reducible refine' fd_Channel_unread ?ho_ ?hv_ ?_); (case ho_ => first | assumption | exact upd_same); (case hv_ => exact rfl)) | ((with_reducible refine' fd_Channel_due ?ho_ ?hv_ ?_); (case ho_ => first | assumption | exact upd_same); (case hv_ => exact rfl)) | ((with_reducible refine' fd_Channel_end_came ?ho_ ?hv_ ?_); (case ho_ => first | assumption | exact upd_same); (case hv_ => exact rfl)) | ((with_reducible refine' fd_Channel_broken ?ho_ ?hv_ ?_); (case ho_ => first | assumption | exact upd_same); (case hv_ => exact rfl)) | ((with_reducible refine' fd_Channel_reset_told ?ho_ ?hv_ ?_); (case ho_ => first | assumption | exact upd_same); (case hv_ => exact rfl)) | ((with_reducible refine' nw_Channel_number ?ho_ ?hv_ ?_); (case ho_ => first | assumption | exact upd_same); (case hv_ => exact rfl)) | ((with_reducible refine' nw_Channel_announced ?ho_ ?hv_ ?_); (case ho_ => first | assumption | exact upd_same); (case hv_ => exact rfl)) | ((with_reducible refine' nw_Channel_queue ?ho_ ?hv_ ?_); (case ho_ => first | assumption | exact upd_same); (case hv_ => exact rfl)) | ((with_reducible refine' nw_Channel_credit ?ho_ ?hv_ ?_); (case ho_ => first | assumption | exact upd_same); (case hv_ => exact rfl)) | ((with_reducible refine' nw_Channel_finished ?ho_ ?hv_ ?_); (case ho_ => first | assumption | exact upd_same); (case hv_ => exact rfl)) | ((with_reducible refine' nw_Channel_end_sent ?ho_ ?hv_ ?_); (case ho_ => first | assumption | exact upd_same); (case hv_ => exact rfl)) | ((with_reducible refine' nw_Channel_unread ?ho_ ?hv_ ?_); (case ho_ => first | assumption | exact upd_same); (case hv_ => exact rfl)) | ((with_reducible refine' nw_Channel_due ?ho_ ?hv_ ?_); (case ho_ => first | assumption | exact upd_same); (case hv_ => exact rfl)) | ((with_reducible refine' nw_Channel_end_came ?ho_ ?hv_ ?_); (case ho_ => first | assumption | exact upd_same); (case hv_ => exact rfl)) | ((with_reducible refine' nw_Channel_broken ?ho_ ?hv_ ?_); (case ho_ => first | assumption | exact upd_same); (case hv_ => exact rfl)) | ((with_reducible refine' nw_Channel_reset_told ?ho_ ?hv_ ?_); (case ho_ => first | assumption | exact upd_same); (case hv_ => exact rfl)) | ((with_reducible refine' st_Channel_number ?ho_ ?hv_ ?_); (case ho_ => first | assumption | exact upd_same); (case hv_ => exact Nat.le_of_ble_eq_true rfl)) | ((with_reducible refine' st_Channel_announced ?ho_ ?hv_ ?_); (case ho_ => first | assumption | exact upd_same); (case hv_ => exact Nat.le_of_ble_eq_true rfl)) | ((with_reducible refine' st_Channel_queue ?ho_ ?hv_ ?_); (case ho_ => first | assumption | exact upd_same); (case hv_ => exact Nat.le_of_ble_eq_true rfl)) | ((with_reducible refine' st_Channel_credit ?ho_ ?hv_ ?_); (case ho_ => first | assumption | exact upd_same); (case hv_ => exact Nat.le_of_ble_eq_true rfl)) | ((with_reducible refine' st_Channel_finished ?ho_ ?hv_ ?_); (case ho_ => first | assumption | exact upd_same); (case hv_ => exact Nat.le_of_ble_eq_true rfl)) | ((with_reducible refine' st_Channel_end_sent ?ho_ ?hv_ ?_); (case ho_ => first | assumption | exact upd_same); (case hv_ => exact Nat.le_of_ble_eq_true rfl)) | ((with_reducible refine' st_Channel_unread ?ho_ ?hv_ ?_); (case ho_ => first | assumption | exact upd_same); (case hv_ => exact Nat.le_of_ble_eq_true rfl)) | ((with_reducible refine' st_Channel_due ?ho_ ?hv_ ?_); (case ho_ => first | assumption | exact upd_same); (case hv_ => exact Nat.le_of_ble_eq_true rfl)) | ((with_reducible refine' st_Channel_end_came ?ho_ ?hv_ ?_); (case ho_ => first | assumption | exact upd_same); (case hv_ => exact Nat.le_of_ble_eq_true rfl)) | ((with_reducible refine' st_Channel_broken ?ho_ ?hv_ ?_); (case ho_ => first | assumption | exact upd_same); (case hv_ => exact Nat.le_of_ble_eq_true rfl)) | ((with_reducible refine' st_Channel_reset_told ?ho_ ?hv_ ?_); (case ho_ => first | assumption | exact upd_same); (case hv_ => exact Nat.le_of_ble_eq_true rfl)) | ((with_reducible refine' me_Channel_break_off ?ho_ ?_); (case ho_ => first | assumption | exact upd_same)) | ((with_reducible refine' me_Channel_fork ?ho_ ?_); (case ho_ => first | assumption | exact upd_same)))
local macro_rules | `(tactic| walk_at "use") => `(tactic| first | ((with_reducible refine' fd_Channels_failure ?ho_ ?hv_ ?_); (case ho_ => first | assumption | exact upd_same); (case hv_ => exact rfl)) | ((with_reducible refine' fd_Channels__window ?ho_ ?hv_ ?_); (case ho_ => first | assumption | exact upd_same); (case hv_ => exact rfl)) | ((with_reducible refine' fd_Channels__most ?ho_ ?hv_ ?_); (case ho_ => first | assumption | exact upd_same); (case hv_ => exact rfl)) | ((with_reducible refine' fd_Channels__next_here ?ho_ ?hv_ ?_); (case ho_ => first | assumption | exact upd_same); (case hv_ => exact rfl)) | ((with_reducible refine' fd_Channels__next_there ?ho_ ?hv_ ?_); (case ho_ => first | assumption | exact upd_same); (case hv_ => exact rfl)) | ((with_reducible refine' fd_Channels__channels ?ho_ ?hv_ ?_); (case ho_ => first | assumption | exact upd_same); (case hv_ => exact rfl)) | ((with_reducible refine' fd_Channels__numbers ?ho_ ?hv_ ?_); (case ho_ => first | assumption | exact upd_same); (case hv_ => exact rfl)) | ((with_reducible refine' fd_Channels__turns ?ho_ ?hv_ ?_); (case ho_ => first | assumption | exact upd_same); (case hv_ => exact rfl)) | ((with_reducible refine' fd_Channels__offered ?ho_ ?hv_ ?_); (case ho_ => first | assumption | exact upd_same); (case hv_ => exact rfl)) | ((with_reducible refine' fd_Channels__going ?ho_ ?hv_ ?_); (case ho_ => first | assumption | exact upd_same); (case hv_ => exact rfl)) | ((with_reducible refine' fd_Channels__coming ?ho_ ?hv_ ?_); (case ho_ => first | assumption | exact upd_same); (case hv_ => exact rfl)) | ((with_reducible refine' nw_Channels_failure ?ho_ ?hv_ ?_); (case ho_ => first | assumption | exact upd_same); (case hv_ => exact rfl)) | ((with_reducible refine' nw_Channels__window ?ho_ ?hv_ ?_); (case ho_ => first | assumption | exact upd_same); (case hv_ => exact rfl)) | ((with_reducible refine' nw_Channels__most ?ho_ ?hv_ ?_); (case ho_ => first | assumption | exact upd_same); (case hv_ => exact rfl)) | ((with_reducible refine' nw_Channels__next_here ?ho_ ?hv_ ?_); (case ho_ => first | assumption | exact upd_same); (case hv_ => exact rfl)) | ((with_reducible refine' nw_Channels__next_there ?ho_ ?hv_ ?_); (case ho_ => first | assumption | exact upd_same); (case hv_ => exact rfl)) | ((with_reducible refine' nw_Channels__channels ?ho_ ?hv_ ?_); (case ho_ => first | assumption | exact upd_same); (case hv_ => exact rfl)) | ((with_reducible refine' nw_Channels__numbers ?ho_ ?hv_ ?_); (case ho_ => first | assumption | exact upd_same); (case hv_ => exact rfl)) | ((with_reducible refine' nw_Channels__turns ?ho_ ?hv_ ?_); (case ho_ => first | assumption | exact upd_same); (case hv_ => exact rfl)) | ((with_reducible refine' nw_Channels__offered ?ho_ ?hv_ ?_); (case ho_ => first | assumption | exact upd_same); (case hv_ => exact rfl)) | ((with_reducible refine' nw_Channels__going ?ho_ ?hv_ ?_); (case ho_ => first | assumption | exact upd_same); (case hv_ => exact rfl)) | ((with_reducible refine' nw_Channels__coming ?ho_ ?hv_ ?_); (case ho_ => first | assumption | exact upd_same); (case hv_ => exact rfl)) | ((with_reducible refine' st_Channels_failure ?ho_ ?hv_ ?_); (case ho_ => first | assumption | exact upd_same); (case hv_ => exact Nat.le_of_ble_eq_true rfl)) | ((with_reducible refine' st_Channels__window ?ho_ ?hv_ ?_); (case ho_ => first | assumption | exact upd_same); (case hv_ => exact Nat.le_of_ble_eq_true rfl)) | ((with_reducible refine' st_Channels__most ?ho_ ?hv_ ?_); (case ho_ => first | assumption | exact upd_same); (case hv_ => exact Nat.le_of_ble_eq_true rfl)) | ((with_reducible refine' st_Channels__next_here ?ho_ ?hv_ ?_); (case ho_ => first | assumption | exact upd_same); (case hv_ => exact Nat.le_of_ble_eq_true rfl)) | ((with_reducible refine' st_Channels__next_there ?ho_ ?hv_ ?_); (case ho_ => first | assumption | exact upd_same); (case hv_ => exact Nat.le_of_ble_eq_true rfl)) | ((with_reducible refine' st_Channels__channels ?ho_ ?hv_ ?_); (case ho_ => first | assumption | exact upd_same); (case hv_ => exact Nat.le_of_ble_eq_true rfl)) | ((with_reducible refine' st_Channels__numbers ?ho_ ?hv_ ?_); (case ho_ => first | assumption | exact upd_same); (case hv_ => exact Nat.le_of_ble_eq_true rfl)) | ((with_reducible refine' st_Channels__turns ?ho_ ?hv_ ?_); (case ho_ => first | assumption | exact upd_same); (case hv_ => exact Nat.le_of_ble_eq_true rfl)) | ((with_reducible refine' st_Channels__offered ?ho_ ?hv_ ?_); (case ho_ => first | assumption | exact upd_same); (case hv_ => exact Nat.le_of_ble_eq_true rfl)) | ((with_reducible refine' st_Channels__going ?ho_ ?hv_ ?_); (case ho_ => first | assumption | exact upd_same); (case hv_ => exact Nat.le_of_ble_eq_true rfl)) | ((with_reducible refine' st_Channels__coming ?ho_ ?hv_ ?_); (case ho_ => first | assumption | exact upd_same); (case hv_ => exact Nat.le_of_ble_eq_true rfl)) | ((with_reducible refine' me_Channels_len__ ?ho_ ?_); (case ho_ => first | assumption | exact upd_same)) | ((with_reducible refine' me_Channels_iter__ ?ho_ ?_); (case ho_ => first | assumption | exact upd_same)) | ((with_reducible refine' me_Channels_open_channel ?ho_ ?_); (case ho_ => first | assumption | exact upd_same)) | ((with_reducible refine' me_Channels_accept ?ho_ ?_); (case ho_ => first | assumption | exact upd_same)) | ((with_reducible refine' me_Channels_finish ?ho_ ?_); (case ho_ => first | assumption | exact upd_same)) | ((with_reducible refine' me_Channels_reset ?ho_ ?_); (case ho_ => first | assumption | exact upd_same)) | ((with_reducible refine' me_Channels_status ?ho_ ?_); (case ho_ => first | assumption | exact upd_same)) | ((with_reducible refine' me_Channels_take ?ho_ ?_); (case ho_ => first | assumption | exact upd_same)) | ((with_reducible refine' me_Channels_receive ?ho_ ?_); (case ho_ => first | assumption | exact upd_same)) | ((with_reducible refine' me_Channels_fork ?ho_ ?_); (case ho_ => first | assumption | exact upd_same)) | ((with_reducible refine' me_Channels_known ?ho_ ?_); (case ho_ => first | assumption | exact upd_same)) | ((with_reducible refine' me_Channels_add ?ho_ ?_); (case ho_ => first | assumption | exact upd_same)) | ((with_reducible refine' me_Channels_room_of ?ho_ ?_); (case ho_ => first | assumption | exact upd_same)) | ((with_reducible refine' me_Channels_take_frame ?ho_ ?_); (case ho_ => first | assumption | exact upd_same)) | ((with_reducible refine' me_Channels_failure_of ?ho_ ?_); (case ho_ => first | assumption | exact upd_same)) | ((with_reducible refine' me_Channels_apply ?ho_ ?_); (case ho_ => first | assumption | exact upd_same)))
section
variable {P : Program} {w : World} {K : PySem.W.Frag} {mg : Str → Option Value} {base : Heap}
local macro_rules | `(tactic| walk_at "use") => `(tactic| with_reducible first | refine g_rs0 ?_ | refine g_rs1 ?_ | refine g_tryA ?_ | refine g_tryO ?_ | refine g_callS ?_ | refine g_joined ?_ | refine g_jsnil ?_ | refine g_jscons ?_ | refine g_fmt ?_)
local macro_rules | `(tactic| walk_at "fit") => `(tactic| (refine fit2 ?_; (try simp only [PySem.Str.length_append]); omega))
local macro_rules | `(tactic| walk_at "use") => `(tactic| first | ((with_reducible refine' g_addS ?sd_ ?_); case sd_ => (first | omega | (simp only [PySem.Str.length_append]; omega))) | ((with_reducible refine' g_slS ?sd_ ?_); case sd_ => omega) | (with_reducible refine g_m0 ?_))

section
variable {K : PySem.W.Frag} {H : Hp} {Q : VK}
end
local macro_rules | `(tactic| walk_at "use") => `(tactic| with_reducible first | refine g_rEqS ?_ | refine g_rNeS ?_ | refine g_isiS ?_)

theorem at_pre {pre bs : List Int} {b : Int} (h : bs[0]? = some b) : atI ((pre ++ bs).map V.int) (pre.length : Int) = some (.int b) :=
  at_of (j := pre.length) rfl (by rw [List.getElem?_map, List.getElem?_append_right (Nat.le_refl _), Nat.sub_self, h]; rfl)
theorem seg_pre {pre bs : List Int} {a b : Nat} : seg (pre ++ bs) (pre.length + a) (pre.length + b) = seg bs a b := by
  unfold seg
  rw [List.take_append, List.take_of_length_le (by omega), show pre.length + b - pre.length = b by omega, List.drop_append, List.drop_of_length_le (by omega), show pre.length + a - pre.length = a by omega, List.nil_append]
theorem cut_pre {pre bs : List Int} {a b : Nat} (h : a ≤ b) (hb : b ≤ bs.length) : cutV ((pre ++ bs).map V.int) (some ((pre.length + a : Nat) : Int)) (some ((pre.length + b : Nat) : Int)) = (seg bs a b).map V.int := by
  rw [cutV_seg (by omega) (by rw [List.length_append]; omega), seg_pre]
theorem cut13 {pre bs : List Int} (hb : 3 ≤ bs.length) : cutV ((pre ++ bs).map V.int) (some ((pre.length : Int) + 1)) (some ((pre.length : Int) + 3)) = (seg bs 1 3).map V.int := cut_pre (a := 1) (b := 3) (by decide) hb
theorem cut35 {pre bs : List Int} (hb : 5 ≤ bs.length) : cutV ((pre ++ bs).map V.int) (some ((pre.length : Int) + 3)) (some ((pre.length : Int) + 5)) = (seg bs 3 5).map V.int := cut_pre (a := 3) (b := 5) (by decide) hb
theorem cut5n {pre bs : List Int} {n : Nat} (hb : 5 + n ≤ bs.length) : cutV ((pre ++ bs).map V.int) (some ((pre.length : Int) + 5)) (some ((pre.length : Int) + 5 + (n : Int))) = (seg bs 5 (5 + n)).map V.int := by
  rw [← cut_pre (pre := pre) (a := 5) (b := 5 + n) (by omega) hb]
  congr 2
  omega
/-- a frame whose list is new -/
def FrN (H H' : Hp) (t : Addr) : Fr → Prop
  | .oc c os => ∃ l, H l = none ∧ H' t = some (.tup [.str "octets", .int c, .ref l]) ∧ H' l = some (.lst (os.map V.int))
  | f => FrO H' t f
theorem FrN.toO {H H' : Hp} {t : Addr} {f : Fr} (h : FrN H H' t f) : FrO H' t f := by
  cases f with
  | oc c os =>
    obtain ⟨l, _, h1, h2⟩ := h
    exact ⟨l, h1, h2⟩
  | _ => exact h
def sp_frame_at (K : PySem.W.Frag) (C : Addr) : Sp := fun vs H Q E => ∃ (a : Addr) (pre bs : List Int), vs = [.ref a, .int (pre.length : Int)] ∧ SqL K H a ((pre ++ bs).map V.int) ∧
  ((bs.length < 3 ∧ Q .non H) ∨ (∃ b r, bs = b :: r ∧ 2 ≤ r.length ∧ 0 ≤ b ∧ b < 256 ∧ b ∉ ([1, 2, 3, 4, 5] : List Int) ∧ ∀ H', Same H H' → E (.ref C) none H') ∨
   ∃ f, FOk f ∧ ∃ rest, bs = kdF f :: chF f / 256 % 256 :: chF f % 256 :: rest ∧
    ((∃ j, j < (tlF f).length ∧ rest = (tlF f).take j ∧ ∀ H', Same H H' → Q .non H') ∨
     (∃ r, rest = tlF f ++ r ∧ ∀ (t u : Addr) H', H t = none → Same H H' → H' t = some (.tup [.ref u, .int ((enc f).length : Nat)]) → FrN H H' u f → Q (.ref t) H')))
theorem ok_frame_at (T : Txt P w K mg) : FnOk P w K mg base (L2.CX P w) 2 T.f_frame_at T.d_frame_at ["octets", "at"] (sp_frame_at K T.C_InvalidFrame) := by
  refine T.F_frame_at.okX sc_frame_at (fun vs H Q E h => ?_) (fun cdv A outer s H vs Q E hr h => ?_)
  · obtain ⟨a, pre, bs, rfl, hS, q⟩ := h
    rfl
  · obtain ⟨a, pre, bs, rfl, hS, q⟩ := h
    have hu := hu_of hr
    refine ⟨_, (pss_cons (ps_if (pt_cmpR op_lt (pe_callB call_len_seq (by rfl) T.n_len (by decide +kernel) (pa_cons (pv 0) pa_nil)) (pe_op op_add (pv 1) (pe_glob (v := .int 3) (by rfl) T.v_HEAD ⟨_, rfl⟩)) (nomark _)) (pss_one (ps_ret pe_non)) pss_nil)
        (pss_cons (ps_if (pt_cmpR (op_notInI T.kd_WORDS) (pe_ix ix_list (pv 0) (pv 1) (fun _ _ => rfl)) (pe_glob (v := .ref T.t_WORDS) (by rfl) T.v_WORDS rfl) (by with_unfolding_all rfl)) (pss_one (ps_rs rfl (takes_of rfl rfl rfl rfl) (pmk_1 PySem.F.excBase_ValueError T.xP_InvalidFrame T.c_InvalidFrame T.ke_InvalidFrame (raises_own T.be_InvalidFrame T.te_InvalidFrame) rfl (pe_joinedJ (.cons pe_str (.cons (pe_fmt (pe_ix ix_list (pv 0) (pv 1) (fun _ _ => rfl))) .nil)))))) pss_nil)
        (pss_cons (ps_set (i := 2) sc_frame_at.nd rfl (Or.inl rfl) (pe_ix (ix_dI T.kd_WORDS) (pe_glob (v := .ref T.t_WORDS) (by rfl) T.v_WORDS rfl) (pe_ix ix_list (pv 0) (pv 1) (fun _ _ => rfl)) (fun _ _ => rfl)))
        (pss_cons (ps_set (i := 3) sc_frame_at.nd rfl (Or.inl rfl) (pe_call (ok_read_number T) (hr.mono (by decide)) rfl T.m_read_number T.F_read_number.kp T.b_read_number .nil pass0 (pa_cons (pe_slice sl_list (pv 0) (po_some (pe_op op_add (pv 1) pe_int)) (po_some (pe_op op_add (pv 1) (pe_glob (v := .int 3) (by rfl) T.v_HEAD ⟨_, rfl⟩)))) pa_nil)))
        (pss_cons (ps_if (pt_cmpR op_in_seq (pv 2) (pe_tup (pa_cons pe_str (pa_cons pe_str pa_nil))) (by with_unfolding_all rfl)) (pss_one (ps_ret (pe_tup (pa_cons (pe_tup (pa_cons (pv 2) (pa_cons (pv 3) pa_nil))) (pa_cons (pe_glob (v := .int 3) (by rfl) T.v_HEAD ⟨_, rfl⟩) pa_nil))))) pss_nil)
        (pss_cons (ps_if (pt_cmpR op_lt (pe_callB call_len_seq (by rfl) T.n_len (by decide +kernel) (pa_cons (pv 0) pa_nil)) (pe_op op_add (pv 1) (pe_glob (v := .int 5) (by rfl) T.v_LONG_HEAD ⟨_, rfl⟩)) (nomark _)) (pss_one (ps_ret pe_non)) pss_nil)
        (pss_cons (ps_set (i := 4) sc_frame_at.nd rfl (Or.inl rfl) (pe_call (ok_read_number T) (hr.mono (by decide)) rfl T.m_read_number T.F_read_number.kp T.b_read_number .nil pass0 (pa_cons (pe_slice sl_list (pv 0) (po_some (pe_op op_add (pv 1) (pe_glob (v := .int 3) (by rfl) T.v_HEAD ⟨_, rfl⟩))) (po_some (pe_op op_add (pv 1) (pe_glob (v := .int 5) (by rfl) T.v_LONG_HEAD ⟨_, rfl⟩)))) pa_nil)))
        (pss_cons (ps_if (pt_cmpR op_ne (pv 2) pe_str (nomark _)) (pss_one (ps_ret (pe_tup (pa_cons (pe_tup (pa_cons (pv 2) (pa_cons (pv 3) (pa_cons (pv 4) pa_nil)))) (pa_cons (pe_glob (v := .int 5) (by rfl) T.v_LONG_HEAD ⟨_, rfl⟩) pa_nil))))) pss_nil)
        (pss_cons (ps_set (i := 5) sc_frame_at.nd rfl (Or.inl rfl) (pe_op op_add (pe_op op_add (pv 1) (pe_glob (v := .int 5) (by rfl) T.v_LONG_HEAD ⟨_, rfl⟩)) (pv 4)))
        (pss_cons (ps_if (pt_cmpR op_lt (pe_callB call_len_seq (by rfl) T.n_len (by decide +kernel) (pa_cons (pv 0) pa_nil)) (pv 5) (nomark _)) (pss_one (ps_ret pe_non)) pss_nil)
        (pss_one (ps_ret (pe_tup (pa_cons (pe_tup (pa_cons (pv 2) (pa_cons (pv 3) (pa_cons (pe_slice sl_list (pv 0) (po_some (pe_op op_add (pv 1) (pe_glob (v := .int 5) (by rfl) T.v_LONG_HEAD ⟨_, rfl⟩))) (po_some (pv 5))) pa_nil)))) (pa_cons (pe_op op_add (pe_glob (v := .int 5) (by rfl) T.v_LONG_HEAD ⟨_, rfl⟩) (pv 4)) pa_nil))))))))))))))), ?_⟩
    dsimp only [cxOf, Cx.nox, Cx.wish, L2.start, List.map, List.cons_append, List.nil_append, List.length_cons, List.length_nil, Nat.reduceAdd, Nat.reduceSub, Nat.zero_add, List.replicate_succ, List.replicate_zero]
    walk_at "go"
    refine g_len (.inl hS) ?_
    walk_at "go"
    rw [List.length_map, List.length_append]
    rcases q with ⟨h, q⟩ | ⟨b, r, rfl, hl, hb0, hb1, hb2, q⟩ | ⟨f, ok, hb⟩
    · refine g_dT (by omega) ?_
      walk_at "go"
      exact q
    · refine g_dF (by rw [List.length_cons]; omega) ?_
      walk_at "go"
      refine g_ixL hS (at_pre rfl) ?_
      walk_at "go"
      refine g_notInI ?_
      rw [T.nk_WORDS b hb2]
      walk_at "go"
      have e0 : Str.empty.length = 0 := by decide
      have e1 : (Str.ofString "no frame is of kind ").length = 20 := by decide +kernel
      have e3 := itext (i := b) (by omega)
      refine g_jsE (by walk_at "fit") ?_
      walk_at "go"
      refine g_ixL hS (at_pre rfl) ?_
      refine g_fmtI (log_lt (by omega)) ?_
      refine g_jsE (by walk_at "fit") ?_
      walk_at "go"
      exact q _ (fun _ _ z => z)
    refine g_dF (by
      obtain ⟨rest, rfl, _⟩ := hb
      simp only [List.length_cons]
      omega) ?_
    walk_at "go"
    cases f with
    | op c =>
      obtain ⟨rest, rfl, ho⟩ := hb
      dsimp only [kdF, chF] at hS
      have okc : W16 c := ok
      refine g_ixL hS (at_pre rfl) ?_
      walk_at "go"
      rcases ho with ⟨j, hj, _⟩ | ⟨r, rfl, q⟩
      · exact absurd hj (Nat.not_lt_zero _)
      obtain ⟨u, hu1, ru⟩ := T.ik_WORDS_1
      refine g_notInI ?_
      rw [hu1]
      walk_at "go"
      refine g_ixL hS (at_pre rfl) ?_
      refine g_ixI hu1 ru ?_
      walk_at "go"
      refine g_slL hS fun l1 hl1 => ?_
      rw [cut13 (by simp only [List.length_cons]; omega)]
      rw [show seg (1 :: c / 256 % 256 :: c % 256 :: _) 1 3 = [c / 256 % 256, c % 256] from rfl]
      walk_at "go"
      refine u_read (sl upd_same) ?_
      rw [vl_dg okc]
      generalize zz1 : upd H l1 _ = H1
      have s1 : Same H H1 := by rw [← zz1]; exact same_upd hl1
      clear zz1
      have hS1 := s1.seq hS
      walk_at "go"
      refine ⟨by show 2 ≤ sizeLine; decide, fun p3 hp3 => ?_⟩
      generalize z3 : upd H1 p3 _ = H3
      have s3 : Same H1 H3 := by rw [← z3]; exact same_upd hp3
      have k3 : H3 p3 = some (.tup ((["open", "end"] : List Str).map V.str)) := (congrFun z3 p3).symm.trans upd_same
      clear z3
      have s13 := s1.trans s3
      have hS3 := s13.seq hS
      refine g_inS (ws := ["open", "end"]) (st k3) ?_
      walk_at "go"
      refine ⟨by show 2 ≤ sizeLine; decide, fun p4 hp4 => ?_⟩
      walk_at "go"
      refine ⟨by show 2 ≤ sizeLine; decide, fun p5 hp5 => ?_⟩
      exact q p5 p4 _ (s13.free ((same_upd hp4).free hp5)) ((s13.trans (same_upd hp4)).trans (same_upd hp5)) upd_same ((same_upd hp5) _ _ upd_same)
    | oc c os =>
      obtain ⟨rest, rfl, ho⟩ := hb
      dsimp only [kdF, chF] at hS
      obtain ⟨okc, ok1⟩ := ok
      refine g_ixL hS (at_pre rfl) ?_
      walk_at "go"
      obtain ⟨u, hu1, ru⟩ := T.ik_WORDS_2
      refine g_notInI ?_
      rw [hu1]
      walk_at "go"
      refine g_ixL hS (at_pre rfl) ?_
      refine g_ixI hu1 ru ?_
      walk_at "go"
      refine g_slL hS fun l1 hl1 => ?_
      rw [cut13 (by simp only [List.length_cons]; omega)]
      rw [show seg (2 :: c / 256 % 256 :: c % 256 :: _) 1 3 = [c / 256 % 256, c % 256] from rfl]
      walk_at "go"
      refine u_read (sl upd_same) ?_
      rw [vl_dg okc]
      generalize zz1 : upd H l1 _ = H1
      have s1 : Same H H1 := by rw [← zz1]; exact same_upd hl1
      clear zz1
      have hS1 := s1.seq hS
      walk_at "go"
      refine ⟨by show 2 ≤ sizeLine; decide, fun p3 hp3 => ?_⟩
      generalize z3 : upd H1 p3 _ = H3
      have s3 : Same H1 H3 := by rw [← z3]; exact same_upd hp3
      have k3 : H3 p3 = some (.tup ((["open", "end"] : List Str).map V.str)) := (congrFun z3 p3).symm.trans upd_same
      clear z3
      have s13 := s1.trans s3
      have hS3 := s13.seq hS
      refine g_inS (ws := ["open", "end"]) (st k3) ?_
      walk_at "go"
      refine g_len (.inl hS3) ?_
      walk_at "go"
      rw [List.length_map, List.length_append]
      have okn : W16 (os.length : Int) := ⟨by omega, by omega⟩
      have tll : (tlF (.oc c os)).length = os.length + 2 := rfl
      by_cases h5 : rest.length < 2
      · refine g_dT (by simp only [List.length_cons]; omega) ?_
        rcases ho with ⟨j, hj, rfl, q⟩ | ⟨r, rfl, q⟩
        · walk_at "go"
          exact q _ s13
        · rw [List.length_append, tll] at h5
          omega
      refine g_dF (by simp only [List.length_cons]; omega) ?_
      obtain ⟨rest2, hr2⟩ : ∃ rest2, rest = (os.length : Int) / 256 % 256 :: (os.length : Int) % 256 :: rest2 := by
        rcases ho with ⟨j, hj, rfl, q⟩ | ⟨r, rfl, q⟩
        · rw [List.length_take] at h5
          obtain ⟨i, rfl⟩ : ∃ i, j = i + 2 := ⟨j - 2, by omega⟩
          exact ⟨os.take i, rfl⟩
        · exact ⟨os ++ r, rfl⟩
      have hl2 : rest.length = rest2.length + 2 := by rw [hr2]; rfl
      walk_at "go"
      refine g_slL hS3 fun l4 hl4 => ?_
      rw [cut35 (by simp only [List.length_cons]; omega)]
      rw [show seg (2 :: c / 256 % 256 :: c % 256 :: rest) 3 5 = [(os.length : Int) / 256 % 256, (os.length : Int) % 256] by rw [hr2]; rfl]
      walk_at "go"
      refine u_read (sl upd_same) ?_
      rw [vl_dg okn]
      generalize zz4 : upd H3 l4 _ = H4
      have s4 : Same H3 H4 := by rw [← zz4]; exact same_upd hl4
      clear zz4
      have s14 := s13.trans s4
      have hS4 := s14.seq hS
      walk_at "go"
      refine g_len (.inl hS4) ?_
      walk_at "go"
      rw [List.length_map, List.length_append]
      rcases ho with ⟨j, hj, rfl, q⟩ | ⟨r, rfl, q⟩
      · refine g_dT (by simp only [List.length_cons, List.length_take] at hj ⊢; omega) ?_
        walk_at "go"
        exact q _ s14
      refine g_dF (by simp only [List.length_cons, List.length_append]; omega) ?_
      walk_at "go"
      refine g_slL hS4 fun l6 hl6 => ?_
      rw [cut5n (by simp only [List.length_cons, List.length_append]; omega)]
      rw [show seg (2 :: c / 256 % 256 :: c % 256 :: (tlF (.oc c os) ++ r)) 5 (5 + os.length) = os from seg_os]
      generalize zz6 : upd H4 l6 _ = H6
      have s6 : Same H4 H6 := by rw [← zz6]; exact same_upd hl6
      have k6 : H6 l6 = some (.lst (os.map V.int)) := (congrFun zz6 l6).symm.trans upd_same
      clear zz6
      have s16 := s14.trans s6
      walk_at "go"
      refine ⟨by show 3 ≤ sizeLine; decide, fun p4 hp4 => ?_⟩
      walk_at "go"
      refine ⟨by show 2 ≤ sizeLine; decide, fun p5 hp5 => ?_⟩
      have e5 : (5 : Int) + (os.length : Int) = ((enc (.oc c os)).length : Int) := by
        show _ = ((os.length + 5 : Nat) : Int)
        omega
      rw [e5]
      exact q p5 p4 _ (s16.free ((same_upd hp4).free hp5)) ((s16.trans (same_upd hp4)).trans (same_upd hp5)) upd_same ⟨l6, s14.free hl6, (same_upd hp5) _ _ upd_same, (same_upd hp5) _ _ ((same_upd hp4) _ _ k6)⟩
    | pm c n =>
      obtain ⟨rest, rfl, ho⟩ := hb
      dsimp only [kdF, chF] at hS
      obtain ⟨okc, okn⟩ := ok
      refine g_ixL hS (at_pre rfl) ?_
      walk_at "go"
      obtain ⟨u, hu1, ru⟩ := T.ik_WORDS_3
      refine g_notInI ?_
      rw [hu1]
      walk_at "go"
      refine g_ixL hS (at_pre rfl) ?_
      refine g_ixI hu1 ru ?_
      walk_at "go"
      refine g_slL hS fun l1 hl1 => ?_
      rw [cut13 (by simp only [List.length_cons]; omega)]
      rw [show seg (3 :: c / 256 % 256 :: c % 256 :: _) 1 3 = [c / 256 % 256, c % 256] from rfl]
      walk_at "go"
      refine u_read (sl upd_same) ?_
      rw [vl_dg okc]
      generalize zz1 : upd H l1 _ = H1
      have s1 : Same H H1 := by rw [← zz1]; exact same_upd hl1
      clear zz1
      have hS1 := s1.seq hS
      walk_at "go"
      refine ⟨by show 2 ≤ sizeLine; decide, fun p3 hp3 => ?_⟩
      generalize z3 : upd H1 p3 _ = H3
      have s3 : Same H1 H3 := by rw [← z3]; exact same_upd hp3
      have k3 : H3 p3 = some (.tup ((["open", "end"] : List Str).map V.str)) := (congrFun z3 p3).symm.trans upd_same
      clear z3
      have s13 := s1.trans s3
      have hS3 := s13.seq hS
      refine g_inS (ws := ["open", "end"]) (st k3) ?_
      walk_at "go"
      refine g_len (.inl hS3) ?_
      walk_at "go"
      rw [List.length_map, List.length_append]
      rcases ho with ⟨j, hj, rfl, q⟩ | ⟨r, rfl, q⟩
      · refine g_dT (by simp only [List.length_cons, List.length_take, tlF, List.length_nil] at hj ⊢; omega) ?_
        walk_at "go"
        exact q _ s13
      refine g_dF (by simp only [List.length_cons, List.length_append, tlF]; omega) ?_
      walk_at "go"
      refine g_slL hS3 fun l4 hl4 => ?_
      rw [cut35 (by simp only [List.length_cons, List.length_append, tlF]; omega)]
      rw [show seg (3 :: c / 256 % 256 :: c % 256 :: _) 3 5 = [n / 256 % 256, n % 256] from rfl]
      walk_at "go"
      refine u_read (sl upd_same) ?_
      rw [vl_dg okn]
      generalize zz4 : upd H3 l4 _ = H4
      have s4 : Same H3 H4 := by rw [← zz4]; exact same_upd hl4
      clear zz4
      walk_at "go"
      refine ⟨by show 3 ≤ sizeLine; decide, fun p4 hp4 => ?_⟩
      walk_at "go"
      refine ⟨by show 2 ≤ sizeLine; decide, fun p5 hp5 => ?_⟩
      have s14 := s13.trans s4
      exact q p5 p4 _ (s14.free ((same_upd hp4).free hp5)) ((s14.trans (same_upd hp4)).trans (same_upd hp5)) upd_same ((same_upd hp5) _ _ upd_same)
    | en c =>
      obtain ⟨rest, rfl, ho⟩ := hb
      dsimp only [kdF, chF] at hS
      have okc : W16 c := ok
      refine g_ixL hS (at_pre rfl) ?_
      walk_at "go"
      rcases ho with ⟨j, hj, _⟩ | ⟨r, rfl, q⟩
      · exact absurd hj (Nat.not_lt_zero _)
      obtain ⟨u, hu1, ru⟩ := T.ik_WORDS_4
      refine g_notInI ?_
      rw [hu1]
      walk_at "go"
      refine g_ixL hS (at_pre rfl) ?_
      refine g_ixI hu1 ru ?_
      walk_at "go"
      refine g_slL hS fun l1 hl1 => ?_
      rw [cut13 (by simp only [List.length_cons]; omega)]
      rw [show seg (4 :: c / 256 % 256 :: c % 256 :: _) 1 3 = [c / 256 % 256, c % 256] from rfl]
      walk_at "go"
      refine u_read (sl upd_same) ?_
      rw [vl_dg okc]
      generalize zz1 : upd H l1 _ = H1
      have s1 : Same H H1 := by rw [← zz1]; exact same_upd hl1
      clear zz1
      have hS1 := s1.seq hS
      walk_at "go"
      refine ⟨by show 2 ≤ sizeLine; decide, fun p3 hp3 => ?_⟩
      generalize z3 : upd H1 p3 _ = H3
      have s3 : Same H1 H3 := by rw [← z3]; exact same_upd hp3
      have k3 : H3 p3 = some (.tup ((["open", "end"] : List Str).map V.str)) := (congrFun z3 p3).symm.trans upd_same
      clear z3
      have s13 := s1.trans s3
      have hS3 := s13.seq hS
      refine g_inS (ws := ["open", "end"]) (st k3) ?_
      walk_at "go"
      refine ⟨by show 2 ≤ sizeLine; decide, fun p4 hp4 => ?_⟩
      walk_at "go"
      refine ⟨by show 2 ≤ sizeLine; decide, fun p5 hp5 => ?_⟩
      exact q p5 p4 _ (s13.free ((same_upd hp4).free hp5)) ((s13.trans (same_upd hp4)).trans (same_upd hp5)) upd_same ((same_upd hp5) _ _ upd_same)
    | rs c n =>
      obtain ⟨rest, rfl, ho⟩ := hb
      dsimp only [kdF, chF] at hS
      obtain ⟨okc, okn⟩ := ok
      refine g_ixL hS (at_pre rfl) ?_
      walk_at "go"
      obtain ⟨u, hu1, ru⟩ := T.ik_WORDS_5
      refine g_notInI ?_
      rw [hu1]
      walk_at "go"
      refine g_ixL hS (at_pre rfl) ?_
      refine g_ixI hu1 ru ?_
      walk_at "go"
      refine g_slL hS fun l1 hl1 => ?_
      rw [cut13 (by simp only [List.length_cons]; omega)]
      rw [show seg (5 :: c / 256 % 256 :: c % 256 :: _) 1 3 = [c / 256 % 256, c % 256] from rfl]
      walk_at "go"
      refine u_read (sl upd_same) ?_
      rw [vl_dg okc]
      generalize zz1 : upd H l1 _ = H1
      have s1 : Same H H1 := by rw [← zz1]; exact same_upd hl1
      clear zz1
      have hS1 := s1.seq hS
      walk_at "go"
      refine ⟨by show 2 ≤ sizeLine; decide, fun p3 hp3 => ?_⟩
      generalize z3 : upd H1 p3 _ = H3
      have s3 : Same H1 H3 := by rw [← z3]; exact same_upd hp3
      have k3 : H3 p3 = some (.tup ((["open", "end"] : List Str).map V.str)) := (congrFun z3 p3).symm.trans upd_same
      clear z3
      have s13 := s1.trans s3
      have hS3 := s13.seq hS
      refine g_inS (ws := ["open", "end"]) (st k3) ?_
      walk_at "go"
      refine g_len (.inl hS3) ?_
      walk_at "go"
      rw [List.length_map, List.length_append]
      rcases ho with ⟨j, hj, rfl, q⟩ | ⟨r, rfl, q⟩
      · refine g_dT (by simp only [List.length_cons, List.length_take, tlF, List.length_nil] at hj ⊢; omega) ?_
        walk_at "go"
        exact q _ s13
      refine g_dF (by simp only [List.length_cons, List.length_append, tlF]; omega) ?_
      walk_at "go"
      refine g_slL hS3 fun l4 hl4 => ?_
      rw [cut35 (by simp only [List.length_cons, List.length_append, tlF]; omega)]
      rw [show seg (5 :: c / 256 % 256 :: c % 256 :: _) 3 5 = [n / 256 % 256, n % 256] from rfl]
      walk_at "go"
      refine u_read (sl upd_same) ?_
      rw [vl_dg okn]
      generalize zz4 : upd H3 l4 _ = H4
      have s4 : Same H3 H4 := by rw [← zz4]; exact same_upd hl4
      clear zz4
      walk_at "go"
      refine ⟨by show 3 ≤ sizeLine; decide, fun p4 hp4 => ?_⟩
      walk_at "go"
      refine ⟨by show 2 ≤ sizeLine; decide, fun p5 hp5 => ?_⟩
      have s14 := s13.trans s4
      exact q p5 p4 _ (s14.free ((same_upd hp4).free hp5)) ((s14.trans (same_upd hp4)).trans (same_upd hp5)) upd_same ((same_upd hp5) _ _ upd_same)

end
end My
namespace My
open PySem PySem.Spec L2
local macro_rules | `(tactic| walk_at "side") => `(tactic| first | assumption | decide | omega | exact ⟨by decide, by decide⟩ | exact ⟨by decide, by decide, by decide⟩ | decide +kernel | exact cdivW (by decide +kernel) (by decide +kernel) | exact Or.inl ⟨by omega, by omega⟩ | exact Or.inr ⟨by omega, by omega⟩ | (simp only [List.length_map, List.length_cons, List.length_nil, List.length_append]; omega))
local macro_rules | `(tactic| walk_at "fact") => `(tactic| first | assumption | omega | with_reducible rfl)
local macro_rules | `(tactic| walk_at "use") => `(tactic| fail "use")
local macro_rules | `(tactic| walk_at "go1") => `(tactic| with_reducible first | refine g_seq ?_ | refine g_asg ?_ | refine g_ret ?_ | refine g_ifS ?_ | refine g_drop ?_ | refine g_star ?_ | refine g_nx ?_ | refine g_rt ?_ | refine g_bkE ?_ | refine g_ctE ?_ | refine g_next ?_ | refine g_retN ?_ | refine g_brk ?_ | refine g_ct ?_ | refine g_c ?_ | refine g_op ?_ | refine g_un ?_ | refine g_rI0 ?_ | refine g_rU ?_ | refine g_rEqI ?_ | refine g_rNeI ?_ | refine g_isN ?_ | refine g_rIsB ?_ | refine g_rNotB ?_ | refine g_test ?_ | refine g_B ?_ | refine g_bl ?_ | refine g_and ?_ | refine g_or ?_ | refine g_not ?_ | refine g_andV ?_ | refine g_orV ?_ | refine g_notV ?_ | refine g_if ?_ | refine g_chain ?_ | refine g_yes ?_ | refine g_lc ?_ | refine g_revR ?_ | refine g_rng1 ?_ | refine g_iList ?_ | refine g_nil ?_ | refine g_cons ?_ | refine g_tup ?_ | refine g_lst ?_ | refine g_call ?_ | refine g_CB ?_ | refine g_sl ?_ | refine g_noPart ?_ | refine g_part ?_ | refine g_intE ?_ | refine g_ref ?_ | refine g_fld ?_ | refine g_sfld ?_ | refine g_meth ?_ | refine g_make ?_ | refine g_prop ?_  | refine g_ipI ?_ | refine g_int1 ?_ | refine g_int1B ?_ | refine g_one ?_ | refine g_two ?_ | refine g_isiI ?_ | refine g_isiIB ?_ | refine g_isiB ?_ | refine g_BM ?_ | refine g_BM0 ?_ | refine g_sub ?_)
local macro_rules | `(tactic| walk_at "go") => `(tactic| repeat (first | walk_at "go1" | ((with_reducible refine' g_nameE ?sd_ ?_); case sd_ => dsimp only [List.set_cons_succ, List.set_cons_zero]) | ((with_reducible refine' g_var ?sd_ ?_); case sd_ => exact rfl) | ((with_reducible refine' g_aug ?sd_ ?_); case sd_ => exact rfl) | ((with_reducible refine' g_rI ?sd_ ?_); case sd_ => walk_at "side") | ((with_reducible refine' g_dT ?sd_ ?_); case sd_ => walk_at "fact") | ((with_reducible refine' g_dF ?sd_ ?_); case sd_ => walk_at "fact") | ((with_reducible refine' g_nT ?sd_ ?_); case sd_ => walk_at "fact") | ((with_reducible refine' g_nF ?sd_ ?_); case sd_ => walk_at "fact") | (with_reducible refine g_iT rfl ?_) | (with_reducible refine g_iF rfl ?_) | walk_at "use"))
local macro_rules | `(tactic| walk_at "nw") => `(tactic| (generalize zq : upd _ _ _ = Hq; have sq : Same _ Hq := (by rw [← zq]; exact same_upd (by assumption)); have kq := (congrFun zq _).symm.trans upd_same; clear zq))
local macro_rules | `(tactic| walk_at "bt") => `(tactic| (generalize zq : upd _ _ _ = Hq; have bq : But _ _ Hq := (by rw [← zq]; exact But.refl.upd); have kq := (congrFun zq _).symm.trans upd_same; clear zq))
local macro_rules | `(tactic| walk_at "use") => `(tactic| first | ((with_reducible refine' fd_Channel_number ?ho_ ?hv_ ?_); (case ho_ => first | assumption | exact upd_same); (case hv_ => exact rfl)) | ((with_reducible refine' fd_Channel_announced ?ho_ ?hv_ ?_); (case ho_ => first | assumption | exact upd_same); (case hv_ => exact rfl)) | ((with_reducible refine' fd_Channel_queue ?ho_ ?hv_ ?_); (case ho_ => first | assumption | exact upd_same); (case hv_ => exact rfl)) | ((with_reducible refine' fd_Channel_credit ?ho_ ?hv_ ?_); (case ho_ => first | assumption | exact upd_same); (case hv_ => exact rfl)) | ((with_reducible refine' fd_Channel_finished ?ho_ ?hv_ ?_); (case ho_ => first | assumption | exact upd_same); (case hv_ => exact rfl)) | ((with_reducible refine' fd_Channel_end_sent ?ho_ ?hv_ ?_); (case ho_ => first | assumption | exact upd_same); (case hv_ => exact rfl)) | ((with_reducible refine' fd_Channel_unread ?ho_ ?hv_ ?_); (case ho_ => first | assumption | exact upd_same); (case hv_ => exact rfl)) | ((with_reducible refine' fd_Channel_due ?ho_ ?hv_ ?_); (case ho_ => first | assumption | exact upd_same); (case hv_ => exact rfl)) | ((with_reducible refine' fd_Channel_end_came ?ho_ ?hv_ ?_); (case ho_ => first | assumption | exact upd_same); (case hv_ => exact rfl)) | ((with_reducible refine' fd_Channel_broken ?ho_ ?hv_ ?_); (case ho_ => first | assumption | exact upd_same); (case hv_ => exact rfl)) | ((with_reducible refine' fd_Channel_reset_told ?ho_ ?hv_ ?_); (case ho_ => first | assumption | exact upd_same); (case hv_ => exact rfl)) | ((with_reducible refine' nw_Channel_number ?ho_ ?hv_ ?_); (case ho_ => first | assumption | exact upd_same); (case hv_ => exact rfl)) | ((with_reducible refine' nw_Channel_announced ?ho_ ?hv_ ?_); (case ho_ => first | assumption | exact upd_same); (case hv_ => exact rfl)) | ((with_reducible refine' nw_Channel_queue ?ho_ ?hv_ ?_); (case ho_ => first | assumption | exact upd_same); (case hv_ => exact rfl)) | ((with_reducible refine' nw_Channel_credit ?ho_ ?hv_ ?_); (case ho_ => first | assumption | exact upd_same); (case hv_ => exact rfl)) | ((with_reducible refine' nw_Channel_finished ?ho_ ?hv_ ?_); (case ho_ => first | assumption | exact upd_same); (case hv_ => exact rfl)) | ((with_reducible refine' nw_Channel_end_sent ?ho_ ?hv_ ?_); (case ho_ => first | assumption | exact upd_same); (case hv_ => exact rfl)) | ((with_reducible refine' nw_Channel_unread ?ho_ ?hv_ ?_); (case ho_ => first | assumption | exact upd_same); (case hv_ => exact rfl)) | ((with_reducible refine' nw_Channel_due ?ho_ ?hv_ ?_); (case ho_ => first | assumption | exact upd_same); (case hv_ => exact rfl)) | ((with_reducible refine' nw_Channel_end_came ?ho_ ?hv_ ?_); (case ho_ => first | assumption | exact upd_same); (case hv_ => exact rfl)) | ((with_reducible refine' nw_Channel_broken ?ho_ ?hv_ ?_); (case ho_ => first | assumption | exact upd_same); (case hv_ => exact rfl)) | ((with_reducible refine' nw_Channel_reset_told ?ho_ ?hv_ ?_); (case ho_ => first | assumption | exact upd_same); (case hv_ => exact rfl)) | ((with_reducible refine' st_Channel_number ?ho_ ?hv_ ?_); (case ho_ => first | assumption | exact upd_same); (case hv_ => exact Nat.le_of_ble_eq_true rfl)) | ((with_reducible refine' st_Channel_announced ?ho_ ?hv_ ?_); (case ho_ => first | assumption | exact upd_same); (case hv_ => exact Nat.le_of_ble_eq_true rfl)) | ((with_reducible refine' st_Channel_queue ?ho_ ?hv_ ?_); (case ho_ => first | assumption | exact upd_same); (case hv_ => exact Nat.le_of_ble_eq_true rfl)) | ((with_reducible refine' st_Channel_credit ?ho_ ?hv_ ?_); (case ho_ => first | assumption | exact upd_same); (case hv_ => exact Nat.le_of_ble_eq_true rfl)) | ((with_reducible refine' st_Channel_finished ?ho_ ?hv_ ?_); (case ho_ => first | assumption | exact upd_same); (case hv_ => exact Nat.le_of_ble_eq_true rfl)) | ((with_reducible refine' st_Channel_end_sent ?ho_ ?hv_ ?_); (case ho_ => first | assumption | exact upd_same); (case hv_ => exact Nat.le_of_ble_eq_true rfl)) | ((with_reducible refine' st_Channel_unread ?ho_ ?hv_ ?_); (case ho_ => first | assumption | exact upd_same); (case hv_ => exact Nat.le_of_ble_eq_true rfl)) | ((with_reducible refine' st_Channel_due ?ho_ ?hv_ ?_); (case ho_ => first | assumption | exact upd_same); (case hv_ => exact Nat.le_of_ble_eq_true rfl)) | ((with_reducible refine' st_Channel_end_came ?ho_ ?hv_ ?_); (case ho_ => first | assumption | exact upd_same); (case hv_ => exact Nat.le_of_ble_eq_true rfl)) | ((with_reducible refine' st_Channel_broken ?ho_ ?hv_ ?_); (case ho_ => first | assumption | exact upd_same); (case hv_ => exact Nat.le_of_ble_eq_true rfl)) | ((with_reducible refine' st_Channel_reset_told ?ho_ ?hv_ ?_); (case ho_ => first | assumption | exact upd_same); (case hv_ => exact Nat.le_of_ble_eq_true rfl)) | ((with_reducible refine' me_Channel_break_off ?ho_ ?_); (case ho_ => first | assumption | exact upd_same)) | ((with_reducible refine' me_Channel_fork ?ho_ ?_); (case ho_ => first | assumption | exact upd_same)))
local macro_rules | `(tactic| walk_at "use") => `(tactic| first | ((with_reducible refine' fd_Channels_failure ?ho_ ?hv_ ?_); (case ho_ => first | assumption | exact upd_same); (case hv_ => exact rfl)) | ((with_reducible refine' fd_Channels__window ?ho_ ?hv_ ?_); (case ho_ => first | assumption | exact upd_same); (case hv_ => exact rfl)) | ((with_reducible refine' fd_Channels__most ?ho_ ?hv_ ?_); (case ho_ => first | assumption | exact upd_same); (case hv_ => exact rfl)) | ((with_reducible refine' fd_Channels__next_here ?ho_ ?hv_ ?_); (case ho_ => first | assumption | exact upd_same); (case hv_ => exact rfl)) | ((with_reducible refine' fd_Channels__next_there ?ho_ ?hv_ ?_); (case ho_ => first | assumption | exact upd_same); (case hv_ => exact rfl)) | ((with_reducible refine' fd_Channels__channels ?ho_ ?hv_ ?_); (case ho_ => first | assumption | exact upd_same); (case hv_ => exact rfl)) | ((with_reducible refine' fd_Channels__numbers ?ho_ ?hv_ ?_); (case ho_ => first | assumption | exact upd_same); (case hv_ => exact rfl)) | ((with_reducible refine' fd_Channels__turns ?ho_ ?hv_ ?_); (case ho_ => first | assumption | exact upd_same); (case hv_ => exact rfl)) | ((with_reducible refine' fd_Channels__offered ?ho_ ?hv_ ?_); (case ho_ => first | assumption | exact upd_same); (case hv_ => exact rfl)) | ((with_reducible refine' fd_Channels__going ?ho_ ?hv_ ?_); (case ho_ => first | assumption | exact upd_same); (case hv_ => exact rfl)) | ((with_reducible refine' fd_Channels__coming ?ho_ ?hv_ ?_); (case ho_ => first | assumption | exact upd_same); (case hv_ => exact rfl)) | ((with_reducible refine' nw_Channels_failure ?ho_ ?hv_ ?_); (case ho_ => first | assumption | exact upd_same); (case hv_ => exact rfl)) | ((with_reducible refine' nw_Channels__window ?ho_ ?hv_ ?_); (case ho_ => first | assumption | exact upd_same); (case hv_ => exact rfl)) | ((with_reducible refine' nw_Channels__most ?ho_ ?hv_ ?_); (case ho_ => first | assumption | exact upd_same); (case hv_ => exact rfl)) | ((with_reducible refine' nw_Channels__next_here ?ho_ ?hv_ ?_); (case ho_ => first | assumption | exact upd_same); (case hv_ => exact rfl)) | ((with_reducible refine' nw_Channels__next_there ?ho_ ?hv_ ?_); (case ho_ => first | assumption | exact upd_same); (case hv_ => exact rfl)) | ((with_reducible refine' nw_Channels__channels ?ho_ ?hv_ ?_); (case ho_ => first | assumption | exact upd_same); (case hv_ => exact rfl)) | ((with_reducible refine' nw_Channels__numbers ?ho_ ?hv_ ?_); (case ho_ => first | assumption | exact upd_same); (case hv_ => exact rfl)) | ((with_reducible refine' nw_Channels__turns ?ho_ ?hv_ ?_); (case ho_ => first | assumption | exact upd_same); (case hv_ => exact rfl)) | ((with_reducible refine' nw_Channels__offered ?ho_ ?hv_ ?_); (case ho_ => first | assumption | exact upd_same); (case hv_ => exact rfl)) | ((with_reducible refine' nw_Channels__going ?ho_ ?hv_ ?_); (case ho_ => first | assumption | exact upd_same); (case hv_ => exact rfl)) | ((with_reducible refine' nw_Channels__coming ?ho_ ?hv_ ?_); (case ho_ => first | assumption | exact upd_same); (case hv_ => exact rfl)) | ((with_reducible refine' st_Channels_failure ?ho_ ?hv_ ?_); (case ho_ => first | assumption | exact upd_same); (case hv_ => exact Nat.le_of_ble_eq_true rfl)) | ((with_reducible refine' st_Channels__window ?ho_ ?hv_ ?_); (case ho_ => first | assumption | exact upd_same); (case hv_ => exact Nat.le_of_ble_eq_true rfl)) | ((with_reducible refine' st_Channels__most ?ho_ ?hv_ ?_); (case ho_ => first | assumption | exact upd_same); (case hv_ => exact Nat.le_of_ble_eq_true rfl)) | ((with_reducible refine' st_Channels__next_here ?ho_ ?hv_ ?_); (case ho_ => first | assumption | exact upd_same); (case hv_ => exact Nat.le_of_ble_eq_true rfl)) | ((with_reducible refine' st_Channels__next_there ?ho_ ?hv_ ?_); (case ho_ => first | assumption | exact upd_same); (case hv_ => exact Nat.le_of_ble_eq_true rfl)) | ((with_reducible refine' st_Channels__channels ?ho_ ?hv_ ?_); (case ho_ => first | assumption | exact upd_same); (case hv_ => exact Nat.le_of_ble_eq_true rfl)) | ((with_reducible refine' st_Channels__numbers ?ho_ ?hv_ ?_); (case ho_ => first | assumption | exact upd_same); (case hv_ => exact Nat.le_of_ble_eq_true rfl)) | ((with_reducible refine' st_Channels__turns ?ho_ ?hv_ ?_); (case ho_ => first | assumption | exact upd_same); (case hv_ => exact Nat.le_of_ble_eq_true rfl)) | ((with_reducible refine' st_Channels__offered ?ho_ ?hv_ ?_); (case ho_ => first | assumption | exact upd_same); (case hv_ => exact Nat.le_of_ble_eq_true rfl)) | ((with_reducible refine' st_Channels__going ?ho_ ?hv_ ?_); (case ho_ => first | assumption | exact upd_same); (case hv_ => exact Nat.le_of_ble_eq_true rfl)) | ((with_reducible refine' st_Channels__coming ?ho_ ?hv_ ?_); (case ho_ => first | assumption | exact upd_same); (case hv_ => exact Nat.le_of_ble_eq_true rfl)) | ((with_reducible refine' me_Channels_len__ ?ho_ ?_); (case ho_ => first | assumption | exact upd_same)) | ((with_reducible refine' me_Channels_iter__ ?ho_ ?_); (case ho_ => first | assumption | exact upd_same)) | ((with_reducible refine' me_Channels_open_channel ?ho_ ?_); (case ho_ => first | assumption | exact upd_same)) | ((with_reducible refine' me_Channels_accept ?ho_ ?_); (case ho_ => first | assumption | exact upd_same)) | ((with_reducible refine' me_Channels_finish ?ho_ ?_); (case ho_ => first | assumption | exact upd_same)) | ((with_reducible refine' me_Channels_reset ?ho_ ?_); (case ho_ => first | assumption | exact upd_same)) | ((with_reducible refine' me_Channels_status ?ho_ ?_); (case ho_ => first | assumption | exact upd_same)) | ((with_reducible refine' me_Channels_take ?ho_ ?_); (case ho_ => first | assumption | exact upd_same)) | ((with_reducible refine' me_Channels_receive ?ho_ ?_); (case ho_ => first | assumption | exact upd_same)) | ((with_reducible refine' me_Channels_fork ?ho_ ?_); (case ho_ => first | assumption | exact upd_same)) | ((with_reducible refine' me_Channels_known ?ho_ ?_); (case ho_ => first | assumption | exact upd_same)) | ((with_reducible refine' me_Channels_add ?ho_ ?_); (case ho_ => first | assumption | exact upd_same)) | ((with_reducible refine' me_Channels_room_of ?ho_ ?_); (case ho_ => first | assumption | exact upd_same)) | ((with_reducible refine' me_Channels_take_frame ?ho_ ?_); (case ho_ => first | assumption | exact upd_same)) | ((with_reducible refine' me_Channels_failure_of ?ho_ ?_); (case ho_ => first | assumption | exact upd_same)) | ((with_reducible refine' me_Channels_apply ?ho_ ?_); (case ho_ => first | assumption | exact upd_same)))
section
variable {P : Program} {w : World} {K : PySem.W.Frag} {mg : Str → Option Value} {base : Heap}
local macro_rules | `(tactic| walk_at "use") => `(tactic| with_reducible first | refine g_rs0 ?_ | refine g_rs1 ?_ | refine g_tryA ?_ | refine g_tryO ?_ | refine g_callS ?_ | refine g_joined ?_ | refine g_jsnil ?_ | refine g_jscons ?_ | refine g_fmt ?_)
local macro_rules | `(tactic| walk_at "fit") => `(tactic| (refine fit2 ?_; (try simp only [PySem.Str.length_append]); omega))
local macro_rules | `(tactic| walk_at "use") => `(tactic| first | ((with_reducible refine' g_addS ?sd_ ?_); case sd_ => (first | omega | (simp only [PySem.Str.length_append]; omega))) | ((with_reducible refine' g_slS ?sd_ ?_); case sd_ => omega) | (with_reducible refine g_m0 ?_))

local macro_rules | `(tactic| walk_at "use") => `(tactic| with_reducible first | refine g_dgetI ?_ | refine g_dputI ?_ | refine g_dget1I ?_ | refine g_dget2I ?_ | refine g_dinI ?_ | refine g_dnotinI ?_ | refine g_dnewK ?_)

/-! ### a side, exact (k51) -/
structure Sd where
  fl : Option Str
  w : Int
  m : Int
  nh : Int
  nt : Int
  cs : List Cg
  ns : List Int
  ts : List Int
  os : List Int
  go : List Int
  co : List Int
structure Sg where
  p : Addr
  dx : Addr
  cd : Addr
  nl : Addr
  tl : Addr
  ol : Addr
  gl : Addr
  cl : Addr
def flV : Option Str → V
  | none => .non
  | some s => .str s
/-- the dict of the channels, in its order -/
def chK (x : Nat → Ca) (cs : List Cg) : List (Key × V) := (List.range cs.length).map fun i => (Sum.inl ((cs[i]?.map Cg.n).getD 0), V.ref (x i).a)
def Sd.vs (g : Sd) (S : Sg) : List V := [flV g.fl, .int g.w, .int g.m, .int g.nh, .int g.nt, .ref S.cd, .ref S.nl, .ref S.tl, .ref S.ol, .ref S.gl, .ref S.cl]
structure SgO (CS CC : Addr) (own : Addr → Option Nat) (H : Hp) (S : Sg) (x : Nat → Ca) (g : Sd) : Prop where
  ho : H S.p = some (.ins CS S.dx (obj ky_Channels [flV g.fl, .int g.w, .int g.m, .int g.nh, .int g.nt, .ref S.cd, .ref S.nl, .ref S.tl, .ref S.ol, .ref S.gl, .ref S.cl]))
  hd : H S.cd = some (.dK (chK x g.cs))
  hn : H S.nl = some (.lst (g.ns.map V.int))
  ht : H S.tl = some (.lst (g.ts.map V.int))
  hl : H S.ol = some (.lst (g.os.map V.int))
  hg : H S.gl = some (.lst (g.go.map V.int))
  hc : H S.cl = some (.lst (g.co.map V.int))
  hx : ∀ (i : Nat) (c : Cg), g.cs[i]? = some c → CgO CC H (x i) c
  oc : ∀ i, i < g.cs.length → own (x i).a = some (i + 1) ∧ own (x i).q = some (i + 1) ∧ own (x i).u = some (i + 1)
  os : own S.p = some 0 ∧ own S.cd = some 0 ∧ own S.nl = some 0 ∧ own S.tl = some 0 ∧ own S.ol = some 0 ∧ own S.gl = some 0 ∧ own S.cl = some 0
  nd : [S.nl, S.tl, S.ol, S.gl, S.cl].Nodup
  nk : (g.cs.map Cg.n).Nodup
theorem ls_i {α : Type} {cs : List α} {i : Nat} {c : α} (h : cs[i]? = some c) : i < cs.length := (List.getElem?_eq_some_iff.mp h).1
theorem some_none {α : Type} {o : Option α} {x : α} (h : o = some x) : o ≠ none := by rw [h]; exact nofun
theorem SgO.same {CS CC : Addr} {own : Addr → Option Nat} {H H' : Hp} {S : Sg} {x : Nat → Ca} {g : Sd} (O : SgO CS CC own H S x g) (s : Same H H') : SgO CS CC own H' S x g :=
  ⟨s _ _ O.ho, s _ _ O.hd, s _ _ O.hn, s _ _ O.ht, s _ _ O.hl, s _ _ O.hg, s _ _ O.hc, fun i c e => (O.hx i c e).same s, O.oc, O.os, O.nd, O.nk⟩
/-- what the side owns stays, and so do tuples -/
theorem SgO.keep {CS CC : Addr} {own : Addr → Option Nat} {H H' : Hp} {S : Sg} {x : Nat → Ca} {g : Sd} (O : SgO CS CC own H S x g) (s : ∀ b o, own b ≠ none ∨ (∃ k, o = HO.tup k) → H b = some o → H' b = some o) : SgO CS CC own H' S x g := by
  have n0 : ∀ {b : Addr} {k : Nat}, own b = some k → own b ≠ none := fun e => by rw [e]; exact nofun
  obtain ⟨o1, o2, o3, o4, o5, o6, o7⟩ := O.os
  refine ⟨s _ _ (.inl (n0 o1)) O.ho, s _ _ (.inl (n0 o2)) O.hd, s _ _ (.inl (n0 o3)) O.hn, s _ _ (.inl (n0 o4)) O.ht, s _ _ (.inl (n0 o5)) O.hl, s _ _ (.inl (n0 o6)) O.hg, s _ _ (.inl (n0 o7)) O.hc, fun i c e => ?_, O.oc, O.os, O.nd, O.nk⟩
  obtain ⟨c1, c2, c3⟩ := O.oc i (ls_i e)
  refine (O.hx i c e).keep fun b o h e => s b o ?_ e
  rcases h with h | h | h | h
  · exact .inl (by rw [h]; exact n0 c1)
  · exact .inl (by rw [h]; exact n0 c2)
  · exact .inl (by rw [h]; exact n0 c3)
  · exact .inr h
/-- where the channel of that number stands -/
def ixN? (cs : List Cg) (k : Int) : Option Nat := cs.findIdx? fun c => decide (c.n = k)
theorem ixN_some {cs : List Cg} {k : Int} {i : Nat} (h : ixN? cs k = some i) : ∃ c, cs[i]? = some c ∧ c.n = k := by
  obtain ⟨h1, h2, _⟩ := List.findIdx?_eq_some_iff_getElem.mp h
  exact ⟨cs[i], List.getElem?_eq_getElem h1, by simpa using h2⟩
theorem ixN_none {cs : List Cg} {k : Int} (h : ixN? cs k = none) : ∀ c ∈ cs, c.n ≠ k := by
  intro c hc
  have := (List.findIdx?_eq_none_iff.mp h) c hc
  simpa using this
theorem val_in {kvs : List (Key × V)} {k : Key} {v : V} (nd : (kvs.map (·.1)).Nodup) (h : (k, v) ∈ kvs) : valV kvs k = some v := by
  induction kvs with
  | nil => cases h
  | cons p r ih =>
    obtain ⟨n1, n2⟩ := List.nodup_cons.mp nd
    rcases List.mem_cons.mp h with e | h
    · rw [valV_pos (by rw [← e]), ← e]
    · rw [valV_neg (fun e => n1 (by rw [show (fun x : Key × V => x.1) p = k from e]; exact List.mem_map_of_mem (f := fun x : Key × V => x.1) h)), ih n2 h]
theorem val_out {kvs : List (Key × V)} {k : Key} (h : ∀ p ∈ kvs, p.1 ≠ k) : valV kvs k = none := by
  induction kvs with
  | nil => rfl
  | cons p r ih =>
    rw [valV_neg (h p (List.mem_cons_self ..)), ih fun q hq => h q (List.mem_cons_of_mem _ hq)]
theorem chK_keys {x : Nat → Ca} {cs : List Cg} : (chK x cs).map (·.1) = (cs.map Cg.n).map Sum.inl := by
  unfold chK
  rw [List.map_map, List.map_map]
  refine List.ext_getElem? fun i => ?_
  rw [List.getElem?_map, List.getElem?_map]
  by_cases h : i < cs.length
  · rw [List.getElem?_range h, List.getElem?_eq_getElem h]
    simp [h]
  · rw [List.getElem?_eq_none (by rw [List.length_range]; omega), List.getElem?_eq_none (by omega)]
    rfl
theorem chK_get {x : Nat → Ca} {cs : List Cg} (nk : (cs.map Cg.n).Nodup) (k : Int) : valV (chK x cs) (.inl k) = (ixN? cs k).map fun i => V.ref (x i).a := by
  cases e : ixN? cs k with
  | none =>
    refine val_out fun p hp z => ?_
    have : p.1 ∈ (chK x cs).map (·.1) := List.mem_map_of_mem (f := (·.1)) hp
    rw [chK_keys, z] at this
    obtain ⟨n, hn, en⟩ := List.mem_map.mp this
    obtain ⟨c, hc, ec⟩ := List.mem_map.mp hn
    exact ixN_none e c hc (by rw [ec]; exact Sum.inl.inj en)
  | some i =>
    obtain ⟨c, hc, ec⟩ := ixN_some e
    have hi := ls_i hc
    refine val_in ?_ ?_
    · rw [chK_keys]
      unfold List.Nodup at nk ⊢
      rw [List.pairwise_map]
      exact nk.imp fun z y => z (Sum.inl.inj y)
    · unfold chK
      refine List.mem_map.mpr ⟨i, List.mem_range.mpr hi, ?_⟩
      rw [hc]
      show (Sum.inl c.n, _) = _
      rw [ec]
theorem SgO.get {CS CC : Addr} {own : Addr → Option Nat} {H : Hp} {S : Sg} {x : Nat → Ca} {g : Sd} (O : SgO CS CC own H S x g) (k : Int) : DGet H S.cd (.int k) ((ixN? g.cs k).map fun i => V.ref (x i).a) := by
  have z := DGet.k (k := .inl k) O.hd
  rw [chK_get O.nk] at z
  exact z
def Sd.room (g : Sd) (c : Cg) : Int := if c.fin = true ∨ c.br.isSome = true ∨ g.fl.isSome = true then 0 else g.w - (c.q.length : Int)
def sp_Channels_room_of (CS CC : Addr) : Sp := fun vs H Q _ => ∃ (own : Addr → Option Nat) (S : Sg) (x : Nat → Ca) (g : Sd) (i : Nat) (c : Cg), vs = [.ref S.p, .ref (x i).a] ∧ SgO CS CC own H S x g ∧ g.cs[i]? = some c ∧ Q (.int (g.room c)) H
theorem ok_Channels_room_of (T : Txt P w K mg) : FnOk P w K mg base CX0 1 T.f_Channels_room_of T.d_Channels_room_of ["self", "channel"] (sp_Channels_room_of T.C_Channels T.C_Channel) := by
  refine T.F_Channels_room_of.ok sc_Channels_room_of (fun vs H Q E h => ?_) (fun cdv A outer s H vs Q E hr h => ?_)
  · obtain ⟨own, S, x, g, i, c, rfl, O, hi, q⟩ := h
    rfl
  · obtain ⟨own, S, x, g, i, c, rfl, O, hi, q⟩ := h
    have hu := hu_of hr
    refine ⟨_, (pss_cons (ps_if (PW.pt (pw_or (pt_val (pe_fld (pv 1) rfl)) (pw_or (pt_cmpR op_notN (pe_fld (pv 1) rfl) pe_non (nomark _)) (pw_or1 (pt_cmpR op_notN (pe_fld (pv 0) rfl) pe_non (nomark _)))))) (pss_one (ps_ret pe_int)) pss_nil)
        (pss_one (ps_ret (pe_op op_sub (pe_fld (pv 0) rfl) (pe_callB call_len_seq (by rfl) T.n_len (by decide +kernel) (pa_cons (pe_fld (pv 1) rfl) pa_nil)))))), ?_⟩
    dsimp only [cxOf, Cx.nox, Cx.wish, L2.start, List.map, List.cons_append, List.nil_append, List.length_cons, List.length_nil, Nat.reduceAdd, Nat.reduceSub, Nat.zero_add, List.replicate_succ, List.replicate_zero]
    have ho := O.ho
    obtain ⟨hc, hq, hun, hne, hb⟩ := O.hx i c hi
    unfold Sd.room at q
    generalize hbv : (x i).b = b at hb
    rw [hbv] at hc
    cases hf : c.fin with
    | true =>
      rw [hf] at hc
      rw [if_pos (.inl hf)] at q
      walk_at "go"
      exact q
    | false =>
      rw [hf] at hc
      cases hbr : c.br with
      | some p =>
        rw [hbr] at hb
        obtain ⟨t, rfl, ht⟩ := hb
        rw [if_pos (.inr (.inl (by rw [hbr]; rfl)))] at q
        walk_at "go"
        exact q
      | none =>
        rw [hbr] at hb
        obtain rfl : b = .non := hb
        cases hfl : g.fl with
        | some s =>
          rw [hfl] at ho
          rw [if_pos (.inr (.inr (by rw [hfl]; rfl)))] at q
          walk_at "go"
          exact q
        | none =>
          rw [hfl] at ho
          rw [if_neg (by rw [hf, hbr, hfl]; simp)] at q
          walk_at "go"
          refine g_len (.inl (sl hq)) ?_
          rw [List.length_map]
          walk_at "go"
          exact q
def sp_Channels_known (CS CC UC : Addr) : Sp := fun vs H Q E => ∃ (own : Addr → Option Nat) (S : Sg) (x : Nat → Ca) (g : Sd) (k : Int), vs = [.ref S.p, .int k] ∧ SgO CS CC own H S x g ∧ 0 ≤ k ∧ k ≤ 1000000 ∧
  ((∃ i, ixN? g.cs k = some i ∧ Q (.ref (x i).a) H) ∨ (ixN? g.cs k = none ∧ E (.ref UC) none H))
theorem ok_Channels_known (T : Txt P w K mg) : FnOk P w K mg base (L2.CX P w) 1 T.f_Channels_known T.d_Channels_known ["self", "number"] (sp_Channels_known T.C_Channels T.C_Channel T.C_UnknownChannel) := by
  refine T.F_Channels_known.okX sc_Channels_known (fun vs H Q E h => ?_) (fun cdv A outer s H vs Q E hr h => ?_)
  · obtain ⟨own, S, x, g, k, rfl, O, h0, h1, q⟩ := h
    rfl
  · obtain ⟨own, S, x, g, k, rfl, O, h0, h1, q⟩ := h
    have hu := hu_of hr
    refine ⟨_, (pss_cons (ps_if (pt_cmp (pc_dnotin hu (pv 1) (pe_fld (pv 0) rfl))) (pss_one (ps_rs rfl (takes_of rfl rfl rfl rfl) (pmk_1 PySem.F.excBase_ValueError T.xP_UnknownChannel T.c_UnknownChannel T.ke_UnknownChannel (raises_own T.be_UnknownChannel T.te_UnknownChannel) rfl (pe_joinedJ (.cons pe_str (.cons (pe_fmt (pv 1)) .nil)))))) pss_nil)
        (pss_one (ps_ret (pe_dget hu (pe_fld (pv 0) rfl) (pv 1) (fun _ _ => rfl))))), ?_⟩
    dsimp only [cxOf, Cx.nox, Cx.wish, L2.start, List.map, List.cons_append, List.nil_append, List.length_cons, List.length_nil, Nat.reduceAdd, Nat.reduceSub, Nat.zero_add, List.replicate_succ, List.replicate_zero]
    have ho := O.ho
    have hd := O.get k
    rcases q with ⟨i, e, q⟩ | ⟨e, q⟩
    · rw [e] at hd
      walk_at "go"
      refine ⟨S.cd, _, rfl, hd, ?_⟩
      walk_at "go"
      exact ⟨S.cd, _, rfl, hd, q⟩
    · rw [e] at hd
      walk_at "go"
      refine ⟨S.cd, _, rfl, hd, ?_⟩
      walk_at "go"
      have e0 : Str.empty.length = 0 := by decide
      have e1 : (Str.ofString "no channel ").length = 11 := by decide +kernel
      have e3 := itext (i := k) (by omega)
      refine g_jsE (by walk_at "fit") ?_
      walk_at "go"
      refine g_fmtI (log_lt (by omega)) ?_
      refine g_jsE (by walk_at "fit") ?_
      walk_at "go"
      exact q

def sp_Channels_len__ (CS CC : Addr) : Sp := fun vs H Q _ => ∃ (own : Addr → Option Nat) (S : Sg) (x : Nat → Ca) (g : Sd), vs = [.ref S.p] ∧ SgO CS CC own H S x g ∧ Q (.int (g.ns.length : Int)) H
theorem ok_Channels_len__ (T : Txt P w K mg) : FnOk P w K mg base CX0 1 T.f_Channels_len__ T.d_Channels_len__ ["self"] (sp_Channels_len__ T.C_Channels T.C_Channel) := by
  refine T.F_Channels_len__.ok sc_Channels_len__ (fun vs H Q E h => ?_) (fun cdv A outer s H vs Q E hr h => ?_)
  · obtain ⟨own, S, x, g, rfl, O, q⟩ := h
    rfl
  · obtain ⟨own, S, x, g, rfl, O, q⟩ := h
    have hu := hu_of hr
    refine ⟨_, (pss_one (ps_ret (pe_callB call_len_seq (by rfl) T.n_len (by decide +kernel) (pa_cons (pe_fld (pv 0) rfl) pa_nil)))), ?_⟩
    dsimp only [cxOf, Cx.nox, Cx.wish, L2.start, List.map, List.cons_append, List.nil_append, List.length_cons, List.length_nil, Nat.reduceAdd, Nat.reduceSub, Nat.zero_add, List.replicate_succ, List.replicate_zero]
    have ho := O.ho
    walk_at "go"
    refine g_len (.inl (sl O.hn)) ?_
    rw [List.length_map]
    exact q

end
end My
namespace My
open PySem PySem.Spec L2
local macro_rules | `(tactic| walk_at "side") => `(tactic| first | assumption | decide | omega | exact ⟨by decide, by decide⟩ | exact ⟨by decide, by decide, by decide⟩ | decide +kernel | exact cdivW (by decide +kernel) (by decide +kernel) | exact Or.inl ⟨by omega, by omega⟩ | exact Or.inr ⟨by omega, by omega⟩ | (simp only [List.length_map, List.length_cons, List.length_nil, List.length_append]; omega))
local macro_rules | `(tactic| walk_at "fact") => `(tactic| first | assumption | omega | with_reducible rfl)
local macro_rules | `(tactic| walk_at "use") => `(tactic| fail "use")
local macro_rules | `(tactic| walk_at "go1") => `(tactic| with_reducible first | refine g_seq ?_ | refine g_asg ?_ | refine g_ret ?_ | refine g_ifS ?_ | refine g_drop ?_ | refine g_star ?_ | refine g_nx ?_ | refine g_rt ?_ | refine g_bkE ?_ | refine g_ctE ?_ | refine g_next ?_ | refine g_retN ?_ | refine g_brk ?_ | refine g_ct ?_ | refine g_c ?_ | refine g_op ?_ | refine g_un ?_ | refine g_rI0 ?_ | refine g_rU ?_ | refine g_rEqI ?_ | refine g_rNeI ?_ | refine g_isN ?_ | refine g_rIsB ?_ | refine g_rNotB ?_ | refine g_test ?_ | refine g_B ?_ | refine g_bl ?_ | refine g_and ?_ | refine g_or ?_ | refine g_not ?_ | refine g_andV ?_ | refine g_orV ?_ | refine g_notV ?_ | refine g_if ?_ | refine g_chain ?_ | refine g_yes ?_ | refine g_lc ?_ | refine g_revR ?_ | refine g_rng1 ?_ | refine g_iList ?_ | refine g_nil ?_ | refine g_cons ?_ | refine g_tup ?_ | refine g_lst ?_ | refine g_call ?_ | refine g_CB ?_ | refine g_sl ?_ | refine g_noPart ?_ | refine g_part ?_ | refine g_intE ?_ | refine g_ref ?_ | refine g_fld ?_ | refine g_sfld ?_ | refine g_meth ?_ | refine g_make ?_ | refine g_prop ?_  | refine g_ipI ?_ | refine g_int1 ?_ | refine g_int1B ?_ | refine g_one ?_ | refine g_two ?_ | refine g_isiI ?_ | refine g_isiIB ?_ | refine g_isiB ?_ | refine g_BM ?_ | refine g_BM0 ?_ | refine g_sub ?_)
local macro_rules | `(tactic| walk_at "go") => `(tactic| repeat (first | walk_at "go1" | ((with_reducible refine' g_nameE ?sd_ ?_); case sd_ => dsimp only [List.set_cons_succ, List.set_cons_zero]) | ((with_reducible refine' g_var ?sd_ ?_); case sd_ => exact rfl) | ((with_reducible refine' g_aug ?sd_ ?_); case sd_ => exact rfl) | ((with_reducible refine' g_rI ?sd_ ?_); case sd_ => walk_at "side") | ((with_reducible refine' g_dT ?sd_ ?_); case sd_ => walk_at "fact") | ((with_reducible refine' g_dF ?sd_ ?_); case sd_ => walk_at "fact") | ((with_reducible refine' g_nT ?sd_ ?_); case sd_ => walk_at "fact") | ((with_reducible refine' g_nF ?sd_ ?_); case sd_ => walk_at "fact") | (with_reducible refine g_iT rfl ?_) | (with_reducible refine g_iF rfl ?_) | walk_at "use"))
local macro_rules | `(tactic| walk_at "nw") => `(tactic| (generalize zq : upd _ _ _ = Hq; have sq : Same _ Hq := (by rw [← zq]; exact same_upd (by assumption)); have kq := (congrFun zq _).symm.trans upd_same; clear zq))
local macro_rules | `(tactic| walk_at "bt") => `(tactic| (generalize zq : upd _ _ _ = Hq; have bq : But _ _ Hq := (by rw [← zq]; exact But.refl.upd); have kq := (congrFun zq _).symm.trans upd_same; clear zq))
local macro_rules | `(tactic| walk_at "use") => `(tactic| first | ((with_reducible refine' fd_Channel_number ?ho_ ?hv_ ?_); (case ho_ => first | assumption | exact upd_same); (case hv_ => exact rfl)) | ((with_reducible refine' fd_Channel_announced ?ho_ ?hv_ ?_); (case ho_ => first | assumption | exact upd_same); (case hv_ => exact rfl)) | ((with_reducible refine' fd_Channel_queue ?ho_ ?hv_ ?_); (case ho_ => first | assumption | exact upd_same); (case hv_ => exact rfl)) | ((with_reducible refine' fd_Channel_credit ?ho_ ?hv_ ?_); (case ho_ => first | assumption | exact upd_same); (case hv_ => exact rfl)) | ((with_reducible refine' fd_Channel_finished ?ho_ ?hv_ ?_); (case ho_ => first | assumption | exact upd_same); (case hv_ => exact rfl)) | ((with_reducible refine' fd_Channel_end_sent ?ho_ ?hv_ ?_); (case ho_ => first | assumption | exact upd_same); (case hv_ => exact rfl)) | ((with_reducible refine' fd_Channel_unread ?ho_ ?hv_ ?_); (case ho_ => first | assumption | exact upd_same); (case hv_ => exact rfl)) | ((with_reducible refine' fd_Channel_due ?ho_ ?hv_ ?_); (case ho_ => first | assumption | exact upd_same); (case hv_ => exact rfl)) | ((with_reducible refine' fd_Channel_end_came ?ho_ ?hv_ ?_); (case ho_ => first | assumption | exact upd_same); (case hv_ => exact rfl)) | ((with_reducible refine' fd_Channel_broken ?ho_ ?hv_ ?_); (case ho_ => first | assumption | exact upd_same); (case hv_ => exact rfl)) | ((with_reducible refine' fd_Channel_reset_told ?ho_ ?hv_ ?_); (case ho_ => first | assumption | exact upd_same); (case hv_ => exact rfl)) | ((with_reducible refine' nw_Channel_number ?ho_ ?hv_ ?_); (case ho_ => first | assumption | exact upd_same); (case hv_ => exact rfl)) | ((with_reducible refine' nw_Channel_announced ?ho_ ?hv_ ?_); (case ho_ => first | assumption | exact upd_same); (case hv_ => exact rfl)) | ((with_reducible refine' nw_Channel_queue ?ho_ ?hv_ ?_); (case ho_ => first | assumption | exact upd_same); (case hv_ => exact rfl)) | ((with_reducible refine' nw_Channel_credit ?ho_ ?hv_ ?_); (case ho_ => first | assumption | exact upd_same); (case hv_ => exact rfl)) | ((with_reducible refine' nw_Channel_finished ?ho_ ?hv_ ?_); (case ho_ => first | assumption | exact upd_same); (case hv_ => exact rfl)) | ((with_reducible refine' nw_Channel_end_sent ?ho_ ?hv_ ?_); (case ho_ => first | assumption | exact upd_same); (case hv_ => exact rfl)) | ((with_reducible refine' nw_Channel_unread ?ho_ ?hv_ ?_); (case ho_ => first | assumption | exact upd_same); (case hv_ => exact rfl)) | ((with_reducible refine' nw_Channel_due ?ho_ ?hv_ ?_); (case ho_ => first | assumption | exact upd_same); (case hv_ => exact rfl)) | ((with_reducible refine' nw_Channel_end_came ?ho_ ?hv_ ?_); (case ho_ => first | assumption | exact upd_same); (case hv_ => exact rfl)) | ((with_reducible refine' nw_Channel_broken ?ho_ ?hv_ ?_); (case ho_ => first | assumption | exact upd_same); (case hv_ => exact rfl)) | ((with_reducible refine' nw_Channel_reset_told ?ho_ ?hv_ ?_); (case ho_ => first | assumption | exact upd_same); (case hv_ => exact rfl)) | ((with_reducible refine' st_Channel_number ?ho_ ?hv_ ?_); (case ho_ => first | assumption | exact upd_same); (case hv_ => exact Nat.le_of_ble_eq_true rfl)) | ((with_reducible refine' st_Channel_announced ?ho_ ?hv_ ?_); (case ho_ => first | assumption | exact upd_same); (case hv_ => exact Nat.le_of_ble_eq_true rfl)) | ((with_reducible refine' st_Channel_queue ?ho_ ?hv_ ?_); (case ho_ => first | assumption | exact upd_same); (case hv_ => exact Nat.le_of_ble_eq_true rfl)) | ((with_reducible refine' st_Channel_credit ?ho_ ?hv_ ?_); (case ho_ => first | assumption | exact upd_same); (case hv_ => exact Nat.le_of_ble_eq_true rfl)) | ((with_reducible refine' st_Channel_finished ?ho_ ?hv_ ?_); (case ho_ => first | assumption | exact upd_same); (case hv_ => exact Nat.le_of_ble_eq_true rfl)) | ((with_reducible refine' st_Channel_end_sent ?ho_ ?hv_ ?_); (case ho_ => first | assumption | exact upd_same); (case hv_ => exact Nat.le_of_ble_eq_true rfl)) | ((with_reducible refine' st_Channel_unread ?ho_ ?hv_ ?_); (case ho_ => first | assumption | exact upd_same); (case hv_ => exact Nat.le_of_ble_eq_true rfl)) | ((with_reducible refine' st_Channel_due ?ho_ ?hv_ ?_); (case ho_ => first | assumption | exact upd_same); (case hv_ => exact Nat.le_of_ble_eq_true rfl)) | ((with_reducible refine' st_Channel_end_came ?ho_ ?hv_ ?_); (case ho_ => first | assumption | exact upd_same); (case hv_ => exact Nat.le_of_ble_eq_true rfl)) | ((with_reducible refine' st_Channel_broken ?ho_ ?hv_ ?_); (case ho_ => first | assumption | exact upd_same); (case hv_ => exact Nat.le_of_ble_eq_true rfl)) | ((with_reducible refine' st_Channel_reset_told ?ho_ ?hv_ ?_); (case ho_ => first | assumption | exact upd_same); (case hv_ => exact Nat.le_of_ble_eq_true rfl)) | ((with_reducible refine' me_Channel_break_off ?ho_ ?_); (case ho_ => first | assumption | exact upd_same)) | ((with_reducible refine' me_Channel_fork ?ho_ ?_); (case ho_ => first | assumption | exact upd_same)))
local macro_rules | `(tactic| walk_at "use") => `(tactic| first | ((with_reducible refine' fd_Channels_failure ?ho_ ?hv_ ?_); (case ho_ => first | assumption | exact upd_same); (case hv_ => exact rfl)) | ((with_reducible refine' fd_Channels__window ?ho_ ?hv_ ?_); (case ho_ => first | assumption | exact upd_same); (case hv_ => exact rfl)) | ((with_reducible refine' fd_Channels__most ?ho_ ?hv_ ?_); (case ho_ => first | assumption | exact upd_same); (case hv_ => exact rfl)) | ((with_reducible refine' fd_Channels__next_here ?ho_ ?hv_ ?_); (case ho_ => first | assumption | exact upd_same); (case hv_ => exact rfl)) | ((with_reducible refine' fd_Channels__next_there ?ho_ ?hv_ ?_); (case ho_ => first | assumption | exact upd_same); (case hv_ => exact rfl)) | ((with_reducible refine' fd_Channels__channels ?ho_ ?hv_ ?_); (case ho_ => first | assumption | exact upd_same); (case hv_ => exact rfl)) | ((with_reducible refine' fd_Channels__numbers ?ho_ ?hv_ ?_); (case ho_ => first | assumption | exact upd_same); (case hv_ => exact rfl)) | ((with_reducible refine' fd_Channels__turns ?ho_ ?hv_ ?_); (case ho_ => first | assumption | exact upd_same); (case hv_ => exact rfl)) | ((with_reducible refine' fd_Channels__offered ?ho_ ?hv_ ?_); (case ho_ => first | assumption | exact upd_same); (case hv_ => exact rfl)) | ((with_reducible refine' fd_Channels__going ?ho_ ?hv_ ?_); (case ho_ => first | assumption | exact upd_same); (case hv_ => exact rfl)) | ((with_reducible refine' fd_Channels__coming ?ho_ ?hv_ ?_); (case ho_ => first | assumption | exact upd_same); (case hv_ => exact rfl)) | ((with_reducible refine' nw_Channels_failure ?ho_ ?hv_ ?_); (case ho_ => first | assumption | exact upd_same); (case hv_ => exact rfl)) | ((with_reducible refine' nw_Channels__window ?ho_ ?hv_ ?_); (case ho_ => first | assumption | exact upd_same); (case hv_ => exact rfl)) | ((with_reducible refine' nw_Channels__most ?ho_ ?hv_ ?_); (case ho_ => first | assumption | exact upd_same); (case hv_ => exact rfl)) | ((with_reducible refine' nw_Channels__next_here ?ho_ ?hv_ ?_); (case ho_ => first | assumption | exact upd_same); (case hv_ => exact rfl)) | ((with_reducible refine' nw_Channels__next_there ?ho_ ?hv_ ?_); (case ho_ => first | assumption | exact upd_same); (case hv_ => exact rfl)) | ((with_reducible refine' nw_Channels__channels ?ho_ ?hv_ ?_); (case ho_ => first | assumption | exact upd_same); (case hv_ => exact rfl)) | ((with_reducible refine' nw_Channels__numbers ?ho_ ?hv_ ?_); (case ho_ => first | assumption | exact upd_same); (case hv_ => exact rfl)) | ((with_reducible refine' nw_Channels__turns ?ho_ ?hv_ ?_); (case ho_ => first | assumption | exact upd_same); (case hv_ => exact rfl)) | ((with_reducible refine' nw_Channels__offered ?ho_ ?hv_ ?_); (case ho_ => first | assumption | exact upd_same); (case hv_ => exact rfl)) | ((with_reducible refine' nw_Channels__going ?ho_ ?hv_ ?_); (case ho_ => first | assumption | exact upd_same); (case hv_ => exact rfl)) | ((with_reducible refine' nw_Channels__coming ?ho_ ?hv_ ?_); (case ho_ => first | assumption | exact upd_same); (case hv_ => exact rfl)) | ((with_reducible refine' st_Channels_failure ?ho_ ?hv_ ?_); (case ho_ => first | assumption | exact upd_same); (case hv_ => exact Nat.le_of_ble_eq_true rfl)) | ((with_reducible refine' st_Channels__window ?ho_ ?hv_ ?_); (case ho_ => first | assumption | exact upd_same); (case hv_ => exact Nat.le_of_ble_eq_true rfl)) | ((with_reducible refine' st_Channels__most ?ho_ ?hv_ ?_); (case ho_ => first | assumption | exact upd_same); (case hv_ => exact Nat.le_of_ble_eq_true rfl)) | ((with_reducible refine' st_Channels__next_here ?ho_ ?hv_ ?_); (case ho_ => first | assumption | exact upd_same); (case hv_ => exact Nat.le_of_ble_eq_true rfl)) | ((with_reducible refine' st_Channels__next_there ?ho_ ?hv_ ?_); (case ho_ => first | assumption | exact upd_same); (case hv_ => exact Nat.le_of_ble_eq_true rfl)) | ((with_reducible refine' st_Channels__channels ?ho_ ?hv_ ?_); (case ho_ => first | assumption | exact upd_same); (case hv_ => exact Nat.le_of_ble_eq_true rfl)) | ((with_reducible refine' st_Channels__numbers ?ho_ ?hv_ ?_); (case ho_ => first | assumption | exact upd_same); (case hv_ => exact Nat.le_of_ble_eq_true rfl)) | ((with_reducible refine' st_Channels__turns ?ho_ ?hv_ ?_); (case ho_ => first | assumption | exact upd_same); (case hv_ => exact Nat.le_of_ble_eq_true rfl)) | ((with_reducible refine' st_Channels__offered ?ho_ ?hv_ ?_); (case ho_ => first | assumption | exact upd_same); (case hv_ => exact Nat.le_of_ble_eq_true rfl)) | ((with_reducible refine' st_Channels__going ?ho_ ?hv_ ?_); (case ho_ => first | assumption | exact upd_same); (case hv_ => exact Nat.le_of_ble_eq_true rfl)) | ((with_reducible refine' st_Channels__coming ?ho_ ?hv_ ?_); (case ho_ => first | assumption | exact upd_same); (case hv_ => exact Nat.le_of_ble_eq_true rfl)) | ((with_reducible refine' me_Channels_len__ ?ho_ ?_); (case ho_ => first | assumption | exact upd_same)) | ((with_reducible refine' me_Channels_iter__ ?ho_ ?_); (case ho_ => first | assumption | exact upd_same)) | ((with_reducible refine' me_Channels_open_channel ?ho_ ?_); (case ho_ => first | assumption | exact upd_same)) | ((with_reducible refine' me_Channels_accept ?ho_ ?_); (case ho_ => first | assumption | exact upd_same)) | ((with_reducible refine' me_Channels_finish ?ho_ ?_); (case ho_ => first | assumption | exact upd_same)) | ((with_reducible refine' me_Channels_reset ?ho_ ?_); (case ho_ => first | assumption | exact upd_same)) | ((with_reducible refine' me_Channels_status ?ho_ ?_); (case ho_ => first | assumption | exact upd_same)) | ((with_reducible refine' me_Channels_take ?ho_ ?_); (case ho_ => first | assumption | exact upd_same)) | ((with_reducible refine' me_Channels_receive ?ho_ ?_); (case ho_ => first | assumption | exact upd_same)) | ((with_reducible refine' me_Channels_fork ?ho_ ?_); (case ho_ => first | assumption | exact upd_same)) | ((with_reducible refine' me_Channels_known ?ho_ ?_); (case ho_ => first | assumption | exact upd_same)) | ((with_reducible refine' me_Channels_add ?ho_ ?_); (case ho_ => first | assumption | exact upd_same)) | ((with_reducible refine' me_Channels_room_of ?ho_ ?_); (case ho_ => first | assumption | exact upd_same)) | ((with_reducible refine' me_Channels_take_frame ?ho_ ?_); (case ho_ => first | assumption | exact upd_same)) | ((with_reducible refine' me_Channels_failure_of ?ho_ ?_); (case ho_ => first | assumption | exact upd_same)) | ((with_reducible refine' me_Channels_apply ?ho_ ?_); (case ho_ => first | assumption | exact upd_same)))
section
variable {P : Program} {w : World} {K : PySem.W.Frag} {mg : Str → Option Value} {base : Heap}
local macro_rules | `(tactic| walk_at "use") => `(tactic| with_reducible first | refine g_rs0 ?_ | refine g_rs1 ?_ | refine g_tryA ?_ | refine g_tryO ?_ | refine g_callS ?_ | refine g_joined ?_ | refine g_jsnil ?_ | refine g_jscons ?_ | refine g_fmt ?_)
local macro_rules | `(tactic| walk_at "fit") => `(tactic| (refine fit2 ?_; (try simp only [PySem.Str.length_append]); omega))
local macro_rules | `(tactic| walk_at "use") => `(tactic| first | ((with_reducible refine' g_addS ?sd_ ?_); case sd_ => (first | omega | (simp only [PySem.Str.length_append]; omega))) | ((with_reducible refine' g_slS ?sd_ ?_); case sd_ => omega) | (with_reducible refine g_m0 ?_))

local macro_rules | `(tactic| walk_at "use") => `(tactic| with_reducible first | refine g_dgetI ?_ | refine g_dputI ?_ | refine g_dget1I ?_ | refine g_dget2I ?_ | refine g_dinI ?_ | refine g_dnotinI ?_ | refine g_dnewK ?_)

/-- the channels stay -/
theorem SgO.hxk {CS CC : Addr} {own : Addr → Option Nat} {H H' : Hp} {S : Sg} {x : Nat → Ca} {g : Sd} (O : SgO CS CC own H S x g) (fr : ∀ b o, (∃ k, own b = some (k + 1)) ∨ (∃ k, o = HO.tup k) → H b = some o → H' b = some o) (i : Nat) (c : Cg) (e : g.cs[i]? = some c) : CgO CC H' (x i) c := by
  obtain ⟨c1, c2, c3⟩ := O.oc i (ls_i e)
  refine (O.hx i c e).keep fun b o h e => fr b o ?_ e
  rcases h with h | h | h | h
  · exact .inl ⟨i, h ▸ c1⟩
  · exact .inl ⟨i, h ▸ c2⟩
  · exact .inl ⟨i, h ▸ c3⟩
  · exact .inr h
theorem CgO.mem {C : Addr} {H : Hp} {x : Ca} {c : Cg} (h : CgO C H x c) : H x.a ≠ none ∧ H x.q ≠ none ∧ H x.u ≠ none := ⟨by rw [h.1]; exact nofun, by rw [h.2.1]; exact nofun, by rw [h.2.2.1]; exact nofun⟩
def insN (ns : List Int) (n : Int) : List Int := (ns ++ [n]).mergeSort fun a b => decide (a ≤ b)
theorem insN_one {ns l : List Int} {n : Int} (hp : l.Perm (ns ++ [n])) (hs : l.Pairwise (· ≤ ·)) : l = insN ns n := by
  refine List.Perm.eq_of_pairwise (le := (· ≤ ·)) (fun _ _ _ _ a b => Int.le_antisymm a b) hs ?_ (hp.trans (List.mergeSort_perm _ _).symm)
  refine (List.pairwise_mergeSort (le := fun a b => decide (a ≤ b)) (fun a b c h1 h2 => ?_) (fun a b => ?_) _).imp fun h => by simpa using h
  · simp only [decide_eq_true_eq] at h1 h2 ⊢
    omega
  · rw [Bool.or_eq_true, decide_eq_true_eq, decide_eq_true_eq]
    omega
theorem insN_len {ns : List Int} {n : Int} : (insN ns n).length = ns.length + 1 := by
  unfold insN
  rw [List.length_mergeSort, List.length_append]
  rfl
def Sd.add (g : Sd) (c : Cg) : Sd := { g with cs := g.cs ++ [c], ns := insN g.ns c.n, ts := g.ts ++ [c.n] }
def addX (x : Nat → Ca) (n : Nat) (y : Ca) : Nat → Ca := fun j => if j = n then y else x j
theorem chK_add {x : Nat → Ca} {cs : List Cg} {c : Cg} {y : Ca} : chK (addX x cs.length y) (cs ++ [c]) = chK x cs ++ [(Sum.inl c.n, V.ref y.a)] := by
  unfold chK addX
  rw [List.length_append, show [c].length = 1 from rfl, List.range_succ, List.map_append]
  congr 1
  · refine List.map_congr_left fun i hi => ?_
    have hi := List.mem_range.mp hi
    rw [List.getElem?_append_left hi, if_neg (Nat.ne_of_lt hi)]
  · show [(_, _)] = _
    rw [List.getElem?_append_right (Nat.le_refl _), Nat.sub_self, if_pos rfl]
    rfl
theorem chK_out {x : Nat → Ca} {cs : List Cg} {k : Int} (h : ∀ d ∈ cs, d.n ≠ k) : valV (chK x cs) (.inl k) = none := by
  refine val_out fun p hp z => ?_
  have : p.1 ∈ (chK x cs).map (·.1) := List.mem_map_of_mem (f := (·.1)) hp
  rw [chK_keys, z] at this
  obtain ⟨n, hn, en⟩ := List.mem_map.mp this
  obtain ⟨c, hc, ec⟩ := List.mem_map.mp hn
  exact h c hc (by rw [ec]; exact Sum.inl.inj en)
theorem chK_len {x : Nat → Ca} {cs : List Cg} : (chK x cs).length = cs.length := by
  unfold chK
  rw [List.length_map, List.length_range]
def sp_Channels_add (CS CC : Addr) : Sp := fun vs H Q _ => ∃ (own : Addr → Option Nat) (S : Sg) (x : Nat → Ca) (g : Sd) (y : Ca) (c : Cg), vs = [.ref S.p, .ref y.a] ∧ SgO CS CC own H S x g ∧ CgO CC H y c ∧
  own y.a = none ∧ own y.q = none ∧ own y.u = none ∧ g.cs.length < 1000 ∧ g.ns.length < 1000 ∧ g.ts.length < 1000 ∧ (∀ d ∈ g.cs, d.n ≠ c.n) ∧
  ∀ own' l H', (∀ b, b ≠ y.a → b ≠ y.q → b ≠ y.u → H b ≠ none → own' b = own b) → SgO CS CC own' H' { S with nl := l } (addX x g.cs.length y) (g.add c) → (∀ b o, own b = none → H b = some o → H' b = some o) → Q .non H'
theorem ok_Channels_add (T : Txt P w K mg) : FnOk P w K mg base CX0 1 T.f_Channels_add T.d_Channels_add ["self", "channel"] (sp_Channels_add T.C_Channels T.C_Channel) := by
  refine T.F_Channels_add.ok sc_Channels_add (fun vs H Q E h => ?_) (fun cdv A outer s H vs Q E hr h => ?_)
  · obtain ⟨own, S, x, g, y, c, rfl, O, hY, y1, y2, y3, lc, ln, lt, nin, q⟩ := h
    rfl
  · obtain ⟨own, S, x, g, y, c, rfl, O, hY, y1, y2, y3, lc, ln, lt, nin, q⟩ := h
    have hu := hu_of hr
    refine ⟨_, (pss_cons (ps_dput hu (pe_fld (pv 0) rfl) (pe_fld (pv 1) rfl) (pv 1) rfl)
        (pss_cons (ps_fld (pv 0) (pe_callB cr_sortedI (by rfl) T.n_sorted (by decide +kernel) (pa_cons (pe_lst (StX.pa_star (pe_fld (pv 0) rfl) (pa_cons (pe_fld (pv 1) rfl) pa_nil))) pa_nil)) rfl)
        (pss_one (ps_expr (pe_bm PySem.F.plainAttrs_list PySem.F.slot_list_append PySem.F.type_list_append mt_append (pe_fld (pv 0) rfl) (pa_cons (pe_fld (pv 1) rfl) pa_nil)))))), ?_⟩
    dsimp only [cxOf, Cx.nox, Cx.wish, L2.start, List.map, List.cons_append, List.nil_append, List.length_cons, List.length_nil, Nat.reduceAdd, Nat.reduceSub, Nat.zero_add, List.replicate_succ, List.replicate_zero]
    have hc := hY.1
    obtain ⟨o1, o2, o3, o4, o5, o6, o7⟩ := O.os
    have ho := O.ho
    have hn := O.hn
    have ht := O.ht
    have nd := O.nd
    simp only [List.nodup_cons, List.mem_cons, List.not_mem_nil, or_false, not_or, List.nodup_nil, not_false_eq_true, and_true] at nd
    obtain ⟨⟨n1, n2, n3, n4⟩, ⟨n5, n6, n7⟩, ⟨n8, n9⟩, n10⟩ := nd
    have ncd : S.cd ≠ S.p := ne_of O.hd ho (fun z => nomatch z)
    have ntl : S.tl ≠ S.p := ne_of ht ho (fun z => nomatch z)
    have ntd : S.tl ≠ S.cd := ne_of ht O.hd (fun z => nomatch z)
    walk_at "go"
    refine ⟨S.cd, _, rfl, DPut.k (k := .inl c.n) (v := .ref y.a) O.hd (szl (by rw [chK_len]; omega)), ?_⟩
    rw [putK_new _ (chK_out nin), ← chK_add (c := c)]
    walk_at "bt"
    rename_i H1 b1 k1
    have ho1 := b1 _ _ ncd.symm ho
    have hn1 := b1 _ _ (ne_of hn O.hd (fun z => nomatch z)) hn
    have ht1 := b1 _ _ ntd ht
    have hc1 := b1 _ _ (ne_of hc O.hd (fun z => nomatch z)) hc
    walk_at "go"
    refine ⟨S.nl, _, rfl, .inr (sl hn1), ?_⟩
    walk_at "go"
    refine ⟨by rw [List.length_append, List.length_map]; exact sz (by show g.ns.length + 1 ≤ _; omega), fun l1 hl1' => ?_⟩
    walk_at "nw"
    rename_i H2 s2 k2
    have k2 : H2 l1 = some (.lst ((g.ns ++ [c.n]).map V.int)) := by rw [k2, List.map_append]; rfl
    walk_at "go"
    refine ⟨l1, g.ns ++ [c.n], rfl, sl k2, fun ns' l2 hp hs hf2 => ?_⟩
    obtain rfl := insN_one hp hs
    walk_at "nw"
    rename_i H3 s3 k3
    have ho3 := s3 _ _ (s2 _ _ ho1)
    have ht3 := s3 _ _ (s2 _ _ ht1)
    have hc3 := s3 _ _ (s2 _ _ hc1)
    have f1 : ∀ b, H1 b = none → H b = none := fun b e => by
      cases z : H b with
      | none => rfl
      | some o =>
        by_cases w : b = S.cd
        · rw [w, k1] at e; cases e
        · rw [b1 _ _ w z] at e; cases e
    have f2 : H l2 = none := f1 _ (by
      cases e : H1 l2 with
      | none => rfl
      | some o => rw [s2 _ _ e] at hf2; cases hf2)
    have m2 : ∀ b o, H b = some o → b ≠ l2 := fun b o e => ne_of_none e f2
    walk_at "go"
    simp only [List.set_cons_succ, List.set_cons_zero]
    walk_at "bt"
    rename_i H4 b4 k4
    have ht4 := b4 _ _ ntl ht3
    have hc4 := b4 _ _ (show y.a ≠ S.p from fun z => by rw [z, o1] at y1; cases y1) hc3
    walk_at "go"
    refine ⟨ty_l ht4, ?_⟩
    walk_at "go"
    refine g_append ht4 (szl (by rw [List.length_map]; omega)) ?_
    walk_at "go"
    generalize z5 : upd H4 S.tl _ = H5
    have b5 : But S.tl H4 H5 := by rw [← z5]; exact But.refl.upd
    have k5 := (congrFun z5 S.tl).symm.trans upd_same
    clear z5
    have keep : ∀ b o, b ≠ S.p → b ≠ S.cd → b ≠ S.tl → H b = some o → H5 b = some o := fun b o m1 m2 m3 e => b5 _ _ m3 (b4 _ _ m1 (s3 _ _ (s2 _ _ (b1 _ _ m2 e))))
    have kx : ∀ b o, (∃ k, own b = some (k + 1)) ∨ (∃ k, o = HO.tup k) → H b = some o → H5 b = some o := fun b o h e => by
      rcases h with ⟨k, h⟩ | ⟨k, h⟩
      · exact keep b o (fun z => by rw [z, o1] at h; cases h) (fun z => by rw [z, o2] at h; cases h) (fun z => by rw [z, o4] at h; cases h) e
      · exact keep b o (ne_of e ho (by rw [h]; exact fun z => nomatch z)) (ne_of e O.hd (by rw [h]; exact fun z => nomatch z)) (ne_of e ht (by rw [h]; exact fun z => nomatch z)) e
    have kn : ∀ b o, own b = none → H b = some o → H5 b = some o := fun b o h e => keep b o (fun z => by rw [z, o1] at h; cases h) (fun z => by rw [z, o2] at h; cases h) (fun z => by rw [z, o4] at h; cases h) e
    have ny : l2 ≠ y.a ∧ l2 ≠ y.q ∧ l2 ≠ y.u := ⟨fun z => hY.mem.1 (z ▸ f2), fun z => hY.mem.2.1 (z ▸ f2), fun z => hY.mem.2.2 (z ▸ f2)⟩
    have hown : ∀ b, own b ≠ none → H b ≠ none → (if b = y.a ∨ b = y.q ∨ b = y.u then some (g.cs.length + 1) else if b = l2 then some 0 else own b) = own b := fun b h1 h2 => by
      rw [if_neg (fun z => z.elim (fun z => h1 (by rw [z]; exact y1)) fun z => z.elim (fun z => h1 (by rw [z]; exact y2)) fun z => h1 (by rw [z]; exact y3)), if_neg (fun z => h2 (by rw [z]; exact f2))]
    have sn : ∀ {b : Addr} {k : Nat}, own b = some k → own b ≠ none := fun e => by rw [e]; exact nofun
    have hm : ∀ {b : Addr} {o : HO}, H b = some o → H b ≠ none := fun e => by rw [e]; exact nofun
    refine q (fun b => if b = y.a ∨ b = y.q ∨ b = y.u then some (g.cs.length + 1) else if b = l2 then some 0 else own b) l2 H5 (fun b h1 h2 h3 h4 => ?_) ?_ kn
    · rw [if_neg (fun z => z.elim h1 fun z => z.elim h2 h3), if_neg (fun z => h4 (by rw [z]; exact f2))]
    refine ⟨b5 _ _ ntl.symm k4, ?_, ?_, ?_, keep _ _ (ne_of O.hl ho (fun z => nomatch z)) (ne_of O.hl O.hd (fun z => nomatch z)) (fun z => n5 z.symm) O.hl, keep _ _ (ne_of O.hg ho (fun z => nomatch z)) (ne_of O.hg O.hd (fun z => nomatch z)) (fun z => n6 z.symm) O.hg, keep _ _ (ne_of O.hc ho (fun z => nomatch z)) (ne_of O.hc O.hd (fun z => nomatch z)) (fun z => n7 z.symm) O.hc, fun i d e => ?_, fun i hi => ?_, ?_, ?_, ?_⟩
    · exact b5 _ _ ntd.symm (b4 _ _ ncd (s3 _ _ (s2 _ _ k1)))
    · exact b5 _ _ (m2 _ _ ht).symm (b4 _ _ (m2 _ _ ho).symm k3)
    · rw [k5]
      show _ = some (HO.lst ((g.ts ++ [c.n]).map V.int))
      rw [List.map_append]
      rfl
    · have hi := ls_i e
      have hi : i < (g.cs ++ [c]).length := hi
      rw [List.length_append] at hi
      have e : (g.cs ++ [c])[i]? = some d := e
      unfold addX
      by_cases z : i = g.cs.length
      · subst z
        rw [List.getElem?_append_right (Nat.le_refl _), Nat.sub_self] at e
        rw [if_pos rfl, ← Option.some.inj e]
        refine hY.keep fun b o h e => ?_
        rcases h with h | h | h | h
        · exact kn b o (h ▸ y1) e
        · exact kn b o (h ▸ y2) e
        · exact kn b o (h ▸ y3) e
        · exact kx b o (.inr h) e
      · have hi2 : i < g.cs.length := by
          have : [c].length = 1 := rfl
          omega
        rw [List.getElem?_append_left hi2] at e
        rw [if_neg z]
        exact O.hxk kx i d e
    · have hi : i < (g.cs ++ [c]).length := hi
      rw [List.length_append] at hi
      unfold addX
      by_cases z : i = g.cs.length
      · subst z
        rw [if_pos rfl]
        exact ⟨if_pos (.inl rfl), if_pos (.inr (.inl rfl)), if_pos (.inr (.inr rfl))⟩
      · rw [if_neg z]
        have hi2 : i < g.cs.length := by
          have : [c].length = 1 := rfl
          omega
        obtain ⟨c1, c2, c3⟩ := O.oc i hi2
        obtain ⟨p1, p2, p3⟩ := (O.hx i _ (List.getElem?_eq_getElem hi2)).mem
        exact ⟨(hown _ (sn c1) p1).trans c1, (hown _ (sn c2) p2).trans c2, (hown _ (sn c3) p3).trans c3⟩
    · refine ⟨(hown _ (sn o1) (hm ho)).trans o1, (hown _ (sn o2) (hm O.hd)).trans o2, ?_, (hown _ (sn o4) (hm ht)).trans o4, (hown _ (sn o5) (hm O.hl)).trans o5, (hown _ (sn o6) (hm O.hg)).trans o6, (hown _ (sn o7) (hm O.hc)).trans o7⟩
      show (if l2 = y.a ∨ l2 = y.q ∨ l2 = y.u then _ else _) = _
      rw [if_neg (fun z => z.elim ny.1 fun z => z.elim ny.2.1 ny.2.2)]
      exact if_pos rfl
    · simp only [List.nodup_cons, List.mem_cons, List.not_mem_nil, or_false, not_or, List.nodup_nil, not_false_eq_true, and_true]
      exact ⟨⟨(m2 _ _ ht).symm, (m2 _ _ O.hl).symm, (m2 _ _ O.hg).symm, (m2 _ _ O.hc).symm⟩, ⟨n5, n6, n7⟩, ⟨n8, n9⟩, n10⟩
    · show ((g.cs ++ [c]).map Cg.n).Nodup
      rw [List.map_append]
      refine List.nodup_append.mpr ⟨O.nk, List.nodup_cons.mpr ⟨nofun, List.nodup_nil⟩, fun a ha b hb => ?_⟩
      obtain ⟨d, hd, rfl⟩ := List.mem_map.mp ha
      rw [List.mem_singleton.mp hb]
      exact nin d hd

end
end My
namespace My
open PySem PySem.Spec L2
local macro_rules | `(tactic| walk_at "side") => `(tactic| first | assumption | decide | omega | exact ⟨by decide, by decide⟩ | exact ⟨by decide, by decide, by decide⟩ | decide +kernel | exact cdivW (by decide +kernel) (by decide +kernel) | exact Or.inl ⟨by omega, by omega⟩ | exact Or.inr ⟨by omega, by omega⟩ | (simp only [List.length_map, List.length_cons, List.length_nil, List.length_append]; omega))
local macro_rules | `(tactic| walk_at "fact") => `(tactic| first | assumption | omega | with_reducible rfl)
local macro_rules | `(tactic| walk_at "use") => `(tactic| fail "use")
local macro_rules | `(tactic| walk_at "go1") => `(tactic| with_reducible first | refine g_seq ?_ | refine g_asg ?_ | refine g_ret ?_ | refine g_ifS ?_ | refine g_drop ?_ | refine g_star ?_ | refine g_nx ?_ | refine g_rt ?_ | refine g_bkE ?_ | refine g_ctE ?_ | refine g_next ?_ | refine g_retN ?_ | refine g_brk ?_ | refine g_ct ?_ | refine g_c ?_ | refine g_op ?_ | refine g_un ?_ | refine g_rI0 ?_ | refine g_rU ?_ | refine g_rEqI ?_ | refine g_rNeI ?_ | refine g_isN ?_ | refine g_rIsB ?_ | refine g_rNotB ?_ | refine g_test ?_ | refine g_B ?_ | refine g_bl ?_ | refine g_and ?_ | refine g_or ?_ | refine g_not ?_ | refine g_andV ?_ | refine g_orV ?_ | refine g_notV ?_ | refine g_if ?_ | refine g_chain ?_ | refine g_yes ?_ | refine g_lc ?_ | refine g_revR ?_ | refine g_rng1 ?_ | refine g_iList ?_ | refine g_nil ?_ | refine g_cons ?_ | refine g_tup ?_ | refine g_lst ?_ | refine g_call ?_ | refine g_CB ?_ | refine g_sl ?_ | refine g_noPart ?_ | refine g_part ?_ | refine g_intE ?_ | refine g_ref ?_ | refine g_fld ?_ | refine g_sfld ?_ | refine g_meth ?_ | refine g_make ?_ | refine g_prop ?_  | refine g_ipI ?_ | refine g_int1 ?_ | refine g_int1B ?_ | refine g_one ?_ | refine g_two ?_ | refine g_isiI ?_ | refine g_isiIB ?_ | refine g_isiB ?_ | refine g_BM ?_ | refine g_BM0 ?_ | refine g_sub ?_)
local macro_rules | `(tactic| walk_at "go") => `(tactic| repeat (first | walk_at "go1" | ((with_reducible refine' g_nameE ?sd_ ?_); case sd_ => dsimp only [List.set_cons_succ, List.set_cons_zero]) | ((with_reducible refine' g_var ?sd_ ?_); case sd_ => exact rfl) | ((with_reducible refine' g_aug ?sd_ ?_); case sd_ => exact rfl) | ((with_reducible refine' g_rI ?sd_ ?_); case sd_ => walk_at "side") | ((with_reducible refine' g_dT ?sd_ ?_); case sd_ => walk_at "fact") | ((with_reducible refine' g_dF ?sd_ ?_); case sd_ => walk_at "fact") | ((with_reducible refine' g_nT ?sd_ ?_); case sd_ => walk_at "fact") | ((with_reducible refine' g_nF ?sd_ ?_); case sd_ => walk_at "fact") | (with_reducible refine g_iT rfl ?_) | (with_reducible refine g_iF rfl ?_) | walk_at "use"))
local macro_rules | `(tactic| walk_at "nw") => `(tactic| (generalize zq : upd _ _ _ = Hq; have sq : Same _ Hq := (by rw [← zq]; exact same_upd (by assumption)); have kq := (congrFun zq _).symm.trans upd_same; clear zq))
local macro_rules | `(tactic| walk_at "bt") => `(tactic| (generalize zq : upd _ _ _ = Hq; have bq : But _ _ Hq := (by rw [← zq]; exact But.refl.upd); have kq := (congrFun zq _).symm.trans upd_same; clear zq))
local macro_rules | `(tactic| walk_at "use") => `(tactic| first | ((with_reducible refine' fd_Channel_number ?ho_ ?hv_ ?_); (case ho_ => first | assumption | exact upd_same); (case hv_ => exact rfl)) | ((with_reducible refine' fd_Channel_announced ?ho_ ?hv_ ?_); (case ho_ => first | assumption | exact upd_same); (case hv_ => exact rfl)) | ((with_reducible refine' fd_Channel_queue ?ho_ ?hv_ ?_); (case ho_ => first | assumption | exact upd_same); (case hv_ => exact rfl)) | ((with_reducible refine' fd_Channel_credit ?ho_ ?hv_ ?_); (case ho_ => first | assumption | exact upd_same); (case hv_ => exact rfl)) | ((with_reducible refine' fd_Channel_finished ?ho_ ?hv_ ?_); (case ho_ => first | assumption | exact upd_same); (case hv_ => exact rfl)) | ((with_reducible refine' fd_Channel_end_sent ?ho_ ?hv_ ?_); (case ho_ => first | assumption | exact upd_same); (case hv_ => exact rfl)) | ((with_reducible refine' fd_Channel_unread ?ho_ ?hv_ ?_); (case ho_ => first | assumption | exact upd_same); (case hv_ => exact rfl)) | ((with_reducible refine' fd_Channel_due ?ho_ ?hv_ ?_); (case ho_ => first | assumption | exact upd_same); (case hv_ => exact rfl)) | ((with_reducible refine' fd_Channel_end_came ?ho_ ?hv_ ?_); (case ho_ => first | assumption | exact upd_same); (case hv_ => exact rfl)) | ((with_reducible refine' fd_Channel_broken ?ho_ ?hv_ ?_); (case ho_ => first | assumption | exact upd_same); (case hv_ => exact rfl)) | ((with_reducible refine' fd_Channel_reset_told ?ho_ ?hv_ ?_); (case ho_ => first | assumption | exact upd_same); (case hv_ => exact rfl)) | ((with_reducible refine' nw_Channel_number ?ho_ ?hv_ ?_); (case ho_ => first | assumption | exact upd_same); (case hv_ => exact rfl)) | ((with_reducible refine' nw_Channel_announced ?ho_ ?hv_ ?_); (case ho_ => first | assumption | exact upd_same); (case hv_ => exact rfl)) | ((with_reducible refine' nw_Channel_queue ?ho_ ?hv_ ?_); (case ho_ => first | assumption | exact upd_same); (case hv_ => exact rfl)) | ((with_reducible refine' nw_Channel_credit ?ho_ ?hv_ ?_); (case ho_ => first | assumption | exact upd_same); (case hv_ => exact rfl)) | ((with_reducible refine' nw_Channel_finished ?ho_ ?hv_ ?_); (case ho_ => first | assumption | exact upd_same); (case hv_ => exact rfl)) | ((with_reducible refine' nw_Channel_end_sent ?ho_ ?hv_ ?_); (case ho_ => first | assumption | exact upd_same); (case hv_ => exact rfl)) | ((with_reducible refine' nw_Channel_unread ?ho_ ?hv_ ?_); (case ho_ => first | assumption | exact upd_same); (case hv_ => exact rfl)) | ((with_reducible refine' nw_Channel_due ?ho_ ?hv_ ?_); (case ho_ => first | assumption | exact upd_same); (case hv_ => exact rfl)) | ((with_reducible refine' nw_Channel_end_came ?ho_ ?hv_ ?_); (case ho_ => first | assumption | exact upd_same); (case hv_ => exact rfl)) | ((with_reducible refine' nw_Channel_broken ?ho_ ?hv_ ?_); (case ho_ => first | assumption | exact upd_same); (case hv_ => exact rfl)) | ((with_reducible refine' nw_Channel_reset_told ?ho_ ?hv_ ?_); (case ho_ => first | assumption | exact upd_same); (case hv_ => exact rfl)) | ((with_reducible refine' st_Channel_number ?ho_ ?hv_ ?_); (case ho_ => first | assumption | exact upd_same); (case hv_ => exact Nat.le_of_ble_eq_true rfl)) | ((with_reducible refine' st_Channel_announced ?ho_ ?hv_ ?_); (case ho_ => first | assumption | exact upd_same); (case hv_ => exact Nat.le_of_ble_eq_true rfl)) | ((with_reducible refine' st_Channel_queue ?ho_ ?hv_ ?_); (case ho_ => first | assumption | exact upd_same); (case hv_ => exact Nat.le_of_ble_eq_true rfl)) | ((with_reducible refine' st_Channel_credit ?ho_ ?hv_ ?_); (case ho_ => first | assumption | exact upd_same); (case hv_ => exact Nat.le_of_ble_eq_true rfl)) | ((with_reducible refine' st_Channel_finished ?ho_ ?hv_ ?_); (case ho_ => first | assumption | exact upd_same); (case hv_ => exact Nat.le_of_ble_eq_true rfl)) | ((with_reducible refine' st_Channel_end_sent ?ho_ ?hv_ ?_); (case ho_ => first | assumption | exact upd_same); (case hv_ => exact Nat.le_of_ble_eq_true rfl)) | ((with_reducible refine' st_Channel_unread ?ho_ ?hv_ ?_); (case ho_ => first | assumption | exact upd_same); (case hv_ => exact Nat.le_of_ble_eq_true rfl)) | ((with_reducible refine' st_Channel_due ?ho_ ?hv_ ?_); (case ho_ => first | assumption | exact upd_same); (case hv_ => exact Nat.le_of_ble_eq_true rfl)) | ((with_reducible refine' st_Channel_end_came ?ho_ ?hv_ ?_); (case ho_ => first | assumption | exact upd_same); (case hv_ => exact Nat.le_of_ble_eq_true rfl)) | ((with_reducible refine' st_Channel_broken ?ho_ ?hv_ ?_); (case ho_ => first | assumption | exact upd_same); (case hv_ => exact Nat.le_of_ble_eq_true rfl)) | ((with_reducible refine' st_Channel_reset_told ?ho_ ?hv_ ?_); (case ho_ => first | assumption | exact upd_same); (case hv_ => exact Nat.le_of_ble_eq_true rfl)) | ((with_reducible refine' me_Channel_break_off ?ho_ ?_); (case ho_ => first | assumption | exact upd_same)) | ((with_reducible refine' me_Channel_fork ?ho_ ?_); (case ho_ => first | assumption | exact upd_same)))
local macro_rules | `(tactic| walk_at "use") => `(tactic| first | ((with_reducible refine' fd_Channels_failure ?ho_ ?hv_ ?_); (case ho_ => first | assumption | exact upd_same); (case hv_ => exact rfl)) | ((with_reducible refine' fd_Channels__window ?ho_ ?hv_ ?_); (case ho_ => first | assumption | exact upd_same); (case hv_ => exact rfl)) | ((with_reducible refine' fd_Channels__most ?ho_ ?hv_ ?_); (case ho_ => first | assumption | exact upd_same); (case hv_ => exact rfl)) | ((with_reducible refine' fd_Channels__next_here ?ho_ ?hv_ ?_); (case ho_ => first | assumption | exact upd_same); (case hv_ => exact rfl)) | ((with_reducible refine' fd_Channels__next_there ?ho_ ?hv_ ?_); (case ho_ => first | assumption | exact upd_same); (case hv_ => exact rfl)) | ((with_reducible refine' fd_Channels__channels ?ho_ ?hv_ ?_); (case ho_ => first | assumption | exact upd_same); (case hv_ => exact rfl)) | ((with_reducible refine' fd_Channels__numbers ?ho_ ?hv_ ?_); (case ho_ => first | assumption | exact upd_same); (case hv_ => exact rfl)) | ((with_reducible refine' fd_Channels__turns ?ho_ ?hv_ ?_); (case ho_ => first | assumption | exact upd_same); (case hv_ => exact rfl)) | ((with_reducible refine' fd_Channels__offered ?ho_ ?hv_ ?_); (case ho_ => first | assumption | exact upd_same); (case hv_ => exact rfl)) | ((with_reducible refine' fd_Channels__going ?ho_ ?hv_ ?_); (case ho_ => first | assumption | exact upd_same); (case hv_ => exact rfl)) | ((with_reducible refine' fd_Channels__coming ?ho_ ?hv_ ?_); (case ho_ => first | assumption | exact upd_same); (case hv_ => exact rfl)) | ((with_reducible refine' nw_Channels_failure ?ho_ ?hv_ ?_); (case ho_ => first | assumption | exact upd_same); (case hv_ => exact rfl)) | ((with_reducible refine' nw_Channels__window ?ho_ ?hv_ ?_); (case ho_ => first | assumption | exact upd_same); (case hv_ => exact rfl)) | ((with_reducible refine' nw_Channels__most ?ho_ ?hv_ ?_); (case ho_ => first | assumption | exact upd_same); (case hv_ => exact rfl)) | ((with_reducible refine' nw_Channels__next_here ?ho_ ?hv_ ?_); (case ho_ => first | assumption | exact upd_same); (case hv_ => exact rfl)) | ((with_reducible refine' nw_Channels__next_there ?ho_ ?hv_ ?_); (case ho_ => first | assumption | exact upd_same); (case hv_ => exact rfl)) | ((with_reducible refine' nw_Channels__channels ?ho_ ?hv_ ?_); (case ho_ => first | assumption | exact upd_same); (case hv_ => exact rfl)) | ((with_reducible refine' nw_Channels__numbers ?ho_ ?hv_ ?_); (case ho_ => first | assumption | exact upd_same); (case hv_ => exact rfl)) | ((with_reducible refine' nw_Channels__turns ?ho_ ?hv_ ?_); (case ho_ => first | assumption | exact upd_same); (case hv_ => exact rfl)) | ((with_reducible refine' nw_Channels__offered ?ho_ ?hv_ ?_); (case ho_ => first | assumption | exact upd_same); (case hv_ => exact rfl)) | ((with_reducible refine' nw_Channels__going ?ho_ ?hv_ ?_); (case ho_ => first | assumption | exact upd_same); (case hv_ => exact rfl)) | ((with_reducible refine' nw_Channels__coming ?ho_ ?hv_ ?_); (case ho_ => first | assumption | exact upd_same); (case hv_ => exact rfl)) | ((with_reducible refine' st_Channels_failure ?ho_ ?hv_ ?_); (case ho_ => first | assumption | exact upd_same); (case hv_ => exact Nat.le_of_ble_eq_true rfl)) | ((with_reducible refine' st_Channels__window ?ho_ ?hv_ ?_); (case ho_ => first | assumption | exact upd_same); (case hv_ => exact Nat.le_of_ble_eq_true rfl)) | ((with_reducible refine' st_Channels__most ?ho_ ?hv_ ?_); (case ho_ => first | assumption | exact upd_same); (case hv_ => exact Nat.le_of_ble_eq_true rfl)) | ((with_reducible refine' st_Channels__next_here ?ho_ ?hv_ ?_); (case ho_ => first | assumption | exact upd_same); (case hv_ => exact Nat.le_of_ble_eq_true rfl)) | ((with_reducible refine' st_Channels__next_there ?ho_ ?hv_ ?_); (case ho_ => first | assumption | exact upd_same); (case hv_ => exact Nat.le_of_ble_eq_true rfl)) | ((with_reducible refine' st_Channels__channels ?ho_ ?hv_ ?_); (case ho_ => first | assumption | exact upd_same); (case hv_ => exact Nat.le_of_ble_eq_true rfl)) | ((with_reducible refine' st_Channels__numbers ?ho_ ?hv_ ?_); (case ho_ => first | assumption | exact upd_same); (case hv_ => exact Nat.le_of_ble_eq_true rfl)) | ((with_reducible refine' st_Channels__turns ?ho_ ?hv_ ?_); (case ho_ => first | assumption | exact upd_same); (case hv_ => exact Nat.le_of_ble_eq_true rfl)) | ((with_reducible refine' st_Channels__offered ?ho_ ?hv_ ?_); (case ho_ => first | assumption | exact upd_same); (case hv_ => exact Nat.le_of_ble_eq_true rfl)) | ((with_reducible refine' st_Channels__going ?ho_ ?hv_ ?_); (case ho_ => first | assumption | exact upd_same); (case hv_ => exact Nat.le_of_ble_eq_true rfl)) | ((with_reducible refine' st_Channels__coming ?ho_ ?hv_ ?_); (case ho_ => first | assumption | exact upd_same); (case hv_ => exact Nat.le_of_ble_eq_true rfl)) | ((with_reducible refine' me_Channels_len__ ?ho_ ?_); (case ho_ => first | assumption | exact upd_same)) | ((with_reducible refine' me_Channels_iter__ ?ho_ ?_); (case ho_ => first | assumption | exact upd_same)) | ((with_reducible refine' me_Channels_open_channel ?ho_ ?_); (case ho_ => first | assumption | exact upd_same)) | ((with_reducible refine' me_Channels_accept ?ho_ ?_); (case ho_ => first | assumption | exact upd_same)) | ((with_reducible refine' me_Channels_finish ?ho_ ?_); (case ho_ => first | assumption | exact upd_same)) | ((with_reducible refine' me_Channels_reset ?ho_ ?_); (case ho_ => first | assumption | exact upd_same)) | ((with_reducible refine' me_Channels_status ?ho_ ?_); (case ho_ => first | assumption | exact upd_same)) | ((with_reducible refine' me_Channels_take ?ho_ ?_); (case ho_ => first | assumption | exact upd_same)) | ((with_reducible refine' me_Channels_receive ?ho_ ?_); (case ho_ => first | assumption | exact upd_same)) | ((with_reducible refine' me_Channels_fork ?ho_ ?_); (case ho_ => first | assumption | exact upd_same)) | ((with_reducible refine' me_Channels_known ?ho_ ?_); (case ho_ => first | assumption | exact upd_same)) | ((with_reducible refine' me_Channels_add ?ho_ ?_); (case ho_ => first | assumption | exact upd_same)) | ((with_reducible refine' me_Channels_room_of ?ho_ ?_); (case ho_ => first | assumption | exact upd_same)) | ((with_reducible refine' me_Channels_take_frame ?ho_ ?_); (case ho_ => first | assumption | exact upd_same)) | ((with_reducible refine' me_Channels_failure_of ?ho_ ?_); (case ho_ => first | assumption | exact upd_same)) | ((with_reducible refine' me_Channels_apply ?ho_ ?_); (case ho_ => first | assumption | exact upd_same)))
section
variable {P : Program} {w : World} {K : PySem.W.Frag} {mg : Str → Option Value} {base : Heap}
local macro_rules | `(tactic| walk_at "use") => `(tactic| with_reducible first | refine g_rs0 ?_ | refine g_rs1 ?_ | refine g_tryA ?_ | refine g_tryO ?_ | refine g_callS ?_ | refine g_joined ?_ | refine g_jsnil ?_ | refine g_jscons ?_ | refine g_fmt ?_)
local macro_rules | `(tactic| walk_at "fit") => `(tactic| (refine fit2 ?_; (try simp only [PySem.Str.length_append]); omega))
local macro_rules | `(tactic| walk_at "use") => `(tactic| first | ((with_reducible refine' g_addS ?sd_ ?_); case sd_ => (first | omega | (simp only [PySem.Str.length_append]; omega))) | ((with_reducible refine' g_slS ?sd_ ?_); case sd_ => omega) | (with_reducible refine g_m0 ?_))

local macro_rules | `(tactic| walk_at "use") => `(tactic| with_reducible first | refine g_dgetI ?_ | refine g_dputI ?_ | refine g_dget1I ?_ | refine g_dget2I ?_ | refine g_dinI ?_ | refine g_dnotinI ?_ | refine g_dnewK ?_)

local macro_rules | `(tactic| walk_at "use") => `(tactic| with_reducible first | refine g_delS ?_)
def KnG (cs : List Cg) (k : Int) (B : Prop) (P : Nat → Cg → Prop) : Prop := 0 ≤ k ∧ k ≤ 1000000 ∧ ((ixN? cs k = none ∧ B) ∨ ∃ i c, ixN? cs k = some i ∧ cs[i]? = some c ∧ P i c)
def Sd.put (g : Sd) (i : Nat) (c : Cg) : Sd := { g with cs := g.cs.set i c }
theorem chK_put {x : Nat → Ca} {cs : List Cg} {i : Nat} {c c' : Cg} {y : Ca} (hi : cs[i]? = some c) (hn : c'.n = c.n) (hy : y.a = (x i).a) : chK (addX x i y) (cs.set i c') = chK x cs := by
  unfold chK addX
  rw [List.length_set]
  refine List.map_congr_left fun j hj => ?_
  by_cases z : j = i
  · subst z
    rw [if_pos rfl, List.getElem?_set_self (ls_i hi), hi, hy]
    show (Sum.inl c'.n, _) = (Sum.inl c.n, _)
    rw [hn]
  · rw [if_neg z, List.getElem?_set_ne (fun w => z w.symm)]
theorem set_names {cs : List Cg} {i : Nat} {c c' : Cg} (hi : cs[i]? = some c) (hn : c'.n = c.n) : (cs.set i c').map Cg.n = cs.map Cg.n := by
  refine List.ext_getElem? fun j => ?_
  rw [List.getElem?_map, List.getElem?_map]
  by_cases z : j = i
  · subst z
    rw [List.getElem?_set_self (ls_i hi), hi]
    show some c'.n = some c.n
    rw [hn]
  · rw [List.getElem?_set_ne (fun w => z w.symm)]
/-- a channel changes -/
theorem SgO.put {CS CC : Addr} {own own' : Addr → Option Nat} {H H' : Hp} {S : Sg} {x : Nat → Ca} {g : Sd} (O : SgO CS CC own H S x g) {i : Nat} {c c' : Cg} {y : Ca} (hi : g.cs[i]? = some c) (hn : c'.n = c.n) (hy : y.a = (x i).a) (hY : CgO CC H' y c')
    (h1 : ∀ b, H b ≠ none → own' b = own b) (h2 : own' y.q = some (i + 1) ∧ own' y.u = some (i + 1)) (fr : ∀ b o, own b ≠ some (i + 1) ∨ (∃ k, o = HO.tup k) → H b = some o → H' b = some o) : SgO CS CC own' H' S (addX x i y) (g.put i c') := by
  have f0 : ∀ {b : Addr} {o : HO}, own b = some 0 → H b = some o → H' b = some o := fun e h => fr _ _ (.inl (by rw [e]; intro z; cases z)) h
  have hm : ∀ {b : Addr} {o : HO}, H b = some o → H b ≠ none := fun e => by rw [e]; exact nofun
  obtain ⟨o1, o2, o3, o4, o5, o6, o7⟩ := O.os
  refine ⟨f0 o1 O.ho, ?_, f0 o3 O.hn, f0 o4 O.ht, f0 o5 O.hl, f0 o6 O.hg, f0 o7 O.hc, fun j d e => ?_, fun j hj => ?_, ⟨(h1 _ (hm O.ho)).trans o1, (h1 _ (hm O.hd)).trans o2, (h1 _ (hm O.hn)).trans o3, (h1 _ (hm O.ht)).trans o4, (h1 _ (hm O.hl)).trans o5, (h1 _ (hm O.hg)).trans o6, (h1 _ (hm O.hc)).trans o7⟩, O.nd, ?_⟩
  · show H' S.cd = some (.dK (chK (addX x i y) (g.cs.set i c')))
    rw [chK_put hi hn hy]
    exact f0 o2 O.hd
  · have e : (g.cs.set i c')[j]? = some d := e
    unfold addX
    by_cases z : j = i
    · subst z
      rw [List.getElem?_set_self (ls_i hi)] at e
      rw [if_pos rfl, ← Option.some.inj e]
      exact hY
    · rw [List.getElem?_set_ne (fun w => z w.symm)] at e
      rw [if_neg z]
      obtain ⟨c1, c2, c3⟩ := O.oc j (ls_i e)
      have nj : ∀ {b : Addr}, own b = some (j + 1) → own b ≠ some (i + 1) := fun e w => by rw [e] at w; injection w with w; omega
      refine (O.hx j d e).keep fun b o h e => fr b o ?_ e
      rcases h with h | h | h | h
      · exact .inl (h ▸ nj c1)
      · exact .inl (h ▸ nj c2)
      · exact .inl (h ▸ nj c3)
      · exact .inr h
  · have hj : j < (g.cs.set i c').length := hj
    rw [List.length_set] at hj
    obtain ⟨c1, c2, c3⟩ := O.oc j hj
    obtain ⟨p1, p2, p3⟩ := (O.hx j _ (List.getElem?_eq_getElem hj)).mem
    unfold addX
    by_cases z : j = i
    · subst z
      rw [if_pos rfl, hy]
      exact ⟨(h1 _ p1).trans c1, h2⟩
    · rw [if_neg z]
      exact ⟨(h1 _ p1).trans c1, (h1 _ p2).trans c2, (h1 _ p3).trans c3⟩
  · show ((g.cs.set i c').map Cg.n).Nodup
    rw [set_names hi hn]
    exact O.nk
theorem addX_self {x : Nat → Ca} {i : Nat} : addX x i (x i) = x := by
  funext j
  unfold addX
  by_cases z : j = i
  · rw [if_pos z, z]
  · rw [if_neg z]
/-- one place of a channel changes -/
theorem SgO.put1 {CS CC : Addr} {own : Addr → Option Nat} {H H' : Hp} {S : Sg} {x : Nat → Ca} {g : Sd} (O : SgO CS CC own H S x g) {i : Nat} {c c' : Cg} (hi : g.cs[i]? = some c) (hn : c'.n = c.n) {p : Addr} {o : HO} (hp : own p = some (i + 1)) (b : But p H H') (ho : H p = some o) (no : ∀ k, o ≠ HO.tup k) (hY : CgO CC H' (x i) c') : SgO CS CC own H' S x (g.put i c') := by
  have z := O.put (y := x i) (own' := own) hi hn rfl hY (fun b _ => rfl) ⟨(O.oc i (ls_i hi)).2.1, (O.oc i (ls_i hi)).2.2⟩ (fun a o' h e => b _ _ (fun z => ?_) e)
  · rw [addX_self] at z
    exact z
  · rcases h with h | ⟨k, h⟩
    · exact h (z ▸ hp)
    · rw [z, ho] at e
      exact no k ((Option.some.inj e).trans h)
theorem free_own {own : Addr → Option Nat} {p : Addr} {k : Nat} {H H' : Hp} (hp : own p = some k) (b : But p H H') : ∀ b o, own b = none → H b = some o → H' b = some o := fun a o e h => b _ _ (fun z => by rw [z, hp] at e; cases e) h
def Cg.end' (c : Cg) : Cg := { c with fin := true }
def sp_Channels_finish (CS CC UC : Addr) : Sp := fun vs H Q E => ∃ (own : Addr → Option Nat) (S : Sg) (x : Nat → Ca) (g : Sd) (k : Int), vs = [.ref S.p, .int k] ∧ SgO CS CC own H S x g ∧
  KnG g.cs k (E (.ref UC) none H) fun i c => ∀ H', SgO CS CC own H' S x (g.put i c.end') → (∀ b o, own b = none → H b = some o → H' b = some o) → Q .non H'
theorem ok_Channels_finish (T : Txt P w K mg) : FnOk P w K mg base (L2.CX P w) 2 T.f_Channels_finish T.d_Channels_finish ["self", "channel"] (sp_Channels_finish T.C_Channels T.C_Channel T.C_UnknownChannel) := by
  refine T.F_Channels_finish.okX sc_Channels_finish (fun vs H Q E h => ?_) (fun cdv A outer s H vs Q E hr h => ?_)
  · obtain ⟨own, S, x, g, k, rfl, O, h0, h1, q⟩ := h
    rfl
  · obtain ⟨own, S, x, g, k, rfl, O, h0, h1, q⟩ := h
    have hu := hu_of hr
    refine ⟨_, (pss_cons (ps_set (i := 2) sc_Channels_finish.nd rfl (Or.inl rfl) (pe_meth (pv 0) T.k_Channels T.a_Channels_known (ok_Channels_known T) (hr.mono (by decide)) T.b_Channels_known .nil (passes_call (takes_of rfl rfl rfl rfl) (fun _ _ _ _ h => h)) (pa_cons (pv 1) pa_nil)))
        (pss_one (ps_fld (pv 2) pe_bl rfl))), ?_⟩
    dsimp only [cxOf, Cx.nox, Cx.wish, L2.start, List.map, List.cons_append, List.nil_append, List.length_cons, List.length_nil, Nat.reduceAdd, Nat.reduceSub, Nat.zero_add, List.replicate_succ, List.replicate_zero]
    have ho := O.ho
    walk_at "go"
    refine ⟨own, S, x, g, k, rfl, O, h0, h1, ?_⟩
    rcases q with ⟨e, q⟩ | ⟨i, c, e, hi, q⟩
    · exact .inr ⟨e, q⟩
    · refine .inl ⟨i, e, ?_⟩
      obtain ⟨hc, hq, hun, hne, hb⟩ := id (O.hx i c hi)
      walk_at "go"
      simp only [List.set_cons_succ, List.set_cons_zero]
      have o1 := (O.oc i (ls_i hi)).1
      refine q _ (O.put1 (c' := c.end') hi rfl o1 But.refl.upd hc (fun k z => nomatch z) ⟨upd_same, ?_, ?_, hne, ?_⟩) (free_own o1 But.refl.upd)
      · rw [upd_ne (ne_of hq hc (fun z => nomatch z))]; exact hq
      · rw [upd_ne (ne_of hun hc (fun z => nomatch z))]; exact hun
      · exact hb.same fun tt o ⟨kk, z⟩ et => by rw [upd_ne (ne_of et hc (by rw [z]; exact fun z => nomatch z))]; exact et
theorem room_b {g : Sd} {c : Cg} (h : (c.q.length : Int) ≤ g.w) : 0 ≤ g.room c ∧ (c.q.length : Int) + g.room c ≤ g.w := by
  unfold Sd.room
  split <;> omega
def Cg.wr (c : Cg) (bs : List Int) : Cg := { c with q := c.q ++ bs }
def sp_Channels_write (K : PySem.W.Frag) (CS CC UC : Addr) : Sp := fun vs H Q E => ∃ (own : Addr → Option Nat) (S : Sg) (x : Nat → Ca) (g : Sd) (k : Int) (l : Addr) (bs : List Int), vs = [.ref S.p, .int k, .ref l] ∧ SgO CS CC own H S x g ∧ SqL K H l (bs.map V.int) ∧ g.w ≤ 65535 ∧
  KnG g.cs k (E (.ref UC) none H) fun i c => (c.q.length : Int) ≤ g.w ∧ ∀ H', SgO CS CC own H' S x (g.put i (c.wr (bs.take (g.room c).toNat))) → (∀ b o, own b = none → H b = some o → H' b = some o) → Q (.int (min (g.room c) (bs.length : Int))) H'
def Cg.rd (c : Cg) (n : Nat) : Cg := { c with u := c.u.drop n }
def sp_Channels_read (CS CC UC IA : Addr) : Sp := fun vs H Q E => ∃ (own : Addr → Option Nat) (S : Sg) (x : Nat → Ca) (g : Sd) (k n : Int), vs = [.ref S.p, .int k, .int n] ∧ SgO CS CC own H S x g ∧ -1000000 ≤ n ∧ n ≤ 1000000 ∧
  KnG g.cs k (E (.ref UC) none H) fun i c => (n < 0 ∧ E (.ref IA) none H) ∨ (0 ≤ n ∧ ∀ l H', H l = none → H' l = some (.lst ((c.u.take n.toNat).map V.int)) → SgO CS CC own H' S x (g.put i (c.rd n.toNat)) → (∀ b o, own b = none → H b = some o → H' b = some o) → Q (.ref l) H')
def sp_Channels_reset (CS CC UC IA : Addr) : Sp := fun vs H Q E => ∃ (own : Addr → Option Nat) (S : Sg) (x : Nat → Ca) (g : Sd) (k n : Int), vs = [.ref S.p, .int k, .int n] ∧ SgO CS CC own H S x g ∧ -1000000 ≤ n ∧ n ≤ 1000000 ∧
  KnG g.cs k (E (.ref UC) none H) fun i c => (¬ (0 ≤ n ∧ n ≤ 65535) ∧ E (.ref IA) none H) ∨ ((0 ≤ n ∧ n ≤ 65535) ∧ (c.br ≠ none → Q .non H) ∧ (c.br = none → ∀ own' x' H', (∀ b, H b ≠ none → own' b = own b) → SgO CS CC own' H' S x' (g.put i (c.off (Str.ofString "here") n)) → (∀ b o, own b = none → H b = some o → H' b = some o) → Q .non H'))
theorem ok_Channels_reset (T : Txt P w K mg) : FnOk P w K mg base (L2.CX P w) 2 T.f_Channels_reset T.d_Channels_reset ["self", "channel", "code"] (sp_Channels_reset T.C_Channels T.C_Channel T.C_UnknownChannel T.C_InvalidAmount) := by
  refine T.F_Channels_reset.okX sc_Channels_reset (fun vs H Q E h => ?_) (fun cdv A outer s H vs Q E hr h => ?_)
  · obtain ⟨own, S, x, g, k, n, rfl, O, n0, n1, h0, h1, q⟩ := h
    rfl
  · obtain ⟨own, S, x, g, k, n, rfl, O, n0, n1, h0, h1, q⟩ := h
    have hu := hu_of hr
    refine ⟨_, (pss_cons (ps_set (i := 3) sc_Channels_reset.nd rfl (Or.inl rfl) (pe_meth (pv 0) T.k_Channels T.a_Channels_known (ok_Channels_known T) (hr.mono (by decide)) T.b_Channels_known .nil (passes_call (takes_of rfl rfl rfl rfl) (fun _ _ _ _ h => h)) (pa_cons (pv 1) pa_nil)))
        (pss_cons (ps_if (pt_not (pt_chain op_le op_le pe_int (pv 2) (pe_glob (v := .int 65535) (by rfl) T.v_GREATEST_CODE ⟨_, rfl⟩))) (pss_one (ps_rs rfl (takes_of rfl rfl rfl rfl) (pmk_1 PySem.F.excBase_ValueError T.xP_InvalidAmount T.c_InvalidAmount T.ke_InvalidAmount (raises_own T.be_InvalidAmount T.te_InvalidAmount) rfl (pe_joinedJ (.cons pe_str (.cons (pe_fmt (pv 2)) .nil)))))) pss_nil)
        (pss_one (ps_if (pt_cmpR op_isN (pe_fld (pv 3) rfl) pe_non (nomark _)) (pss_one (ps_expr (pe_meth (pv 3) T.k_Channel T.a_Channel_break_off (ok_Channel_break_off T) (hr.mono (by decide)) T.b_Channel_break_off .nil pass0 (pa_cons pe_str (pa_cons (pv 2) pa_nil))))) pss_nil)))), ?_⟩
    dsimp only [cxOf, Cx.nox, Cx.wish, L2.start, List.map, List.cons_append, List.nil_append, List.length_cons, List.length_nil, Nat.reduceAdd, Nat.reduceSub, Nat.zero_add, List.replicate_succ, List.replicate_zero]
    have ho := O.ho
    walk_at "go"
    refine ⟨own, S, x, g, k, rfl, O, h0, h1, ?_⟩
    rcases q with ⟨e, q⟩ | ⟨i, c, e, hi, q⟩
    · exact .inr ⟨e, q⟩
    · refine .inl ⟨i, e, ?_⟩
      obtain ⟨hc, hq, hun, hne, hb⟩ := id (O.hx i c hi)
      walk_at "go"
      rcases q with ⟨hn, q⟩ | ⟨hn, q2, q3⟩
      · have e0 : Str.empty.length = 0 := by decide
        have e1 : (Str.ofString "a code of ").length = 10 := by decide +kernel
        have e3 := itext (i := n) (by omega)
        by_cases z : 0 ≤ n
        · rw [if_pos (decide_eq_true z)]
          have z2 : ¬ n ≤ 65535 := by omega
          refine ⟨n, 65535, rfl, rfl, _, rfl, ?_⟩
          rw [if_pos (show (!decide (n ≤ 65535)) = true by rw [decide_eq_false z2]; rfl)]
          walk_at "go"
          refine g_jsE (by walk_at "fit") ?_
          walk_at "go"
          refine g_fmtI (log_lt (by omega)) ?_
          refine g_jsE (by walk_at "fit") ?_
          walk_at "go"
          exact q
        · rw [if_neg (by rw [decide_eq_false z]; exact Bool.false_ne_true)]
          refine ⟨_, rfl, ?_⟩
          rw [if_pos (show (!false) = true from rfl)]
          walk_at "go"
          refine g_jsE (by walk_at "fit") ?_
          walk_at "go"
          refine g_fmtI (log_lt (by omega)) ?_
          refine g_jsE (by walk_at "fit") ?_
          walk_at "go"
          exact q
      · rw [if_pos (decide_eq_true hn.1)]
        have hn1 := hn.1
        have hn2 := hn.2
        have hb' := hb
        generalize hbv : (x i).b = b at hc hb'
        cases hbr : c.br with
        | some k2 =>
          rw [hbr] at hb'
          obtain ⟨tb, rfl, hk⟩ := hb'
          walk_at "go"
          exact q2 (by rw [hbr]; exact nofun)
        | none =>
          rw [hbr] at hb'
          have hb2 : b = .non := hb'
          subst hb2
          walk_at "go"
          refine ⟨x i, c, Str.ofString "here", n, rfl, O.hx i _ hi, fun tb l1 l2 H' ht hl1 hl2 k' hc' => ?_⟩
          obtain ⟨o1, o2, o3⟩ := O.oc i (ls_i hi)
          walk_at "go"
          have ex : ∀ b, H b ≠ none → b ≠ l1 ∧ b ≠ l2 := fun b hb => ⟨fun z => hb (z ▸ hl1), fun z => hb (z ▸ hl2)⟩
          refine q3 hbr (fun b => if b = l1 ∨ b = l2 then some (i + 1) else own b) _ H' (fun b hb => if_neg (by obtain ⟨z1, z2⟩ := ex b hb; exact fun z => z.elim z1 z2)) (O.put (y := ⟨(x i).a, (x i).dx, l1, l2, .ref tb⟩) (c' := c.off (Str.ofString "here") n) hi rfl rfl hc' (fun b hb => if_neg (by obtain ⟨z1, z2⟩ := ex b hb; exact fun z => z.elim z1 z2)) ⟨if_pos (.inl rfl), if_pos (.inr rfl)⟩ (fun b o h e => ?_)) (free_own o1 k')
          refine k' b o (fun z => ?_) e
          rcases h with h | ⟨kk, h⟩
          · exact h (z ▸ o1)
          · rw [z, (O.hx i _ hi).1] at e
            injection e with e
            rw [h] at e
            cases e

end
end My
namespace My
open PySem PySem.Spec L2
local macro_rules | `(tactic| walk_at "side") => `(tactic| first | assumption | decide | omega | exact ⟨by decide, by decide⟩ | exact ⟨by decide, by decide, by decide⟩ | decide +kernel | exact cdivW (by decide +kernel) (by decide +kernel) | exact Or.inl ⟨by omega, by omega⟩ | exact Or.inr ⟨by omega, by omega⟩ | (simp only [List.length_map, List.length_cons, List.length_nil, List.length_append]; omega))
local macro_rules | `(tactic| walk_at "fact") => `(tactic| first | assumption | omega | with_reducible rfl)
local macro_rules | `(tactic| walk_at "use") => `(tactic| fail "use")
local macro_rules | `(tactic| walk_at "go1") => `(tactic| with_reducible first | refine g_seq ?_ | refine g_asg ?_ | refine g_ret ?_ | refine g_ifS ?_ | refine g_drop ?_ | refine g_star ?_ | refine g_nx ?_ | refine g_rt ?_ | refine g_bkE ?_ | refine g_ctE ?_ | refine g_next ?_ | refine g_retN ?_ | refine g_brk ?_ | refine g_ct ?_ | refine g_c ?_ | refine g_op ?_ | refine g_un ?_ | refine g_rI0 ?_ | refine g_rU ?_ | refine g_rEqI ?_ | refine g_rNeI ?_ | refine g_isN ?_ | refine g_rIsB ?_ | refine g_rNotB ?_ | refine g_test ?_ | refine g_B ?_ | refine g_bl ?_ | refine g_and ?_ | refine g_or ?_ | refine g_not ?_ | refine g_andV ?_ | refine g_orV ?_ | refine g_notV ?_ | refine g_if ?_ | refine g_chain ?_ | refine g_yes ?_ | refine g_lc ?_ | refine g_revR ?_ | refine g_rng1 ?_ | refine g_iList ?_ | refine g_nil ?_ | refine g_cons ?_ | refine g_tup ?_ | refine g_lst ?_ | refine g_call ?_ | refine g_CB ?_ | refine g_sl ?_ | refine g_noPart ?_ | refine g_part ?_ | refine g_intE ?_ | refine g_ref ?_ | refine g_fld ?_ | refine g_sfld ?_ | refine g_meth ?_ | refine g_make ?_ | refine g_prop ?_  | refine g_ipI ?_ | refine g_int1 ?_ | refine g_int1B ?_ | refine g_one ?_ | refine g_two ?_ | refine g_isiI ?_ | refine g_isiIB ?_ | refine g_isiB ?_ | refine g_BM ?_ | refine g_BM0 ?_ | refine g_sub ?_)
local macro_rules | `(tactic| walk_at "go") => `(tactic| repeat (first | walk_at "go1" | ((with_reducible refine' g_nameE ?sd_ ?_); case sd_ => dsimp only [List.set_cons_succ, List.set_cons_zero]) | ((with_reducible refine' g_var ?sd_ ?_); case sd_ => exact rfl) | ((with_reducible refine' g_aug ?sd_ ?_); case sd_ => exact rfl) | ((with_reducible refine' g_rI ?sd_ ?_); case sd_ => walk_at "side") | ((with_reducible refine' g_dT ?sd_ ?_); case sd_ => walk_at "fact") | ((with_reducible refine' g_dF ?sd_ ?_); case sd_ => walk_at "fact") | ((with_reducible refine' g_nT ?sd_ ?_); case sd_ => walk_at "fact") | ((with_reducible refine' g_nF ?sd_ ?_); case sd_ => walk_at "fact") | (with_reducible refine g_iT rfl ?_) | (with_reducible refine g_iF rfl ?_) | walk_at "use"))
local macro_rules | `(tactic| walk_at "nw") => `(tactic| (generalize zq : upd _ _ _ = Hq; have sq : Same _ Hq := (by rw [← zq]; exact same_upd (by assumption)); have kq := (congrFun zq _).symm.trans upd_same; clear zq))
local macro_rules | `(tactic| walk_at "bt") => `(tactic| (generalize zq : upd _ _ _ = Hq; have bq : But _ _ Hq := (by rw [← zq]; exact But.refl.upd); have kq := (congrFun zq _).symm.trans upd_same; clear zq))
local macro_rules | `(tactic| walk_at "use") => `(tactic| first | ((with_reducible refine' fd_Channel_number ?ho_ ?hv_ ?_); (case ho_ => first | assumption | exact upd_same); (case hv_ => exact rfl)) | ((with_reducible refine' fd_Channel_announced ?ho_ ?hv_ ?_); (case ho_ => first | assumption | exact upd_same); (case hv_ => exact rfl)) | ((with_reducible refine' fd_Channel_queue ?ho_ ?hv_ ?_); (case ho_ => first | assumption | exact upd_same); (case hv_ => exact rfl)) | ((with_reducible refine' fd_Channel_credit ?ho_ ?hv_ ?_); (case ho_ => first | assumption | exact upd_same); (case hv_ => exact rfl)) | ((with_reducible refine' fd_Channel_finished ?ho_ ?hv_ ?_); (case ho_ => first | assumption | exact upd_same); (case hv_ => exact rfl)) | ((with_reducible refine' fd_Channel_end_sent ?ho_ ?hv_ ?_); (case ho_ => first | assumption | exact upd_same); (case hv_ => exact rfl)) | ((with_reducible refine' fd_Channel_unread ?ho_ ?hv_ ?_); (case ho_ => first | assumption | exact upd_same); (case hv_ => exact rfl)) | ((with_reducible refine' fd_Channel_due ?ho_ ?hv_ ?_); (case ho_ => first | assumption | exact upd_same); (case hv_ => exact rfl)) | ((with_reducible refine' fd_Channel_end_came ?ho_ ?hv_ ?_); (case ho_ => first | assumption | exact upd_same); (case hv_ => exact rfl)) | ((with_reducible refine' fd_Channel_broken ?ho_ ?hv_ ?_); (case ho_ => first | assumption | exact upd_same); (case hv_ => exact rfl)) | ((with_reducible refine' fd_Channel_reset_told ?ho_ ?hv_ ?_); (case ho_ => first | assumption | exact upd_same); (case hv_ => exact rfl)) | ((with_reducible refine' nw_Channel_number ?ho_ ?hv_ ?_); (case ho_ => first | assumption | exact upd_same); (case hv_ => exact rfl)) | ((with_reducible refine' nw_Channel_announced ?ho_ ?hv_ ?_); (case ho_ => first | assumption | exact upd_same); (case hv_ => exact rfl)) | ((with_reducible refine' nw_Channel_queue ?ho_ ?hv_ ?_); (case ho_ => first | assumption | exact upd_same); (case hv_ => exact rfl)) | ((with_reducible refine' nw_Channel_credit ?ho_ ?hv_ ?_); (case ho_ => first | assumption | exact upd_same); (case hv_ => exact rfl)) | ((with_reducible refine' nw_Channel_finished ?ho_ ?hv_ ?_); (case ho_ => first | assumption | exact upd_same); (case hv_ => exact rfl)) | ((with_reducible refine' nw_Channel_end_sent ?ho_ ?hv_ ?_); (case ho_ => first | assumption | exact upd_same); (case hv_ => exact rfl)) | ((with_reducible refine' nw_Channel_unread ?ho_ ?hv_ ?_); (case ho_ => first | assumption | exact upd_same); (case hv_ => exact rfl)) | ((with_reducible refine' nw_Channel_due ?ho_ ?hv_ ?_); (case ho_ => first | assumption | exact upd_same); (case hv_ => exact rfl)) | ((with_reducible refine' nw_Channel_end_came ?ho_ ?hv_ ?_); (case ho_ => first | assumption | exact upd_same); (case hv_ => exact rfl)) | ((with_reducible refine' nw_Channel_broken ?ho_ ?hv_ ?_); (case ho_ => first | assumption | exact upd_same); (case hv_ => exact rfl)) | ((with_reducible refine' nw_Channel_reset_told ?ho_ ?hv_ ?_); (case ho_ => first | assumption | exact upd_same); (case hv_ => exact rfl)) | ((with_reducible refine' st_Channel_number ?ho_ ?hv_ ?_); (case ho_ => first | assumption | exact upd_same); (case hv_ => exact Nat.le_of_ble_eq_true rfl)) | ((with_reducible refine' st_Channel_announced ?ho_ ?hv_ ?_); (case ho_ => first | assumption | exact upd_same); (case hv_ => exact Nat.le_of_ble_eq_true rfl)) | ((with_reducible refine' st_Channel_queue ?ho_ ?hv_ ?_); (case ho_ => first | assumption | exact upd_same); (case hv_ => exact Nat.le_of_ble_eq_true rfl)) | ((with_reducible refine' st_Channel_credit ?ho_ ?hv_ ?_); (case ho_ => first | assumption | exact upd_same); (case hv_ => exact Nat.le_of_ble_eq_true rfl)) | ((with_reducible refine' st_Channel_finished ?ho_ ?hv_ ?_); (case ho_ => first | assumption | exact upd_same); (case hv_ => exact Nat.le_of_ble_eq_true rfl)) | ((with_reducible refine' st_Channel_end_sent ?ho_ ?hv_ ?_); (case ho_ => first | assumption | exact upd_same); (case hv_ => exact Nat.le_of_ble_eq_true rfl)) | ((with_reducible refine' st_Channel_unread ?ho_ ?hv_ ?_); (case ho_ => first | assumption | exact upd_same); (case hv_ => exact Nat.le_of_ble_eq_true rfl)) | ((with_reducible refine' st_Channel_due ?ho_ ?hv_ ?_); (case ho_ => first | assumption | exact upd_same); (case hv_ => exact Nat.le_of_ble_eq_true rfl)) | ((with_reducible refine' st_Channel_end_came ?ho_ ?hv_ ?_); (case ho_ => first | assumption | exact upd_same); (case hv_ => exact Nat.le_of_ble_eq_true rfl)) | ((with_reducible refine' st_Channel_broken ?ho_ ?hv_ ?_); (case ho_ => first | assumption | exact upd_same); (case hv_ => exact Nat.le_of_ble_eq_true rfl)) | ((with_reducible refine' st_Channel_reset_told ?ho_ ?hv_ ?_); (case ho_ => first | assumption | exact upd_same); (case hv_ => exact Nat.le_of_ble_eq_true rfl)) | ((with_reducible refine' me_Channel_break_off ?ho_ ?_); (case ho_ => first | assumption | exact upd_same)) | ((with_reducible refine' me_Channel_fork ?ho_ ?_); (case ho_ => first | assumption | exact upd_same)))
local macro_rules | `(tactic| walk_at "use") => `(tactic| first | ((with_reducible refine' fd_Channels_failure ?ho_ ?hv_ ?_); (case ho_ => first | assumption | exact upd_same); (case hv_ => exact rfl)) | ((with_reducible refine' fd_Channels__window ?ho_ ?hv_ ?_); (case ho_ => first | assumption | exact upd_same); (case hv_ => exact rfl)) | ((with_reducible refine' fd_Channels__most ?ho_ ?hv_ ?_); (case ho_ => first | assumption | exact upd_same); (case hv_ => exact rfl)) | ((with_reducible refine' fd_Channels__next_here ?ho_ ?hv_ ?_); (case ho_ => first | assumption | exact upd_same); (case hv_ => exact rfl)) | ((with_reducible refine' fd_Channels__next_there ?ho_ ?hv_ ?_); (case ho_ => first | assumption | exact upd_same); (case hv_ => exact rfl)) | ((with_reducible refine' fd_Channels__channels ?ho_ ?hv_ ?_); (case ho_ => first | assumption | exact upd_same); (case hv_ => exact rfl)) | ((with_reducible refine' fd_Channels__numbers ?ho_ ?hv_ ?_); (case ho_ => first | assumption | exact upd_same); (case hv_ => exact rfl)) | ((with_reducible refine' fd_Channels__turns ?ho_ ?hv_ ?_); (case ho_ => first | assumption | exact upd_same); (case hv_ => exact rfl)) | ((with_reducible refine' fd_Channels__offered ?ho_ ?hv_ ?_); (case ho_ => first | assumption | exact upd_same); (case hv_ => exact rfl)) | ((with_reducible refine' fd_Channels__going ?ho_ ?hv_ ?_); (case ho_ => first | assumption | exact upd_same); (case hv_ => exact rfl)) | ((with_reducible refine' fd_Channels__coming ?ho_ ?hv_ ?_); (case ho_ => first | assumption | exact upd_same); (case hv_ => exact rfl)) | ((with_reducible refine' nw_Channels_failure ?ho_ ?hv_ ?_); (case ho_ => first | assumption | exact upd_same); (case hv_ => exact rfl)) | ((with_reducible refine' nw_Channels__window ?ho_ ?hv_ ?_); (case ho_ => first | assumption | exact upd_same); (case hv_ => exact rfl)) | ((with_reducible refine' nw_Channels__most ?ho_ ?hv_ ?_); (case ho_ => first | assumption | exact upd_same); (case hv_ => exact rfl)) | ((with_reducible refine' nw_Channels__next_here ?ho_ ?hv_ ?_); (case ho_ => first | assumption | exact upd_same); (case hv_ => exact rfl)) | ((with_reducible refine' nw_Channels__next_there ?ho_ ?hv_ ?_); (case ho_ => first | assumption | exact upd_same); (case hv_ => exact rfl)) | ((with_reducible refine' nw_Channels__channels ?ho_ ?hv_ ?_); (case ho_ => first | assumption | exact upd_same); (case hv_ => exact rfl)) | ((with_reducible refine' nw_Channels__numbers ?ho_ ?hv_ ?_); (case ho_ => first | assumption | exact upd_same); (case hv_ => exact rfl)) | ((with_reducible refine' nw_Channels__turns ?ho_ ?hv_ ?_); (case ho_ => first | assumption | exact upd_same); (case hv_ => exact rfl)) | ((with_reducible refine' nw_Channels__offered ?ho_ ?hv_ ?_); (case ho_ => first | assumption | exact upd_same); (case hv_ => exact rfl)) | ((with_reducible refine' nw_Channels__going ?ho_ ?hv_ ?_); (case ho_ => first | assumption | exact upd_same); (case hv_ => exact rfl)) | ((with_reducible refine' nw_Channels__coming ?ho_ ?hv_ ?_); (case ho_ => first | assumption | exact upd_same); (case hv_ => exact rfl)) | ((with_reducible refine' st_Channels_failure ?ho_ ?hv_ ?_); (case ho_ => first | assumption | exact upd_same); (case hv_ => exact Nat.le_of_ble_eq_true rfl)) | ((with_reducible refine' st_Channels__window ?ho_ ?hv_ ?_); (case ho_ => first | assumption | exact upd_same); (case hv_ => exact Nat.le_of_ble_eq_true rfl)) | ((with_reducible refine' st_Channels__most ?ho_ ?hv_ ?_); (case ho_ => first | assumption | exact upd_same); (case hv_ => exact Nat.le_of_ble_eq_true rfl)) | ((with_reducible refine' st_Channels__next_here ?ho_ ?hv_ ?_); (case ho_ => first | assumption | exact upd_same); (case hv_ => exact Nat.le_of_ble_eq_true rfl)) | ((with_reducible refine' st_Channels__next_there ?ho_ ?hv_ ?_); (case ho_ => first | assumption | exact upd_same); (case hv_ => exact Nat.le_of_ble_eq_true rfl)) | ((with_reducible refine' st_Channels__channels ?ho_ ?hv_ ?_); (case ho_ => first | assumption | exact upd_same); (case hv_ => exact Nat.le_of_ble_eq_true rfl)) | ((with_reducible refine' st_Channels__numbers ?ho_ ?hv_ ?_); (case ho_ => first | assumption | exact upd_same); (case hv_ => exact Nat.le_of_ble_eq_true rfl)) | ((with_reducible refine' st_Channels__turns ?ho_ ?hv_ ?_); (case ho_ => first | assumption | exact upd_same); (case hv_ => exact Nat.le_of_ble_eq_true rfl)) | ((with_reducible refine' st_Channels__offered ?ho_ ?hv_ ?_); (case ho_ => first | assumption | exact upd_same); (case hv_ => exact Nat.le_of_ble_eq_true rfl)) | ((with_reducible refine' st_Channels__going ?ho_ ?hv_ ?_); (case ho_ => first | assumption | exact upd_same); (case hv_ => exact Nat.le_of_ble_eq_true rfl)) | ((with_reducible refine' st_Channels__coming ?ho_ ?hv_ ?_); (case ho_ => first | assumption | exact upd_same); (case hv_ => exact Nat.le_of_ble_eq_true rfl)) | ((with_reducible refine' me_Channels_len__ ?ho_ ?_); (case ho_ => first | assumption | exact upd_same)) | ((with_reducible refine' me_Channels_iter__ ?ho_ ?_); (case ho_ => first | assumption | exact upd_same)) | ((with_reducible refine' me_Channels_open_channel ?ho_ ?_); (case ho_ => first | assumption | exact upd_same)) | ((with_reducible refine' me_Channels_accept ?ho_ ?_); (case ho_ => first | assumption | exact upd_same)) | ((with_reducible refine' me_Channels_finish ?ho_ ?_); (case ho_ => first | assumption | exact upd_same)) | ((with_reducible refine' me_Channels_reset ?ho_ ?_); (case ho_ => first | assumption | exact upd_same)) | ((with_reducible refine' me_Channels_status ?ho_ ?_); (case ho_ => first | assumption | exact upd_same)) | ((with_reducible refine' me_Channels_take ?ho_ ?_); (case ho_ => first | assumption | exact upd_same)) | ((with_reducible refine' me_Channels_receive ?ho_ ?_); (case ho_ => first | assumption | exact upd_same)) | ((with_reducible refine' me_Channels_fork ?ho_ ?_); (case ho_ => first | assumption | exact upd_same)) | ((with_reducible refine' me_Channels_known ?ho_ ?_); (case ho_ => first | assumption | exact upd_same)) | ((with_reducible refine' me_Channels_add ?ho_ ?_); (case ho_ => first | assumption | exact upd_same)) | ((with_reducible refine' me_Channels_room_of ?ho_ ?_); (case ho_ => first | assumption | exact upd_same)) | ((with_reducible refine' me_Channels_take_frame ?ho_ ?_); (case ho_ => first | assumption | exact upd_same)) | ((with_reducible refine' me_Channels_failure_of ?ho_ ?_); (case ho_ => first | assumption | exact upd_same)) | ((with_reducible refine' me_Channels_apply ?ho_ ?_); (case ho_ => first | assumption | exact upd_same)))
section
variable {P : Program} {w : World} {K : PySem.W.Frag} {mg : Str → Option Value} {base : Heap}
local macro_rules | `(tactic| walk_at "use") => `(tactic| with_reducible first | refine g_rs0 ?_ | refine g_rs1 ?_ | refine g_tryA ?_ | refine g_tryO ?_ | refine g_callS ?_ | refine g_joined ?_ | refine g_jsnil ?_ | refine g_jscons ?_ | refine g_fmt ?_)
local macro_rules | `(tactic| walk_at "fit") => `(tactic| (refine fit2 ?_; (try simp only [PySem.Str.length_append]); omega))
local macro_rules | `(tactic| walk_at "use") => `(tactic| first | ((with_reducible refine' g_addS ?sd_ ?_); case sd_ => (first | omega | (simp only [PySem.Str.length_append]; omega))) | ((with_reducible refine' g_slS ?sd_ ?_); case sd_ => omega) | (with_reducible refine g_m0 ?_))

local macro_rules | `(tactic| walk_at "use") => `(tactic| with_reducible first | refine g_dgetI ?_ | refine g_dputI ?_ | refine g_dget1I ?_ | refine g_dget2I ?_ | refine g_dinI ?_ | refine g_dnotinI ?_ | refine g_dnewK ?_)

theorem g_disp {trs : List (TE × TE)} {σ : St} {H : Hp} {Q : VK} (h : ∀ p, H p = none → tPairs trs σ (upd H p (.dK [])) fun ps H2 => H2 p = some (.dK []) ∧ ∃ kvs : List (Key × V), ps = kvs.map (fun kv => (kV kv.1, kv.2)) ∧ kvs.length ≤ 15 ∧ Q (.ref p) (upd H2 p (.dK (mergeK [] kvs)))) : tDisp trs σ H Q := h
theorem g_pcons {tk tv : TE} {r : List (TE × TE)} {σ : St} {H : Hp} {Q : List (V × V) → Hp → Prop} (h : tk σ H fun x H1 => tv σ H1 fun y H2 => tPairs r σ H2 fun ps H3 => Q ((x, y) :: ps) H3) : tPairs ((tk, tv) :: r) σ H Q := h
theorem g_pnil {σ : St} {H : Hp} {Q : List (V × V) → Hp → Prop} (q : Q [] H) : tPairs [] σ H Q := q
local macro_rules | `(tactic| walk_at "use") => `(tactic| with_reducible first | refine g_disp ?_ | refine g_pcons ?_ | refine g_pnil ?_)
local macro_rules | `(tactic| walk_at "use") => `(tactic| with_reducible refine u_cell (by assumption) (by omega) ?_)

local macro_rules | `(tactic| walk_at "use") => `(tactic| with_reducible refine g_makeK ?_)

theorem SgO.nds {CS CC : Addr} {own : Addr → Option Nat} {H : Hp} {S : Sg} {x : Nat → Ca} {g : Sd} (O : SgO CS CC own H S x g) : [S.p, S.cd, S.nl, S.tl, S.ol, S.gl, S.cl].Nodup := by
  have a1 : S.cd ≠ S.p := ne_of O.hd O.ho (fun z => nomatch z)
  have a2 : S.nl ≠ S.p := ne_of O.hn O.ho (fun z => nomatch z)
  have a3 : S.tl ≠ S.p := ne_of O.ht O.ho (fun z => nomatch z)
  have a4 : S.ol ≠ S.p := ne_of O.hl O.ho (fun z => nomatch z)
  have a5 : S.gl ≠ S.p := ne_of O.hg O.ho (fun z => nomatch z)
  have a6 : S.cl ≠ S.p := ne_of O.hc O.ho (fun z => nomatch z)
  have b2 : S.nl ≠ S.cd := ne_of O.hn O.hd (fun z => nomatch z)
  have b3 : S.tl ≠ S.cd := ne_of O.ht O.hd (fun z => nomatch z)
  have b4 : S.ol ≠ S.cd := ne_of O.hl O.hd (fun z => nomatch z)
  have b5 : S.gl ≠ S.cd := ne_of O.hg O.hd (fun z => nomatch z)
  have b6 : S.cl ≠ S.cd := ne_of O.hc O.hd (fun z => nomatch z)
  refine List.nodup_cons.mpr ⟨?_, List.nodup_cons.mpr ⟨?_, O.nd⟩⟩
  · simp only [List.mem_cons, List.not_mem_nil, or_false, not_or]
    exact ⟨a1.symm, a2.symm, a3.symm, a4.symm, a5.symm, a6.symm⟩
  · simp only [List.mem_cons, List.not_mem_nil, or_false, not_or]
    exact ⟨b2.symm, b3.symm, b4.symm, b5.symm, b6.symm⟩
theorem SgO.top {CS CC : Addr} {own : Addr → Option Nat} {H H' : Hp} {S : Sg} {x : Nat → Ca} {g : Sd} {fl' : Option Str} {nh' : Int} {nt' : Int} (O : SgO CS CC own H S x g) (b : But S.p H H') (h : H' S.p = some (.ins CS S.dx (obj ky_Channels [flV fl', .int g.w, .int g.m, .int nh', .int nt', .ref S.cd, .ref S.nl, .ref S.tl, .ref S.ol, .ref S.gl, .ref S.cl]))) : SgO CS CC own H' S x { g with fl := fl', nh := nh', nt := nt' } := by
  have nd := O.nds
  simp only [List.nodup_cons, List.mem_cons, List.not_mem_nil, or_false, not_or, List.nodup_nil, not_false_eq_true, and_true] at nd
  obtain ⟨o1, o2, o3, o4, o5, o6, o7⟩ := O.os
  refine ⟨h, b _ _ (by first | exact nd.1.1 | exact Ne.symm nd.1.1) O.hd, b _ _ (by first | exact nd.1.2.1 | exact Ne.symm nd.1.2.1) O.hn, b _ _ (by first | exact nd.1.2.2.1 | exact Ne.symm nd.1.2.2.1) O.ht, b _ _ (by first | exact nd.1.2.2.2.1 | exact Ne.symm nd.1.2.2.2.1) O.hl, b _ _ (by first | exact nd.1.2.2.2.2.1 | exact Ne.symm nd.1.2.2.2.2.1) O.hg, b _ _ (by first | exact nd.1.2.2.2.2.2 | exact Ne.symm nd.1.2.2.2.2.2) O.hc, fun i c e => O.hxk (fun a o z e => b _ _ (fun w => ?_) e) i c e, O.oc, O.os, O.nd, O.nk⟩
  rcases z with ⟨kk, z⟩ | ⟨kk, z⟩
  · rw [w, o1] at z; cases z
  · rw [w, O.ho, z] at e; cases e
theorem SgO.setT {CS CC : Addr} {own : Addr → Option Nat} {H H' : Hp} {S : Sg} {x : Nat → Ca} {g : Sd} {l' : List Int} (O : SgO CS CC own H S x g) (b : But S.tl H H') (h : H' S.tl = some (.lst (l'.map V.int))) : SgO CS CC own H' S x { g with ts := l' } := by
  have nd := O.nds
  simp only [List.nodup_cons, List.mem_cons, List.not_mem_nil, or_false, not_or, List.nodup_nil, not_false_eq_true, and_true] at nd
  obtain ⟨o1, o2, o3, o4, o5, o6, o7⟩ := O.os
  refine ⟨b _ _ (by first | exact nd.1.2.2.1 | exact Ne.symm nd.1.2.2.1) O.ho, b _ _ (by first | exact nd.2.1.2.1 | exact Ne.symm nd.2.1.2.1) O.hd, b _ _ (by first | exact nd.2.2.1.1 | exact Ne.symm nd.2.2.1.1) O.hn, h, b _ _ (by first | exact nd.2.2.2.1.1 | exact Ne.symm nd.2.2.2.1.1) O.hl, b _ _ (by first | exact nd.2.2.2.1.2.1 | exact Ne.symm nd.2.2.2.1.2.1) O.hg, b _ _ (by first | exact nd.2.2.2.1.2.2 | exact Ne.symm nd.2.2.2.1.2.2) O.hc, fun i c e => O.hxk (fun a o z e => b _ _ (fun w => ?_) e) i c e, O.oc, O.os, O.nd, O.nk⟩
  rcases z with ⟨kk, z⟩ | ⟨kk, z⟩
  · rw [w, o4] at z; cases z
  · rw [w, O.ht, z] at e; cases e
theorem SgO.setO {CS CC : Addr} {own : Addr → Option Nat} {H H' : Hp} {S : Sg} {x : Nat → Ca} {g : Sd} {l' : List Int} (O : SgO CS CC own H S x g) (b : But S.ol H H') (h : H' S.ol = some (.lst (l'.map V.int))) : SgO CS CC own H' S x { g with os := l' } := by
  have nd := O.nds
  simp only [List.nodup_cons, List.mem_cons, List.not_mem_nil, or_false, not_or, List.nodup_nil, not_false_eq_true, and_true] at nd
  obtain ⟨o1, o2, o3, o4, o5, o6, o7⟩ := O.os
  refine ⟨b _ _ (by first | exact nd.1.2.2.2.1 | exact Ne.symm nd.1.2.2.2.1) O.ho, b _ _ (by first | exact nd.2.1.2.2.1 | exact Ne.symm nd.2.1.2.2.1) O.hd, b _ _ (by first | exact nd.2.2.1.2.1 | exact Ne.symm nd.2.2.1.2.1) O.hn, b _ _ (by first | exact nd.2.2.2.1.1 | exact Ne.symm nd.2.2.2.1.1) O.ht, h, b _ _ (by first | exact nd.2.2.2.2.1.1 | exact Ne.symm nd.2.2.2.2.1.1) O.hg, b _ _ (by first | exact nd.2.2.2.2.1.2 | exact Ne.symm nd.2.2.2.2.1.2) O.hc, fun i c e => O.hxk (fun a o z e => b _ _ (fun w => ?_) e) i c e, O.oc, O.os, O.nd, O.nk⟩
  rcases z with ⟨kk, z⟩ | ⟨kk, z⟩
  · rw [w, o5] at z; cases z
  · rw [w, O.hl, z] at e; cases e
theorem SgO.setG {CS CC : Addr} {own : Addr → Option Nat} {H H' : Hp} {S : Sg} {x : Nat → Ca} {g : Sd} {l' : List Int} (O : SgO CS CC own H S x g) (b : But S.gl H H') (h : H' S.gl = some (.lst (l'.map V.int))) : SgO CS CC own H' S x { g with go := l' } := by
  have nd := O.nds
  simp only [List.nodup_cons, List.mem_cons, List.not_mem_nil, or_false, not_or, List.nodup_nil, not_false_eq_true, and_true] at nd
  obtain ⟨o1, o2, o3, o4, o5, o6, o7⟩ := O.os
  refine ⟨b _ _ (by first | exact nd.1.2.2.2.2.1 | exact Ne.symm nd.1.2.2.2.2.1) O.ho, b _ _ (by first | exact nd.2.1.2.2.2.1 | exact Ne.symm nd.2.1.2.2.2.1) O.hd, b _ _ (by first | exact nd.2.2.1.2.2.1 | exact Ne.symm nd.2.2.1.2.2.1) O.hn, b _ _ (by first | exact nd.2.2.2.1.2.1 | exact Ne.symm nd.2.2.2.1.2.1) O.ht, b _ _ (by first | exact nd.2.2.2.2.1.1 | exact Ne.symm nd.2.2.2.2.1.1) O.hl, h, b _ _ (by first | exact nd.2.2.2.2.2 | exact Ne.symm nd.2.2.2.2.2) O.hc, fun i c e => O.hxk (fun a o z e => b _ _ (fun w => ?_) e) i c e, O.oc, O.os, O.nd, O.nk⟩
  rcases z with ⟨kk, z⟩ | ⟨kk, z⟩
  · rw [w, o6] at z; cases z
  · rw [w, O.hg, z] at e; cases e
theorem SgO.setC {CS CC : Addr} {own : Addr → Option Nat} {H H' : Hp} {S : Sg} {x : Nat → Ca} {g : Sd} {l' : List Int} (O : SgO CS CC own H S x g) (b : But S.cl H H') (h : H' S.cl = some (.lst (l'.map V.int))) : SgO CS CC own H' S x { g with co := l' } := by
  have nd := O.nds
  simp only [List.nodup_cons, List.mem_cons, List.not_mem_nil, or_false, not_or, List.nodup_nil, not_false_eq_true, and_true] at nd
  obtain ⟨o1, o2, o3, o4, o5, o6, o7⟩ := O.os
  refine ⟨b _ _ (by first | exact nd.1.2.2.2.2.2 | exact Ne.symm nd.1.2.2.2.2.2) O.ho, b _ _ (by first | exact nd.2.1.2.2.2.2 | exact Ne.symm nd.2.1.2.2.2.2) O.hd, b _ _ (by first | exact nd.2.2.1.2.2.2 | exact Ne.symm nd.2.2.1.2.2.2) O.hn, b _ _ (by first | exact nd.2.2.2.1.2.2 | exact Ne.symm nd.2.2.2.1.2.2) O.ht, b _ _ (by first | exact nd.2.2.2.2.1.2 | exact Ne.symm nd.2.2.2.2.1.2) O.hl, b _ _ (by first | exact nd.2.2.2.2.2 | exact Ne.symm nd.2.2.2.2.2) O.hg, h, fun i c e => O.hxk (fun a o z e => b _ _ (fun w => ?_) e) i c e, O.oc, O.os, O.nd, O.nk⟩
  rcases z with ⟨kk, z⟩ | ⟨kk, z⟩
  · rw [w, o7] at z; cases z
  · rw [w, O.hc, z] at e; cases e
/-- the ghost at addresses that nothing holds is none -/
theorem SgO.nrm {CS CC : Addr} {own : Addr → Option Nat} {H : Hp} {S : Sg} {x : Nat → Ca} {g : Sd} (O : SgO CS CC own H S x g) : ∃ own', (∀ b, H b ≠ none → own' b = own b) ∧ (∀ b, H b = none → own' b = none) ∧ SgO CS CC own' H S x g := by
  have e1 : ∀ b, H b ≠ none → (if (H b).isNone then none else own b) = own b := fun b h => if_neg (by simpa using h)
  have hm : ∀ {b : Addr} {o : HO}, H b = some o → H b ≠ none := fun e => by rw [e]; exact nofun
  obtain ⟨o1, o2, o3, o4, o5, o6, o7⟩ := O.os
  refine ⟨fun b => if (H b).isNone then none else own b, e1, fun b h => if_pos (by rw [h]; rfl), O.ho, O.hd, O.hn, O.ht, O.hl, O.hg, O.hc, O.hx, fun i hi => ?_, ⟨(e1 _ (hm O.ho)).trans o1, (e1 _ (hm O.hd)).trans o2, (e1 _ (hm O.hn)).trans o3, (e1 _ (hm O.ht)).trans o4, (e1 _ (hm O.hl)).trans o5, (e1 _ (hm O.hg)).trans o6, (e1 _ (hm O.hc)).trans o7⟩, O.nd, O.nk⟩
  obtain ⟨c1, c2, c3⟩ := O.oc i hi
  obtain ⟨p1, p2, p3⟩ := (O.hx i _ (List.getElem?_eq_getElem hi)).mem
  exact ⟨(e1 _ p1).trans c1, (e1 _ p2).trans c2, (e1 _ p3).trans c3⟩
def sp_Channels_accept (CS CC : Addr) : Sp := fun vs H Q _ => ∃ (own : Addr → Option Nat) (S : Sg) (x : Nat → Ca) (g : Sd), vs = [.ref S.p] ∧ SgO CS CC own H S x g ∧
  ((g.os = [] ∧ Q .non H) ∨ ∃ k r, g.os = k :: r ∧ ∀ H', SgO CS CC own H' S x { g with os := r } → (∀ b o, own b = none → H b = some o → H' b = some o) → Q (.int k) H')
theorem ok_Channels_accept (T : Txt P w K mg) : FnOk P w K mg base CX0 1 T.f_Channels_accept T.d_Channels_accept ["self"] (sp_Channels_accept T.C_Channels T.C_Channel) := by
  refine T.F_Channels_accept.ok sc_Channels_accept (fun vs H Q E h => ?_) (fun cdv A outer s H vs Q E hr h => ?_)
  · obtain ⟨own, S, x, g, rfl, O, q⟩ := h
    rfl
  · obtain ⟨own, S, x, g, rfl, O, q⟩ := h
    have hu := hu_of hr
    refine ⟨_, (pss_cons (ps_if (pt_cmpR op_eq (pe_callB call_len_seq (by rfl) T.n_len (by decide +kernel) (pa_cons (pe_fld (pv 0) rfl) pa_nil)) pe_int (nomark _)) (pss_one (ps_ret pe_non)) pss_nil)
        (pss_one (ps_ret (pe_bm PySem.F.plainAttrs_list PySem.F.slot_list_pop PySem.F.type_list_pop mt_popAt (pe_fld (pv 0) rfl) (pa_cons pe_int pa_nil))))), ?_⟩
    dsimp only [cxOf, Cx.nox, Cx.wish, L2.start, List.map, List.cons_append, List.nil_append, List.length_cons, List.length_nil, Nat.reduceAdd, Nat.reduceSub, Nat.zero_add, List.replicate_succ, List.replicate_zero]
    have ho := O.ho
    have hl := O.hl
    walk_at "go"
    refine g_len (.inl (sl hl)) ?_
    rw [List.length_map]
    rcases q with ⟨e, q⟩ | ⟨k, r, e, q⟩
    · rw [e]
      walk_at "go"
      exact q
    · rw [e] at hl ⊢
      rw [List.length_cons]
      walk_at "go"
      refine ⟨ty_l hl, ?_⟩
      walk_at "go"
      refine ⟨S.ol, _, 0, 0, .int k, rfl, rfl, hl, by decide, by decide, by rw [List.length_map, List.length_cons]; unfold seqIndex?; simp, rfl, ?_⟩
      refine q _ (O.setO But.refl.upd upd_same) (free_own O.os.2.2.2.2.1 But.refl.upd)
def sp_Channels_move_back (CS CC : Addr) : Sp := fun vs H Q _ => ∃ (own : Addr → Option Nat) (S : Sg) (x : Nat → Ca) (g : Sd) (j : Nat) (k : Int), vs = [.ref S.p, .int k] ∧ SgO CS CC own H S x g ∧ g.ts.length < 1000 ∧ g.ts[j]? = some k ∧ (∀ m : Nat, m < j → g.ts[m]? ≠ some k) ∧
  ∀ H', SgO CS CC own H' S x { g with ts := g.ts.eraseIdx j ++ [k] } → (∀ b o, own b = none → H b = some o → H' b = some o) → Q .non H'
theorem md_D (a b c d e f : V) : mergeK [] (dk kd_D [a, b, c, d, e, f]) = dk kd_D [a, b, c, d, e, f] := by first | rfl | kernel_rfl
def Cg.ate (c : Cg) : Bool := c.br.isNone && (c.ec && decide (c.u.length = 0))
def sp_Channels_status (CS CC UC : Addr) : Sp := fun vs H Q E => ∃ (own : Addr → Option Nat) (S : Sg) (x : Nat → Ca) (g : Sd) (k : Int), vs = [.ref S.p, .int k] ∧ SgO CS CC own H S x g ∧
  KnG g.cs k (E (.ref UC) none H) fun i c => ∀ d H', H d = none → Same H H' → H' d = some (.dK (dk kd_D [.int (g.room c), .int (c.q.length : Int), .int (c.u.length : Int), .bl c.fin, .bl c.ate, (x i).b])) → Q (.ref d) H'
theorem ok_Channels_status (T : Txt P w K mg) : FnOk P w K mg base (L2.CX P w) 2 T.f_Channels_status T.d_Channels_status ["self", "channel"] (sp_Channels_status T.C_Channels T.C_Channel T.C_UnknownChannel) := by
  refine T.F_Channels_status.okX sc_Channels_status (fun vs H Q E h => ?_) (fun cdv A outer s H vs Q E hr h => ?_)
  · obtain ⟨own, S, x, g, k, rfl, O, h0, h1, q⟩ := h
    rfl
  · obtain ⟨own, S, x, g, k, rfl, O, h0, h1, q⟩ := h
    have hu := hu_of hr
    refine ⟨_, (pss_cons (ps_set (i := 2) sc_Channels_status.nd rfl (Or.inl rfl) (pe_meth (pv 0) T.k_Channels T.a_Channels_known (ok_Channels_known T) (hr.mono (by decide)) T.b_Channels_known .nil (passes_call (takes_of rfl rfl rfl rfl) (fun _ _ _ _ h => h)) (pa_cons (pv 1) pa_nil)))
        (pss_one (ps_ret (pe_disp (pps_cons pe_str (pe_meth (pv 0) T.k_Channels T.a_Channels_room_of (ok_Channels_room_of T) (hr.mono (by decide)) T.b_Channels_room_of .nil pass0 (pa_cons (pv 2) pa_nil)) (pps_cons pe_str (pe_callB call_len_seq (by rfl) T.n_len (by decide +kernel) (pa_cons (pe_fld (pv 2) rfl) pa_nil)) (pps_cons pe_str (pe_callB call_len_seq (by rfl) T.n_len (by decide +kernel) (pa_cons (pe_fld (pv 2) rfl) pa_nil)) (pps_cons pe_str (pe_fld (pv 2) rfl) (pps_cons pe_str (pe_and (pe_cmpR op_isN (pe_fld (pv 2) rfl) pe_non (nomark _)) (pe_and (pe_fld (pv 2) rfl) (pe_one (pe_cmpR op_eq (pe_callB call_len_seq (by rfl) T.n_len (by decide +kernel) (pa_cons (pe_fld (pv 2) rfl) pa_nil)) pe_int (nomark _))))) (pps_cons pe_str (pe_fld (pv 2) rfl) pps_nil)))))) (by rfl) (by rfl) (fun z => by cases z) (by decide))))), ?_⟩
    dsimp only [cxOf, Cx.nox, Cx.wish, L2.start, List.map, List.cons_append, List.nil_append, List.length_cons, List.length_nil, Nat.reduceAdd, Nat.reduceSub, Nat.zero_add, List.replicate_succ, List.replicate_zero]
    have ho := O.ho
    walk_at "go"
    refine ⟨own, S, x, g, k, rfl, O, h0, h1, ?_⟩
    rcases q with ⟨e, q⟩ | ⟨i, c, e, hi, q⟩
    · exact .inr ⟨e, q⟩
    · refine .inl ⟨i, e, ?_⟩
      walk_at "go"
      obtain ⟨hc0, hq0, hu0, hne, hb⟩ := id (O.hx i c hi)
      intro p hp
      walk_at "nw"
      rename_i H1 s1 k1
      have ho := s1 _ _ ho
      have hc := s1 _ _ hc0
      have hq := s1 _ _ hq0
      have hun := s1 _ _ hu0
      have O1 := O.same s1
      have fin : ∀ bv : Bool, bv = c.ate → Q (.ref p) (upd H1 p (.dK (mergeK [] (dk kd_D [.int (g.room c), .int (c.q.length : Int), .int (c.u.length : Int), .bl c.fin, .bl bv, (x i).b])))) := fun bv eb => by
        subst eb
        refine q p _ hp (fun b o e => by rw [upd_ne (ne_of_none e hp)]; exact s1 _ _ e) ?_
        rw [upd_same, md_D]
      have done : ∀ bv : Bool, bv = c.ate → ∃ kvs : List (Key × V), (dk kd_D [.int (g.room c), .int (c.q.length : Int), .int (c.u.length : Int), .bl c.fin, .bl bv, (x i).b]).map (fun kv => (kV kv.1, kv.2)) = kvs.map (fun kv => (kV kv.1, kv.2)) ∧ kvs.length ≤ 15 ∧ Q (.ref p) (upd H1 p (.dK (mergeK [] kvs))) := fun bv eb => ⟨_, rfl, by show 6 ≤ 15; decide, fin bv eb⟩
      unfold Cg.ate at done
      walk_at "go"
      refine ⟨own, S, x, g, i, c, rfl, O1, hi, ?_⟩
      walk_at "go"
      refine g_len (.inl (sl hq)) ?_
      rw [List.length_map]
      walk_at "go"
      refine g_len (.inl (sl hun)) ?_
      rw [List.length_map]
      walk_at "go"
      cases hbr : c.br with
      | some k2 =>
        rw [hbr] at hb done
        obtain ⟨t2, hB, _⟩ := hb
        rw [if_neg (by rw [hB, decide_eq_false (fun z => nomatch z)]; exact Bool.false_ne_true)]
        walk_at "go"
        exact ⟨k1, done false rfl⟩
      | none =>
        rw [hbr] at hb done
        have hB : (x i).b = .non := hb
        rw [if_pos (decide_eq_true hB)]
        cases hec : c.ec with
        | false =>
          rw [hec] at hc done
          walk_at "go"
          exact ⟨k1, done false rfl⟩
        | true =>
          rw [hec] at hc done
          walk_at "go"
          refine g_len (.inl (sl hun)) ?_
          rw [List.length_map]
          walk_at "go"
          exact ⟨k1, done _ (by show _ = (true && (true && _)); rw [Bool.true_and, Bool.true_and]; exact decide_eq_decide.mpr (by omega))⟩

theorem free_same {H H' : Hp} {b : Addr} (s : Same H H') (h : H' b = none) : H b = none := by
  cases z : H b with
  | none => rfl
  | some o => rw [s _ _ z] at h; cases h
def Sd.open' (g : Sd) : Sd := ({ g with nh := g.nh + 2 } : Sd).add (Cg.new g.nh false)
def sp_Channels_open_channel (CS CC TM : Addr) : Sp := fun vs H Q E => ∃ (own : Addr → Option Nat) (S : Sg) (x : Nat → Ca) (g : Sd), vs = [.ref S.p] ∧ SgO CS CC own H S x g ∧ g.cs.length < 1000 ∧ g.ns.length < 1000 ∧ g.ts.length < 1000 ∧
  ((200 < g.nh ∧ E (.ref TM) none H) ∨ (g.nh ≤ 200 ∧ (∀ d ∈ g.cs, d.n ≠ g.nh) ∧ ∀ own' l x' H', (∀ b, H b ≠ none → own' b = own b) → SgO CS CC own' H' { S with nl := l } x' g.open' → (∀ b o, own b = none → H b = some o → H' b = some o) → Q (.int g.nh) H'))
local macro_rules | `(tactic| walk_at "use") => `(tactic| with_reducible first | refine g_cval ?_ | refine cvq_Channels_MOST_CHANNELS ?_)
theorem ok_Channels_open_channel (T : Txt P w K mg) : FnOk P w K mg base (L2.CX P w) 3 T.f_Channels_open_channel T.d_Channels_open_channel ["self"] (sp_Channels_open_channel T.C_Channels T.C_Channel T.C_TooManyChannels) := by
  refine T.F_Channels_open_channel.okX sc_Channels_open_channel (fun vs H Q E h => ?_) (fun cdv A outer s H vs Q E hr h => ?_)
  · obtain ⟨own0, S, x, g, rfl, O0, lc, ln, lt, q⟩ := h
    rfl
  · obtain ⟨own0, S, x, g, rfl, O0, lc, ln, lt, q⟩ := h
    have hu := hu_of hr
    obtain ⟨gk_0, kb_0⟩ := kbt_0 T
    refine ⟨_, (pss_cons (ps_if (pt_cmpR op_gt (pe_fld (pv 0) rfl) (pe_op op_mul pe_int (ClX.pe_cval (pe_glob (v := .ref T.C_Channels) (by rfl) T.c_Channels rfl))) (nomark _)) (pss_one (ps_rs rfl (takes_of rfl rfl rfl rfl) (pmk_0 PySem.F.excBase_ValueError T.xP_TooManyChannels T.c_TooManyChannels T.ke_TooManyChannels (raises_own T.be_TooManyChannels T.te_TooManyChannels) rfl))) pss_nil)
        (pss_cons (ps_set (i := 1) sc_Channels_open_channel.nd rfl (Or.inl rfl) (pe_fld (pv 0) rfl))
        (pss_cons (ps_fldaug (pv 0) pe_int in_add)
        (pss_cons (ps_expr (pe_meth (pv 0) T.k_Channels T.a_Channels_add (ok_Channels_add T) (hr.mono (by decide)) T.b_Channels_add .nil pass0 (pa_cons (pe_makeK T.mk_Channel (ok_Channel_init__ T) (hr.mono (by decide)) rfl T.c_Channel kb_0 pass0 (pa_cons (pv 1) pa_nil) (pk_cons pe_bl pk_nil)) pa_nil)))
        (pss_one (ps_ret (pv 1))))))), ?_⟩
    dsimp only [cxOf, Cx.nox, Cx.wish, L2.start, List.map, List.cons_append, List.nil_append, List.length_cons, List.length_nil, Nat.reduceAdd, Nat.reduceSub, Nat.zero_add, List.replicate_succ, List.replicate_zero]
    obtain ⟨own, eo, en, O⟩ := O0.nrm
    have ho := O.ho
    rcases q with ⟨hn, q⟩ | ⟨hn, nin, q⟩
    · have h200 : 2 * 100 < g.nh := by omega
      walk_at "go"
      exact q
    · have h200 : ¬ 2 * 100 < g.nh := by omega
      walk_at "go"
      refine g_fldaug (i := 0) (j := 3) rfl ho T.k_Channels T.n_Channels__next_here nd_Channels rfl rfl ?_
      refine ⟨g.nh, 2, rfl, rfl, ?_⟩
      refine g_fldaugE (j := 3) ho nd_Channels (by show 11 < 1000; decide) rfl (by show 3 < 11; decide) ?_
      simp only [List.set_cons_succ, List.set_cons_zero]
      walk_at "bt"
      rename_i H1 b1 k1
      walk_at "go"
      refine ⟨rfl, rfl, fun y dy hy hdy hne => ?_⟩
      have s2 : Same H1 (upd (upd H1 dy (.own y)) y (.ins T.C_Channel dy [])) := (same_upd hdy).trans (same_upd (by rw [upd_ne hne.symm]; exact hy))
      refine ⟨y, dy, g.nh, false, rfl, upd_same, fun lq lu H3 hq hu hqu b3 cO => ⟨rfl, ?_⟩⟩
      have fz : ∀ b, H1 b = none → H b = none := fun b e => b1.free k1 e
      have npy : S.p ≠ y := fun z => by rw [← z, k1] at hy; cases hy
      have b4 : ∀ b o, H1 b = some o → H3 b = some o := fun b o e => b3 _ _ (fun z => by rw [z, hy] at e; cases e) (s2 _ _ e)
      have O3 : SgO T.C_Channels T.C_Channel own H3 S x { g with fl := g.fl, nh := g.nh + 2, nt := g.nt } := (O.top b1 k1).same b4
      walk_at "go"
      refine ⟨own, S, x, _, ⟨y, dy, lq, lu, .non⟩, Cg.new g.nh false, rfl, O3, cO, en _ (fz _ hy), en _ (fz _ (free_same s2 hq)), en _ (fz _ (free_same s2 hu)), lc, ln, lt, nin, fun own' l H' e1 O' fr => ?_⟩
      walk_at "go"
      have nz : ∀ {b c : Addr}, H c = none → H b ≠ none → b ≠ c := fun h1 h2 z => h2 (z ▸ h1)
      have h13 : ∀ b, H b ≠ none → H3 b ≠ none := fun b h => by
        by_cases z : b = S.p
        · rw [z, b4 _ _ k1]; exact nofun
        · obtain ⟨o, eo⟩ := Option.ne_none_iff_exists'.mp h
          rw [b4 _ _ (b1 _ _ z eo)]; exact nofun
      refine q own' l _ H' (fun b hb => (e1 b (nz (fz _ hy) hb) (nz (fz _ (free_same s2 hq)) hb) (nz (fz _ (free_same s2 hu)) hb) (h13 b hb)).trans (eo b hb)) O' (fun b o h e => ?_)
      have hb : H b ≠ none := by rw [e]; exact nofun
      have ob : own b = none := (eo b hb).trans h
      exact fr b o ob (b4 _ _ (b1 _ _ (fun z => by rw [z, O.os.1] at ob; cases ob) e))

end
end My
namespace My
open PySem PySem.Spec L2
local macro_rules | `(tactic| walk_at "side") => `(tactic| first | assumption | decide | omega | exact ⟨by decide, by decide⟩ | exact ⟨by decide, by decide, by decide⟩ | decide +kernel | exact cdivW (by decide +kernel) (by decide +kernel) | exact Or.inl ⟨by omega, by omega⟩ | exact Or.inr ⟨by omega, by omega⟩ | (simp only [List.length_map, List.length_cons, List.length_nil, List.length_append]; omega))
local macro_rules | `(tactic| walk_at "fact") => `(tactic| first | assumption | omega | with_reducible rfl)
local macro_rules | `(tactic| walk_at "use") => `(tactic| fail "use")
local macro_rules | `(tactic| walk_at "go1") => `(tactic| with_reducible first | refine g_seq ?_ | refine g_asg ?_ | refine g_ret ?_ | refine g_ifS ?_ | refine g_drop ?_ | refine g_star ?_ | refine g_nx ?_ | refine g_rt ?_ | refine g_bkE ?_ | refine g_ctE ?_ | refine g_next ?_ | refine g_retN ?_ | refine g_brk ?_ | refine g_ct ?_ | refine g_c ?_ | refine g_op ?_ | refine g_un ?_ | refine g_rI0 ?_ | refine g_rU ?_ | refine g_rEqI ?_ | refine g_rNeI ?_ | refine g_isN ?_ | refine g_rIsB ?_ | refine g_rNotB ?_ | refine g_test ?_ | refine g_B ?_ | refine g_bl ?_ | refine g_and ?_ | refine g_or ?_ | refine g_not ?_ | refine g_andV ?_ | refine g_orV ?_ | refine g_notV ?_ | refine g_if ?_ | refine g_chain ?_ | refine g_yes ?_ | refine g_lc ?_ | refine g_revR ?_ | refine g_rng1 ?_ | refine g_iList ?_ | refine g_nil ?_ | refine g_cons ?_ | refine g_tup ?_ | refine g_lst ?_ | refine g_call ?_ | refine g_CB ?_ | refine g_sl ?_ | refine g_noPart ?_ | refine g_part ?_ | refine g_intE ?_ | refine g_ref ?_ | refine g_fld ?_ | refine g_sfld ?_ | refine g_meth ?_ | refine g_make ?_ | refine g_prop ?_  | refine g_ipI ?_ | refine g_int1 ?_ | refine g_int1B ?_ | refine g_one ?_ | refine g_two ?_ | refine g_isiI ?_ | refine g_isiIB ?_ | refine g_isiB ?_ | refine g_BM ?_ | refine g_BM0 ?_ | refine g_sub ?_)
local macro_rules | `(tactic| walk_at "go") => `(tactic| repeat (first | walk_at "go1" | ((with_reducible refine' g_nameE ?sd_ ?_); case sd_ => dsimp only [List.set_cons_succ, List.set_cons_zero]) | ((with_reducible refine' g_var ?sd_ ?_); case sd_ => exact rfl) | ((with_reducible refine' g_aug ?sd_ ?_); case sd_ => exact rfl) | ((with_reducible refine' g_rI ?sd_ ?_); case sd_ => walk_at "side") | ((with_reducible refine' g_dT ?sd_ ?_); case sd_ => walk_at "fact") | ((with_reducible refine' g_dF ?sd_ ?_); case sd_ => walk_at "fact") | ((with_reducible refine' g_nT ?sd_ ?_); case sd_ => walk_at "fact") | ((with_reducible refine' g_nF ?sd_ ?_); case sd_ => walk_at "fact") | (with_reducible refine g_iT rfl ?_) | (with_reducible refine g_iF rfl ?_) | walk_at "use"))
local macro_rules | `(tactic| walk_at "nw") => `(tactic| (generalize zq : upd _ _ _ = Hq; have sq : Same _ Hq := (by rw [← zq]; exact same_upd (by assumption)); have kq := (congrFun zq _).symm.trans upd_same; clear zq))
local macro_rules | `(tactic| walk_at "bt") => `(tactic| (generalize zq : upd _ _ _ = Hq; have bq : But _ _ Hq := (by rw [← zq]; exact But.refl.upd); have kq := (congrFun zq _).symm.trans upd_same; clear zq))
local macro_rules | `(tactic| walk_at "use") => `(tactic| first | ((with_reducible refine' fd_Channel_number ?ho_ ?hv_ ?_); (case ho_ => first | assumption | exact upd_same); (case hv_ => exact rfl)) | ((with_reducible refine' fd_Channel_announced ?ho_ ?hv_ ?_); (case ho_ => first | assumption | exact upd_same); (case hv_ => exact rfl)) | ((with_reducible refine' fd_Channel_queue ?ho_ ?hv_ ?_); (case ho_ => first | assumption | exact upd_same); (case hv_ => exact rfl)) | ((with_reducible refine' fd_Channel_credit ?ho_ ?hv_ ?_); (case ho_ => first | assumption | exact upd_same); (case hv_ => exact rfl)) | ((with_reducible refine' fd_Channel_finished ?ho_ ?hv_ ?_); (case ho_ => first | assumption | exact upd_same); (case hv_ => exact rfl)) | ((with_reducible refine' fd_Channel_end_sent ?ho_ ?hv_ ?_); (case ho_ => first | assumption | exact upd_same); (case hv_ => exact rfl)) | ((with_reducible refine' fd_Channel_unread ?ho_ ?hv_ ?_); (case ho_ => first | assumption | exact upd_same); (case hv_ => exact rfl)) | ((with_reducible refine' fd_Channel_due ?ho_ ?hv_ ?_); (case ho_ => first | assumption | exact upd_same); (case hv_ => exact rfl)) | ((with_reducible refine' fd_Channel_end_came ?ho_ ?hv_ ?_); (case ho_ => first | assumption | exact upd_same); (case hv_ => exact rfl)) | ((with_reducible refine' fd_Channel_broken ?ho_ ?hv_ ?_); (case ho_ => first | assumption | exact upd_same); (case hv_ => exact rfl)) | ((with_reducible refine' fd_Channel_reset_told ?ho_ ?hv_ ?_); (case ho_ => first | assumption | exact upd_same); (case hv_ => exact rfl)) | ((with_reducible refine' nw_Channel_number ?ho_ ?hv_ ?_); (case ho_ => first | assumption | exact upd_same); (case hv_ => exact rfl)) | ((with_reducible refine' nw_Channel_announced ?ho_ ?hv_ ?_); (case ho_ => first | assumption | exact upd_same); (case hv_ => exact rfl)) | ((with_reducible refine' nw_Channel_queue ?ho_ ?hv_ ?_); (case ho_ => first | assumption | exact upd_same); (case hv_ => exact rfl)) | ((with_reducible refine' nw_Channel_credit ?ho_ ?hv_ ?_); (case ho_ => first | assumption | exact upd_same); (case hv_ => exact rfl)) | ((with_reducible refine' nw_Channel_finished ?ho_ ?hv_ ?_); (case ho_ => first | assumption | exact upd_same); (case hv_ => exact rfl)) | ((with_reducible refine' nw_Channel_end_sent ?ho_ ?hv_ ?_); (case ho_ => first | assumption | exact upd_same); (case hv_ => exact rfl)) | ((with_reducible refine' nw_Channel_unread ?ho_ ?hv_ ?_); (case ho_ => first | assumption | exact upd_same); (case hv_ => exact rfl)) | ((with_reducible refine' nw_Channel_due ?ho_ ?hv_ ?_); (case ho_ => first | assumption | exact upd_same); (case hv_ => exact rfl)) | ((with_reducible refine' nw_Channel_end_came ?ho_ ?hv_ ?_); (case ho_ => first | assumption | exact upd_same); (case hv_ => exact rfl)) | ((with_reducible refine' nw_Channel_broken ?ho_ ?hv_ ?_); (case ho_ => first | assumption | exact upd_same); (case hv_ => exact rfl)) | ((with_reducible refine' nw_Channel_reset_told ?ho_ ?hv_ ?_); (case ho_ => first | assumption | exact upd_same); (case hv_ => exact rfl)) | ((with_reducible refine' st_Channel_number ?ho_ ?hv_ ?_); (case ho_ => first | assumption | exact upd_same); (case hv_ => exact Nat.le_of_ble_eq_true rfl)) | ((with_reducible refine' st_Channel_announced ?ho_ ?hv_ ?_); (case ho_ => first | assumption | exact upd_same); (case hv_ => exact Nat.le_of_ble_eq_true rfl)) | ((with_reducible refine' st_Channel_queue ?ho_ ?hv_ ?_); (case ho_ => first | assumption | exact upd_same); (case hv_ => exact Nat.le_of_ble_eq_true rfl)) | ((with_reducible refine' st_Channel_credit ?ho_ ?hv_ ?_); (case ho_ => first | assumption | exact upd_same); (case hv_ => exact Nat.le_of_ble_eq_true rfl)) | ((with_reducible refine' st_Channel_finished ?ho_ ?hv_ ?_); (case ho_ => first | assumption | exact upd_same); (case hv_ => exact Nat.le_of_ble_eq_true rfl)) | ((with_reducible refine' st_Channel_end_sent ?ho_ ?hv_ ?_); (case ho_ => first | assumption | exact upd_same); (case hv_ => exact Nat.le_of_ble_eq_true rfl)) | ((with_reducible refine' st_Channel_unread ?ho_ ?hv_ ?_); (case ho_ => first | assumption | exact upd_same); (case hv_ => exact Nat.le_of_ble_eq_true rfl)) | ((with_reducible refine' st_Channel_due ?ho_ ?hv_ ?_); (case ho_ => first | assumption | exact upd_same); (case hv_ => exact Nat.le_of_ble_eq_true rfl)) | ((with_reducible refine' st_Channel_end_came ?ho_ ?hv_ ?_); (case ho_ => first | assumption | exact upd_same); (case hv_ => exact Nat.le_of_ble_eq_true rfl)) | ((with_reducible refine' st_Channel_broken ?ho_ ?hv_ ?_); (case ho_ => first | assumption | exact upd_same); (case hv_ => exact Nat.le_of_ble_eq_true rfl)) | ((with_reducible refine' st_Channel_reset_told ?ho_ ?hv_ ?_); (case ho_ => first | assumption | exact upd_same); (case hv_ => exact Nat.le_of_ble_eq_true rfl)) | ((with_reducible refine' me_Channel_break_off ?ho_ ?_); (case ho_ => first | assumption | exact upd_same)) | ((with_reducible refine' me_Channel_fork ?ho_ ?_); (case ho_ => first | assumption | exact upd_same)))
local macro_rules | `(tactic| walk_at "use") => `(tactic| first | ((with_reducible refine' fd_Channels_failure ?ho_ ?hv_ ?_); (case ho_ => first | assumption | exact upd_same); (case hv_ => exact rfl)) | ((with_reducible refine' fd_Channels__window ?ho_ ?hv_ ?_); (case ho_ => first | assumption | exact upd_same); (case hv_ => exact rfl)) | ((with_reducible refine' fd_Channels__most ?ho_ ?hv_ ?_); (case ho_ => first | assumption | exact upd_same); (case hv_ => exact rfl)) | ((with_reducible refine' fd_Channels__next_here ?ho_ ?hv_ ?_); (case ho_ => first | assumption | exact upd_same); (case hv_ => exact rfl)) | ((with_reducible refine' fd_Channels__next_there ?ho_ ?hv_ ?_); (case ho_ => first | assumption | exact upd_same); (case hv_ => exact rfl)) | ((with_reducible refine' fd_Channels__channels ?ho_ ?hv_ ?_); (case ho_ => first | assumption | exact upd_same); (case hv_ => exact rfl)) | ((with_reducible refine' fd_Channels__numbers ?ho_ ?hv_ ?_); (case ho_ => first | assumption | exact upd_same); (case hv_ => exact rfl)) | ((with_reducible refine' fd_Channels__turns ?ho_ ?hv_ ?_); (case ho_ => first | assumption | exact upd_same); (case hv_ => exact rfl)) | ((with_reducible refine' fd_Channels__offered ?ho_ ?hv_ ?_); (case ho_ => first | assumption | exact upd_same); (case hv_ => exact rfl)) | ((with_reducible refine' fd_Channels__going ?ho_ ?hv_ ?_); (case ho_ => first | assumption | exact upd_same); (case hv_ => exact rfl)) | ((with_reducible refine' fd_Channels__coming ?ho_ ?hv_ ?_); (case ho_ => first | assumption | exact upd_same); (case hv_ => exact rfl)) | ((with_reducible refine' nw_Channels_failure ?ho_ ?hv_ ?_); (case ho_ => first | assumption | exact upd_same); (case hv_ => exact rfl)) | ((with_reducible refine' nw_Channels__window ?ho_ ?hv_ ?_); (case ho_ => first | assumption | exact upd_same); (case hv_ => exact rfl)) | ((with_reducible refine' nw_Channels__most ?ho_ ?hv_ ?_); (case ho_ => first | assumption | exact upd_same); (case hv_ => exact rfl)) | ((with_reducible refine' nw_Channels__next_here ?ho_ ?hv_ ?_); (case ho_ => first | assumption | exact upd_same); (case hv_ => exact rfl)) | ((with_reducible refine' nw_Channels__next_there ?ho_ ?hv_ ?_); (case ho_ => first | assumption | exact upd_same); (case hv_ => exact rfl)) | ((with_reducible refine' nw_Channels__channels ?ho_ ?hv_ ?_); (case ho_ => first | assumption | exact upd_same); (case hv_ => exact rfl)) | ((with_reducible refine' nw_Channels__numbers ?ho_ ?hv_ ?_); (case ho_ => first | assumption | exact upd_same); (case hv_ => exact rfl)) | ((with_reducible refine' nw_Channels__turns ?ho_ ?hv_ ?_); (case ho_ => first | assumption | exact upd_same); (case hv_ => exact rfl)) | ((with_reducible refine' nw_Channels__offered ?ho_ ?hv_ ?_); (case ho_ => first | assumption | exact upd_same); (case hv_ => exact rfl)) | ((with_reducible refine' nw_Channels__going ?ho_ ?hv_ ?_); (case ho_ => first | assumption | exact upd_same); (case hv_ => exact rfl)) | ((with_reducible refine' nw_Channels__coming ?ho_ ?hv_ ?_); (case ho_ => first | assumption | exact upd_same); (case hv_ => exact rfl)) | ((with_reducible refine' st_Channels_failure ?ho_ ?hv_ ?_); (case ho_ => first | assumption | exact upd_same); (case hv_ => exact Nat.le_of_ble_eq_true rfl)) | ((with_reducible refine' st_Channels__window ?ho_ ?hv_ ?_); (case ho_ => first | assumption | exact upd_same); (case hv_ => exact Nat.le_of_ble_eq_true rfl)) | ((with_reducible refine' st_Channels__most ?ho_ ?hv_ ?_); (case ho_ => first | assumption | exact upd_same); (case hv_ => exact Nat.le_of_ble_eq_true rfl)) | ((with_reducible refine' st_Channels__next_here ?ho_ ?hv_ ?_); (case ho_ => first | assumption | exact upd_same); (case hv_ => exact Nat.le_of_ble_eq_true rfl)) | ((with_reducible refine' st_Channels__next_there ?ho_ ?hv_ ?_); (case ho_ => first | assumption | exact upd_same); (case hv_ => exact Nat.le_of_ble_eq_true rfl)) | ((with_reducible refine' st_Channels__channels ?ho_ ?hv_ ?_); (case ho_ => first | assumption | exact upd_same); (case hv_ => exact Nat.le_of_ble_eq_true rfl)) | ((with_reducible refine' st_Channels__numbers ?ho_ ?hv_ ?_); (case ho_ => first | assumption | exact upd_same); (case hv_ => exact Nat.le_of_ble_eq_true rfl)) | ((with_reducible refine' st_Channels__turns ?ho_ ?hv_ ?_); (case ho_ => first | assumption | exact upd_same); (case hv_ => exact Nat.le_of_ble_eq_true rfl)) | ((with_reducible refine' st_Channels__offered ?ho_ ?hv_ ?_); (case ho_ => first | assumption | exact upd_same); (case hv_ => exact Nat.le_of_ble_eq_true rfl)) | ((with_reducible refine' st_Channels__going ?ho_ ?hv_ ?_); (case ho_ => first | assumption | exact upd_same); (case hv_ => exact Nat.le_of_ble_eq_true rfl)) | ((with_reducible refine' st_Channels__coming ?ho_ ?hv_ ?_); (case ho_ => first | assumption | exact upd_same); (case hv_ => exact Nat.le_of_ble_eq_true rfl)) | ((with_reducible refine' me_Channels_len__ ?ho_ ?_); (case ho_ => first | assumption | exact upd_same)) | ((with_reducible refine' me_Channels_iter__ ?ho_ ?_); (case ho_ => first | assumption | exact upd_same)) | ((with_reducible refine' me_Channels_open_channel ?ho_ ?_); (case ho_ => first | assumption | exact upd_same)) | ((with_reducible refine' me_Channels_accept ?ho_ ?_); (case ho_ => first | assumption | exact upd_same)) | ((with_reducible refine' me_Channels_finish ?ho_ ?_); (case ho_ => first | assumption | exact upd_same)) | ((with_reducible refine' me_Channels_reset ?ho_ ?_); (case ho_ => first | assumption | exact upd_same)) | ((with_reducible refine' me_Channels_status ?ho_ ?_); (case ho_ => first | assumption | exact upd_same)) | ((with_reducible refine' me_Channels_take ?ho_ ?_); (case ho_ => first | assumption | exact upd_same)) | ((with_reducible refine' me_Channels_receive ?ho_ ?_); (case ho_ => first | assumption | exact upd_same)) | ((with_reducible refine' me_Channels_fork ?ho_ ?_); (case ho_ => first | assumption | exact upd_same)) | ((with_reducible refine' me_Channels_known ?ho_ ?_); (case ho_ => first | assumption | exact upd_same)) | ((with_reducible refine' me_Channels_add ?ho_ ?_); (case ho_ => first | assumption | exact upd_same)) | ((with_reducible refine' me_Channels_room_of ?ho_ ?_); (case ho_ => first | assumption | exact upd_same)) | ((with_reducible refine' me_Channels_take_frame ?ho_ ?_); (case ho_ => first | assumption | exact upd_same)) | ((with_reducible refine' me_Channels_failure_of ?ho_ ?_); (case ho_ => first | assumption | exact upd_same)) | ((with_reducible refine' me_Channels_apply ?ho_ ?_); (case ho_ => first | assumption | exact upd_same)))
section
variable {P : Program} {w : World} {K : PySem.W.Frag} {mg : Str → Option Value} {base : Heap}
local macro_rules | `(tactic| walk_at "use") => `(tactic| with_reducible first | refine g_rs0 ?_ | refine g_rs1 ?_ | refine g_tryA ?_ | refine g_tryO ?_ | refine g_callS ?_ | refine g_joined ?_ | refine g_jsnil ?_ | refine g_jscons ?_ | refine g_fmt ?_)
local macro_rules | `(tactic| walk_at "fit") => `(tactic| (refine fit2 ?_; (try simp only [PySem.Str.length_append]); omega))
local macro_rules | `(tactic| walk_at "use") => `(tactic| first | ((with_reducible refine' g_addS ?sd_ ?_); case sd_ => (first | omega | (simp only [PySem.Str.length_append]; omega))) | ((with_reducible refine' g_slS ?sd_ ?_); case sd_ => omega) | (with_reducible refine g_m0 ?_))

local macro_rules | `(tactic| walk_at "use") => `(tactic| with_reducible first | refine g_dgetI ?_ | refine g_dputI ?_ | refine g_dget1I ?_ | refine g_dget2I ?_ | refine g_dinI ?_ | refine g_dnotinI ?_ | refine g_dnewK ?_)

section
variable {K : PySem.W.Frag} {H : Hp} {Q : VK}
end
local macro_rules | `(tactic| walk_at "use") => `(tactic| with_reducible first | refine g_rEqS ?_ | refine g_rNeS ?_ | refine g_isiS ?_)

local macro_rules | `(tactic| walk_at "use") => `(tactic| with_reducible first | refine g_disp ?_ | refine g_pcons ?_ | refine g_pnil ?_)
local macro_rules | `(tactic| walk_at "use") => `(tactic| with_reducible refine u_cell (by assumption) (by omega) ?_)

local macro_rules | `(tactic| walk_at "use") => `(tactic| with_reducible refine g_makeK ?_)

def Fr.num : Fr → Int
  | .op c => c
  | .oc c _ => c
  | .pm c _ => c
  | .en c => c
  | .rs c _ => c
def Cg.bad (c : Cg) : Fr → Option Str
  | .oc _ os => if os.length = 0 then some (Str.ofString "empty frame") else if c.ec = true then some (Str.ofString "after the end") else if c.du < (os.length : Int) then some (Str.ofString "beyond the window") else none
  | .pm _ n => if n = 0 then some (Str.ofString "empty frame") else none
  | .en _ => if c.ec = true then some (Str.ofString "after the end") else none
  | _ => none
def sp_failure_on (CC : Addr) : Sp := fun vs H Q _ => ∃ (x : Ca) (c : Cg) (t : Addr) (f : Fr), vs = [.ref x.a, .ref t] ∧ CgO CC H x c ∧ FrO H t f ∧ ∀ H', Same H H' → Q (flV (c.bad f)) H'
theorem ok_failure_on (T : Txt P w K mg) : FnOk P w K mg base CX0 1 T.f_failure_on T.d_failure_on ["channel", "frame"] (sp_failure_on T.C_Channel) := by
  refine T.F_failure_on.ok sc_failure_on (fun vs H Q E h => ?_) (fun cdv A outer s H vs Q E hr h => ?_)
  · obtain ⟨x, c, t, f, rfl, ⟨hc, hq, hun, hne, hb⟩, hf, q⟩ := h
    rfl
  · obtain ⟨x, c, t, f, rfl, ⟨hc, hq, hun, hne, hb⟩, hf, q⟩ := h
    have hu := hu_of hr
    refine ⟨_, (pss_cons (ps_set (i := 2) sc_failure_on.nd rfl (Or.inl rfl) (pe_ix ix_tup (pv 1) pe_int (fun _ _ => rfl)))
        (pss_cons (ps_if (PW.pt (pw_or (PW.pt (pw_and (pt_cmpR op_eq (pv 2) pe_str (nomark _)) (pw_and1 (pt_cmpR op_eq (pe_callB call_len_seq (by rfl) T.n_len (by decide +kernel) (pa_cons (pe_ix ix_tup (pv 1) pe_int (fun _ _ => rfl)) pa_nil)) pe_int (nomark _))))) (pw_or1 (PW.pt (pw_and (pt_cmpR op_eq (pv 2) pe_str (nomark _)) (pw_and1 (pt_cmpR op_eq (pe_ix ix_tup (pv 1) pe_int (fun _ _ => rfl)) pe_int (nomark _)))))))) (pss_one (ps_ret pe_str)) pss_nil)
        (pss_cons (ps_if (PW.pt (pw_and (pt_cmpR op_in_seq (pv 2) (pe_tup (pa_cons pe_str (pa_cons pe_str pa_nil))) (by with_unfolding_all rfl)) (pw_and1 (pt_val (pe_fld (pv 0) rfl))))) (pss_one (ps_ret pe_str)) pss_nil)
        (pss_cons (ps_if (PW.pt (pw_and (pt_cmpR op_eq (pv 2) pe_str (nomark _)) (pw_and1 (pt_cmpR op_gt (pe_callB call_len_seq (by rfl) T.n_len (by decide +kernel) (pa_cons (pe_ix ix_tup (pv 1) pe_int (fun _ _ => rfl)) pa_nil)) (pe_fld (pv 0) rfl) (nomark _))))) (pss_one (ps_ret pe_str)) pss_nil)
        (pss_one (ps_ret pe_non)))))), ?_⟩
    dsimp only [cxOf, Cx.nox, Cx.wish, L2.start, List.map, List.cons_append, List.nil_append, List.length_cons, List.length_nil, Nat.reduceAdd, Nat.reduceSub, Nat.zero_add, List.replicate_succ, List.replicate_zero]
    cases f with
    | op k =>
      have hf : H t = some (.tup [.str "open", .int k]) := hf
      walk_at "go"
      refine g_ixT (st hf) (at_of (j := 0) rfl rfl) ?_
      walk_at "go"
      refine ⟨by show 2 ≤ sizeLine; decide, fun p hp => ?_⟩
      walk_at "nw"
      rename_i H1 s1 k1
      refine g_inS (ws := [Str.ofString "octets", Str.ofString "end"]) (st k1) ?_
      rw [decide_eq_false (by decide +kernel)]
      refine ⟨_, rfl, ?_⟩
      have hc1 := s1 _ _ hc
      walk_at "go"
      exact q _ s1
    | en k =>
      have hf : H t = some (.tup [.str "end", .int k]) := hf
      have q : ∀ H', Same H H' → Q (flV (if c.ec = true then some (Str.ofString "after the end") else none)) H' := q
      walk_at "go"
      refine g_ixT (st hf) (at_of (j := 0) rfl rfl) ?_
      walk_at "go"
      refine ⟨by show 2 ≤ sizeLine; decide, fun p hp => ?_⟩
      walk_at "nw"
      rename_i H1 s1 k1
      refine g_inS (ws := [Str.ofString "octets", Str.ofString "end"]) (st k1) ?_
      rw [decide_eq_true (by decide +kernel)]
      refine ⟨_, rfl, ?_⟩
      have hc1 := s1 _ _ hc
      walk_at "go"
      cases hec : c.ec with
      | true =>
        rw [hec] at hc1 q
        rw [if_pos rfl] at q
        walk_at "go"
        exact q _ s1
      | false =>
        rw [hec] at hc1 q
        rw [if_neg (by decide)] at q
        walk_at "go"
        exact q _ s1
    | rs k n =>
      have hf : H t = some (.tup [.str "reset", .int k, .int n]) := hf
      walk_at "go"
      refine g_ixT (st hf) (at_of (j := 0) rfl rfl) ?_
      walk_at "go"
      refine ⟨by show 2 ≤ sizeLine; decide, fun p hp => ?_⟩
      walk_at "nw"
      rename_i H1 s1 k1
      refine g_inS (ws := [Str.ofString "octets", Str.ofString "end"]) (st k1) ?_
      rw [decide_eq_false (by decide +kernel)]
      refine ⟨_, rfl, ?_⟩
      have hc1 := s1 _ _ hc
      walk_at "go"
      exact q _ s1
    | pm k n =>
      have hf : H t = some (.tup [.str "permit", .int k, .int n]) := hf
      have q : ∀ H', Same H H' → Q (flV (if n = 0 then some (Str.ofString "empty frame") else none)) H' := q
      walk_at "go"
      refine g_ixT (st hf) (at_of (j := 0) rfl rfl) ?_
      walk_at "go"
      refine g_ixT (st hf) (at_of (j := 2) rfl rfl) ?_
      walk_at "go"
      refine g_ite (fun e1 => ?_) (fun e1 => ?_)
      · rw [if_pos e1] at q
        walk_at "go"
        exact q _ (fun _ _ e => e)
      · rw [if_neg e1] at q
        walk_at "go"
        refine ⟨by show 2 ≤ sizeLine; decide, fun p hp => ?_⟩
        walk_at "nw"
        rename_i H1 s1 k1
        refine g_inS (ws := [Str.ofString "octets", Str.ofString "end"]) (st k1) ?_
        rw [decide_eq_false (by decide +kernel)]
        refine ⟨_, rfl, ?_⟩
        have hc1 := s1 _ _ hc
        walk_at "go"
        exact q _ s1
    | oc k os =>
      obtain ⟨l, hf, hl⟩ := hf
      have q : ∀ H', Same H H' → Q (flV (if os.length = 0 then some (Str.ofString "empty frame") else if c.ec = true then some (Str.ofString "after the end") else if c.du < (os.length : Int) then some (Str.ofString "beyond the window") else none)) H' := q
      walk_at "go"
      refine g_ixT (st hf) (at_of (j := 0) rfl rfl) ?_
      walk_at "go"
      refine g_ixT (st hf) (at_of (j := 2) rfl rfl) ?_
      refine g_len (.inl (sl hl)) ?_
      rw [List.length_map]
      walk_at "go"
      refine g_ite (fun e1 => ?_) (fun e1 => ?_)
      · rw [if_pos (by omega)] at q
        walk_at "go"
        exact q _ (fun _ _ e => e)
      · rw [if_neg (by omega)] at q
        walk_at "go"
        refine ⟨by show 2 ≤ sizeLine; decide, fun p hp => ?_⟩
        walk_at "nw"
        rename_i H1 s1 k1
        refine g_inS (ws := [Str.ofString "octets", Str.ofString "end"]) (st k1) ?_
        rw [decide_eq_true (by decide +kernel)]
        refine ⟨_, rfl, ?_⟩
        have hc1 := s1 _ _ hc
        walk_at "go"
        cases hec : c.ec with
        | true =>
          rw [hec] at hc1 q
          rw [if_pos rfl] at q
          walk_at "go"
          exact q _ s1
        | false =>
          rw [hec] at hc1 q
          rw [if_neg (by decide)] at q
          walk_at "go"
          refine g_ixT (st (s1 _ _ hf)) (at_of (j := 2) rfl rfl) ?_
          refine g_len (.inl (sl (s1 _ _ hl))) ?_
          rw [List.length_map]
          walk_at "go"
          refine g_ite (fun e2 => ?_) (fun e2 => ?_)
          · rw [if_pos e2] at q
            walk_at "go"
            exact q _ s1
          · rw [if_neg e2] at q
            walk_at "go"
            exact q _ s1

end
end My
namespace My
open PySem PySem.Spec L2
local macro_rules | `(tactic| walk_at "side") => `(tactic| first | assumption | decide | omega | exact ⟨by decide, by decide⟩ | exact ⟨by decide, by decide, by decide⟩ | decide +kernel | exact cdivW (by decide +kernel) (by decide +kernel) | exact Or.inl ⟨by omega, by omega⟩ | exact Or.inr ⟨by omega, by omega⟩ | (simp only [List.length_map, List.length_cons, List.length_nil, List.length_append]; omega))
local macro_rules | `(tactic| walk_at "fact") => `(tactic| first | assumption | omega | with_reducible rfl)
local macro_rules | `(tactic| walk_at "use") => `(tactic| fail "use")
local macro_rules | `(tactic| walk_at "go1") => `(tactic| with_reducible first | refine g_seq ?_ | refine g_asg ?_ | refine g_ret ?_ | refine g_ifS ?_ | refine g_drop ?_ | refine g_star ?_ | refine g_nx ?_ | refine g_rt ?_ | refine g_bkE ?_ | refine g_ctE ?_ | refine g_next ?_ | refine g_retN ?_ | refine g_brk ?_ | refine g_ct ?_ | refine g_c ?_ | refine g_op ?_ | refine g_un ?_ | refine g_rI0 ?_ | refine g_rU ?_ | refine g_rEqI ?_ | refine g_rNeI ?_ | refine g_isN ?_ | refine g_rIsB ?_ | refine g_rNotB ?_ | refine g_test ?_ | refine g_B ?_ | refine g_bl ?_ | refine g_and ?_ | refine g_or ?_ | refine g_not ?_ | refine g_andV ?_ | refine g_orV ?_ | refine g_notV ?_ | refine g_if ?_ | refine g_chain ?_ | refine g_yes ?_ | refine g_lc ?_ | refine g_revR ?_ | refine g_rng1 ?_ | refine g_iList ?_ | refine g_nil ?_ | refine g_cons ?_ | refine g_tup ?_ | refine g_lst ?_ | refine g_call ?_ | refine g_CB ?_ | refine g_sl ?_ | refine g_noPart ?_ | refine g_part ?_ | refine g_intE ?_ | refine g_ref ?_ | refine g_fld ?_ | refine g_sfld ?_ | refine g_meth ?_ | refine g_make ?_ | refine g_prop ?_  | refine g_ipI ?_ | refine g_int1 ?_ | refine g_int1B ?_ | refine g_one ?_ | refine g_two ?_ | refine g_isiI ?_ | refine g_isiIB ?_ | refine g_isiB ?_ | refine g_BM ?_ | refine g_BM0 ?_ | refine g_sub ?_)
local macro_rules | `(tactic| walk_at "go") => `(tactic| repeat (first | walk_at "go1" | ((with_reducible refine' g_nameE ?sd_ ?_); case sd_ => dsimp only [List.set_cons_succ, List.set_cons_zero]) | ((with_reducible refine' g_var ?sd_ ?_); case sd_ => exact rfl) | ((with_reducible refine' g_aug ?sd_ ?_); case sd_ => exact rfl) | ((with_reducible refine' g_rI ?sd_ ?_); case sd_ => walk_at "side") | ((with_reducible refine' g_dT ?sd_ ?_); case sd_ => walk_at "fact") | ((with_reducible refine' g_dF ?sd_ ?_); case sd_ => walk_at "fact") | ((with_reducible refine' g_nT ?sd_ ?_); case sd_ => walk_at "fact") | ((with_reducible refine' g_nF ?sd_ ?_); case sd_ => walk_at "fact") | (with_reducible refine g_iT rfl ?_) | (with_reducible refine g_iF rfl ?_) | walk_at "use"))
local macro_rules | `(tactic| walk_at "nw") => `(tactic| (generalize zq : upd _ _ _ = Hq; have sq : Same _ Hq := (by rw [← zq]; exact same_upd (by assumption)); have kq := (congrFun zq _).symm.trans upd_same; clear zq))
local macro_rules | `(tactic| walk_at "bt") => `(tactic| (generalize zq : upd _ _ _ = Hq; have bq : But _ _ Hq := (by rw [← zq]; exact But.refl.upd); have kq := (congrFun zq _).symm.trans upd_same; clear zq))
local macro_rules | `(tactic| walk_at "use") => `(tactic| first | ((with_reducible refine' fd_Channel_number ?ho_ ?hv_ ?_); (case ho_ => first | assumption | exact upd_same); (case hv_ => exact rfl)) | ((with_reducible refine' fd_Channel_announced ?ho_ ?hv_ ?_); (case ho_ => first | assumption | exact upd_same); (case hv_ => exact rfl)) | ((with_reducible refine' fd_Channel_queue ?ho_ ?hv_ ?_); (case ho_ => first | assumption | exact upd_same); (case hv_ => exact rfl)) | ((with_reducible refine' fd_Channel_credit ?ho_ ?hv_ ?_); (case ho_ => first | assumption | exact upd_same); (case hv_ => exact rfl)) | ((with_reducible refine' fd_Channel_finished ?ho_ ?hv_ ?_); (case ho_ => first | assumption | exact upd_same); (case hv_ => exact rfl)) | ((with_reducible refine' fd_Channel_end_sent ?ho_ ?hv_ ?_); (case ho_ => first | assumption | exact upd_same); (case hv_ => exact rfl)) | ((with_reducible refine' fd_Channel_unread ?ho_ ?hv_ ?_); (case ho_ => first | assumption | exact upd_same); (case hv_ => exact rfl)) | ((with_reducible refine' fd_Channel_due ?ho_ ?hv_ ?_); (case ho_ => first | assumption | exact upd_same); (case hv_ => exact rfl)) | ((with_reducible refine' fd_Channel_end_came ?ho_ ?hv_ ?_); (case ho_ => first | assumption | exact upd_same); (case hv_ => exact rfl)) | ((with_reducible refine' fd_Channel_broken ?ho_ ?hv_ ?_); (case ho_ => first | assumption | exact upd_same); (case hv_ => exact rfl)) | ((with_reducible refine' fd_Channel_reset_told ?ho_ ?hv_ ?_); (case ho_ => first | assumption | exact upd_same); (case hv_ => exact rfl)) | ((with_reducible refine' nw_Channel_number ?ho_ ?hv_ ?_); (case ho_ => first | assumption | exact upd_same); (case hv_ => exact rfl)) | ((with_reducible refine' nw_Channel_announced ?ho_ ?hv_ ?_); (case ho_ => first | assumption | exact upd_same); (case hv_ => exact rfl)) | ((with_reducible refine' nw_Channel_queue ?ho_ ?hv_ ?_); (case ho_ => first | assumption | exact upd_same); (case hv_ => exact rfl)) | ((with_reducible refine' nw_Channel_credit ?ho_ ?hv_ ?_); (case ho_ => first | assumption | exact upd_same); (case hv_ => exact rfl)) | ((with_reducible refine' nw_Channel_finished ?ho_ ?hv_ ?_); (case ho_ => first | assumption | exact upd_same); (case hv_ => exact rfl)) | ((with_reducible refine' nw_Channel_end_sent ?ho_ ?hv_ ?_); (case ho_ => first | assumption | exact upd_same); (case hv_ => exact rfl)) | ((with_reducible refine' nw_Channel_unread ?ho_ ?hv_ ?_); (case ho_ => first | assumption | exact upd_same); (case hv_ => exact rfl)) | ((with_reducible refine' nw_Channel_due ?ho_ ?hv_ ?_); (case ho_ => first | assumption | exact upd_same); (case hv_ => exact rfl)) | ((with_reducible refine' nw_Channel_end_came ?ho_ ?hv_ ?_); (case ho_ => first | assumption | exact upd_same); (case hv_ => exact rfl)) | ((with_reducible refine' nw_Channel_broken ?ho_ ?hv_ ?_); (case ho_ => first | assumption | exact upd_same); (case hv_ => exact rfl)) | ((with_reducible refine' nw_Channel_reset_told ?ho_ ?hv_ ?_); (case ho_ => first | assumption | exact upd_same); (case hv_ => exact rfl)) | ((with_reducible refine' st_Channel_number ?ho_ ?hv_ ?_); (case ho_ => first | assumption | exact upd_same); (case hv_ => exact Nat.le_of_ble_eq_true rfl)) | ((with_reducible refine' st_Channel_announced ?ho_ ?hv_ ?_); (case ho_ => first | assumption | exact upd_same); (case hv_ => exact Nat.le_of_ble_eq_true rfl)) | ((with_reducible refine' st_Channel_queue ?ho_ ?hv_ ?_); (case ho_ => first | assumption | exact upd_same); (case hv_ => exact Nat.le_of_ble_eq_true rfl)) | ((with_reducible refine' st_Channel_credit ?ho_ ?hv_ ?_); (case ho_ => first | assumption | exact upd_same); (case hv_ => exact Nat.le_of_ble_eq_true rfl)) | ((with_reducible refine' st_Channel_finished ?ho_ ?hv_ ?_); (case ho_ => first | assumption | exact upd_same); (case hv_ => exact Nat.le_of_ble_eq_true rfl)) | ((with_reducible refine' st_Channel_end_sent ?ho_ ?hv_ ?_); (case ho_ => first | assumption | exact upd_same); (case hv_ => exact Nat.le_of_ble_eq_true rfl)) | ((with_reducible refine' st_Channel_unread ?ho_ ?hv_ ?_); (case ho_ => first | assumption | exact upd_same); (case hv_ => exact Nat.le_of_ble_eq_true rfl)) | ((with_reducible refine' st_Channel_due ?ho_ ?hv_ ?_); (case ho_ => first | assumption | exact upd_same); (case hv_ => exact Nat.le_of_ble_eq_true rfl)) | ((with_reducible refine' st_Channel_end_came ?ho_ ?hv_ ?_); (case ho_ => first | assumption | exact upd_same); (case hv_ => exact Nat.le_of_ble_eq_true rfl)) | ((with_reducible refine' st_Channel_broken ?ho_ ?hv_ ?_); (case ho_ => first | assumption | exact upd_same); (case hv_ => exact Nat.le_of_ble_eq_true rfl)) | ((with_reducible refine' st_Channel_reset_told ?ho_ ?hv_ ?_); (case ho_ => first | assumption | exact upd_same); (case hv_ => exact Nat.le_of_ble_eq_true rfl)) | ((with_reducible refine' me_Channel_break_off ?ho_ ?_); (case ho_ => first | assumption | exact upd_same)) | ((with_reducible refine' me_Channel_fork ?ho_ ?_); (case ho_ => first | assumption | exact upd_same)))
local macro_rules | `(tactic| walk_at "use") => `(tactic| first | ((with_reducible refine' fd_Channels_failure ?ho_ ?hv_ ?_); (case ho_ => first | assumption | exact upd_same); (case hv_ => exact rfl)) | ((with_reducible refine' fd_Channels__window ?ho_ ?hv_ ?_); (case ho_ => first | assumption | exact upd_same); (case hv_ => exact rfl)) | ((with_reducible refine' fd_Channels__most ?ho_ ?hv_ ?_); (case ho_ => first | assumption | exact upd_same); (case hv_ => exact rfl)) | ((with_reducible refine' fd_Channels__next_here ?ho_ ?hv_ ?_); (case ho_ => first | assumption | exact upd_same); (case hv_ => exact rfl)) | ((with_reducible refine' fd_Channels__next_there ?ho_ ?hv_ ?_); (case ho_ => first | assumption | exact upd_same); (case hv_ => exact rfl)) | ((with_reducible refine' fd_Channels__channels ?ho_ ?hv_ ?_); (case ho_ => first | assumption | exact upd_same); (case hv_ => exact rfl)) | ((with_reducible refine' fd_Channels__numbers ?ho_ ?hv_ ?_); (case ho_ => first | assumption | exact upd_same); (case hv_ => exact rfl)) | ((with_reducible refine' fd_Channels__turns ?ho_ ?hv_ ?_); (case ho_ => first | assumption | exact upd_same); (case hv_ => exact rfl)) | ((with_reducible refine' fd_Channels__offered ?ho_ ?hv_ ?_); (case ho_ => first | assumption | exact upd_same); (case hv_ => exact rfl)) | ((with_reducible refine' fd_Channels__going ?ho_ ?hv_ ?_); (case ho_ => first | assumption | exact upd_same); (case hv_ => exact rfl)) | ((with_reducible refine' fd_Channels__coming ?ho_ ?hv_ ?_); (case ho_ => first | assumption | exact upd_same); (case hv_ => exact rfl)) | ((with_reducible refine' nw_Channels_failure ?ho_ ?hv_ ?_); (case ho_ => first | assumption | exact upd_same); (case hv_ => exact rfl)) | ((with_reducible refine' nw_Channels__window ?ho_ ?hv_ ?_); (case ho_ => first | assumption | exact upd_same); (case hv_ => exact rfl)) | ((with_reducible refine' nw_Channels__most ?ho_ ?hv_ ?_); (case ho_ => first | assumption | exact upd_same); (case hv_ => exact rfl)) | ((with_reducible refine' nw_Channels__next_here ?ho_ ?hv_ ?_); (case ho_ => first | assumption | exact upd_same); (case hv_ => exact rfl)) | ((with_reducible refine' nw_Channels__next_there ?ho_ ?hv_ ?_); (case ho_ => first | assumption | exact upd_same); (case hv_ => exact rfl)) | ((with_reducible refine' nw_Channels__channels ?ho_ ?hv_ ?_); (case ho_ => first | assumption | exact upd_same); (case hv_ => exact rfl)) | ((with_reducible refine' nw_Channels__numbers ?ho_ ?hv_ ?_); (case ho_ => first | assumption | exact upd_same); (case hv_ => exact rfl)) | ((with_reducible refine' nw_Channels__turns ?ho_ ?hv_ ?_); (case ho_ => first | assumption | exact upd_same); (case hv_ => exact rfl)) | ((with_reducible refine' nw_Channels__offered ?ho_ ?hv_ ?_); (case ho_ => first | assumption | exact upd_same); (case hv_ => exact rfl)) | ((with_reducible refine' nw_Channels__going ?ho_ ?hv_ ?_); (case ho_ => first | assumption | exact upd_same); (case hv_ => exact rfl)) | ((with_reducible refine' nw_Channels__coming ?ho_ ?hv_ ?_); (case ho_ => first | assumption | exact upd_same); (case hv_ => exact rfl)) | ((with_reducible refine' st_Channels_failure ?ho_ ?hv_ ?_); (case ho_ => first | assumption | exact upd_same); (case hv_ => exact Nat.le_of_ble_eq_true rfl)) | ((with_reducible refine' st_Channels__window ?ho_ ?hv_ ?_); (case ho_ => first | assumption | exact upd_same); (case hv_ => exact Nat.le_of_ble_eq_true rfl)) | ((with_reducible refine' st_Channels__most ?ho_ ?hv_ ?_); (case ho_ => first | assumption | exact upd_same); (case hv_ => exact Nat.le_of_ble_eq_true rfl)) | ((with_reducible refine' st_Channels__next_here ?ho_ ?hv_ ?_); (case ho_ => first | assumption | exact upd_same); (case hv_ => exact Nat.le_of_ble_eq_true rfl)) | ((with_reducible refine' st_Channels__next_there ?ho_ ?hv_ ?_); (case ho_ => first | assumption | exact upd_same); (case hv_ => exact Nat.le_of_ble_eq_true rfl)) | ((with_reducible refine' st_Channels__channels ?ho_ ?hv_ ?_); (case ho_ => first | assumption | exact upd_same); (case hv_ => exact Nat.le_of_ble_eq_true rfl)) | ((with_reducible refine' st_Channels__numbers ?ho_ ?hv_ ?_); (case ho_ => first | assumption | exact upd_same); (case hv_ => exact Nat.le_of_ble_eq_true rfl)) | ((with_reducible refine' st_Channels__turns ?ho_ ?hv_ ?_); (case ho_ => first | assumption | exact upd_same); (case hv_ => exact Nat.le_of_ble_eq_true rfl)) | ((with_reducible refine' st_Channels__offered ?ho_ ?hv_ ?_); (case ho_ => first | assumption | exact upd_same); (case hv_ => exact Nat.le_of_ble_eq_true rfl)) | ((with_reducible refine' st_Channels__going ?ho_ ?hv_ ?_); (case ho_ => first | assumption | exact upd_same); (case hv_ => exact Nat.le_of_ble_eq_true rfl)) | ((with_reducible refine' st_Channels__coming ?ho_ ?hv_ ?_); (case ho_ => first | assumption | exact upd_same); (case hv_ => exact Nat.le_of_ble_eq_true rfl)) | ((with_reducible refine' me_Channels_len__ ?ho_ ?_); (case ho_ => first | assumption | exact upd_same)) | ((with_reducible refine' me_Channels_iter__ ?ho_ ?_); (case ho_ => first | assumption | exact upd_same)) | ((with_reducible refine' me_Channels_open_channel ?ho_ ?_); (case ho_ => first | assumption | exact upd_same)) | ((with_reducible refine' me_Channels_accept ?ho_ ?_); (case ho_ => first | assumption | exact upd_same)) | ((with_reducible refine' me_Channels_finish ?ho_ ?_); (case ho_ => first | assumption | exact upd_same)) | ((with_reducible refine' me_Channels_reset ?ho_ ?_); (case ho_ => first | assumption | exact upd_same)) | ((with_reducible refine' me_Channels_status ?ho_ ?_); (case ho_ => first | assumption | exact upd_same)) | ((with_reducible refine' me_Channels_take ?ho_ ?_); (case ho_ => first | assumption | exact upd_same)) | ((with_reducible refine' me_Channels_receive ?ho_ ?_); (case ho_ => first | assumption | exact upd_same)) | ((with_reducible refine' me_Channels_fork ?ho_ ?_); (case ho_ => first | assumption | exact upd_same)) | ((with_reducible refine' me_Channels_known ?ho_ ?_); (case ho_ => first | assumption | exact upd_same)) | ((with_reducible refine' me_Channels_add ?ho_ ?_); (case ho_ => first | assumption | exact upd_same)) | ((with_reducible refine' me_Channels_room_of ?ho_ ?_); (case ho_ => first | assumption | exact upd_same)) | ((with_reducible refine' me_Channels_take_frame ?ho_ ?_); (case ho_ => first | assumption | exact upd_same)) | ((with_reducible refine' me_Channels_failure_of ?ho_ ?_); (case ho_ => first | assumption | exact upd_same)) | ((with_reducible refine' me_Channels_apply ?ho_ ?_); (case ho_ => first | assumption | exact upd_same)))
section
variable {P : Program} {w : World} {K : PySem.W.Frag} {mg : Str → Option Value} {base : Heap}
local macro_rules | `(tactic| walk_at "use") => `(tactic| with_reducible first | refine g_rs0 ?_ | refine g_rs1 ?_ | refine g_tryA ?_ | refine g_tryO ?_ | refine g_callS ?_ | refine g_joined ?_ | refine g_jsnil ?_ | refine g_jscons ?_ | refine g_fmt ?_)
local macro_rules | `(tactic| walk_at "fit") => `(tactic| (refine fit2 ?_; (try simp only [PySem.Str.length_append]); omega))
local macro_rules | `(tactic| walk_at "use") => `(tactic| first | ((with_reducible refine' g_addS ?sd_ ?_); case sd_ => (first | omega | (simp only [PySem.Str.length_append]; omega))) | ((with_reducible refine' g_slS ?sd_ ?_); case sd_ => omega) | (with_reducible refine g_m0 ?_))

local macro_rules | `(tactic| walk_at "use") => `(tactic| with_reducible first | refine g_dgetI ?_ | refine g_dputI ?_ | refine g_dget1I ?_ | refine g_dget2I ?_ | refine g_dinI ?_ | refine g_dnotinI ?_ | refine g_dnewK ?_)

section
variable {K : PySem.W.Frag} {H : Hp} {Q : VK}
end
local macro_rules | `(tactic| walk_at "use") => `(tactic| with_reducible first | refine g_rEqS ?_ | refine g_rNeS ?_ | refine g_isiS ?_)

local macro_rules | `(tactic| walk_at "use") => `(tactic| with_reducible first | refine g_disp ?_ | refine g_pcons ?_ | refine g_pnil ?_)
local macro_rules | `(tactic| walk_at "use") => `(tactic| with_reducible refine u_cell (by assumption) (by omega) ?_)

local macro_rules | `(tactic| walk_at "use") => `(tactic| with_reducible refine g_makeK ?_)

def Sd.bad (g : Sd) (f : Fr) : Option Str := match f with
  | .op k => if k = g.nt ∧ k ≤ 200 then none else some (Str.ofString "channel out of order")
  | f => match ixN? g.cs f.num with
    | none => some (Str.ofString "no such channel")
    | some i => match g.cs[i]? with
      | none => none
      | some c => match c.br with
        | none => c.bad f
        | some p => if p.1 = Str.ofString "there" then some (Str.ofString "after the end") else none
def sp_Channels_failure_of (CS CC : Addr) : Sp := fun vs H Q _ => ∃ (own : Addr → Option Nat) (S : Sg) (x : Nat → Ca) (g : Sd) (t : Addr) (f : Fr), vs = [.ref S.p, .ref t] ∧ SgO CS CC own H S x g ∧ FrO H t f ∧ ∀ H', Same H H' → Q (flV (g.bad f)) H'
theorem g_par {i j : Nat} {ta : TA} {D : Ends} {σ : St} {H : Hp} (h : ta σ H fun vs H1 => ∃ v w, vs = [v, w] ∧ D.nx ((σ.set i (some v)).set j (some w)) H1) : tPar i j ta D σ H := h
local macro_rules | `(tactic| walk_at "use") => `(tactic| with_reducible first | refine g_par ?_ | refine g_cval ?_ | refine cvq_Channels_MOST_CHANNELS ?_)
theorem ok_Channels_failure_of (T : Txt P w K mg) : FnOk P w K mg base CX0 2 T.f_Channels_failure_of T.d_Channels_failure_of ["self", "frame"] (sp_Channels_failure_of T.C_Channels T.C_Channel) := by
  refine T.F_Channels_failure_of.ok sc_Channels_failure_of (fun vs H Q E h => ?_) (fun cdv A outer s H vs Q E hr h => ?_)
  · obtain ⟨own, S, x, g, t, f, rfl, O, hf0, q⟩ := h
    rfl
  · obtain ⟨own, S, x, g, t, f, rfl, O, hf0, q⟩ := h
    have hu := hu_of hr
    refine ⟨_, (pss_cons (ps_par (i := 2) (j := 3) rfl sc_Channels_failure_of.nd rfl rfl (by decide) rfl rfl (pa_cons (pe_ix ix_tup (pv 1) pe_int (fun _ _ => rfl)) (pa_cons (pe_ix ix_tup (pv 1) pe_int (fun _ _ => rfl)) pa_nil)) rfl)
        (pss_cons (ps_if (pt_cmpR op_eq (pv 2) pe_str (nomark _)) (pss_cons (ps_set (i := 4) sc_Channels_failure_of.nd rfl (Or.inl rfl) (pe_and (pe_cmpR op_eq (pv 3) (pe_fld (pv 0) rfl) (nomark _)) (pe_one (pe_cmpR op_le (pv 3) (pe_op op_mul pe_int (ClX.pe_cval (pe_glob (v := .ref T.C_Channels) (by rfl) T.c_Channels rfl))) (nomark _)))))
        (pss_one (ps_ret (pe_ifExp (pt_truth (pv 4) (by intro _; rfl)) pe_non pe_str)))) pss_nil)
        (pss_cons (ps_if (pt_cmp (pc_dnotin hu (pv 3) (pe_fld (pv 0) rfl))) (pss_one (ps_ret pe_str)) pss_nil)
        (pss_cons (ps_set (i := 5) sc_Channels_failure_of.nd rfl (Or.inl rfl) (pe_dget hu (pe_fld (pv 0) rfl) (pv 3) (fun _ _ => rfl)))
        (pss_cons (ps_if (pt_cmpR op_isN (pe_fld (pv 5) rfl) pe_non (nomark _)) (pss_one (ps_ret (pe_call (ok_failure_on T) (hr.mono (by decide)) rfl T.m_failure_on T.F_failure_on.kp T.b_failure_on .nil pass0 (pa_cons (pv 5) (pa_cons (pv 1) pa_nil))))) pss_nil)
        (pss_one (ps_ret (pe_ifExp (pt_cmpR op_eq (pe_ix ix_tup (pe_fld (pv 5) rfl) pe_int (fun _ _ => rfl)) pe_str (nomark _)) pe_str pe_non)))))))), ?_⟩
    dsimp only [cxOf, Cx.nox, Cx.wish, L2.start, List.map, List.cons_append, List.nil_append, List.length_cons, List.length_nil, Nat.reduceAdd, Nat.reduceSub, Nat.zero_add, List.replicate_succ, List.replicate_zero]
    have ho := O.ho
    have hd := O.get f.num
    cases f with
    | op k =>
      have hf : H t = some (.tup [.str "open", .int k]) := hf0
      have q : ∀ H', Same H H' → Q (flV (if k = g.nt ∧ k ≤ 200 then none else some (Str.ofString "channel out of order"))) H' := q
      walk_at "go"
      refine g_ixT (st hf) (at_of (j := 0) rfl rfl) ?_
      walk_at "go"
      refine g_ixT (st hf) (at_of (j := 1) rfl rfl) ?_
      walk_at "go"
      try refine ⟨_, _, rfl, ?_⟩
      simp only [List.set_cons_succ, List.set_cons_zero]
      walk_at "go"
      by_cases e1 : k = g.nt
      · rw [if_pos (decide_eq_true e1)]
        by_cases e2 : k ≤ 200
        · rw [if_pos ⟨e1, e2⟩] at q
          walk_at "go"
          rw [decide_eq_true (show k ≤ 2 * 100 by omega)]
          walk_at "go"
          try refine ⟨true, rfl, ?_⟩
          walk_at "go"
          exact q _ (fun _ _ e => e)
        · rw [if_neg (fun z => e2 z.2)] at q
          walk_at "go"
          rw [decide_eq_false (show ¬ k ≤ 2 * 100 by omega)]
          walk_at "go"
          try refine ⟨false, rfl, ?_⟩
          walk_at "go"
          exact q _ (fun _ _ e => e)
      · rw [if_neg (fun z => e1 z.1)] at q
        rw [if_neg (by rw [decide_eq_false e1]; exact Bool.false_ne_true)]
        walk_at "go"
        try refine ⟨false, rfl, ?_⟩
        walk_at "go"
        exact q _ (fun _ _ e => e)
    | oc k os =>
      obtain ⟨l, hf, hl⟩ := id hf0
      have hd : DGet H S.cd (.int k) ((ixN? g.cs k).map fun i => V.ref (x i).a) := hd
      have q : ∀ H', Same H H' → Q (flV (match ixN? g.cs k with
        | none => some (Str.ofString "no such channel")
        | some i => match g.cs[i]? with
          | none => none
          | some c => match c.br with
            | none => c.bad (.oc k os)
            | some p => if p.1 = Str.ofString "there" then some (Str.ofString "after the end") else none)) H' := q
      walk_at "go"
      refine g_ixT (st hf) (at_of (j := 0) rfl rfl) ?_
      walk_at "go"
      refine g_ixT (st hf) (at_of (j := 1) rfl rfl) ?_
      walk_at "go"
      try refine ⟨_, _, rfl, ?_⟩
      simp only [List.set_cons_succ, List.set_cons_zero]
      walk_at "go"
      cases ek : ixN? g.cs k with
      | none =>
        rw [ek] at hd q
        refine ⟨S.cd, _, rfl, hd, ?_⟩
        walk_at "go"
        exact q _ (fun _ _ e => e)
      | some i =>
        obtain ⟨c, hi, _⟩ := ixN_some ek
        rw [ek] at hd
        simp only [ek, hi] at q
        refine ⟨S.cd, _, rfl, hd, ?_⟩
        walk_at "go"
        refine ⟨S.cd, _, rfl, hd, ?_⟩
        obtain ⟨hc, hq, hun, hne, hb⟩ := id (O.hx i c hi)
        have hb' := hb
        generalize hbv : (x i).b = b at hc hb'
        cases hbr : c.br with
        | none =>
          rw [hbr] at hb' q
          have hb2 : b = .non := hb'
          subst hb2
          walk_at "go"
          refine ⟨x i, c, t, .oc k os, rfl, O.hx i c hi, hf0, fun H' s => ?_⟩
          walk_at "go"
          exact q _ s
        | some p =>
          rw [hbr] at hb' q
          obtain ⟨tt, rfl, ht⟩ := hb'
          walk_at "go"
          refine g_ixT (st ht) rfl ?_
          walk_at "go"
          refine g_ite (fun e1 => ?_) (fun e1 => ?_)
          · have q : ∀ H', Same H H' → Q (flV (if p.1 = Str.ofString "there" then some (Str.ofString "after the end") else none)) H' := q
            rw [if_pos e1] at q
            walk_at "go"
            exact q _ (fun _ _ e => e)
          · have q : ∀ H', Same H H' → Q (flV (if p.1 = Str.ofString "there" then some (Str.ofString "after the end") else none)) H' := q
            rw [if_neg e1] at q
            walk_at "go"
            exact q _ (fun _ _ e => e)
    | pm k n =>
      have hf : H t = some (.tup [.str "permit", .int k, .int n]) := hf0
      have hd : DGet H S.cd (.int k) ((ixN? g.cs k).map fun i => V.ref (x i).a) := hd
      have q : ∀ H', Same H H' → Q (flV (match ixN? g.cs k with
        | none => some (Str.ofString "no such channel")
        | some i => match g.cs[i]? with
          | none => none
          | some c => match c.br with
            | none => c.bad (.pm k n)
            | some p => if p.1 = Str.ofString "there" then some (Str.ofString "after the end") else none)) H' := q
      walk_at "go"
      refine g_ixT (st hf) (at_of (j := 0) rfl rfl) ?_
      walk_at "go"
      refine g_ixT (st hf) (at_of (j := 1) rfl rfl) ?_
      walk_at "go"
      try refine ⟨_, _, rfl, ?_⟩
      simp only [List.set_cons_succ, List.set_cons_zero]
      walk_at "go"
      cases ek : ixN? g.cs k with
      | none =>
        rw [ek] at hd q
        refine ⟨S.cd, _, rfl, hd, ?_⟩
        walk_at "go"
        exact q _ (fun _ _ e => e)
      | some i =>
        obtain ⟨c, hi, _⟩ := ixN_some ek
        rw [ek] at hd
        simp only [ek, hi] at q
        refine ⟨S.cd, _, rfl, hd, ?_⟩
        walk_at "go"
        refine ⟨S.cd, _, rfl, hd, ?_⟩
        obtain ⟨hc, hq, hun, hne, hb⟩ := id (O.hx i c hi)
        have hb' := hb
        generalize hbv : (x i).b = b at hc hb'
        cases hbr : c.br with
        | none =>
          rw [hbr] at hb' q
          have hb2 : b = .non := hb'
          subst hb2
          walk_at "go"
          refine ⟨x i, c, t, .pm k n, rfl, O.hx i c hi, hf0, fun H' s => ?_⟩
          walk_at "go"
          exact q _ s
        | some p =>
          rw [hbr] at hb' q
          obtain ⟨tt, rfl, ht⟩ := hb'
          walk_at "go"
          refine g_ixT (st ht) rfl ?_
          walk_at "go"
          refine g_ite (fun e1 => ?_) (fun e1 => ?_)
          · have q : ∀ H', Same H H' → Q (flV (if p.1 = Str.ofString "there" then some (Str.ofString "after the end") else none)) H' := q
            rw [if_pos e1] at q
            walk_at "go"
            exact q _ (fun _ _ e => e)
          · have q : ∀ H', Same H H' → Q (flV (if p.1 = Str.ofString "there" then some (Str.ofString "after the end") else none)) H' := q
            rw [if_neg e1] at q
            walk_at "go"
            exact q _ (fun _ _ e => e)
    | en k =>
      have hf : H t = some (.tup [.str "end", .int k]) := hf0
      have hd : DGet H S.cd (.int k) ((ixN? g.cs k).map fun i => V.ref (x i).a) := hd
      have q : ∀ H', Same H H' → Q (flV (match ixN? g.cs k with
        | none => some (Str.ofString "no such channel")
        | some i => match g.cs[i]? with
          | none => none
          | some c => match c.br with
            | none => c.bad (.en k)
            | some p => if p.1 = Str.ofString "there" then some (Str.ofString "after the end") else none)) H' := q
      walk_at "go"
      refine g_ixT (st hf) (at_of (j := 0) rfl rfl) ?_
      walk_at "go"
      refine g_ixT (st hf) (at_of (j := 1) rfl rfl) ?_
      walk_at "go"
      try refine ⟨_, _, rfl, ?_⟩
      simp only [List.set_cons_succ, List.set_cons_zero]
      walk_at "go"
      cases ek : ixN? g.cs k with
      | none =>
        rw [ek] at hd q
        refine ⟨S.cd, _, rfl, hd, ?_⟩
        walk_at "go"
        exact q _ (fun _ _ e => e)
      | some i =>
        obtain ⟨c, hi, _⟩ := ixN_some ek
        rw [ek] at hd
        simp only [ek, hi] at q
        refine ⟨S.cd, _, rfl, hd, ?_⟩
        walk_at "go"
        refine ⟨S.cd, _, rfl, hd, ?_⟩
        obtain ⟨hc, hq, hun, hne, hb⟩ := id (O.hx i c hi)
        have hb' := hb
        generalize hbv : (x i).b = b at hc hb'
        cases hbr : c.br with
        | none =>
          rw [hbr] at hb' q
          have hb2 : b = .non := hb'
          subst hb2
          walk_at "go"
          refine ⟨x i, c, t, .en k, rfl, O.hx i c hi, hf0, fun H' s => ?_⟩
          walk_at "go"
          exact q _ s
        | some p =>
          rw [hbr] at hb' q
          obtain ⟨tt, rfl, ht⟩ := hb'
          walk_at "go"
          refine g_ixT (st ht) rfl ?_
          walk_at "go"
          refine g_ite (fun e1 => ?_) (fun e1 => ?_)
          · have q : ∀ H', Same H H' → Q (flV (if p.1 = Str.ofString "there" then some (Str.ofString "after the end") else none)) H' := q
            rw [if_pos e1] at q
            walk_at "go"
            exact q _ (fun _ _ e => e)
          · have q : ∀ H', Same H H' → Q (flV (if p.1 = Str.ofString "there" then some (Str.ofString "after the end") else none)) H' := q
            rw [if_neg e1] at q
            walk_at "go"
            exact q _ (fun _ _ e => e)
    | rs k n =>
      have hf : H t = some (.tup [.str "reset", .int k, .int n]) := hf0
      have hd : DGet H S.cd (.int k) ((ixN? g.cs k).map fun i => V.ref (x i).a) := hd
      have q : ∀ H', Same H H' → Q (flV (match ixN? g.cs k with
        | none => some (Str.ofString "no such channel")
        | some i => match g.cs[i]? with
          | none => none
          | some c => match c.br with
            | none => c.bad (.rs k n)
            | some p => if p.1 = Str.ofString "there" then some (Str.ofString "after the end") else none)) H' := q
      walk_at "go"
      refine g_ixT (st hf) (at_of (j := 0) rfl rfl) ?_
      walk_at "go"
      refine g_ixT (st hf) (at_of (j := 1) rfl rfl) ?_
      walk_at "go"
      try refine ⟨_, _, rfl, ?_⟩
      simp only [List.set_cons_succ, List.set_cons_zero]
      walk_at "go"
      cases ek : ixN? g.cs k with
      | none =>
        rw [ek] at hd q
        refine ⟨S.cd, _, rfl, hd, ?_⟩
        walk_at "go"
        exact q _ (fun _ _ e => e)
      | some i =>
        obtain ⟨c, hi, _⟩ := ixN_some ek
        rw [ek] at hd
        simp only [ek, hi] at q
        refine ⟨S.cd, _, rfl, hd, ?_⟩
        walk_at "go"
        refine ⟨S.cd, _, rfl, hd, ?_⟩
        obtain ⟨hc, hq, hun, hne, hb⟩ := id (O.hx i c hi)
        have hb' := hb
        generalize hbv : (x i).b = b at hc hb'
        cases hbr : c.br with
        | none =>
          rw [hbr] at hb' q
          have hb2 : b = .non := hb'
          subst hb2
          walk_at "go"
          refine ⟨x i, c, t, .rs k n, rfl, O.hx i c hi, hf0, fun H' s => ?_⟩
          walk_at "go"
          exact q _ s
        | some p =>
          rw [hbr] at hb' q
          obtain ⟨tt, rfl, ht⟩ := hb'
          walk_at "go"
          refine g_ixT (st ht) rfl ?_
          walk_at "go"
          refine g_ite (fun e1 => ?_) (fun e1 => ?_)
          · have q : ∀ H', Same H H' → Q (flV (if p.1 = Str.ofString "there" then some (Str.ofString "after the end") else none)) H' := q
            rw [if_pos e1] at q
            walk_at "go"
            exact q _ (fun _ _ e => e)
          · have q : ∀ H', Same H H' → Q (flV (if p.1 = Str.ofString "there" then some (Str.ofString "after the end") else none)) H' := q
            rw [if_neg e1] at q
            walk_at "go"
            exact q _ (fun _ _ e => e)

end
end My
namespace My
open PySem PySem.Spec L2
local macro_rules | `(tactic| walk_at "side") => `(tactic| first | assumption | decide | omega | exact ⟨by decide, by decide⟩ | exact ⟨by decide, by decide, by decide⟩ | decide +kernel | exact cdivW (by decide +kernel) (by decide +kernel) | exact Or.inl ⟨by omega, by omega⟩ | exact Or.inr ⟨by omega, by omega⟩ | (simp only [List.length_map, List.length_cons, List.length_nil, List.length_append]; omega))
local macro_rules | `(tactic| walk_at "fact") => `(tactic| first | assumption | omega | with_reducible rfl)
local macro_rules | `(tactic| walk_at "use") => `(tactic| fail "use")
local macro_rules | `(tactic| walk_at "go1") => `(tactic| with_reducible first | refine g_seq ?_ | refine g_asg ?_ | refine g_ret ?_ | refine g_ifS ?_ | refine g_drop ?_ | refine g_star ?_ | refine g_nx ?_ | refine g_rt ?_ | refine g_bkE ?_ | refine g_ctE ?_ | refine g_next ?_ | refine g_retN ?_ | refine g_brk ?_ | refine g_ct ?_ | refine g_c ?_ | refine g_op ?_ | refine g_un ?_ | refine g_rI0 ?_ | refine g_rU ?_ | refine g_rEqI ?_ | refine g_rNeI ?_ | refine g_isN ?_ | refine g_rIsB ?_ | refine g_rNotB ?_ | refine g_test ?_ | refine g_B ?_ | refine g_bl ?_ | refine g_and ?_ | refine g_or ?_ | refine g_not ?_ | refine g_andV ?_ | refine g_orV ?_ | refine g_notV ?_ | refine g_if ?_ | refine g_chain ?_ | refine g_yes ?_ | refine g_lc ?_ | refine g_revR ?_ | refine g_rng1 ?_ | refine g_iList ?_ | refine g_nil ?_ | refine g_cons ?_ | refine g_tup ?_ | refine g_lst ?_ | refine g_call ?_ | refine g_CB ?_ | refine g_sl ?_ | refine g_noPart ?_ | refine g_part ?_ | refine g_intE ?_ | refine g_ref ?_ | refine g_fld ?_ | refine g_sfld ?_ | refine g_meth ?_ | refine g_make ?_ | refine g_prop ?_  | refine g_ipI ?_ | refine g_int1 ?_ | refine g_int1B ?_ | refine g_one ?_ | refine g_two ?_ | refine g_isiI ?_ | refine g_isiIB ?_ | refine g_isiB ?_ | refine g_BM ?_ | refine g_BM0 ?_ | refine g_sub ?_)
local macro_rules | `(tactic| walk_at "go") => `(tactic| repeat (first | walk_at "go1" | ((with_reducible refine' g_nameE ?sd_ ?_); case sd_ => dsimp only [List.set_cons_succ, List.set_cons_zero]) | ((with_reducible refine' g_var ?sd_ ?_); case sd_ => exact rfl) | ((with_reducible refine' g_aug ?sd_ ?_); case sd_ => exact rfl) | ((with_reducible refine' g_rI ?sd_ ?_); case sd_ => walk_at "side") | ((with_reducible refine' g_dT ?sd_ ?_); case sd_ => walk_at "fact") | ((with_reducible refine' g_dF ?sd_ ?_); case sd_ => walk_at "fact") | ((with_reducible refine' g_nT ?sd_ ?_); case sd_ => walk_at "fact") | ((with_reducible refine' g_nF ?sd_ ?_); case sd_ => walk_at "fact") | (with_reducible refine g_iT rfl ?_) | (with_reducible refine g_iF rfl ?_) | walk_at "use"))
local macro_rules | `(tactic| walk_at "nw") => `(tactic| (generalize zq : upd _ _ _ = Hq; have sq : Same _ Hq := (by rw [← zq]; exact same_upd (by assumption)); have kq := (congrFun zq _).symm.trans upd_same; clear zq))
local macro_rules | `(tactic| walk_at "bt") => `(tactic| (generalize zq : upd _ _ _ = Hq; have bq : But _ _ Hq := (by rw [← zq]; exact But.refl.upd); have kq := (congrFun zq _).symm.trans upd_same; clear zq))
local macro_rules | `(tactic| walk_at "use") => `(tactic| first | ((with_reducible refine' fd_Channel_number ?ho_ ?hv_ ?_); (case ho_ => first | assumption | exact upd_same); (case hv_ => exact rfl)) | ((with_reducible refine' fd_Channel_announced ?ho_ ?hv_ ?_); (case ho_ => first | assumption | exact upd_same); (case hv_ => exact rfl)) | ((with_reducible refine' fd_Channel_queue ?ho_ ?hv_ ?_); (case ho_ => first | assumption | exact upd_same); (case hv_ => exact rfl)) | ((with_reducible refine' fd_Channel_credit ?ho_ ?hv_ ?_); (case ho_ => first | assumption | exact upd_same); (case hv_ => exact rfl)) | ((with_reducible refine' fd_Channel_finished ?ho_ ?hv_ ?_); (case ho_ => first | assumption | exact upd_same); (case hv_ => exact rfl)) | ((with_reducible refine' fd_Channel_end_sent ?ho_ ?hv_ ?_); (case ho_ => first | assumption | exact upd_same); (case hv_ => exact rfl)) | ((with_reducible refine' fd_Channel_unread ?ho_ ?hv_ ?_); (case ho_ => first | assumption | exact upd_same); (case hv_ => exact rfl)) | ((with_reducible refine' fd_Channel_due ?ho_ ?hv_ ?_); (case ho_ => first | assumption | exact upd_same); (case hv_ => exact rfl)) | ((with_reducible refine' fd_Channel_end_came ?ho_ ?hv_ ?_); (case ho_ => first | assumption | exact upd_same); (case hv_ => exact rfl)) | ((with_reducible refine' fd_Channel_broken ?ho_ ?hv_ ?_); (case ho_ => first | assumption | exact upd_same); (case hv_ => exact rfl)) | ((with_reducible refine' fd_Channel_reset_told ?ho_ ?hv_ ?_); (case ho_ => first | assumption | exact upd_same); (case hv_ => exact rfl)) | ((with_reducible refine' nw_Channel_number ?ho_ ?hv_ ?_); (case ho_ => first | assumption | exact upd_same); (case hv_ => exact rfl)) | ((with_reducible refine' nw_Channel_announced ?ho_ ?hv_ ?_); (case ho_ => first | assumption | exact upd_same); (case hv_ => exact rfl)) | ((with_reducible refine' nw_Channel_queue ?ho_ ?hv_ ?_); (case ho_ => first | assumption | exact upd_same); (case hv_ => exact rfl)) | ((with_reducible refine' nw_Channel_credit ?ho_ ?hv_ ?_); (case ho_ => first | assumption | exact upd_same); (case hv_ => exact rfl)) | ((with_reducible refine' nw_Channel_finished ?ho_ ?hv_ ?_); (case ho_ => first | assumption | exact upd_same); (case hv_ => exact rfl)) | ((with_reducible refine' nw_Channel_end_sent ?ho_ ?hv_ ?_); (case ho_ => first | assumption | exact upd_same); (case hv_ => exact rfl)) | ((with_reducible refine' nw_Channel_unread ?ho_ ?hv_ ?_); (case ho_ => first | assumption | exact upd_same); (case hv_ => exact rfl)) | ((with_reducible refine' nw_Channel_due ?ho_ ?hv_ ?_); (case ho_ => first | assumption | exact upd_same); (case hv_ => exact rfl)) | ((with_reducible refine' nw_Channel_end_came ?ho_ ?hv_ ?_); (case ho_ => first | assumption | exact upd_same); (case hv_ => exact rfl)) | ((with_reducible refine' nw_Channel_broken ?ho_ ?hv_ ?_); (case ho_ => first | assumption | exact upd_same); (case hv_ => exact rfl)) | ((with_reducible refine' nw_Channel_reset_told ?ho_ ?hv_ ?_); (case ho_ => first | assumption | exact upd_same); (case hv_ => exact rfl)) | ((with_reducible refine' st_Channel_number ?ho_ ?hv_ ?_); (case ho_ => first | assumption | exact upd_same); (case hv_ => exact Nat.le_of_ble_eq_true rfl)) | ((with_reducible refine' st_Channel_announced ?ho_ ?hv_ ?_); (case ho_ => first | assumption | exact upd_same); (case hv_ => exact Nat.le_of_ble_eq_true rfl)) | ((with_reducible refine' st_Channel_queue ?ho_ ?hv_ ?_); (case ho_ => first | assumption | exact upd_same); (case hv_ => exact Nat.le_of_ble_eq_true rfl)) | ((with_reducible refine' st_Channel_credit ?ho_ ?hv_ ?_); (case ho_ => first | assumption | exact upd_same); (case hv_ => exact Nat.le_of_ble_eq_true rfl)) | ((with_reducible refine' st_Channel_finished ?ho_ ?hv_ ?_); (case ho_ => first | assumption | exact upd_same); (case hv_ => exact Nat.le_of_ble_eq_true rfl)) | ((with_reducible refine' st_Channel_end_sent ?ho_ ?hv_ ?_); (case ho_ => first | assumption | exact upd_same); (case hv_ => exact Nat.le_of_ble_eq_true rfl)) | ((with_reducible refine' st_Channel_unread ?ho_ ?hv_ ?_); (case ho_ => first | assumption | exact upd_same); (case hv_ => exact Nat.le_of_ble_eq_true rfl)) | ((with_reducible refine' st_Channel_due ?ho_ ?hv_ ?_); (case ho_ => first | assumption | exact upd_same); (case hv_ => exact Nat.le_of_ble_eq_true rfl)) | ((with_reducible refine' st_Channel_end_came ?ho_ ?hv_ ?_); (case ho_ => first | assumption | exact upd_same); (case hv_ => exact Nat.le_of_ble_eq_true rfl)) | ((with_reducible refine' st_Channel_broken ?ho_ ?hv_ ?_); (case ho_ => first | assumption | exact upd_same); (case hv_ => exact Nat.le_of_ble_eq_true rfl)) | ((with_reducible refine' st_Channel_reset_told ?ho_ ?hv_ ?_); (case ho_ => first | assumption | exact upd_same); (case hv_ => exact Nat.le_of_ble_eq_true rfl)) | ((with_reducible refine' me_Channel_break_off ?ho_ ?_); (case ho_ => first | assumption | exact upd_same)) | ((with_reducible refine' me_Channel_fork ?ho_ ?_); (case ho_ => first | assumption | exact upd_same)))
local macro_rules | `(tactic| walk_at "use") => `(tactic| first | ((with_reducible refine' fd_Channels_failure ?ho_ ?hv_ ?_); (case ho_ => first | assumption | exact upd_same); (case hv_ => exact rfl)) | ((with_reducible refine' fd_Channels__window ?ho_ ?hv_ ?_); (case ho_ => first | assumption | exact upd_same); (case hv_ => exact rfl)) | ((with_reducible refine' fd_Channels__most ?ho_ ?hv_ ?_); (case ho_ => first | assumption | exact upd_same); (case hv_ => exact rfl)) | ((with_reducible refine' fd_Channels__next_here ?ho_ ?hv_ ?_); (case ho_ => first | assumption | exact upd_same); (case hv_ => exact rfl)) | ((with_reducible refine' fd_Channels__next_there ?ho_ ?hv_ ?_); (case ho_ => first | assumption | exact upd_same); (case hv_ => exact rfl)) | ((with_reducible refine' fd_Channels__channels ?ho_ ?hv_ ?_); (case ho_ => first | assumption | exact upd_same); (case hv_ => exact rfl)) | ((with_reducible refine' fd_Channels__numbers ?ho_ ?hv_ ?_); (case ho_ => first | assumption | exact upd_same); (case hv_ => exact rfl)) | ((with_reducible refine' fd_Channels__turns ?ho_ ?hv_ ?_); (case ho_ => first | assumption | exact upd_same); (case hv_ => exact rfl)) | ((with_reducible refine' fd_Channels__offered ?ho_ ?hv_ ?_); (case ho_ => first | assumption | exact upd_same); (case hv_ => exact rfl)) | ((with_reducible refine' fd_Channels__going ?ho_ ?hv_ ?_); (case ho_ => first | assumption | exact upd_same); (case hv_ => exact rfl)) | ((with_reducible refine' fd_Channels__coming ?ho_ ?hv_ ?_); (case ho_ => first | assumption | exact upd_same); (case hv_ => exact rfl)) | ((with_reducible refine' nw_Channels_failure ?ho_ ?hv_ ?_); (case ho_ => first | assumption | exact upd_same); (case hv_ => exact rfl)) | ((with_reducible refine' nw_Channels__window ?ho_ ?hv_ ?_); (case ho_ => first | assumption | exact upd_same); (case hv_ => exact rfl)) | ((with_reducible refine' nw_Channels__most ?ho_ ?hv_ ?_); (case ho_ => first | assumption | exact upd_same); (case hv_ => exact rfl)) | ((with_reducible refine' nw_Channels__next_here ?ho_ ?hv_ ?_); (case ho_ => first | assumption | exact upd_same); (case hv_ => exact rfl)) | ((with_reducible refine' nw_Channels__next_there ?ho_ ?hv_ ?_); (case ho_ => first | assumption | exact upd_same); (case hv_ => exact rfl)) | ((with_reducible refine' nw_Channels__channels ?ho_ ?hv_ ?_); (case ho_ => first | assumption | exact upd_same); (case hv_ => exact rfl)) | ((with_reducible refine' nw_Channels__numbers ?ho_ ?hv_ ?_); (case ho_ => first | assumption | exact upd_same); (case hv_ => exact rfl)) | ((with_reducible refine' nw_Channels__turns ?ho_ ?hv_ ?_); (case ho_ => first | assumption | exact upd_same); (case hv_ => exact rfl)) | ((with_reducible refine' nw_Channels__offered ?ho_ ?hv_ ?_); (case ho_ => first | assumption | exact upd_same); (case hv_ => exact rfl)) | ((with_reducible refine' nw_Channels__going ?ho_ ?hv_ ?_); (case ho_ => first | assumption | exact upd_same); (case hv_ => exact rfl)) | ((with_reducible refine' nw_Channels__coming ?ho_ ?hv_ ?_); (case ho_ => first | assumption | exact upd_same); (case hv_ => exact rfl)) | ((with_reducible refine' st_Channels_failure ?ho_ ?hv_ ?_); (case ho_ => first | assumption | exact upd_same); (case hv_ => exact Nat.le_of_ble_eq_true rfl)) | ((with_reducible refine' st_Channels__window ?ho_ ?hv_ ?_); (case ho_ => first | assumption | exact upd_same); (case hv_ => exact Nat.le_of_ble_eq_true rfl)) | ((with_reducible refine' st_Channels__most ?ho_ ?hv_ ?_); (case ho_ => first | assumption | exact upd_same); (case hv_ => exact Nat.le_of_ble_eq_true rfl)) | ((with_reducible refine' st_Channels__next_here ?ho_ ?hv_ ?_); (case ho_ => first | assumption | exact upd_same); (case hv_ => exact Nat.le_of_ble_eq_true rfl)) | ((with_reducible refine' st_Channels__next_there ?ho_ ?hv_ ?_); (case ho_ => first | assumption | exact upd_same); (case hv_ => exact Nat.le_of_ble_eq_true rfl)) | ((with_reducible refine' st_Channels__channels ?ho_ ?hv_ ?_); (case ho_ => first | assumption | exact upd_same); (case hv_ => exact Nat.le_of_ble_eq_true rfl)) | ((with_reducible refine' st_Channels__numbers ?ho_ ?hv_ ?_); (case ho_ => first | assumption | exact upd_same); (case hv_ => exact Nat.le_of_ble_eq_true rfl)) | ((with_reducible refine' st_Channels__turns ?ho_ ?hv_ ?_); (case ho_ => first | assumption | exact upd_same); (case hv_ => exact Nat.le_of_ble_eq_true rfl)) | ((with_reducible refine' st_Channels__offered ?ho_ ?hv_ ?_); (case ho_ => first | assumption | exact upd_same); (case hv_ => exact Nat.le_of_ble_eq_true rfl)) | ((with_reducible refine' st_Channels__going ?ho_ ?hv_ ?_); (case ho_ => first | assumption | exact upd_same); (case hv_ => exact Nat.le_of_ble_eq_true rfl)) | ((with_reducible refine' st_Channels__coming ?ho_ ?hv_ ?_); (case ho_ => first | assumption | exact upd_same); (case hv_ => exact Nat.le_of_ble_eq_true rfl)) | ((with_reducible refine' me_Channels_len__ ?ho_ ?_); (case ho_ => first | assumption | exact upd_same)) | ((with_reducible refine' me_Channels_iter__ ?ho_ ?_); (case ho_ => first | assumption | exact upd_same)) | ((with_reducible refine' me_Channels_open_channel ?ho_ ?_); (case ho_ => first | assumption | exact upd_same)) | ((with_reducible refine' me_Channels_accept ?ho_ ?_); (case ho_ => first | assumption | exact upd_same)) | ((with_reducible refine' me_Channels_finish ?ho_ ?_); (case ho_ => first | assumption | exact upd_same)) | ((with_reducible refine' me_Channels_reset ?ho_ ?_); (case ho_ => first | assumption | exact upd_same)) | ((with_reducible refine' me_Channels_status ?ho_ ?_); (case ho_ => first | assumption | exact upd_same)) | ((with_reducible refine' me_Channels_take ?ho_ ?_); (case ho_ => first | assumption | exact upd_same)) | ((with_reducible refine' me_Channels_receive ?ho_ ?_); (case ho_ => first | assumption | exact upd_same)) | ((with_reducible refine' me_Channels_fork ?ho_ ?_); (case ho_ => first | assumption | exact upd_same)) | ((with_reducible refine' me_Channels_known ?ho_ ?_); (case ho_ => first | assumption | exact upd_same)) | ((with_reducible refine' me_Channels_add ?ho_ ?_); (case ho_ => first | assumption | exact upd_same)) | ((with_reducible refine' me_Channels_room_of ?ho_ ?_); (case ho_ => first | assumption | exact upd_same)) | ((with_reducible refine' me_Channels_take_frame ?ho_ ?_); (case ho_ => first | assumption | exact upd_same)) | ((with_reducible refine' me_Channels_failure_of ?ho_ ?_); (case ho_ => first | assumption | exact upd_same)) | ((with_reducible refine' me_Channels_apply ?ho_ ?_); (case ho_ => first | assumption | exact upd_same)))
section
variable {P : Program} {w : World} {K : PySem.W.Frag} {mg : Str → Option Value} {base : Heap}
/-! ### the next frame, on the channels in the order of turns (k51) -/
def nx (w m : Int) (L : List Cg) : Option (Fr × List Cg) :=
  match L.findIdx? fun c => !c.an with
  | some j => (L[j]?).map fun c => (.op c.n, L.set j { c with an := true })
  | none => match L.findIdx? Cg.untold with
    | some j => (L[j]?).map fun c => (.rs c.n ((c.br.map (·.2)).getD 0), L.set j { c with rt := true })
    | none => match L.findIdx? fun c => decide (0 < c.owed w) with
      | some j => (L[j]?).map fun c => (.pm c.n (c.owed w), L.set j { c with du := c.du + c.owed w })
      | none => match L.findIdx? fun c => c.hasO || c.hasE with
        | some j => (L[j]?).map fun c => if c.hasO then (.oc c.n (c.q.take (c.takeN m)), L.eraseIdx j ++ [c.taken m]) else (.en c.n, L.eraseIdx j ++ [{ c with es := true }])
        | none => none
/-- L are the channels of the side in the order of turns -/
structure Tn (g : Sd) (L : List Cg) : Prop where
  ts : g.ts = L.map Cg.n
  nd : (L.map Cg.n).Nodup
  at' : ∀ c ∈ L, ∃ i, ixN? g.cs c.n = some i ∧ g.cs[i]? = some c
theorem ixN_set {cs : List Cg} {i : Nat} {c c' : Cg} (hi : cs[i]? = some c) (hn : c'.n = c.n) (k : Int) : ixN? (cs.set i c') k = ixN? cs k := by
  unfold ixN?
  have e : ∀ l : List Cg, l.findIdx? (fun c => decide (c.n = k)) = (l.map Cg.n).findIdx? fun n => decide (n = k) := fun l => by
    rw [List.findIdx?_map]
    rfl
  rw [e, e, set_names hi hn]
theorem Tn.set {g : Sd} {L : List Cg} (t : Tn g L) {j i : Nat} {c c' : Cg} (hj : L[j]? = some c) (hi : ixN? g.cs c.n = some i) (hn : c'.n = c.n) : Tn (g.put i c') (L.set j c') := by
  obtain ⟨i2, e2, h2⟩ := t.at' c (List.mem_of_getElem? hj)
  obtain rfl : i2 = i := Option.some.inj (e2.symm.trans hi)
  refine ⟨t.ts.trans (set_names hj hn).symm, by rw [set_names hj hn]; exact t.nd, fun d hd => ?_⟩
  obtain ⟨a, ea⟩ := List.getElem?_of_mem hd
  show ∃ i, ixN? (g.cs.set i2 c') d.n = some i ∧ (g.cs.set i2 c')[i]? = some d
  rw [ixN_set h2 hn]
  by_cases z : a = j
  · subst z
    rw [List.getElem?_set_self (ls_i hj)] at ea
    obtain rfl := Option.some.inj ea
    rw [hn]
    exact ⟨i2, e2, List.getElem?_set_self (ls_i h2)⟩
  · rw [List.getElem?_set_ne (fun w => z w.symm)] at ea
    obtain ⟨i3, e3, h3⟩ := t.at' d (List.mem_of_getElem? ea)
    refine ⟨i3, e3, ?_⟩
    rw [List.getElem?_set_ne]
    · exact h3
    · rintro rfl
      rw [h2] at h3
      obtain rfl := Option.some.inj h3
      have := t.nd
      unfold List.Nodup at this
      rw [List.pairwise_map] at this
      rcases Nat.lt_trichotomy a j with w | w | w
      · exact List.pairwise_iff_getElem.mp this a j (ls_i ea) (ls_i hj) w (by rw [(List.getElem?_eq_some_iff.mp ea).2, (List.getElem?_eq_some_iff.mp hj).2])
      · exact z w
      · exact List.pairwise_iff_getElem.mp this j a (ls_i hj) (ls_i ea) w (by rw [(List.getElem?_eq_some_iff.mp ea).2, (List.getElem?_eq_some_iff.mp hj).2])
theorem erase_perm {α : Type} {L : List α} {j : Nat} {c : α} (hj : L[j]? = some c) : (L.eraseIdx j ++ [c]).Perm L := by
  induction L generalizing j with
  | nil => cases hj
  | cons a r ih =>
    cases j with
    | zero =>
      obtain rfl : a = c := Option.some.inj hj
      exact List.perm_append_comm
    | succ j =>
      exact List.Perm.cons a (ih hj)
theorem map_erase {L : List Cg} {j : Nat} : (L.eraseIdx j).map Cg.n = (L.map Cg.n).eraseIdx j := by
  induction L generalizing j with
  | nil => rfl
  | cons a r ih =>
    cases j with
    | zero => rfl
    | succ j => exact congrArg (List.cons a.n) ih
theorem Tn.move {g : Sd} {L : List Cg} (t : Tn g L) {j : Nat} {c : Cg} (hj : L[j]? = some c) : Tn { g with ts := g.ts.eraseIdx j ++ [c.n] } (L.eraseIdx j ++ [c]) := by
  have p := erase_perm hj
  refine ⟨?_, (p.map Cg.n).nodup_iff.mpr t.nd, fun d hd => t.at' d (p.mem_iff.mp hd)⟩
  show g.ts.eraseIdx j ++ [c.n] = _
  rw [t.ts, List.map_append, map_erase]
  rfl
theorem Tn.add {g : Sd} {L : List Cg} {c : Cg} (t : Tn g L) (nin : ∀ d ∈ g.cs, d.n ≠ c.n) : Tn (g.add c) (L ++ [c]) := by
  refine ⟨?_, ?_, fun d hd => ?_⟩
  · show g.ts ++ [c.n] = _
    rw [t.ts, List.map_append]
    rfl
  · rw [List.map_append]
    refine List.nodup_append.mpr ⟨t.nd, List.nodup_cons.mpr ⟨nofun, List.nodup_nil⟩, fun a ha b hb => ?_⟩
    obtain ⟨d, hd, rfl⟩ := List.mem_map.mp ha
    obtain ⟨i, _, e⟩ := t.at' d hd
    rw [List.mem_singleton.mp hb]
    exact nin d (List.mem_of_getElem? e)
  · show ∃ i, ixN? (g.cs ++ [c]) d.n = some i ∧ (g.cs ++ [c])[i]? = some d
    rcases List.mem_append.mp hd with hd | hd
    · obtain ⟨i, e, h⟩ := t.at' d hd
      refine ⟨i, ?_, (List.getElem?_append_left (ls_i h)).trans h⟩
      unfold ixN? at e ⊢
      rw [List.findIdx?_append, e]
      rfl
    · rw [List.mem_singleton.mp hd]
      refine ⟨g.cs.length, ?_, by rw [List.getElem?_append_right (Nat.le_refl _), Nat.sub_self]; rfl⟩
      unfold ixN?
      rw [List.findIdx?_append, List.findIdx?_eq_none_iff.mpr fun d hd => decide_eq_false (nin d hd)]
      simp

end
end My
namespace My
open PySem PySem.Spec L2
local macro_rules | `(tactic| walk_at "side") => `(tactic| first | assumption | decide | omega | exact ⟨by decide, by decide⟩ | exact ⟨by decide, by decide, by decide⟩ | decide +kernel | exact cdivW (by decide +kernel) (by decide +kernel) | exact Or.inl ⟨by omega, by omega⟩ | exact Or.inr ⟨by omega, by omega⟩ | (simp only [List.length_map, List.length_cons, List.length_nil, List.length_append]; omega))
local macro_rules | `(tactic| walk_at "fact") => `(tactic| first | assumption | omega | with_reducible rfl)
local macro_rules | `(tactic| walk_at "use") => `(tactic| fail "use")
local macro_rules | `(tactic| walk_at "go1") => `(tactic| with_reducible first | refine g_seq ?_ | refine g_asg ?_ | refine g_ret ?_ | refine g_ifS ?_ | refine g_drop ?_ | refine g_star ?_ | refine g_nx ?_ | refine g_rt ?_ | refine g_bkE ?_ | refine g_ctE ?_ | refine g_next ?_ | refine g_retN ?_ | refine g_brk ?_ | refine g_ct ?_ | refine g_c ?_ | refine g_op ?_ | refine g_un ?_ | refine g_rI0 ?_ | refine g_rU ?_ | refine g_rEqI ?_ | refine g_rNeI ?_ | refine g_isN ?_ | refine g_rIsB ?_ | refine g_rNotB ?_ | refine g_test ?_ | refine g_B ?_ | refine g_bl ?_ | refine g_and ?_ | refine g_or ?_ | refine g_not ?_ | refine g_andV ?_ | refine g_orV ?_ | refine g_notV ?_ | refine g_if ?_ | refine g_chain ?_ | refine g_yes ?_ | refine g_lc ?_ | refine g_revR ?_ | refine g_rng1 ?_ | refine g_iList ?_ | refine g_nil ?_ | refine g_cons ?_ | refine g_tup ?_ | refine g_lst ?_ | refine g_call ?_ | refine g_CB ?_ | refine g_sl ?_ | refine g_noPart ?_ | refine g_part ?_ | refine g_intE ?_ | refine g_ref ?_ | refine g_fld ?_ | refine g_sfld ?_ | refine g_meth ?_ | refine g_make ?_ | refine g_prop ?_  | refine g_ipI ?_ | refine g_int1 ?_ | refine g_int1B ?_ | refine g_one ?_ | refine g_two ?_ | refine g_isiI ?_ | refine g_isiIB ?_ | refine g_isiB ?_ | refine g_BM ?_ | refine g_BM0 ?_ | refine g_sub ?_)
local macro_rules | `(tactic| walk_at "go") => `(tactic| repeat (first | walk_at "go1" | ((with_reducible refine' g_nameE ?sd_ ?_); case sd_ => dsimp only [List.set_cons_succ, List.set_cons_zero]) | ((with_reducible refine' g_var ?sd_ ?_); case sd_ => exact rfl) | ((with_reducible refine' g_aug ?sd_ ?_); case sd_ => exact rfl) | ((with_reducible refine' g_rI ?sd_ ?_); case sd_ => walk_at "side") | ((with_reducible refine' g_dT ?sd_ ?_); case sd_ => walk_at "fact") | ((with_reducible refine' g_dF ?sd_ ?_); case sd_ => walk_at "fact") | ((with_reducible refine' g_nT ?sd_ ?_); case sd_ => walk_at "fact") | ((with_reducible refine' g_nF ?sd_ ?_); case sd_ => walk_at "fact") | (with_reducible refine g_iT rfl ?_) | (with_reducible refine g_iF rfl ?_) | walk_at "use"))
local macro_rules | `(tactic| walk_at "nw") => `(tactic| (generalize zq : upd _ _ _ = Hq; have sq : Same _ Hq := (by rw [← zq]; exact same_upd (by assumption)); have kq := (congrFun zq _).symm.trans upd_same; clear zq))
local macro_rules | `(tactic| walk_at "bt") => `(tactic| (generalize zq : upd _ _ _ = Hq; have bq : But _ _ Hq := (by rw [← zq]; exact But.refl.upd); have kq := (congrFun zq _).symm.trans upd_same; clear zq))
local macro_rules | `(tactic| walk_at "use") => `(tactic| first | ((with_reducible refine' fd_Channel_number ?ho_ ?hv_ ?_); (case ho_ => first | assumption | exact upd_same); (case hv_ => exact rfl)) | ((with_reducible refine' fd_Channel_announced ?ho_ ?hv_ ?_); (case ho_ => first | assumption | exact upd_same); (case hv_ => exact rfl)) | ((with_reducible refine' fd_Channel_queue ?ho_ ?hv_ ?_); (case ho_ => first | assumption | exact upd_same); (case hv_ => exact rfl)) | ((with_reducible refine' fd_Channel_credit ?ho_ ?hv_ ?_); (case ho_ => first | assumption | exact upd_same); (case hv_ => exact rfl)) | ((with_reducible refine' fd_Channel_finished ?ho_ ?hv_ ?_); (case ho_ => first | assumption | exact upd_same); (case hv_ => exact rfl)) | ((with_reducible refine' fd_Channel_end_sent ?ho_ ?hv_ ?_); (case ho_ => first | assumption | exact upd_same); (case hv_ => exact rfl)) | ((with_reducible refine' fd_Channel_unread ?ho_ ?hv_ ?_); (case ho_ => first | assumption | exact upd_same); (case hv_ => exact rfl)) | ((with_reducible refine' fd_Channel_due ?ho_ ?hv_ ?_); (case ho_ => first | assumption | exact upd_same); (case hv_ => exact rfl)) | ((with_reducible refine' fd_Channel_end_came ?ho_ ?hv_ ?_); (case ho_ => first | assumption | exact upd_same); (case hv_ => exact rfl)) | ((with_reducible refine' fd_Channel_broken ?ho_ ?hv_ ?_); (case ho_ => first | assumption | exact upd_same); (case hv_ => exact rfl)) | ((with_reducible refine' fd_Channel_reset_told ?ho_ ?hv_ ?_); (case ho_ => first | assumption | exact upd_same); (case hv_ => exact rfl)) | ((with_reducible refine' nw_Channel_number ?ho_ ?hv_ ?_); (case ho_ => first | assumption | exact upd_same); (case hv_ => exact rfl)) | ((with_reducible refine' nw_Channel_announced ?ho_ ?hv_ ?_); (case ho_ => first | assumption | exact upd_same); (case hv_ => exact rfl)) | ((with_reducible refine' nw_Channel_queue ?ho_ ?hv_ ?_); (case ho_ => first | assumption | exact upd_same); (case hv_ => exact rfl)) | ((with_reducible refine' nw_Channel_credit ?ho_ ?hv_ ?_); (case ho_ => first | assumption | exact upd_same); (case hv_ => exact rfl)) | ((with_reducible refine' nw_Channel_finished ?ho_ ?hv_ ?_); (case ho_ => first | assumption | exact upd_same); (case hv_ => exact rfl)) | ((with_reducible refine' nw_Channel_end_sent ?ho_ ?hv_ ?_); (case ho_ => first | assumption | exact upd_same); (case hv_ => exact rfl)) | ((with_reducible refine' nw_Channel_unread ?ho_ ?hv_ ?_); (case ho_ => first | assumption | exact upd_same); (case hv_ => exact rfl)) | ((with_reducible refine' nw_Channel_due ?ho_ ?hv_ ?_); (case ho_ => first | assumption | exact upd_same); (case hv_ => exact rfl)) | ((with_reducible refine' nw_Channel_end_came ?ho_ ?hv_ ?_); (case ho_ => first | assumption | exact upd_same); (case hv_ => exact rfl)) | ((with_reducible refine' nw_Channel_broken ?ho_ ?hv_ ?_); (case ho_ => first | assumption | exact upd_same); (case hv_ => exact rfl)) | ((with_reducible refine' nw_Channel_reset_told ?ho_ ?hv_ ?_); (case ho_ => first | assumption | exact upd_same); (case hv_ => exact rfl)) | ((with_reducible refine' st_Channel_number ?ho_ ?hv_ ?_); (case ho_ => first | assumption | exact upd_same); (case hv_ => exact Nat.le_of_ble_eq_true rfl)) | ((with_reducible refine' st_Channel_announced ?ho_ ?hv_ ?_); (case ho_ => first | assumption | exact upd_same); (case hv_ => exact Nat.le_of_ble_eq_true rfl)) | ((with_reducible refine' st_Channel_queue ?ho_ ?hv_ ?_); (case ho_ => first | assumption | exact upd_same); (case hv_ => exact Nat.le_of_ble_eq_true rfl)) | ((with_reducible refine' st_Channel_credit ?ho_ ?hv_ ?_); (case ho_ => first | assumption | exact upd_same); (case hv_ => exact Nat.le_of_ble_eq_true rfl)) | ((with_reducible refine' st_Channel_finished ?ho_ ?hv_ ?_); (case ho_ => first | assumption | exact upd_same); (case hv_ => exact Nat.le_of_ble_eq_true rfl)) | ((with_reducible refine' st_Channel_end_sent ?ho_ ?hv_ ?_); (case ho_ => first | assumption | exact upd_same); (case hv_ => exact Nat.le_of_ble_eq_true rfl)) | ((with_reducible refine' st_Channel_unread ?ho_ ?hv_ ?_); (case ho_ => first | assumption | exact upd_same); (case hv_ => exact Nat.le_of_ble_eq_true rfl)) | ((with_reducible refine' st_Channel_due ?ho_ ?hv_ ?_); (case ho_ => first | assumption | exact upd_same); (case hv_ => exact Nat.le_of_ble_eq_true rfl)) | ((with_reducible refine' st_Channel_end_came ?ho_ ?hv_ ?_); (case ho_ => first | assumption | exact upd_same); (case hv_ => exact Nat.le_of_ble_eq_true rfl)) | ((with_reducible refine' st_Channel_broken ?ho_ ?hv_ ?_); (case ho_ => first | assumption | exact upd_same); (case hv_ => exact Nat.le_of_ble_eq_true rfl)) | ((with_reducible refine' st_Channel_reset_told ?ho_ ?hv_ ?_); (case ho_ => first | assumption | exact upd_same); (case hv_ => exact Nat.le_of_ble_eq_true rfl)) | ((with_reducible refine' me_Channel_break_off ?ho_ ?_); (case ho_ => first | assumption | exact upd_same)) | ((with_reducible refine' me_Channel_fork ?ho_ ?_); (case ho_ => first | assumption | exact upd_same)))
local macro_rules | `(tactic| walk_at "use") => `(tactic| first | ((with_reducible refine' fd_Channels_failure ?ho_ ?hv_ ?_); (case ho_ => first | assumption | exact upd_same); (case hv_ => exact rfl)) | ((with_reducible refine' fd_Channels__window ?ho_ ?hv_ ?_); (case ho_ => first | assumption | exact upd_same); (case hv_ => exact rfl)) | ((with_reducible refine' fd_Channels__most ?ho_ ?hv_ ?_); (case ho_ => first | assumption | exact upd_same); (case hv_ => exact rfl)) | ((with_reducible refine' fd_Channels__next_here ?ho_ ?hv_ ?_); (case ho_ => first | assumption | exact upd_same); (case hv_ => exact rfl)) | ((with_reducible refine' fd_Channels__next_there ?ho_ ?hv_ ?_); (case ho_ => first | assumption | exact upd_same); (case hv_ => exact rfl)) | ((with_reducible refine' fd_Channels__channels ?ho_ ?hv_ ?_); (case ho_ => first | assumption | exact upd_same); (case hv_ => exact rfl)) | ((with_reducible refine' fd_Channels__numbers ?ho_ ?hv_ ?_); (case ho_ => first | assumption | exact upd_same); (case hv_ => exact rfl)) | ((with_reducible refine' fd_Channels__turns ?ho_ ?hv_ ?_); (case ho_ => first | assumption | exact upd_same); (case hv_ => exact rfl)) | ((with_reducible refine' fd_Channels__offered ?ho_ ?hv_ ?_); (case ho_ => first | assumption | exact upd_same); (case hv_ => exact rfl)) | ((with_reducible refine' fd_Channels__going ?ho_ ?hv_ ?_); (case ho_ => first | assumption | exact upd_same); (case hv_ => exact rfl)) | ((with_reducible refine' fd_Channels__coming ?ho_ ?hv_ ?_); (case ho_ => first | assumption | exact upd_same); (case hv_ => exact rfl)) | ((with_reducible refine' nw_Channels_failure ?ho_ ?hv_ ?_); (case ho_ => first | assumption | exact upd_same); (case hv_ => exact rfl)) | ((with_reducible refine' nw_Channels__window ?ho_ ?hv_ ?_); (case ho_ => first | assumption | exact upd_same); (case hv_ => exact rfl)) | ((with_reducible refine' nw_Channels__most ?ho_ ?hv_ ?_); (case ho_ => first | assumption | exact upd_same); (case hv_ => exact rfl)) | ((with_reducible refine' nw_Channels__next_here ?ho_ ?hv_ ?_); (case ho_ => first | assumption | exact upd_same); (case hv_ => exact rfl)) | ((with_reducible refine' nw_Channels__next_there ?ho_ ?hv_ ?_); (case ho_ => first | assumption | exact upd_same); (case hv_ => exact rfl)) | ((with_reducible refine' nw_Channels__channels ?ho_ ?hv_ ?_); (case ho_ => first | assumption | exact upd_same); (case hv_ => exact rfl)) | ((with_reducible refine' nw_Channels__numbers ?ho_ ?hv_ ?_); (case ho_ => first | assumption | exact upd_same); (case hv_ => exact rfl)) | ((with_reducible refine' nw_Channels__turns ?ho_ ?hv_ ?_); (case ho_ => first | assumption | exact upd_same); (case hv_ => exact rfl)) | ((with_reducible refine' nw_Channels__offered ?ho_ ?hv_ ?_); (case ho_ => first | assumption | exact upd_same); (case hv_ => exact rfl)) | ((with_reducible refine' nw_Channels__going ?ho_ ?hv_ ?_); (case ho_ => first | assumption | exact upd_same); (case hv_ => exact rfl)) | ((with_reducible refine' nw_Channels__coming ?ho_ ?hv_ ?_); (case ho_ => first | assumption | exact upd_same); (case hv_ => exact rfl)) | ((with_reducible refine' st_Channels_failure ?ho_ ?hv_ ?_); (case ho_ => first | assumption | exact upd_same); (case hv_ => exact Nat.le_of_ble_eq_true rfl)) | ((with_reducible refine' st_Channels__window ?ho_ ?hv_ ?_); (case ho_ => first | assumption | exact upd_same); (case hv_ => exact Nat.le_of_ble_eq_true rfl)) | ((with_reducible refine' st_Channels__most ?ho_ ?hv_ ?_); (case ho_ => first | assumption | exact upd_same); (case hv_ => exact Nat.le_of_ble_eq_true rfl)) | ((with_reducible refine' st_Channels__next_here ?ho_ ?hv_ ?_); (case ho_ => first | assumption | exact upd_same); (case hv_ => exact Nat.le_of_ble_eq_true rfl)) | ((with_reducible refine' st_Channels__next_there ?ho_ ?hv_ ?_); (case ho_ => first | assumption | exact upd_same); (case hv_ => exact Nat.le_of_ble_eq_true rfl)) | ((with_reducible refine' st_Channels__channels ?ho_ ?hv_ ?_); (case ho_ => first | assumption | exact upd_same); (case hv_ => exact Nat.le_of_ble_eq_true rfl)) | ((with_reducible refine' st_Channels__numbers ?ho_ ?hv_ ?_); (case ho_ => first | assumption | exact upd_same); (case hv_ => exact Nat.le_of_ble_eq_true rfl)) | ((with_reducible refine' st_Channels__turns ?ho_ ?hv_ ?_); (case ho_ => first | assumption | exact upd_same); (case hv_ => exact Nat.le_of_ble_eq_true rfl)) | ((with_reducible refine' st_Channels__offered ?ho_ ?hv_ ?_); (case ho_ => first | assumption | exact upd_same); (case hv_ => exact Nat.le_of_ble_eq_true rfl)) | ((with_reducible refine' st_Channels__going ?ho_ ?hv_ ?_); (case ho_ => first | assumption | exact upd_same); (case hv_ => exact Nat.le_of_ble_eq_true rfl)) | ((with_reducible refine' st_Channels__coming ?ho_ ?hv_ ?_); (case ho_ => first | assumption | exact upd_same); (case hv_ => exact Nat.le_of_ble_eq_true rfl)) | ((with_reducible refine' me_Channels_len__ ?ho_ ?_); (case ho_ => first | assumption | exact upd_same)) | ((with_reducible refine' me_Channels_iter__ ?ho_ ?_); (case ho_ => first | assumption | exact upd_same)) | ((with_reducible refine' me_Channels_open_channel ?ho_ ?_); (case ho_ => first | assumption | exact upd_same)) | ((with_reducible refine' me_Channels_accept ?ho_ ?_); (case ho_ => first | assumption | exact upd_same)) | ((with_reducible refine' me_Channels_finish ?ho_ ?_); (case ho_ => first | assumption | exact upd_same)) | ((with_reducible refine' me_Channels_reset ?ho_ ?_); (case ho_ => first | assumption | exact upd_same)) | ((with_reducible refine' me_Channels_status ?ho_ ?_); (case ho_ => first | assumption | exact upd_same)) | ((with_reducible refine' me_Channels_take ?ho_ ?_); (case ho_ => first | assumption | exact upd_same)) | ((with_reducible refine' me_Channels_receive ?ho_ ?_); (case ho_ => first | assumption | exact upd_same)) | ((with_reducible refine' me_Channels_fork ?ho_ ?_); (case ho_ => first | assumption | exact upd_same)) | ((with_reducible refine' me_Channels_known ?ho_ ?_); (case ho_ => first | assumption | exact upd_same)) | ((with_reducible refine' me_Channels_add ?ho_ ?_); (case ho_ => first | assumption | exact upd_same)) | ((with_reducible refine' me_Channels_room_of ?ho_ ?_); (case ho_ => first | assumption | exact upd_same)) | ((with_reducible refine' me_Channels_take_frame ?ho_ ?_); (case ho_ => first | assumption | exact upd_same)) | ((with_reducible refine' me_Channels_failure_of ?ho_ ?_); (case ho_ => first | assumption | exact upd_same)) | ((with_reducible refine' me_Channels_apply ?ho_ ?_); (case ho_ => first | assumption | exact upd_same)))
section
variable {P : Program} {w : World} {K : PySem.W.Frag} {mg : Str → Option Value} {base : Heap}
local macro_rules | `(tactic| walk_at "use") => `(tactic| with_reducible first | refine g_rs0 ?_ | refine g_rs1 ?_ | refine g_tryA ?_ | refine g_tryO ?_ | refine g_callS ?_ | refine g_joined ?_ | refine g_jsnil ?_ | refine g_jscons ?_ | refine g_fmt ?_)
local macro_rules | `(tactic| walk_at "fit") => `(tactic| (refine fit2 ?_; (try simp only [PySem.Str.length_append]); omega))
local macro_rules | `(tactic| walk_at "use") => `(tactic| first | ((with_reducible refine' g_addS ?sd_ ?_); case sd_ => (first | omega | (simp only [PySem.Str.length_append]; omega))) | ((with_reducible refine' g_slS ?sd_ ?_); case sd_ => omega) | (with_reducible refine g_m0 ?_))

local macro_rules | `(tactic| walk_at "use") => `(tactic| with_reducible first | refine g_dgetI ?_ | refine g_dputI ?_ | refine g_dget1I ?_ | refine g_dget2I ?_ | refine g_dinI ?_ | refine g_dnotinI ?_ | refine g_dnewK ?_)

section
variable {K : PySem.W.Frag} {H : Hp} {Q : VK}
end
local macro_rules | `(tactic| walk_at "use") => `(tactic| with_reducible first | refine g_rEqS ?_ | refine g_rNeS ?_ | refine g_isiS ?_)

/-! an attribute among the targets of a tuple -/
section
variable {X : Cx} {K : PySem.W.Frag} {o : Expr} {ta : TE} {f : Str} {pos : Pos}
end
/-! `xs[i] += n` -/
section
variable {X : Cx}
end
local macro_rules | `(tactic| walk_at "use") => `(tactic| with_reducible first | refine g_augS ?_)
/-! `o.f += n` -/
section
variable {K : PySem.W.Frag} {f : Str}
end

local macro_rules | `(tactic| walk_at "use") => `(tactic| with_reducible refine g_makeK ?_)

local macro_rules | `(tactic| walk_at "use") => `(tactic| with_reducible first | refine g_par ?_ | refine g_cval ?_ | refine cvq_Channels_MOST_CHANNELS ?_)
def Cg.app (c : Cg) : Fr → Cg
  | .op _ => c
  | .oc _ os => { c with u := c.u ++ os, du := c.du - (os.length : Int) }
  | .pm _ n => { c with cr := c.cr + n }
  | .en _ => { c with ec := true }
  | .rs _ n => c.off (Str.ofString "there") n
theorem app_n {c : Cg} {f : Fr} : (c.app f).n = c.n := by cases f <;> rfl
/-- a frame whose list nobody owns -/
def FrF (own : Addr → Option Nat) (H : Hp) (t : Addr) : Fr → Prop
  | .oc c os => ∃ l, H t = some (.tup [.str "octets", .int c, .ref l]) ∧ H l = some (.lst (os.map V.int)) ∧ own l = none
  | f => FrO H t f
/-- the other side opens a channel -/
def Sd.opn (g : Sd) (k : Int) : Sd := ({ g with nt := g.nt + 2, os := g.os ++ [k] } : Sd).add (Cg.new k true)
/-- what a frame that is right does -/
def Sd.does (g : Sd) : Fr → Sd
  | .op k => g.opn k
  | f => match ixN? g.cs f.num with
    | none => g
    | some i => match g.cs[i]? with
      | none => g
      | some c => if c.br.isSome = true then g else g.put i (c.app f)
theorem Sd.does_at {g : Sd} {f : Fr} (nop : ∀ k, f ≠ .op k) {i : Nat} {c : Cg} (e : ixN? g.cs f.num = some i) (h : g.cs[i]? = some c) : g.does f = if c.br.isSome = true then g else g.put i (c.app f) := by
  cases f with
  | op k => exact absurd rfl (nop k)
  | _ => simp only [Sd.does, e, h]
def sp_Channels_apply (CS CC : Addr) : Sp := fun vs H Q _ => ∃ (own : Addr → Option Nat) (S : Sg) (x : Nat → Ca) (g : Sd) (t : Addr) (f : Fr), vs = [.ref S.p, .ref t] ∧ SgO CS CC own H S x g ∧ FrF own H t f ∧
  ((∃ k, f = .op k ∧ g.cs.length < 1000 ∧ g.ns.length < 1000 ∧ g.ts.length < 1000 ∧ g.os.length < 1000 ∧ (∀ d ∈ g.cs, d.n ≠ k) ∧ ∀ own' l x' H', (∀ b, H b ≠ none → own' b = own b) → SgO CS CC own' H' { S with nl := l } x' (g.opn k) → (∀ b o, own b = none → H b = some o → H' b = some o) → Q .non H') ∨
  (∀ k, f ≠ .op k) ∧ ∃ i c, ixN? g.cs f.num = some i ∧ g.cs[i]? = some c ∧ c.u.length ≤ 90000 ∧ (∀ k os, f = .oc k os → os.length ≤ 700) ∧ (c.br ≠ none → Q .non H) ∧
    (c.br = none → ∀ own' x' H', (∀ b, H b ≠ none → own' b = own b) → SgO CS CC own' H' S x' (g.put i (c.app f)) → (∀ b o, own b = none → H b = some o → H' b = some o) → Q .non H'))
theorem ok_Channels_apply (T : Txt P w K mg) : FnOk P w K mg base CX0 3 T.f_Channels_apply T.d_Channels_apply ["self", "frame"] (sp_Channels_apply T.C_Channels T.C_Channel) := by
  refine T.F_Channels_apply.ok sc_Channels_apply (fun vs H Q E h => ?_) (fun cdv A outer s H vs Q E hr h => ?_)
  · obtain ⟨own, S, x, g, t, f, rfl, O, hf0, q⟩ := h
    rfl
  · obtain ⟨own, S, x, g, t, f, rfl, O, hf0, q⟩ := h
    have hu := hu_of hr
    obtain ⟨gk_0, kb_0⟩ := kbt_0 T
    refine ⟨_, (pss_cons (ps_par (i := 2) (j := 3) rfl sc_Channels_apply.nd rfl rfl (by decide) rfl rfl (pa_cons (pe_ix ix_tup (pv 1) pe_int (fun _ _ => rfl)) (pa_cons (pe_ix ix_tup (pv 1) pe_int (fun _ _ => rfl)) pa_nil)) rfl)
        (pss_cons (ps_if (pt_cmpR op_eq (pv 2) pe_str (nomark _)) (pss_cons (ps_fldaug (pv 0) pe_int in_add)
        (pss_cons (ps_expr (pe_bm PySem.F.plainAttrs_list PySem.F.slot_list_append PySem.F.type_list_append mt_append (pe_fld (pv 0) rfl) (pa_cons (pv 3) pa_nil)))
        (pss_cons (ps_expr (pe_meth (pv 0) T.k_Channels T.a_Channels_add (ok_Channels_add T) (hr.mono (by decide)) T.b_Channels_add .nil pass0 (pa_cons (pe_makeK T.mk_Channel (ok_Channel_init__ T) (hr.mono (by decide)) rfl T.c_Channel kb_0 pass0 (pa_cons (pv 3) pa_nil) (pk_cons pe_bl pk_nil)) pa_nil)))
        (pss_one ps_retN)))) pss_nil)
        (pss_cons (ps_set (i := 4) sc_Channels_apply.nd rfl (Or.inl rfl) (pe_dget hu (pe_fld (pv 0) rfl) (pv 3) (fun _ _ => rfl)))
        (pss_cons (ps_if (pt_cmpR op_notN (pe_fld (pv 4) rfl) pe_non (nomark _)) (pss_one ps_retN) pss_nil)
        (pss_one (ps_if (pt_cmpR op_eq (pv 2) pe_str (nomark _)) (pss_cons (ps_expr (pe_bm PySem.F.plainAttrs_list PySem.F.slot_list_extend PySem.F.type_list_extend mt_extend (pe_fld (pv 4) rfl) (pa_cons (pe_ix ix_tup (pv 1) pe_int (fun _ _ => rfl)) pa_nil)))
        (pss_one (ps_fldaug (pv 4) (pe_callB call_len_seq (by rfl) T.n_len (by decide +kernel) (pa_cons (pe_ix ix_tup (pv 1) pe_int (fun _ _ => rfl)) pa_nil)) in_sub))) (pss_one (ps_if (pt_cmpR op_eq (pv 2) pe_str (nomark _)) (pss_one (ps_fldaug (pv 4) (pe_ix ix_tup (pv 1) pe_int (fun _ _ => rfl)) in_add)) (pss_one (ps_if (pt_cmpR op_eq (pv 2) pe_str (nomark _)) (pss_one (ps_fld (pv 4) pe_bl rfl)) (pss_one (ps_expr (pe_meth (pv 4) T.k_Channel T.a_Channel_break_off (ok_Channel_break_off T) (hr.mono (by decide)) T.b_Channel_break_off .nil pass0 (pa_cons pe_str (pa_cons (pe_ix ix_tup (pv 1) pe_int (fun _ _ => rfl)) pa_nil))))))))))))))), ?_⟩
    dsimp only [cxOf, Cx.nox, Cx.wish, L2.start, List.map, List.cons_append, List.nil_append, List.length_cons, List.length_nil, Nat.reduceAdd, Nat.reduceSub, Nat.zero_add, List.replicate_succ, List.replicate_zero]
    rcases q with ⟨k, rfl, lc, ln, lt, lo, nin, q⟩ | ⟨nop, i, c, ek, hi, lu, los, q1, q2⟩
    · have hf : H t = some (.tup [.str "open", .int k]) := hf0
      have O0 := O
      have eo0 : ∃ own', own' = own := ⟨own, rfl⟩
      obtain ⟨own1, eo, en, O⟩ := O.nrm
      have ho := O.ho
      walk_at "go"
      refine g_ixT (st hf) (at_of (j := 0) rfl rfl) ?_
      walk_at "go"
      refine g_ixT (st hf) (at_of (j := 1) rfl rfl) ?_
      walk_at "go"
      try refine ⟨_, _, rfl, ?_⟩
      simp only [List.set_cons_succ, List.set_cons_zero]
      walk_at "go"
      refine g_fldaug (i := 0) (j := 4) rfl ho T.k_Channels T.n_Channels__next_there nd_Channels rfl rfl ?_
      refine ⟨g.nt, 2, rfl, rfl, ?_⟩
      refine g_fldaugE (j := 4) ho nd_Channels (by show 11 < 1000; decide) rfl (by show 4 < 11; decide) ?_
      simp only [List.set_cons_succ, List.set_cons_zero]
      walk_at "bt"
      rename_i H1 b1 k1
      have O1 := O.top (fl' := g.fl) (nh' := g.nh) (nt' := g.nt + 2) b1 k1
      have hl1 := O1.hl
      walk_at "go"
      refine ⟨ty_l hl1, ?_⟩
      walk_at "go"
      refine g_append hl1 (szl (by rw [List.length_map]; show g.os.length < 100000; omega)) ?_
      walk_at "bt"
      rename_i H2 b2 k2
      have O2 := O1.setO (l' := g.os ++ [k]) b2 (by rw [k2, List.map_append]; rfl)
      have ho2 := O2.ho
      walk_at "go"
      refine ⟨rfl, rfl, fun y dy hy hdy hne => ?_⟩
      have s2 : Same H2 (upd (upd H2 dy (.own y)) y (.ins T.C_Channel dy [])) := (same_upd hdy).trans (same_upd (by rw [upd_ne hne.symm]; exact hy))
      refine ⟨y, dy, k, true, rfl, upd_same, fun lq lu H3 hq hu hqu b3 cO => ⟨rfl, ?_⟩⟩
      have fz : ∀ b, H2 b = none → H b = none := fun b e => b1.free k1 (b2.free k2 e)
      have b4 : ∀ b o, H2 b = some o → H3 b = some o := fun b o e => b3 _ _ (fun z => by rw [z, hy] at e; cases e) (s2 _ _ e)
      have O3 := O2.same b4
      have nop : S.ol ≠ S.p := ne_of O.hl ho (fun z => nomatch z)
      walk_at "go"
      refine ⟨own1, S, x, _, ⟨y, dy, lq, lu, .non⟩, Cg.new k true, rfl, O3, cO, en _ (fz _ hy), en _ (fz _ (free_same s2 hq)), en _ (fz _ (free_same s2 hu)), lc, ln, lt, nin, fun own' l H' e1 O' fr => ?_⟩
      walk_at "go"
      have nz : ∀ {b c : Addr}, H c = none → H b ≠ none → b ≠ c := fun h1 h2 z => h2 (z ▸ h1)
      have h13 : ∀ b, H b ≠ none → H3 b ≠ none := fun b h => by
        intro z
        refine h (fz b ?_)
        cases e : H2 b with
        | none => rfl
        | some o => rw [b4 _ _ e] at z; cases z
      refine q own' l _ H' (fun b hb => (e1 b (nz (fz _ hy) hb) (nz (fz _ (free_same s2 hq)) hb) (nz (fz _ (free_same s2 hu)) hb) (h13 b hb)).trans (eo b hb)) O' (fun b o h e => ?_)
      have hb : H b ≠ none := by rw [e]; exact nofun
      have ob : own1 b = none := (eo b hb).trans h
      exact fr b o ob (b4 _ _ (b2 _ _ (fun z => by rw [z, O.os.2.2.2.2.1] at ob; cases ob) (b1 _ _ (fun z => by rw [z, O.os.1] at ob; cases ob) e)))
    have ho := O.ho
    have hd := O.get f.num
    rw [ek] at hd
    obtain ⟨o1, o2, o3⟩ := O.oc i (ls_i hi)
    obtain ⟨hc, hq, hun, hne, hb⟩ := id (O.hx i c hi)
    have hb' := hb
    generalize hbv : (x i).b = b at hc hb'
    cases f with
    | op k => exact absurd rfl (nop k)
    | oc k os =>
      obtain ⟨l, hf, hl, ol⟩ := id hf0
      have hd : DGet H S.cd (.int k) (some (V.ref (x i).a)) := hd
      walk_at "go"
      refine g_ixT (st hf) (at_of (j := 0) rfl rfl) ?_
      walk_at "go"
      refine g_ixT (st hf) (at_of (j := 1) rfl rfl) ?_
      walk_at "go"
      try refine ⟨_, _, rfl, ?_⟩
      simp only [List.set_cons_succ, List.set_cons_zero]
      walk_at "go"
      refine ⟨S.cd, _, rfl, hd, ?_⟩
      cases hbr : c.br with
      | some p =>
          rw [hbr] at hb'
          obtain ⟨tt, rfl, ht⟩ := hb'
          walk_at "go"
          exact q1 (by rw [hbr]; exact nofun)
      | none =>
          rw [hbr] at hb'
          have hb2 : b = .non := hb'
          subst hb2
          have hc0 := (O.hx i c hi).1
          walk_at "go"
          refine ⟨ty_l hun, ?_⟩
          walk_at "go"
          refine g_ixT (st hf) (at_of (j := 2) rfl rfl) ?_
          walk_at "go"
          refine ⟨(x i).u, l, _, _, rfl, rfl, hun, hl, by rw [List.length_map, List.length_map]; have := los k os rfl; exact sz (by omega), ?_⟩
          rw [← List.map_append]
          walk_at "bt"
          rename_i H1 b1 k1
          have nua : (x i).a ≠ (x i).u := ne_of hc0 hun (fun z => nomatch z)
          have hc1 := b1 _ _ nua hc0
          have hf1 := b1 _ _ (ne_of hf hun (fun z => nomatch z)) hf
          have hl1 := b1 _ _ (fun z => by rw [z, o3] at ol; cases ol) hl
          walk_at "go"
          refine g_fldaug (i := 4) (j := 7) rfl hc1 T.k_Channel T.n_Channel_due nd_Channel rfl rfl ?_
          walk_at "go"
          refine g_ixT (st hf1) (at_of (j := 2) rfl rfl) ?_
          refine g_len (.inl (sl hl1)) ?_
          rw [List.length_map]
          walk_at "go"
          refine ⟨c.du, _, rfl, rfl, ?_⟩
          refine g_fldaugE (j := 7) hc1 nd_Channel (by show 11 < 1000; decide) rfl (by show 7 < 11; decide) ?_
          simp only [List.set_cons_succ, List.set_cons_zero]
          walk_at "bt"
          rename_i H2 b2 k2
          walk_at "go"
          have bb : ∀ b o, b ≠ (x i).a → b ≠ (x i).u → H b = some o → H2 b = some o := fun b o n1 n2 e => b2 _ _ n1 (b1 _ _ n2 e)
          have q3 := O.put (y := x i) (own' := own) (H' := H2) (c' := c.app (.oc k os)) hi rfl rfl ⟨by rw [k2]; rfl, bb _ _ (ne_of hq hc0 (fun z => nomatch z)) hne hq, b2 _ _ nua.symm k1, hne, hb.same fun tt o ⟨kk, z⟩ et => bb _ _ (ne_of et hc0 (by rw [z]; exact fun z => nomatch z)) (ne_of et hun (by rw [z]; exact fun z => nomatch z)) et⟩ (fun _ _ => rfl) ⟨o2, o3⟩ (fun b o h e => ?_)
          · rw [addX_self] at q3
            exact q2 hbr own x H2 (fun _ _ => rfl) q3 (fun b o h e => bb b o (fun z => by rw [z, o1] at h; cases h) (fun z => by rw [z, o3] at h; cases h) e)
          · rcases h with h | ⟨kk, h⟩
            · exact bb b o (fun z => h (z ▸ o1)) (fun z => h (z ▸ o3)) e
            · exact bb b o (ne_of e hc0 (by rw [h]; exact fun z => nomatch z)) (ne_of e hun (by rw [h]; exact fun z => nomatch z)) e
    | pm k n =>
      have hf : H t = some (.tup [.str "permit", .int k, .int n]) := hf0
      have hd : DGet H S.cd (.int k) (some (V.ref (x i).a)) := hd
      walk_at "go"
      refine g_ixT (st hf) (at_of (j := 0) rfl rfl) ?_
      walk_at "go"
      refine g_ixT (st hf) (at_of (j := 1) rfl rfl) ?_
      walk_at "go"
      try refine ⟨_, _, rfl, ?_⟩
      simp only [List.set_cons_succ, List.set_cons_zero]
      walk_at "go"
      refine ⟨S.cd, _, rfl, hd, ?_⟩
      cases hbr : c.br with
      | some p =>
          rw [hbr] at hb'
          obtain ⟨tt, rfl, ht⟩ := hb'
          walk_at "go"
          exact q1 (by rw [hbr]; exact nofun)
      | none =>
          rw [hbr] at hb'
          have hb2 : b = .non := hb'
          subst hb2
          have hc0 := (O.hx i c hi).1
          walk_at "go"
          refine g_fldaug (i := 4) (j := 3) rfl hc0 T.k_Channel T.n_Channel_credit nd_Channel rfl rfl ?_
          walk_at "go"
          refine g_ixT (st hf) (at_of (j := 2) rfl rfl) ?_
          refine ⟨c.cr, n, rfl, rfl, ?_⟩
          refine g_fldaugE (j := 3) hc0 nd_Channel (by show 11 < 1000; decide) rfl (by show 3 < 11; decide) ?_
          simp only [List.set_cons_succ, List.set_cons_zero]
          walk_at "go"
          refine q2 hbr own x _ (fun _ _ => rfl) (O.put1 (c' := c.app (.pm k n)) hi rfl o1 But.refl.upd hc0 (fun k z => nomatch z) ⟨by rw [upd_same]; rfl, ?_, ?_, hne, ?_⟩) (free_own o1 But.refl.upd)
          · rw [upd_ne (ne_of hq hc0 (fun z => nomatch z))]; exact hq
          · rw [upd_ne (ne_of hun hc0 (fun z => nomatch z))]; exact hun
          · exact hb.same fun tt o ⟨kk, z⟩ et => by rw [upd_ne (ne_of et hc0 (by rw [z]; exact fun z => nomatch z))]; exact et
    | en k =>
      have hf : H t = some (.tup [.str "end", .int k]) := hf0
      have hd : DGet H S.cd (.int k) (some (V.ref (x i).a)) := hd
      walk_at "go"
      refine g_ixT (st hf) (at_of (j := 0) rfl rfl) ?_
      walk_at "go"
      refine g_ixT (st hf) (at_of (j := 1) rfl rfl) ?_
      walk_at "go"
      try refine ⟨_, _, rfl, ?_⟩
      simp only [List.set_cons_succ, List.set_cons_zero]
      walk_at "go"
      refine ⟨S.cd, _, rfl, hd, ?_⟩
      cases hbr : c.br with
      | some p =>
          rw [hbr] at hb'
          obtain ⟨tt, rfl, ht⟩ := hb'
          walk_at "go"
          exact q1 (by rw [hbr]; exact nofun)
      | none =>
          rw [hbr] at hb'
          have hb2 : b = .non := hb'
          subst hb2
          have hc0 := (O.hx i c hi).1
          walk_at "go"
          simp only [List.set_cons_succ, List.set_cons_zero]
          refine q2 hbr own x _ (fun _ _ => rfl) (O.put1 (c' := c.app (.en k)) hi rfl o1 But.refl.upd hc0 (fun k z => nomatch z) ⟨by rw [upd_same]; rfl, ?_, ?_, hne, ?_⟩) (free_own o1 But.refl.upd)
          · rw [upd_ne (ne_of hq hc0 (fun z => nomatch z))]; exact hq
          · rw [upd_ne (ne_of hun hc0 (fun z => nomatch z))]; exact hun
          · exact hb.same fun tt o ⟨kk, z⟩ et => by rw [upd_ne (ne_of et hc0 (by rw [z]; exact fun z => nomatch z))]; exact et
    | rs k n =>
      have hf : H t = some (.tup [.str "reset", .int k, .int n]) := hf0
      have hd : DGet H S.cd (.int k) (some (V.ref (x i).a)) := hd
      walk_at "go"
      refine g_ixT (st hf) (at_of (j := 0) rfl rfl) ?_
      walk_at "go"
      refine g_ixT (st hf) (at_of (j := 1) rfl rfl) ?_
      walk_at "go"
      try refine ⟨_, _, rfl, ?_⟩
      simp only [List.set_cons_succ, List.set_cons_zero]
      walk_at "go"
      refine ⟨S.cd, _, rfl, hd, ?_⟩
      cases hbr : c.br with
      | some p =>
          rw [hbr] at hb'
          obtain ⟨tt, rfl, ht⟩ := hb'
          walk_at "go"
          exact q1 (by rw [hbr]; exact nofun)
      | none =>
          rw [hbr] at hb'
          have hb2 : b = .non := hb'
          subst hb2
          have hc0 := (O.hx i c hi).1
          walk_at "go"
          refine g_ixT (st hf) (at_of (j := 2) rfl rfl) ?_
          walk_at "go"
          refine ⟨x i, c, Str.ofString "there", n, rfl, O.hx i _ hi, fun tb l1 l2 H' ht hl1 hl2 k' hc' => ?_⟩
          walk_at "go"
          have ex : ∀ b, H b ≠ none → b ≠ l1 ∧ b ≠ l2 := fun b hb => ⟨fun z => hb (z ▸ hl1), fun z => hb (z ▸ hl2)⟩
          refine q2 hbr (fun b => if b = l1 ∨ b = l2 then some (i + 1) else own b) _ H' (fun b hb => if_neg (by obtain ⟨z1, z2⟩ := ex b hb; exact fun z => z.elim z1 z2)) (O.put (y := ⟨(x i).a, (x i).dx, l1, l2, .ref tb⟩) (c' := c.off (Str.ofString "there") n) hi rfl rfl hc' (fun b hb => if_neg (by obtain ⟨z1, z2⟩ := ex b hb; exact fun z => z.elim z1 z2)) ⟨if_pos (.inl rfl), if_pos (.inr rfl)⟩ (fun b o h e => ?_)) (free_own o1 k')
          refine k' b o (fun z => ?_) e
          rcases h with h | ⟨kk, h⟩
          · exact h (z ▸ o1)
          · rw [z, (O.hx i _ hi).1] at e
            injection e with e
            rw [h] at e
            cases e

end
end My
namespace My
open PySem PySem.Spec L2
local macro_rules | `(tactic| walk_at "side") => `(tactic| first | assumption | decide | omega | exact ⟨by decide, by decide⟩ | exact ⟨by decide, by decide, by decide⟩ | decide +kernel | exact cdivW (by decide +kernel) (by decide +kernel) | exact Or.inl ⟨by omega, by omega⟩ | exact Or.inr ⟨by omega, by omega⟩ | (simp only [List.length_map, List.length_cons, List.length_nil, List.length_append]; omega))
local macro_rules | `(tactic| walk_at "fact") => `(tactic| first | assumption | omega | with_reducible rfl)
local macro_rules | `(tactic| walk_at "use") => `(tactic| fail "use")
local macro_rules | `(tactic| walk_at "go1") => `(tactic| with_reducible first | refine g_seq ?_ | refine g_asg ?_ | refine g_ret ?_ | refine g_ifS ?_ | refine g_drop ?_ | refine g_star ?_ | refine g_nx ?_ | refine g_rt ?_ | refine g_bkE ?_ | refine g_ctE ?_ | refine g_next ?_ | refine g_retN ?_ | refine g_brk ?_ | refine g_ct ?_ | refine g_c ?_ | refine g_op ?_ | refine g_un ?_ | refine g_rI0 ?_ | refine g_rU ?_ | refine g_rEqI ?_ | refine g_rNeI ?_ | refine g_isN ?_ | refine g_rIsB ?_ | refine g_rNotB ?_ | refine g_test ?_ | refine g_B ?_ | refine g_bl ?_ | refine g_and ?_ | refine g_or ?_ | refine g_not ?_ | refine g_andV ?_ | refine g_orV ?_ | refine g_notV ?_ | refine g_if ?_ | refine g_chain ?_ | refine g_yes ?_ | refine g_lc ?_ | refine g_revR ?_ | refine g_rng1 ?_ | refine g_iList ?_ | refine g_nil ?_ | refine g_cons ?_ | refine g_tup ?_ | refine g_lst ?_ | refine g_call ?_ | refine g_CB ?_ | refine g_sl ?_ | refine g_noPart ?_ | refine g_part ?_ | refine g_intE ?_ | refine g_ref ?_ | refine g_fld ?_ | refine g_sfld ?_ | refine g_meth ?_ | refine g_make ?_ | refine g_prop ?_  | refine g_ipI ?_ | refine g_int1 ?_ | refine g_int1B ?_ | refine g_one ?_ | refine g_two ?_ | refine g_isiI ?_ | refine g_isiIB ?_ | refine g_isiB ?_ | refine g_BM ?_ | refine g_BM0 ?_ | refine g_sub ?_)
local macro_rules | `(tactic| walk_at "go") => `(tactic| repeat (first | walk_at "go1" | ((with_reducible refine' g_nameE ?sd_ ?_); case sd_ => dsimp only [List.set_cons_succ, List.set_cons_zero]) | ((with_reducible refine' g_var ?sd_ ?_); case sd_ => exact rfl) | ((with_reducible refine' g_aug ?sd_ ?_); case sd_ => exact rfl) | ((with_reducible refine' g_rI ?sd_ ?_); case sd_ => walk_at "side") | ((with_reducible refine' g_dT ?sd_ ?_); case sd_ => walk_at "fact") | ((with_reducible refine' g_dF ?sd_ ?_); case sd_ => walk_at "fact") | ((with_reducible refine' g_nT ?sd_ ?_); case sd_ => walk_at "fact") | ((with_reducible refine' g_nF ?sd_ ?_); case sd_ => walk_at "fact") | (with_reducible refine g_iT rfl ?_) | (with_reducible refine g_iF rfl ?_) | walk_at "use"))
local macro_rules | `(tactic| walk_at "nw") => `(tactic| (generalize zq : upd _ _ _ = Hq; have sq : Same _ Hq := (by rw [← zq]; exact same_upd (by assumption)); have kq := (congrFun zq _).symm.trans upd_same; clear zq))
local macro_rules | `(tactic| walk_at "bt") => `(tactic| (generalize zq : upd _ _ _ = Hq; have bq : But _ _ Hq := (by rw [← zq]; exact But.refl.upd); have kq := (congrFun zq _).symm.trans upd_same; clear zq))
local macro_rules | `(tactic| walk_at "use") => `(tactic| first | ((with_reducible refine' fd_Channel_number ?ho_ ?hv_ ?_); (case ho_ => first | assumption | exact upd_same); (case hv_ => exact rfl)) | ((with_reducible refine' fd_Channel_announced ?ho_ ?hv_ ?_); (case ho_ => first | assumption | exact upd_same); (case hv_ => exact rfl)) | ((with_reducible refine' fd_Channel_queue ?ho_ ?hv_ ?_); (case ho_ => first | assumption | exact upd_same); (case hv_ => exact rfl)) | ((with_reducible refine' fd_Channel_credit ?ho_ ?hv_ ?_); (case ho_ => first | assumption | exact upd_same); (case hv_ => exact rfl)) | ((with_reducible refine' fd_Channel_finished ?ho_ ?hv_ ?_); (case ho_ => first | assumption | exact upd_same); (case hv_ => exact rfl)) | ((with_reducible refine' fd_Channel_end_sent ?ho_ ?hv_ ?_); (case ho_ => first | assumption | exact upd_same); (case hv_ => exact rfl)) | ((with_reducible refine' fd_Channel_unread ?ho_ ?hv_ ?_); (case ho_ => first | assumption | exact upd_same); (case hv_ => exact rfl)) | ((with_reducible refine' fd_Channel_due ?ho_ ?hv_ ?_); (case ho_ => first | assumption | exact upd_same); (case hv_ => exact rfl)) | ((with_reducible refine' fd_Channel_end_came ?ho_ ?hv_ ?_); (case ho_ => first | assumption | exact upd_same); (case hv_ => exact rfl)) | ((with_reducible refine' fd_Channel_broken ?ho_ ?hv_ ?_); (case ho_ => first | assumption | exact upd_same); (case hv_ => exact rfl)) | ((with_reducible refine' fd_Channel_reset_told ?ho_ ?hv_ ?_); (case ho_ => first | assumption | exact upd_same); (case hv_ => exact rfl)) | ((with_reducible refine' nw_Channel_number ?ho_ ?hv_ ?_); (case ho_ => first | assumption | exact upd_same); (case hv_ => exact rfl)) | ((with_reducible refine' nw_Channel_announced ?ho_ ?hv_ ?_); (case ho_ => first | assumption | exact upd_same); (case hv_ => exact rfl)) | ((with_reducible refine' nw_Channel_queue ?ho_ ?hv_ ?_); (case ho_ => first | assumption | exact upd_same); (case hv_ => exact rfl)) | ((with_reducible refine' nw_Channel_credit ?ho_ ?hv_ ?_); (case ho_ => first | assumption | exact upd_same); (case hv_ => exact rfl)) | ((with_reducible refine' nw_Channel_finished ?ho_ ?hv_ ?_); (case ho_ => first | assumption | exact upd_same); (case hv_ => exact rfl)) | ((with_reducible refine' nw_Channel_end_sent ?ho_ ?hv_ ?_); (case ho_ => first | assumption | exact upd_same); (case hv_ => exact rfl)) | ((with_reducible refine' nw_Channel_unread ?ho_ ?hv_ ?_); (case ho_ => first | assumption | exact upd_same); (case hv_ => exact rfl)) | ((with_reducible refine' nw_Channel_due ?ho_ ?hv_ ?_); (case ho_ => first | assumption | exact upd_same); (case hv_ => exact rfl)) | ((with_reducible refine' nw_Channel_end_came ?ho_ ?hv_ ?_); (case ho_ => first | assumption | exact upd_same); (case hv_ => exact rfl)) | ((with_reducible refine' nw_Channel_broken ?ho_ ?hv_ ?_); (case ho_ => first | assumption | exact upd_same); (case hv_ => exact rfl)) | ((with_reducible refine' nw_Channel_reset_told ?ho_ ?hv_ ?_); (case ho_ => first | assumption | exact upd_same); (case hv_ => exact rfl)) | ((with_reducible refine' st_Channel_number ?ho_ ?hv_ ?_); (case ho_ => first | assumption | exact upd_same); (case hv_ => exact Nat.le_of_ble_eq_true rfl)) | ((with_reducible refine' st_Channel_announced ?ho_ ?hv_ ?_); (case ho_ => first | assumption | exact upd_same); (case hv_ => exact Nat.le_of_ble_eq_true rfl)) | ((with_reducible refine' st_Channel_queue ?ho_ ?hv_ ?_); (case ho_ => first | assumption | exact upd_same); (case hv_ => exact Nat.le_of_ble_eq_true rfl)) | ((with_reducible refine' st_Channel_credit ?ho_ ?hv_ ?_); (case ho_ => first | assumption | exact upd_same); (case hv_ => exact Nat.le_of_ble_eq_true rfl)) | ((with_reducible refine' st_Channel_finished ?ho_ ?hv_ ?_); (case ho_ => first | assumption | exact upd_same); (case hv_ => exact Nat.le_of_ble_eq_true rfl)) | ((with_reducible refine' st_Channel_end_sent ?ho_ ?hv_ ?_); (case ho_ => first | assumption | exact upd_same); (case hv_ => exact Nat.le_of_ble_eq_true rfl)) | ((with_reducible refine' st_Channel_unread ?ho_ ?hv_ ?_); (case ho_ => first | assumption | exact upd_same); (case hv_ => exact Nat.le_of_ble_eq_true rfl)) | ((with_reducible refine' st_Channel_due ?ho_ ?hv_ ?_); (case ho_ => first | assumption | exact upd_same); (case hv_ => exact Nat.le_of_ble_eq_true rfl)) | ((with_reducible refine' st_Channel_end_came ?ho_ ?hv_ ?_); (case ho_ => first | assumption | exact upd_same); (case hv_ => exact Nat.le_of_ble_eq_true rfl)) | ((with_reducible refine' st_Channel_broken ?ho_ ?hv_ ?_); (case ho_ => first | assumption | exact upd_same); (case hv_ => exact Nat.le_of_ble_eq_true rfl)) | ((with_reducible refine' st_Channel_reset_told ?ho_ ?hv_ ?_); (case ho_ => first | assumption | exact upd_same); (case hv_ => exact Nat.le_of_ble_eq_true rfl)) | ((with_reducible refine' me_Channel_break_off ?ho_ ?_); (case ho_ => first | assumption | exact upd_same)) | ((with_reducible refine' me_Channel_fork ?ho_ ?_); (case ho_ => first | assumption | exact upd_same)))
local macro_rules | `(tactic| walk_at "use") => `(tactic| first | ((with_reducible refine' fd_Channels_failure ?ho_ ?hv_ ?_); (case ho_ => first | assumption | exact upd_same); (case hv_ => exact rfl)) | ((with_reducible refine' fd_Channels__window ?ho_ ?hv_ ?_); (case ho_ => first | assumption | exact upd_same); (case hv_ => exact rfl)) | ((with_reducible refine' fd_Channels__most ?ho_ ?hv_ ?_); (case ho_ => first | assumption | exact upd_same); (case hv_ => exact rfl)) | ((with_reducible refine' fd_Channels__next_here ?ho_ ?hv_ ?_); (case ho_ => first | assumption | exact upd_same); (case hv_ => exact rfl)) | ((with_reducible refine' fd_Channels__next_there ?ho_ ?hv_ ?_); (case ho_ => first | assumption | exact upd_same); (case hv_ => exact rfl)) | ((with_reducible refine' fd_Channels__channels ?ho_ ?hv_ ?_); (case ho_ => first | assumption | exact upd_same); (case hv_ => exact rfl)) | ((with_reducible refine' fd_Channels__numbers ?ho_ ?hv_ ?_); (case ho_ => first | assumption | exact upd_same); (case hv_ => exact rfl)) | ((with_reducible refine' fd_Channels__turns ?ho_ ?hv_ ?_); (case ho_ => first | assumption | exact upd_same); (case hv_ => exact rfl)) | ((with_reducible refine' fd_Channels__offered ?ho_ ?hv_ ?_); (case ho_ => first | assumption | exact upd_same); (case hv_ => exact rfl)) | ((with_reducible refine' fd_Channels__going ?ho_ ?hv_ ?_); (case ho_ => first | assumption | exact upd_same); (case hv_ => exact rfl)) | ((with_reducible refine' fd_Channels__coming ?ho_ ?hv_ ?_); (case ho_ => first | assumption | exact upd_same); (case hv_ => exact rfl)) | ((with_reducible refine' nw_Channels_failure ?ho_ ?hv_ ?_); (case ho_ => first | assumption | exact upd_same); (case hv_ => exact rfl)) | ((with_reducible refine' nw_Channels__window ?ho_ ?hv_ ?_); (case ho_ => first | assumption | exact upd_same); (case hv_ => exact rfl)) | ((with_reducible refine' nw_Channels__most ?ho_ ?hv_ ?_); (case ho_ => first | assumption | exact upd_same); (case hv_ => exact rfl)) | ((with_reducible refine' nw_Channels__next_here ?ho_ ?hv_ ?_); (case ho_ => first | assumption | exact upd_same); (case hv_ => exact rfl)) | ((with_reducible refine' nw_Channels__next_there ?ho_ ?hv_ ?_); (case ho_ => first | assumption | exact upd_same); (case hv_ => exact rfl)) | ((with_reducible refine' nw_Channels__channels ?ho_ ?hv_ ?_); (case ho_ => first | assumption | exact upd_same); (case hv_ => exact rfl)) | ((with_reducible refine' nw_Channels__numbers ?ho_ ?hv_ ?_); (case ho_ => first | assumption | exact upd_same); (case hv_ => exact rfl)) | ((with_reducible refine' nw_Channels__turns ?ho_ ?hv_ ?_); (case ho_ => first | assumption | exact upd_same); (case hv_ => exact rfl)) | ((with_reducible refine' nw_Channels__offered ?ho_ ?hv_ ?_); (case ho_ => first | assumption | exact upd_same); (case hv_ => exact rfl)) | ((with_reducible refine' nw_Channels__going ?ho_ ?hv_ ?_); (case ho_ => first | assumption | exact upd_same); (case hv_ => exact rfl)) | ((with_reducible refine' nw_Channels__coming ?ho_ ?hv_ ?_); (case ho_ => first | assumption | exact upd_same); (case hv_ => exact rfl)) | ((with_reducible refine' st_Channels_failure ?ho_ ?hv_ ?_); (case ho_ => first | assumption | exact upd_same); (case hv_ => exact Nat.le_of_ble_eq_true rfl)) | ((with_reducible refine' st_Channels__window ?ho_ ?hv_ ?_); (case ho_ => first | assumption | exact upd_same); (case hv_ => exact Nat.le_of_ble_eq_true rfl)) | ((with_reducible refine' st_Channels__most ?ho_ ?hv_ ?_); (case ho_ => first | assumption | exact upd_same); (case hv_ => exact Nat.le_of_ble_eq_true rfl)) | ((with_reducible refine' st_Channels__next_here ?ho_ ?hv_ ?_); (case ho_ => first | assumption | exact upd_same); (case hv_ => exact Nat.le_of_ble_eq_true rfl)) | ((with_reducible refine' st_Channels__next_there ?ho_ ?hv_ ?_); (case ho_ => first | assumption | exact upd_same); (case hv_ => exact Nat.le_of_ble_eq_true rfl)) | ((with_reducible refine' st_Channels__channels ?ho_ ?hv_ ?_); (case ho_ => first | assumption | exact upd_same); (case hv_ => exact Nat.le_of_ble_eq_true rfl)) | ((with_reducible refine' st_Channels__numbers ?ho_ ?hv_ ?_); (case ho_ => first | assumption | exact upd_same); (case hv_ => exact Nat.le_of_ble_eq_true rfl)) | ((with_reducible refine' st_Channels__turns ?ho_ ?hv_ ?_); (case ho_ => first | assumption | exact upd_same); (case hv_ => exact Nat.le_of_ble_eq_true rfl)) | ((with_reducible refine' st_Channels__offered ?ho_ ?hv_ ?_); (case ho_ => first | assumption | exact upd_same); (case hv_ => exact Nat.le_of_ble_eq_true rfl)) | ((with_reducible refine' st_Channels__going ?ho_ ?hv_ ?_); (case ho_ => first | assumption | exact upd_same); (case hv_ => exact Nat.le_of_ble_eq_true rfl)) | ((with_reducible refine' st_Channels__coming ?ho_ ?hv_ ?_); (case ho_ => first | assumption | exact upd_same); (case hv_ => exact Nat.le_of_ble_eq_true rfl)) | ((with_reducible refine' me_Channels_len__ ?ho_ ?_); (case ho_ => first | assumption | exact upd_same)) | ((with_reducible refine' me_Channels_iter__ ?ho_ ?_); (case ho_ => first | assumption | exact upd_same)) | ((with_reducible refine' me_Channels_open_channel ?ho_ ?_); (case ho_ => first | assumption | exact upd_same)) | ((with_reducible refine' me_Channels_accept ?ho_ ?_); (case ho_ => first | assumption | exact upd_same)) | ((with_reducible refine' me_Channels_finish ?ho_ ?_); (case ho_ => first | assumption | exact upd_same)) | ((with_reducible refine' me_Channels_reset ?ho_ ?_); (case ho_ => first | assumption | exact upd_same)) | ((with_reducible refine' me_Channels_status ?ho_ ?_); (case ho_ => first | assumption | exact upd_same)) | ((with_reducible refine' me_Channels_take ?ho_ ?_); (case ho_ => first | assumption | exact upd_same)) | ((with_reducible refine' me_Channels_receive ?ho_ ?_); (case ho_ => first | assumption | exact upd_same)) | ((with_reducible refine' me_Channels_fork ?ho_ ?_); (case ho_ => first | assumption | exact upd_same)) | ((with_reducible refine' me_Channels_known ?ho_ ?_); (case ho_ => first | assumption | exact upd_same)) | ((with_reducible refine' me_Channels_add ?ho_ ?_); (case ho_ => first | assumption | exact upd_same)) | ((with_reducible refine' me_Channels_room_of ?ho_ ?_); (case ho_ => first | assumption | exact upd_same)) | ((with_reducible refine' me_Channels_take_frame ?ho_ ?_); (case ho_ => first | assumption | exact upd_same)) | ((with_reducible refine' me_Channels_failure_of ?ho_ ?_); (case ho_ => first | assumption | exact upd_same)) | ((with_reducible refine' me_Channels_apply ?ho_ ?_); (case ho_ => first | assumption | exact upd_same)))
section
variable {P : Program} {w : World} {K : PySem.W.Frag} {mg : Str → Option Value} {base : Heap}
local macro_rules | `(tactic| walk_at "use") => `(tactic| with_reducible first | refine g_rs0 ?_ | refine g_rs1 ?_ | refine g_tryA ?_ | refine g_tryO ?_ | refine g_callS ?_ | refine g_joined ?_ | refine g_jsnil ?_ | refine g_jscons ?_ | refine g_fmt ?_)
local macro_rules | `(tactic| walk_at "fit") => `(tactic| (refine fit2 ?_; (try simp only [PySem.Str.length_append]); omega))
local macro_rules | `(tactic| walk_at "use") => `(tactic| first | ((with_reducible refine' g_addS ?sd_ ?_); case sd_ => (first | omega | (simp only [PySem.Str.length_append]; omega))) | ((with_reducible refine' g_slS ?sd_ ?_); case sd_ => omega) | (with_reducible refine g_m0 ?_))

section
variable {K : PySem.W.Frag} {H : Hp} {Q : VK}
end
local macro_rules | `(tactic| walk_at "use") => `(tactic| with_reducible first | refine g_rEqS ?_ | refine g_rNeS ?_ | refine g_isiS ?_)

theorem g_gtup {K : PySem.W.Frag} {n : Nat} {t : List V → St → Hp → (St → Hp → Prop) → Prop} {a : Addr} {xs : List V} {σ : St} {H : Hp} {Q : St → Hp → Prop} (h : SqT K H a xs) (l : xs.length = n) (q : t xs σ H Q) : gTup K n t (.ref a) σ H Q := ⟨a, xs, rfl, h, l, q⟩
theorem g_gcons {t : TG} {u : List V → St → Hp → (St → Hp → Prop) → Prop} {v : V} {r : List V} {σ : St} {H : Hp} {Q : St → Hp → Prop} (h : t v σ H fun σ' H' => u r σ' H' Q) : gCons t u (v :: r) σ H Q := ⟨v, r, rfl, h⟩
theorem g_gnil {σ : St} {H : Hp} {Q : St → Hp → Prop} (q : Q σ H) : gNil [] σ H Q := ⟨rfl, q⟩
local macro_rules | `(tactic| walk_at "use") => `(tactic| with_reducible first | refine g_gcons ?_ | refine g_gnil ?_)

local macro_rules | `(tactic| walk_at "use") => `(tactic| with_reducible first | refine g_delS ?_)
/-! ### frames that come (k51) -/
/-- what nobody owns stays, and nobody takes it -/
def Fm (own own' : Addr → Option Nat) (H H' : Hp) : Prop := ∀ b o, own b = none → H b = some o → own' b = none ∧ H' b = some o
theorem Fm.trans {o1 o2 o3 : Addr → Option Nat} {H1 H2 H3 : Hp} (a : Fm o1 o2 H1 H2) (b : Fm o2 o3 H2 H3) : Fm o1 o3 H1 H3 := fun c o e h => b c o (a c o e h).1 (a c o e h).2
theorem Fm.same {own : Addr → Option Nat} {H H' : Hp} (s : Same H H') : Fm own own H H' := fun b o e h => ⟨e, s b o h⟩
theorem Fm.free {own : Addr → Option Nat} {H H' : Hp} (s : ∀ b o, own b = none → H b = some o → H' b = some o) : Fm own own H H' := fun b o e h => ⟨e, s b o e h⟩
theorem Fm.own {own own' : Addr → Option Nat} {H H' : Hp} (e : ∀ b, H b ≠ none → own' b = own b) (s : ∀ b o, own b = none → H b = some o → H' b = some o) : Fm own own' H H' := fun b o z h => ⟨(e b (by rw [h]; exact nofun)).trans z, s b o z h⟩
def Part (bs : List Int) : Prop := bs.length < 3 ∨ ∃ f, FOk f ∧ ∃ j, j < (tlF f).length ∧ bs = kdF f :: chF f / 256 % 256 :: chF f % 256 :: (tlF f).take j
def Unk (bs : List Int) : Prop := ∃ b r, bs = b :: r ∧ 2 ≤ r.length ∧ 0 ≤ b ∧ b < 256 ∧ b ∉ ([1, 2, 3, 4, 5] : List Int)
def GOk (g : Sd) (f : Fr) : Prop := g.cs.length < 1000 ∧ g.ns.length < 1000 ∧ g.ts.length < 1000 ∧ g.os.length < 1000 ∧ (∀ k, f = .op k → ∀ d ∈ g.cs, d.n ≠ k) ∧ ∀ i c, ixN? g.cs f.num = some i → g.cs[i]? = some c → c.u.length ≤ 90000
inductive Rcv : Sd → List Int → Sd → Prop
  | part {g : Sd} {bs : List Int} : Part bs → Rcv g bs { g with co := bs }
  | unk {g : Sd} {bs : List Int} : Unk bs → Rcv g bs { g with fl := some (Str.ofString "unknown kind"), co := bs }
  | bad {g : Sd} {f : Fr} {r : List Int} {s : Str} : FOk f → g.bad f = some s → Rcv g (enc f ++ r) { g with fl := some s, co := enc f ++ r }
  | step {g g' : Sd} {f : Fr} {r : List Int} : FOk f → g.bad f = none → GOk g f → Rcv (g.does f) r g' → Rcv g (enc f ++ r) g'
theorem does_keep {g : Sd} {f : Fr} : (g.does f).co = g.co ∧ (g.does f).fl = g.fl ∧ (g.does f).w = g.w ∧ (g.does f).m = g.m ∧ (g.does f).go = g.go ∧ (g.does f).nh = g.nh := by
  cases f with
  | op k => exact ⟨rfl, rfl, rfl, rfl, rfl, rfl⟩
  | _ =>
    unfold Sd.does
    dsimp only
    split
    · exact ⟨rfl, rfl, rfl, rfl, rfl, rfl⟩
    · split
      · exact ⟨rfl, rfl, rfl, rfl, rfl, rfl⟩
      · split
        · exact ⟨rfl, rfl, rfl, rfl, rfl, rfl⟩
        · exact ⟨rfl, rfl, rfl, rfl, rfl, rfl⟩
theorem bad_ix {g : Sd} {f : Fr} (nop : ∀ k, f ≠ .op k) (h : g.bad f = none) : ∃ i c, ixN? g.cs f.num = some i ∧ g.cs[i]? = some c := by
  have : ∀ {α : Type} {o : Option α}, o = none ∨ ∃ x, o = some x := fun {α o} => by
    cases o with
    | none => exact .inl rfl
    | some x => exact .inr ⟨x, rfl⟩
  rcases this (o := ixN? g.cs f.num) with e | ⟨i, e⟩
  · cases f with
    | op k => exact absurd rfl (nop k)
    | _ => simp only [Sd.bad, e] at h; cases h
  · obtain ⟨c, hc, _⟩ := ixN_some e
    exact ⟨i, c, e, hc⟩
theorem FrN.toF {own : Addr → Option Nat} {H H1 H3 : Hp} {u : Addr} {f : Fr} (h : FrN H H1 u f) (en : ∀ b, H b = none → own b = none) (kt : ∀ b kk, H1 b = some (HO.tup kk) → H3 b = some (HO.tup kk)) (kf : ∀ b o, own b = none → H1 b = some o → H3 b = some o) : FrF own H3 u f := by
  cases f with
  | oc c os =>
    obtain ⟨l, h0, h1, h2⟩ := h
    exact ⟨l, kt _ _ h1, kf _ _ (en l h0) h2, en l h0⟩
  | _ => exact kt _ _ h
def sp_Channels_take_frame (K : PySem.W.Frag) (CS CC : Addr) : Sp := fun vs H Q _ => ∃ (own : Addr → Option Nat) (S : Sg) (x : Nat → Ca) (g : Sd) (pre bs : List Int), vs = [.ref S.p, .int (pre.length : Int)] ∧ SgO CS CC own H S x g ∧ g.co = pre ++ bs ∧ g.fl = none ∧
  ((Part bs ∧ ∀ H', Same H H' → Q .non H') ∨ (Unk bs ∧ ∀ own' H', SgO CS CC own' H' S x { g with fl := some (Str.ofString "unknown kind") } → Fm own own' H H' → Q .non H') ∨
   ∃ f r, FOk f ∧ bs = enc f ++ r ∧ ((∃ s, g.bad f = some s ∧ ∀ own' H', SgO CS CC own' H' S x { g with fl := some s } → Fm own own' H H' → Q .non H') ∨
    (g.bad f = none ∧ GOk g f ∧ ∀ own' S' x' H', S'.p = S.p → SgO CS CC own' H' S' x' (g.does f) → Fm own own' H H' → Q (.int ((enc f).length : Nat)) H')))
theorem ok_Channels_take_frame (T : Txt P w K mg) : FnOk P w K mg base CX0 4 T.f_Channels_take_frame T.d_Channels_take_frame ["self", "at"] (sp_Channels_take_frame K T.C_Channels T.C_Channel) := by
  refine T.F_Channels_take_frame.ok sc_Channels_take_frame (fun vs H Q E h => ?_) (fun cdv A outer s H vs Q E hr h => ?_)
  · obtain ⟨own0, S, x, g, pre, bs, rfl, O0, eco, efl, q⟩ := h
    rfl
  · obtain ⟨own0, S, x, g, pre, bs, rfl, O0, eco, efl, q⟩ := h
    have hu := hu_of hr
    refine ⟨_, (pss_cons (ps_tryO rfl rfl ⟨rfl, by decide, .inl T.c_InvalidFrame⟩ takes0 (fun W pn xe tk po_ => (pss_one (ps_set (i := 2) sc_Channels_take_frame.nd rfl (Or.inl rfl) (pe_callS (ok_frame_at T) (hr.mono (by decide)) rfl T.m_frame_at T.F_frame_at.kp T.b_frame_at (fun σ => passAt tk σ) (pa_cons (show PE _ _ (tFld K _ _) from pe_fld (pv 0) rfl) (pa_cons (pv 1) pa_nil)))))) (fun a oe cls d pn hz_ hf_ => (pss_cons (show PS _ _ (sFld K _ _ _) from ps_fld (pv 0) pe_str rfl)
        (pss_one (ps_ret pe_non)))))
        (pss_cons (ps_if (pt_cmpR op_isN (pv 2) pe_non (nomark _)) (pss_one (ps_ret pe_non)) pss_nil)
        (pss_cons (ps_asg (pv 2) (pg_tup rfl (pgs_cons (pg_name (i := 3) sc_Channels_take_frame.nd rfl (Or.inl rfl)) (pgs_cons (pg_name (i := 4) sc_Channels_take_frame.nd rfl (Or.inl rfl)) pgs_nil))))
        (pss_cons (ps_fld (pv 0) (pe_meth (pv 0) T.k_Channels T.a_Channels_failure_of (ok_Channels_failure_of T) (hr.mono (by decide)) T.b_Channels_failure_of .nil pass0 (pa_cons (pv 3) pa_nil)) rfl)
        (pss_cons (ps_if (pt_cmpR op_notN (pe_fld (pv 0) rfl) pe_non (nomark _)) (pss_one (ps_ret pe_non)) pss_nil)
        (pss_cons (ps_expr (pe_meth (pv 0) T.k_Channels T.a_Channels_apply (ok_Channels_apply T) (hr.mono (by decide)) T.b_Channels_apply .nil pass0 (pa_cons (pv 3) pa_nil)))
        (pss_one (ps_ret (pv 4))))))))), ?_⟩
    dsimp only [cxOf, Cx.nox, Cx.wish, L2.start, List.map, List.cons_append, List.nil_append, List.length_cons, List.length_nil, Nat.reduceAdd, Nat.reduceSub, Nat.zero_add, List.replicate_succ, List.replicate_zero]
    obtain ⟨own, eo, en, O⟩ := O0.nrm
    have e0 : ∀ {ow H'}, Fm own ow H H' → Fm own0 ow H H' := fun h b o z y => h b o ((eo b (by rw [y]; exact nofun)).trans z) y
    have ho := O.ho
    have hc := O.hc
    rw [eco] at hc
    walk_at "go"
    refine ⟨S.cl, pre, bs, rfl, sl hc, ?_⟩
    rcases q with ⟨hp, q⟩ | ⟨⟨b, r, e, l2, b0, b1, nb⟩, q⟩ | ⟨f, r, ok, e, q⟩
    · rcases hp with h | ⟨f, ok, j, hj, e⟩
      · refine .inl ⟨h, ?_⟩
        walk_at "go"
        exact q _ (fun _ _ e => e)
      · refine .inr (.inr ⟨f, ok, _, e, .inl ⟨j, hj, rfl, fun H1 s1 => ?_⟩⟩)
        walk_at "go"
        exact q _ s1
    · refine .inr (.inl ⟨b, r, e, l2, b0, b1, nb, fun H1 s1 => ?_⟩)
      refine g_caughtO T.em_InvalidFrame_InvalidFrame fun e he => ?_
      have ho1 := s1 _ _ ho
      walk_at "go"
      simp only [List.set_cons_succ, List.set_cons_zero]
      walk_at "bt"
      rename_i H2 b2 k2
      walk_at "go"
      exact q own _ ((O.same s1).top b2 k2) (e0 ((Fm.same s1).trans (Fm.free (free_own O.os.1 b2))))
    · refine .inr (.inr ⟨f, ok, tlF f ++ r, by rw [e, enc_eq]; rfl, .inr ⟨r, rfl, fun t u H1 nt s1 e1 o1 => ?_⟩⟩)
      walk_at "go"
      refine g_gtup (st e1) rfl ?_
      walk_at "go"
      have O1 := O.same s1
      have ho1 := O1.ho
      walk_at "go"
      refine ⟨own, S, x, g, u, f, rfl, O1, o1.toO, fun H2 s2 => ?_⟩
      have O2 := O1.same s2
      have ho2 := O2.ho
      walk_at "go"
      simp only [List.set_cons_succ, List.set_cons_zero]
      walk_at "bt"
      rename_i H3 b3 k3
      have O3 := O2.top (fl' := g.bad f) (nh' := g.nh) (nt' := g.nt) b3 k3
      have f3 : Fm own own H H3 := (Fm.same (s1.trans s2)).trans (Fm.free (free_own O.os.1 b3))
      rcases q with ⟨s, eb, q⟩ | ⟨eb, gk, q⟩
      · rw [eb] at O3 k3
        have ho3 := O3.ho
        walk_at "go"
        refine g_nT (by rw [eb]; exact nofun) ?_
        walk_at "go"
        exact q own _ O3 (e0 f3)
      · rw [eb] at O3 k3
        have ho3 := O3.ho
        have O3 : SgO T.C_Channels T.C_Channel own H3 S x g := by
          rw [← efl] at O3
          exact O3
        walk_at "go"
        refine g_nF (by rw [eb]; rfl) ?_
        walk_at "go"
        have kt : ∀ b kk, H1 b = some (HO.tup kk) → H3 b = some (HO.tup kk) := fun b kk e => b3 _ _ (ne_of (s2 _ _ e) O2.ho (fun z => nomatch z)) (s2 _ _ e)
        have kf : ∀ b o, own b = none → H1 b = some o → H3 b = some o := fun b o z e => b3 _ _ (fun y => by rw [y, O.os.1] at z; cases z) (s2 _ _ e)
        refine ⟨own, S, x, g, u, f, rfl, O3, o1.toF en kt kf, ?_⟩
        by_cases hop : ∃ k, f = .op k
        · obtain ⟨k, rfl⟩ := hop
          refine .inl ⟨k, rfl, gk.1, gk.2.1, gk.2.2.1, gk.2.2.2.1, gk.2.2.2.2.1 k rfl, fun own' l x' H4 e4 O4 fr4 => ?_⟩
          walk_at "go"
          exact q own' { S with nl := l } x' H4 rfl O4 (e0 (f3.trans (Fm.own e4 fr4)))
        · have nop : ∀ k, f ≠ .op k := fun k e => hop ⟨k, e⟩
          obtain ⟨i, c, ei, hi⟩ := bad_ix nop eb
          have ed := Sd.does_at nop ei hi
          refine .inr ⟨nop, i, c, ei, hi, gk.2.2.2.2.2 i c ei hi, fun k os e => (by subst e; exact ok.2), fun hbr => ?_, fun hbr own' x' H4 e4 O4 fr4 => ?_⟩
          · rw [if_pos (by cases z : c.br with
              | none => exact absurd z hbr
              | some p => rfl)] at ed
            rw [ed] at q
            walk_at "go"
            exact q own S x H3 rfl O3 (e0 f3)
          · rw [if_neg (by rw [hbr]; exact Bool.false_ne_true)] at ed
            rw [ed] at q
            walk_at "go"
            exact q own' S x' H4 rfl O4 (e0 (f3.trans (Fm.own e4 fr4)))
/-- one frame, or what stands before the end -/
theorem u_tf {CS CC : Addr} {own : Addr → Option Nat} {S : Sg} {x : Nat → Ca} {g g' : Sd} {pre bs : List Int} {H : Hp} {Q : VK} {E : XK} (O : SgO CS CC own H S x g) (eco : g.co = pre ++ bs) (efl : g.fl = none) (R : Rcv g bs g')
    (qA : ∀ own' S' x' g2 H', S'.p = S.p → SgO CS CC own' H' S' x' g2 → g2.co = pre ++ bs → g' = { g2 with co := bs } → Fm own own' H H' → Q .non H')
    (qB : ∀ own' S' x' g2 H' mid r, S'.p = S.p → SgO CS CC own' H' S' x' g2 → g2.co = pre ++ mid ++ r → g2.fl = none → Rcv g2 r g' → r.length < bs.length → Fm own own' H H' → Q (.int (mid.length : Nat)) H') : sp_Channels_take_frame K CS CC ([.ref S.p, .int (pre.length : Int)]) H Q E := by
  refine ⟨own, S, x, g, pre, bs, rfl, O, eco, efl, ?_⟩
  cases R with
  | part h => exact .inl ⟨h, fun H' s => qA own S x g H' rfl (O.same s) eco rfl (Fm.same s)⟩
  | unk h => exact .inr (.inl ⟨h, fun own' H' O' f => qA own' S x _ H' rfl O' eco rfl f⟩)
  | bad ok e => exact .inr (.inr ⟨_, _, ok, rfl, .inl ⟨_, e, fun own' H' O' f => qA own' S x _ H' rfl O' eco rfl f⟩⟩)
  | step ok e gk R => exact .inr (.inr ⟨_, _, ok, rfl, .inr ⟨e, gk, fun own' S' x' H' es O' f => qB own' S' x' _ H' _ _ es O' (by rw [does_keep.1, eco, List.append_assoc]) (by rw [does_keep.2.1]; exact efl) R (by rw [List.length_append]; have := (enc_len ok).1; omega) f⟩⟩)
def sp_Channels_receive (K : PySem.W.Frag) (CS CC : Addr) : Sp := fun vs H Q _ => ∃ (own : Addr → Option Nat) (S : Sg) (x : Nat → Ca) (g : Sd) (l : Addr) (bs : List Int), vs = [.ref S.p, .ref l] ∧ SgO CS CC own H S x g ∧ SqL K H l (bs.map V.int) ∧ g.co.length + bs.length ≤ 90000 ∧
  ((g.fl ≠ none ∧ Q .non H) ∨ (g.fl = none ∧ ∃ g', Rcv { g with co := g.co ++ bs } (g.co ++ bs) g' ∧ ∀ own' S' x' H', S'.p = S.p → SgO CS CC own' H' S' x' g' → Fm own own' H H' → Q .non H'))
theorem ok_Channels_receive (T : Txt P w K mg) : FnOk P w K mg base CX0 5 T.f_Channels_receive T.d_Channels_receive ["self", "octets"] (sp_Channels_receive K T.C_Channels T.C_Channel) := by
  refine T.F_Channels_receive.ok sc_Channels_receive (fun vs H Q E h => ?_) (fun cdv A outer s H vs Q E hr h => ?_)
  · obtain ⟨own, S, x, g, l, bs, rfl, O, hl, le, q⟩ := h
    rfl
  · obtain ⟨own, S, x, g, l, bs, rfl, O, hl, le, q⟩ := h
    have hu := hu_of hr
    refine ⟨_, (pss_cons (ps_if (pt_cmpR op_notN (pe_fld (pv 0) rfl) pe_non (nomark _)) (pss_one ps_retN) pss_nil)
        (pss_cons (ps_expr (pe_bm PySem.F.plainAttrs_list PySem.F.slot_list_extend PySem.F.type_list_extend mt_extend (pe_fld (pv 0) rfl) (pa_cons (pe_callTy call_list_of (by rfl) T.n_list (by decide +kernel) (pa_cons (pv 1) pa_nil)) pa_nil)))
        (pss_cons (ps_set (i := 2) sc_Channels_receive.nd rfl (Or.inl rfl) pe_int)
        (C8.pss_cut (ps_set (i := 3) sc_Channels_receive.nd rfl (Or.inl rfl) (pe_meth (pv 0) T.k_Channels T.a_Channels_take_frame (ok_Channels_take_frame T) (hr.mono (by decide)) T.b_Channels_take_frame .nil pass0 (pa_cons (pv 2) pa_nil)))
        (pss_cons (ps_while PassesOwn.never (pt_cmpR op_notN (pv 3) pe_non (nomark _)) (pss_cons (ps_aug (i := 2) sc_Channels_receive.nd rfl (Or.inl rfl) (pv 3) ip_add)
        (pss_one (ps_set (i := 3) sc_Channels_receive.nd rfl (Or.inl rfl) (pe_meth (pv 0) T.k_Channels T.a_Channels_take_frame (ok_Channels_take_frame T) (hr.mono (by decide)) T.b_Channels_take_frame .nil pass0 (pa_cons (pv 2) pa_nil))))))
        (pss_one (ps_delS (pe_fld (pv 0) rfl) (pv 2)))))))), ?_⟩
    dsimp only [cxOf, Cx.nox, Cx.wish, L2.start, List.map, List.cons_append, List.nil_append, List.length_cons, List.length_nil, Nat.reduceAdd, Nat.reduceSub, Nat.zero_add, List.replicate_succ, List.replicate_zero]
    have ho := O.ho
    rcases q with ⟨efl, q⟩ | ⟨efl, g', R, q⟩
    · walk_at "go"
      refine g_nT (by
        cases z : g.fl with
        | none => exact absurd z efl
        | some s => exact nofun) ?_
      walk_at "go"
      exact q
    · walk_at "go"
      refine g_nF (by rw [efl]; rfl) ?_
      walk_at "go"
      refine ⟨ty_l O.hc, ?_⟩
      walk_at "go"
      refine ⟨l, _, rfl, .inl hl, fun l3 hl3 => ?_⟩
      walk_at "nw"
      rename_i H1 s1 k1
      have O1 := O.same s1
      have ho1 := O1.ho
      have hc1 := O1.hc
      walk_at "go"
      refine ⟨S.cl, l3, _, _, rfl, rfl, hc1, k1, by rw [List.length_map, List.length_map]; exact sz (by omega), ?_⟩
      rw [← List.map_append]
      walk_at "bt"
      rename_i H2 b2 k2
      have O2 := O1.setC b2 k2
      have ho2 := O2.ho
      have f2 : Fm own own H H2 := (Fm.same s1).trans (Fm.free (free_own O.os.2.2.2.2.2.2 b2))
      obtain ⟨W, eW⟩ : ∃ W : Nat → St → Hp → Prop, W = fun m σ H3 => ∃ own' S' x' g2 n v, S'.p = S.p ∧ σ = [some (.ref S.p), some (.ref l), some (.int n), some v] ∧ SgO T.C_Channels T.C_Channel own' H3 S' x' g2 ∧ Fm own own' H H3 ∧
        ((v = .non ∧ ∃ pre bs : List Int, n = (pre.length : Int) ∧ g2.co = pre ++ bs ∧ g' = { g2 with co := bs }) ∨ (∃ pre mid r : List Int, m = r.length + 1 ∧ v = .int (mid.length : Nat) ∧ n = (pre.length : Int) ∧ g2.co = pre ++ mid ++ r ∧ g2.fl = none ∧ Rcv g2 r g')) := ⟨_, rfl⟩
      have W1 : ∀ {m σ H3}, W m σ H3 → ∃ own' S' x' g2 n v, S'.p = S.p ∧ σ = [some (.ref S.p), some (.ref l), some (.int n), some v] ∧ SgO T.C_Channels T.C_Channel own' H3 S' x' g2 ∧ Fm own own' H H3 ∧
        ((v = .non ∧ ∃ pre bs : List Int, n = (pre.length : Int) ∧ g2.co = pre ++ bs ∧ g' = { g2 with co := bs }) ∨ (∃ pre mid r : List Int, m = r.length + 1 ∧ v = .int (mid.length : Nat) ∧ n = (pre.length : Int) ∧ g2.co = pre ++ mid ++ r ∧ g2.fl = none ∧ Rcv g2 r g')) := fun h => by rw [eW] at h; exact h
      have WA : ∀ {own' : Addr → Option Nat} {S' : Sg} {x' : Nat → Ca} {g2 : Sd} {pre bs : List Int} {H3 : Hp} (m : Nat) (n : Int), n = (pre.length : Int) → S'.p = S.p → SgO T.C_Channels T.C_Channel own' H3 S' x' g2 → g2.co = pre ++ bs → g' = { g2 with co := bs } → Fm own own' H H3 → W m [some (.ref S.p), some (.ref l), some (.int n), some .non] H3 := fun m n en e O ec eg f => by
        rw [eW]
        exact ⟨_, _, _, _, _, _, e, rfl, O, f, .inl ⟨rfl, _, _, en, ec, eg⟩⟩
      have WB : ∀ {own' : Addr → Option Nat} {S' : Sg} {x' : Nat → Ca} {g2 : Sd} {pre mid r : List Int} {H3 : Hp} (n : Int), n = (pre.length : Int) → S'.p = S.p → SgO T.C_Channels T.C_Channel own' H3 S' x' g2 → g2.co = pre ++ mid ++ r → g2.fl = none → Rcv g2 r g' → Fm own own' H H3 → W (r.length + 1) [some (.ref S.p), some (.ref l), some (.int n), some (.int (mid.length : Nat))] H3 := fun n en e O ec ef R f => by
        rw [eW]
        exact ⟨_, _, _, _, _, _, e, rfl, O, f, .inr ⟨_, _, _, rfl, rfl, en, ec, ef, R⟩⟩
      clear eW
      refine g_cut (fun σ H3 => ∃ m, W m σ H3) ?_ ?_
      · walk_at "go"
        refine u_tf (pre := []) (bs := g.co ++ bs) O2 rfl efl R (fun own' S' x' g2 H3 es O3 ec eg f3 => ?_) (fun own' S' x' g2 H3 mid r es O3 ec ef R3 lr f3 => ?_)
        · walk_at "go"
          exact ⟨_, WA 0 0 rfl es O3 ec eg (f2.trans f3)⟩
        · walk_at "go"
          exact ⟨_, WB 0 rfl es O3 ec ef R3 (f2.trans f3)⟩
      · rintro σ H3 ⟨m0, w0⟩
        walk_at "go"
        refine g_while W ⟨m0, w0⟩ ?_
        rintro m σ H4 w4
        obtain ⟨own4, S4, x4, g4, n, v, es, rfl, O4, f4, h⟩ := W1 w4
        have ho4 := O4.ho
        rw [es] at ho4
        rcases h with ⟨rfl, pre, r, en, ec, eg⟩ | ⟨pre, mid, r, em, rfl, en, ec, ef, R4⟩
        · have hc4 := O4.hc
          subst en
          walk_at "go"
          refine g_delE (c := (pre.length : Int)) hc4 (by omega) ?_
          rw [Int.toNat_natCast, ← List.map_drop, ec, List.drop_left]
          walk_at "bt"
          rename_i H5 b5 k5
          have O5 := O4.setC b5 k5
          walk_at "go"
          rw [← eg] at O5
          exact q own4 S4 x4 H5 es O5 (f4.trans (Fm.free (free_own O4.os.2.2.2.2.2.2 b5)))
        · subst en
          walk_at "go"
          refine ⟨fun σ5 H5 => ∃ m', m' < m ∧ W m' σ5 H5, fun _ _ h => h, ?_⟩
          walk_at "go"
          have el : (pre.length : Int) + ((mid.length : Nat) : Int) = ((pre ++ mid).length : Nat) := by rw [List.length_append]; omega
          rw [el, ← es]
          refine u_tf (pre := pre ++ mid) (bs := r) O4 ec ef R4 (fun own' S' x' g2 H5 es5 O5 ec5 eg5 f5 => ?_) (fun own' S' x' g2 H5 mid5 r5 es5 O5 ec5 ef5 R5 lr f5 => ?_)
          · walk_at "go"
            rw [es]
            exact ⟨0, by omega, WA 0 _ rfl (es5.trans es) O5 ec5 eg5 (f4.trans f5)⟩
          · walk_at "go"
            rw [es]
            exact ⟨_, by omega, WB _ rfl (es5.trans es) O5 ec5 ef5 R5 (f4.trans f5)⟩

end
end My
namespace My
open PySem PySem.Spec L2
local macro_rules | `(tactic| walk_at "side") => `(tactic| first | assumption | decide | omega | exact ⟨by decide, by decide⟩ | exact ⟨by decide, by decide, by decide⟩ | decide +kernel | exact cdivW (by decide +kernel) (by decide +kernel) | exact Or.inl ⟨by omega, by omega⟩ | exact Or.inr ⟨by omega, by omega⟩ | (simp only [List.length_map, List.length_cons, List.length_nil, List.length_append]; omega))
local macro_rules | `(tactic| walk_at "fact") => `(tactic| first | assumption | omega | with_reducible rfl)
local macro_rules | `(tactic| walk_at "use") => `(tactic| fail "use")
local macro_rules | `(tactic| walk_at "go1") => `(tactic| with_reducible first | refine g_seq ?_ | refine g_asg ?_ | refine g_ret ?_ | refine g_ifS ?_ | refine g_drop ?_ | refine g_star ?_ | refine g_nx ?_ | refine g_rt ?_ | refine g_bkE ?_ | refine g_ctE ?_ | refine g_next ?_ | refine g_retN ?_ | refine g_brk ?_ | refine g_ct ?_ | refine g_c ?_ | refine g_op ?_ | refine g_un ?_ | refine g_rI0 ?_ | refine g_rU ?_ | refine g_rEqI ?_ | refine g_rNeI ?_ | refine g_isN ?_ | refine g_rIsB ?_ | refine g_rNotB ?_ | refine g_test ?_ | refine g_B ?_ | refine g_bl ?_ | refine g_and ?_ | refine g_or ?_ | refine g_not ?_ | refine g_andV ?_ | refine g_orV ?_ | refine g_notV ?_ | refine g_if ?_ | refine g_chain ?_ | refine g_yes ?_ | refine g_lc ?_ | refine g_revR ?_ | refine g_rng1 ?_ | refine g_iList ?_ | refine g_nil ?_ | refine g_cons ?_ | refine g_tup ?_ | refine g_lst ?_ | refine g_call ?_ | refine g_CB ?_ | refine g_sl ?_ | refine g_noPart ?_ | refine g_part ?_ | refine g_intE ?_ | refine g_ref ?_ | refine g_fld ?_ | refine g_sfld ?_ | refine g_meth ?_ | refine g_make ?_ | refine g_prop ?_  | refine g_ipI ?_ | refine g_int1 ?_ | refine g_int1B ?_ | refine g_one ?_ | refine g_two ?_ | refine g_isiI ?_ | refine g_isiIB ?_ | refine g_isiB ?_ | refine g_BM ?_ | refine g_BM0 ?_ | refine g_sub ?_)
local macro_rules | `(tactic| walk_at "go") => `(tactic| repeat (first | walk_at "go1" | ((with_reducible refine' g_nameE ?sd_ ?_); case sd_ => dsimp only [List.set_cons_succ, List.set_cons_zero]) | ((with_reducible refine' g_var ?sd_ ?_); case sd_ => exact rfl) | ((with_reducible refine' g_aug ?sd_ ?_); case sd_ => exact rfl) | ((with_reducible refine' g_rI ?sd_ ?_); case sd_ => walk_at "side") | ((with_reducible refine' g_dT ?sd_ ?_); case sd_ => walk_at "fact") | ((with_reducible refine' g_dF ?sd_ ?_); case sd_ => walk_at "fact") | ((with_reducible refine' g_nT ?sd_ ?_); case sd_ => walk_at "fact") | ((with_reducible refine' g_nF ?sd_ ?_); case sd_ => walk_at "fact") | (with_reducible refine g_iT rfl ?_) | (with_reducible refine g_iF rfl ?_) | walk_at "use"))
local macro_rules | `(tactic| walk_at "nw") => `(tactic| (generalize zq : upd _ _ _ = Hq; have sq : Same _ Hq := (by rw [← zq]; exact same_upd (by assumption)); have kq := (congrFun zq _).symm.trans upd_same; clear zq))
local macro_rules | `(tactic| walk_at "bt") => `(tactic| (generalize zq : upd _ _ _ = Hq; have bq : But _ _ Hq := (by rw [← zq]; exact But.refl.upd); have kq := (congrFun zq _).symm.trans upd_same; clear zq))
local macro_rules | `(tactic| walk_at "use") => `(tactic| first | ((with_reducible refine' fd_Channel_number ?ho_ ?hv_ ?_); (case ho_ => first | assumption | exact upd_same); (case hv_ => exact rfl)) | ((with_reducible refine' fd_Channel_announced ?ho_ ?hv_ ?_); (case ho_ => first | assumption | exact upd_same); (case hv_ => exact rfl)) | ((with_reducible refine' fd_Channel_queue ?ho_ ?hv_ ?_); (case ho_ => first | assumption | exact upd_same); (case hv_ => exact rfl)) | ((with_reducible refine' fd_Channel_credit ?ho_ ?hv_ ?_); (case ho_ => first | assumption | exact upd_same); (case hv_ => exact rfl)) | ((with_reducible refine' fd_Channel_finished ?ho_ ?hv_ ?_); (case ho_ => first | assumption | exact upd_same); (case hv_ => exact rfl)) | ((with_reducible refine' fd_Channel_end_sent ?ho_ ?hv_ ?_); (case ho_ => first | assumption | exact upd_same); (case hv_ => exact rfl)) | ((with_reducible refine' fd_Channel_unread ?ho_ ?hv_ ?_); (case ho_ => first | assumption | exact upd_same); (case hv_ => exact rfl)) | ((with_reducible refine' fd_Channel_due ?ho_ ?hv_ ?_); (case ho_ => first | assumption | exact upd_same); (case hv_ => exact rfl)) | ((with_reducible refine' fd_Channel_end_came ?ho_ ?hv_ ?_); (case ho_ => first | assumption | exact upd_same); (case hv_ => exact rfl)) | ((with_reducible refine' fd_Channel_broken ?ho_ ?hv_ ?_); (case ho_ => first | assumption | exact upd_same); (case hv_ => exact rfl)) | ((with_reducible refine' fd_Channel_reset_told ?ho_ ?hv_ ?_); (case ho_ => first | assumption | exact upd_same); (case hv_ => exact rfl)) | ((with_reducible refine' nw_Channel_number ?ho_ ?hv_ ?_); (case ho_ => first | assumption | exact upd_same); (case hv_ => exact rfl)) | ((with_reducible refine' nw_Channel_announced ?ho_ ?hv_ ?_); (case ho_ => first | assumption | exact upd_same); (case hv_ => exact rfl)) | ((with_reducible refine' nw_Channel_queue ?ho_ ?hv_ ?_); (case ho_ => first | assumption | exact upd_same); (case hv_ => exact rfl)) | ((with_reducible refine' nw_Channel_credit ?ho_ ?hv_ ?_); (case ho_ => first | assumption | exact upd_same); (case hv_ => exact rfl)) | ((with_reducible refine' nw_Channel_finished ?ho_ ?hv_ ?_); (case ho_ => first | assumption | exact upd_same); (case hv_ => exact rfl)) | ((with_reducible refine' nw_Channel_end_sent ?ho_ ?hv_ ?_); (case ho_ => first | assumption | exact upd_same); (case hv_ => exact rfl)) | ((with_reducible refine' nw_Channel_unread ?ho_ ?hv_ ?_); (case ho_ => first | assumption | exact upd_same); (case hv_ => exact rfl)) | ((with_reducible refine' nw_Channel_due ?ho_ ?hv_ ?_); (case ho_ => first | assumption | exact upd_same); (case hv_ => exact rfl)) | ((with_reducible refine' nw_Channel_end_came ?ho_ ?hv_ ?_); (case ho_ => first | assumption | exact upd_same); (case hv_ => exact rfl)) | ((with_reducible refine' nw_Channel_broken ?ho_ ?hv_ ?_); (case ho_ => first | assumption | exact upd_same); (case hv_ => exact rfl)) | ((with_reducible refine' nw_Channel_reset_told ?ho_ ?hv_ ?_); (case ho_ => first | assumption | exact upd_same); (case hv_ => exact rfl)) | ((with_reducible refine' st_Channel_number ?ho_ ?hv_ ?_); (case ho_ => first | assumption | exact upd_same); (case hv_ => exact Nat.le_of_ble_eq_true rfl)) | ((with_reducible refine' st_Channel_announced ?ho_ ?hv_ ?_); (case ho_ => first | assumption | exact upd_same); (case hv_ => exact Nat.le_of_ble_eq_true rfl)) | ((with_reducible refine' st_Channel_queue ?ho_ ?hv_ ?_); (case ho_ => first | assumption | exact upd_same); (case hv_ => exact Nat.le_of_ble_eq_true rfl)) | ((with_reducible refine' st_Channel_credit ?ho_ ?hv_ ?_); (case ho_ => first | assumption | exact upd_same); (case hv_ => exact Nat.le_of_ble_eq_true rfl)) | ((with_reducible refine' st_Channel_finished ?ho_ ?hv_ ?_); (case ho_ => first | assumption | exact upd_same); (case hv_ => exact Nat.le_of_ble_eq_true rfl)) | ((with_reducible refine' st_Channel_end_sent ?ho_ ?hv_ ?_); (case ho_ => first | assumption | exact upd_same); (case hv_ => exact Nat.le_of_ble_eq_true rfl)) | ((with_reducible refine' st_Channel_unread ?ho_ ?hv_ ?_); (case ho_ => first | assumption | exact upd_same); (case hv_ => exact Nat.le_of_ble_eq_true rfl)) | ((with_reducible refine' st_Channel_due ?ho_ ?hv_ ?_); (case ho_ => first | assumption | exact upd_same); (case hv_ => exact Nat.le_of_ble_eq_true rfl)) | ((with_reducible refine' st_Channel_end_came ?ho_ ?hv_ ?_); (case ho_ => first | assumption | exact upd_same); (case hv_ => exact Nat.le_of_ble_eq_true rfl)) | ((with_reducible refine' st_Channel_broken ?ho_ ?hv_ ?_); (case ho_ => first | assumption | exact upd_same); (case hv_ => exact Nat.le_of_ble_eq_true rfl)) | ((with_reducible refine' st_Channel_reset_told ?ho_ ?hv_ ?_); (case ho_ => first | assumption | exact upd_same); (case hv_ => exact Nat.le_of_ble_eq_true rfl)) | ((with_reducible refine' me_Channel_break_off ?ho_ ?_); (case ho_ => first | assumption | exact upd_same)) | ((with_reducible refine' me_Channel_fork ?ho_ ?_); (case ho_ => first | assumption | exact upd_same)))
local macro_rules | `(tactic| walk_at "use") => `(tactic| first | ((with_reducible refine' fd_Channels_failure ?ho_ ?hv_ ?_); (case ho_ => first | assumption | exact upd_same); (case hv_ => exact rfl)) | ((with_reducible refine' fd_Channels__window ?ho_ ?hv_ ?_); (case ho_ => first | assumption | exact upd_same); (case hv_ => exact rfl)) | ((with_reducible refine' fd_Channels__most ?ho_ ?hv_ ?_); (case ho_ => first | assumption | exact upd_same); (case hv_ => exact rfl)) | ((with_reducible refine' fd_Channels__next_here ?ho_ ?hv_ ?_); (case ho_ => first | assumption | exact upd_same); (case hv_ => exact rfl)) | ((with_reducible refine' fd_Channels__next_there ?ho_ ?hv_ ?_); (case ho_ => first | assumption | exact upd_same); (case hv_ => exact rfl)) | ((with_reducible refine' fd_Channels__channels ?ho_ ?hv_ ?_); (case ho_ => first | assumption | exact upd_same); (case hv_ => exact rfl)) | ((with_reducible refine' fd_Channels__numbers ?ho_ ?hv_ ?_); (case ho_ => first | assumption | exact upd_same); (case hv_ => exact rfl)) | ((with_reducible refine' fd_Channels__turns ?ho_ ?hv_ ?_); (case ho_ => first | assumption | exact upd_same); (case hv_ => exact rfl)) | ((with_reducible refine' fd_Channels__offered ?ho_ ?hv_ ?_); (case ho_ => first | assumption | exact upd_same); (case hv_ => exact rfl)) | ((with_reducible refine' fd_Channels__going ?ho_ ?hv_ ?_); (case ho_ => first | assumption | exact upd_same); (case hv_ => exact rfl)) | ((with_reducible refine' fd_Channels__coming ?ho_ ?hv_ ?_); (case ho_ => first | assumption | exact upd_same); (case hv_ => exact rfl)) | ((with_reducible refine' nw_Channels_failure ?ho_ ?hv_ ?_); (case ho_ => first | assumption | exact upd_same); (case hv_ => exact rfl)) | ((with_reducible refine' nw_Channels__window ?ho_ ?hv_ ?_); (case ho_ => first | assumption | exact upd_same); (case hv_ => exact rfl)) | ((with_reducible refine' nw_Channels__most ?ho_ ?hv_ ?_); (case ho_ => first | assumption | exact upd_same); (case hv_ => exact rfl)) | ((with_reducible refine' nw_Channels__next_here ?ho_ ?hv_ ?_); (case ho_ => first | assumption | exact upd_same); (case hv_ => exact rfl)) | ((with_reducible refine' nw_Channels__next_there ?ho_ ?hv_ ?_); (case ho_ => first | assumption | exact upd_same); (case hv_ => exact rfl)) | ((with_reducible refine' nw_Channels__channels ?ho_ ?hv_ ?_); (case ho_ => first | assumption | exact upd_same); (case hv_ => exact rfl)) | ((with_reducible refine' nw_Channels__numbers ?ho_ ?hv_ ?_); (case ho_ => first | assumption | exact upd_same); (case hv_ => exact rfl)) | ((with_reducible refine' nw_Channels__turns ?ho_ ?hv_ ?_); (case ho_ => first | assumption | exact upd_same); (case hv_ => exact rfl)) | ((with_reducible refine' nw_Channels__offered ?ho_ ?hv_ ?_); (case ho_ => first | assumption | exact upd_same); (case hv_ => exact rfl)) | ((with_reducible refine' nw_Channels__going ?ho_ ?hv_ ?_); (case ho_ => first | assumption | exact upd_same); (case hv_ => exact rfl)) | ((with_reducible refine' nw_Channels__coming ?ho_ ?hv_ ?_); (case ho_ => first | assumption | exact upd_same); (case hv_ => exact rfl)) | ((with_reducible refine' st_Channels_failure ?ho_ ?hv_ ?_); (case ho_ => first | assumption | exact upd_same); (case hv_ => exact Nat.le_of_ble_eq_true rfl)) | ((with_reducible refine' st_Channels__window ?ho_ ?hv_ ?_); (case ho_ => first | assumption | exact upd_same); (case hv_ => exact Nat.le_of_ble_eq_true rfl)) | ((with_reducible refine' st_Channels__most ?ho_ ?hv_ ?_); (case ho_ => first | assumption | exact upd_same); (case hv_ => exact Nat.le_of_ble_eq_true rfl)) | ((with_reducible refine' st_Channels__next_here ?ho_ ?hv_ ?_); (case ho_ => first | assumption | exact upd_same); (case hv_ => exact Nat.le_of_ble_eq_true rfl)) | ((with_reducible refine' st_Channels__next_there ?ho_ ?hv_ ?_); (case ho_ => first | assumption | exact upd_same); (case hv_ => exact Nat.le_of_ble_eq_true rfl)) | ((with_reducible refine' st_Channels__channels ?ho_ ?hv_ ?_); (case ho_ => first | assumption | exact upd_same); (case hv_ => exact Nat.le_of_ble_eq_true rfl)) | ((with_reducible refine' st_Channels__numbers ?ho_ ?hv_ ?_); (case ho_ => first | assumption | exact upd_same); (case hv_ => exact Nat.le_of_ble_eq_true rfl)) | ((with_reducible refine' st_Channels__turns ?ho_ ?hv_ ?_); (case ho_ => first | assumption | exact upd_same); (case hv_ => exact Nat.le_of_ble_eq_true rfl)) | ((with_reducible refine' st_Channels__offered ?ho_ ?hv_ ?_); (case ho_ => first | assumption | exact upd_same); (case hv_ => exact Nat.le_of_ble_eq_true rfl)) | ((with_reducible refine' st_Channels__going ?ho_ ?hv_ ?_); (case ho_ => first | assumption | exact upd_same); (case hv_ => exact Nat.le_of_ble_eq_true rfl)) | ((with_reducible refine' st_Channels__coming ?ho_ ?hv_ ?_); (case ho_ => first | assumption | exact upd_same); (case hv_ => exact Nat.le_of_ble_eq_true rfl)) | ((with_reducible refine' me_Channels_len__ ?ho_ ?_); (case ho_ => first | assumption | exact upd_same)) | ((with_reducible refine' me_Channels_iter__ ?ho_ ?_); (case ho_ => first | assumption | exact upd_same)) | ((with_reducible refine' me_Channels_open_channel ?ho_ ?_); (case ho_ => first | assumption | exact upd_same)) | ((with_reducible refine' me_Channels_accept ?ho_ ?_); (case ho_ => first | assumption | exact upd_same)) | ((with_reducible refine' me_Channels_finish ?ho_ ?_); (case ho_ => first | assumption | exact upd_same)) | ((with_reducible refine' me_Channels_reset ?ho_ ?_); (case ho_ => first | assumption | exact upd_same)) | ((with_reducible refine' me_Channels_status ?ho_ ?_); (case ho_ => first | assumption | exact upd_same)) | ((with_reducible refine' me_Channels_take ?ho_ ?_); (case ho_ => first | assumption | exact upd_same)) | ((with_reducible refine' me_Channels_receive ?ho_ ?_); (case ho_ => first | assumption | exact upd_same)) | ((with_reducible refine' me_Channels_fork ?ho_ ?_); (case ho_ => first | assumption | exact upd_same)) | ((with_reducible refine' me_Channels_known ?ho_ ?_); (case ho_ => first | assumption | exact upd_same)) | ((with_reducible refine' me_Channels_add ?ho_ ?_); (case ho_ => first | assumption | exact upd_same)) | ((with_reducible refine' me_Channels_room_of ?ho_ ?_); (case ho_ => first | assumption | exact upd_same)) | ((with_reducible refine' me_Channels_take_frame ?ho_ ?_); (case ho_ => first | assumption | exact upd_same)) | ((with_reducible refine' me_Channels_failure_of ?ho_ ?_); (case ho_ => first | assumption | exact upd_same)) | ((with_reducible refine' me_Channels_apply ?ho_ ?_); (case ho_ => first | assumption | exact upd_same)))
section
variable {P : Program} {w : World} {K : PySem.W.Frag} {mg : Str → Option Value} {base : Heap}
local macro_rules | `(tactic| walk_at "use") => `(tactic| with_reducible first | refine g_rs0 ?_ | refine g_rs1 ?_ | refine g_tryA ?_ | refine g_tryO ?_ | refine g_callS ?_ | refine g_joined ?_ | refine g_jsnil ?_ | refine g_jscons ?_ | refine g_fmt ?_)
local macro_rules | `(tactic| walk_at "fit") => `(tactic| (refine fit2 ?_; (try simp only [PySem.Str.length_append]); omega))
local macro_rules | `(tactic| walk_at "use") => `(tactic| first | ((with_reducible refine' g_addS ?sd_ ?_); case sd_ => (first | omega | (simp only [PySem.Str.length_append]; omega))) | ((with_reducible refine' g_slS ?sd_ ?_); case sd_ => omega) | (with_reducible refine g_m0 ?_))

local macro_rules | `(tactic| walk_at "use") => `(tactic| with_reducible first | refine g_dgetI ?_ | refine g_dputI ?_ | refine g_dget1I ?_ | refine g_dget2I ?_ | refine g_dinI ?_ | refine g_dnotinI ?_ | refine g_dnewK ?_)

section
variable {K : PySem.W.Frag} {H : Hp} {Q : VK}
end
local macro_rules | `(tactic| walk_at "use") => `(tactic| with_reducible first | refine g_rEqS ?_ | refine g_rNeS ?_ | refine g_isiS ?_)

def Sd.new (f : Bool) (w m : Int) : Sd := ⟨none, w, m, if f = true then 1 else 2, if f = true then 2 else 1, [], [], [], [], [], []⟩
def sp_Channels_init__ (CS CC IO : Addr) : Sp := fun vs H Q E => ∃ (p dx : Addr) (f : Bool) (w m : Int), vs = [.ref p, .bl f, .int w, .int m] ∧ H p = some (.ins CS dx []) ∧ -1000000 ≤ w ∧ w ≤ 1000000 ∧ -1000000 ≤ m ∧ m ≤ 1000000 ∧
  ((¬ (1 ≤ w ∧ w ≤ 65535 ∧ 1 ≤ m ∧ m ≤ 65535) ∧ E (.ref IO) none H) ∨ ((1 ≤ w ∧ w ≤ 65535 ∧ 1 ≤ m ∧ m ≤ 65535) ∧
  ∀ own S x H', (∀ b, own b ≠ none → b = p ∨ H b = none) → S.p = p → SgO CS CC own H' S x (Sd.new f w m) → But p H H' → Q .non H'))
theorem ok_Channels_init__ (T : Txt P w K mg) : FnOk P w K mg base (L2.CX P w) 1 T.f_Channels_init__ T.d_Channels_init__ ["self", "first", "window", "most"] (sp_Channels_init__ T.C_Channels T.C_Channel T.C_InvalidOptions) := by
  refine T.F_Channels_init__.ok sc_Channels_init__ (fun vs H Q E h => ?_) (fun cdv A outer s H vs Q E hr h => ?_)
  · obtain ⟨p, dx, f, w, m, rfl, ho, w0, w1, m0, m1, q⟩ := h
    rfl
  · obtain ⟨p, dx, f, w, m, rfl, ho, w0, w1, m0, m1, q⟩ := h
    have hu := hu_of hr
    refine ⟨_, (pss_cons (ps_if (pt_not (pt_chain op_le op_le pe_int (pv 2) (pe_glob (v := .int 65535) (by rfl) T.v_GREATEST_SIZE ⟨_, rfl⟩))) (pss_one (ps_rs rfl (takes_of rfl rfl rfl rfl) (pmk_1 PySem.F.excBase_ValueError T.xP_InvalidOptions T.c_InvalidOptions T.ke_InvalidOptions (raises_own T.be_InvalidOptions T.te_InvalidOptions) rfl (pe_joinedJ (.cons pe_str (.cons (pe_fmt (pv 2)) .nil)))))) pss_nil)
        (pss_cons (ps_if (pt_not (pt_chain op_le op_le pe_int (pv 3) (pe_glob (v := .int 65535) (by rfl) T.v_GREATEST_SIZE ⟨_, rfl⟩))) (pss_one (ps_rs rfl (takes_of rfl rfl rfl rfl) (pmk_1 PySem.F.excBase_ValueError T.xP_InvalidOptions T.c_InvalidOptions T.ke_InvalidOptions (raises_own T.be_InvalidOptions T.te_InvalidOptions) rfl (pe_joinedJ (.cons (pe_fmt (pv 3)) (.cons pe_str .nil)))))) pss_nil)
        (pss_cons (ps_fld (pv 0) pe_non rfl)
        (pss_cons (ps_fld (pv 0) (pv 2) rfl)
        (pss_cons (ps_fld (pv 0) (pv 3) rfl)
        (pss_cons (ps_fld (pv 0) (pe_ifExp (pt_val (pv 1)) pe_int pe_int) rfl)
        (pss_cons (ps_fld (pv 0) (pe_ifExp (pt_val (pv 1)) pe_int pe_int) rfl)
        (pss_cons (ps_fld (pv 0) pe_dnewK rfl)
        (pss_cons (ps_fld (pv 0) (pe_lst pa_nil) rfl)
        (pss_cons (ps_fld (pv 0) (pe_lst pa_nil) rfl)
        (pss_cons (ps_fld (pv 0) (pe_lst pa_nil) rfl)
        (pss_cons (ps_fld (pv 0) (pe_lst pa_nil) rfl)
        (pss_one (ps_fld (pv 0) (pe_lst pa_nil) rfl)))))))))))))), ?_⟩
    dsimp only [cxOf, Cx.nox, Cx.wish, L2.start, List.map, List.cons_append, List.nil_append, List.length_cons, List.length_nil, Nat.reduceAdd, Nat.reduceSub, Nat.zero_add, List.replicate_succ, List.replicate_zero]
    have e0 : Str.empty.length = 0 := by decide
    have e1 : (Str.ofString "a window of ").length = 12 := by decide +kernel
    have e2 : (Str.ofString " octets in a frame at most").length = 26 := by decide +kernel
    have e3 := itext (i := w) (by omega)
    have e4 := itext (i := m) (by omega)
    have ho : H p = some (.ins T.C_Channels dx (obj ky_Channels [])) := ho
    walk_at "go"
    rcases q with ⟨hn, q⟩ | ⟨⟨w2, w3, m2, m3⟩, q⟩
    · by_cases c1 : 1 ≤ w
      · rw [if_pos (decide_eq_true c1)]
        by_cases c2 : w ≤ 65535
        · walk_at "go"
          by_cases c3 : 1 ≤ m
          · rw [if_pos (decide_eq_true c3)]
            have c4 : ¬ m ≤ 65535 := by omega
            refine ⟨m, 65535, rfl, rfl, _, rfl, ?_⟩
            rw [if_pos (show (!decide (m ≤ 65535)) = true by rw [decide_eq_false c4]; rfl)]
            walk_at "go"
            refine g_fmtI (log_lt (by omega)) ?_
            refine g_jsE (by walk_at "fit") ?_
            walk_at "go"
            refine g_jsE (by walk_at "fit") ?_
            walk_at "go"
            exact q
          · rw [if_neg (by rw [decide_eq_false c3]; exact Bool.false_ne_true)]
            refine ⟨_, rfl, ?_⟩
            rw [if_pos (show (!false) = true from rfl)]
            walk_at "go"
            refine g_fmtI (log_lt (by omega)) ?_
            refine g_jsE (by walk_at "fit") ?_
            walk_at "go"
            refine g_jsE (by walk_at "fit") ?_
            walk_at "go"
            exact q
        · refine ⟨w, 65535, rfl, rfl, _, rfl, ?_⟩
          rw [if_pos (show (!decide (w ≤ 65535)) = true by rw [decide_eq_false c2]; rfl)]
          walk_at "go"
          refine g_jsE (by walk_at "fit") ?_
          walk_at "go"
          refine g_fmtI (log_lt (by omega)) ?_
          refine g_jsE (by walk_at "fit") ?_
          walk_at "go"
          exact q
      · rw [if_neg (by rw [decide_eq_false c1]; exact Bool.false_ne_true)]
        refine ⟨_, rfl, ?_⟩
        rw [if_pos (show (!false) = true from rfl)]
        walk_at "go"
        refine g_jsE (by walk_at "fit") ?_
        walk_at "go"
        refine g_fmtI (log_lt (by omega)) ?_
        refine g_jsE (by walk_at "fit") ?_
        walk_at "go"
        exact q
    · rw [if_pos (decide_eq_true w2)]
      walk_at "go"
      cases f
      · rw [if_neg Bool.false_ne_true]
        walk_at "go"
        intro cd h_cd
        simp only [upd_upd, List.nil_append, List.cons_append] at h_cd ⊢
        generalize z : upd H p _ = Ha0 at h_cd ⊢
        have ba0 : But p H Ha0 := by rw [← z]; exact But.refl.upd
        have kp := (congrFun z p).symm.trans upd_same
        clear z
        have bb0 := ba0
        have f_cd := bb0.free kp h_cd
        have n_cd : cd ≠ p := fun z => by rw [z, kp] at h_cd; cases h_cd
        generalize z : upd Ha0 cd _ = Hb0
        have s0 : Same Ha0 Hb0 := by rw [← z]; exact same_upd h_cd
        have k_cd := (congrFun z cd).symm.trans upd_same
        clear z
        have kp := s0 _ _ kp
        have bc0 := bb0.trans (But.of s0)
        walk_at "go"
        refine ⟨(by show 0 ≤ sizeLine; decide), fun nl h_nl => ?_⟩
        simp only [upd_upd, List.nil_append, List.cons_append] at h_nl ⊢
        generalize z : upd Hb0 p _ = Ha1 at h_nl ⊢
        have ba1 : But p Hb0 Ha1 := by rw [← z]; exact But.refl.upd
        have kp := (congrFun z p).symm.trans upd_same
        clear z
        have bb1 := bc0.trans ba1
        have k_cd := ba1 _ _ n_cd k_cd
        have f_nl := bb1.free kp h_nl
        have n_nl : nl ≠ p := fun z => by rw [z, kp] at h_nl; cases h_nl
        have d_cd_nl : cd ≠ nl := fun z => by rw [← z, k_cd] at h_nl; cases h_nl
        generalize z : upd Ha1 nl _ = Hb1
        have s1 : Same Ha1 Hb1 := by rw [← z]; exact same_upd h_nl
        have k_nl := (congrFun z nl).symm.trans upd_same
        clear z
        have kp := s1 _ _ kp
        have k_cd := s1 _ _ k_cd
        have bc1 := bb1.trans (But.of s1)
        walk_at "go"
        refine ⟨(by show 0 ≤ sizeLine; decide), fun tl h_tl => ?_⟩
        simp only [upd_upd, List.nil_append, List.cons_append] at h_tl ⊢
        generalize z : upd Hb1 p _ = Ha2 at h_tl ⊢
        have ba2 : But p Hb1 Ha2 := by rw [← z]; exact But.refl.upd
        have kp := (congrFun z p).symm.trans upd_same
        clear z
        have bb2 := bc1.trans ba2
        have k_cd := ba2 _ _ n_cd k_cd
        have k_nl := ba2 _ _ n_nl k_nl
        have f_tl := bb2.free kp h_tl
        have n_tl : tl ≠ p := fun z => by rw [z, kp] at h_tl; cases h_tl
        have d_cd_tl : cd ≠ tl := fun z => by rw [← z, k_cd] at h_tl; cases h_tl
        have d_nl_tl : nl ≠ tl := fun z => by rw [← z, k_nl] at h_tl; cases h_tl
        generalize z : upd Ha2 tl _ = Hb2
        have s2 : Same Ha2 Hb2 := by rw [← z]; exact same_upd h_tl
        have k_tl := (congrFun z tl).symm.trans upd_same
        clear z
        have kp := s2 _ _ kp
        have k_cd := s2 _ _ k_cd
        have k_nl := s2 _ _ k_nl
        have bc2 := bb2.trans (But.of s2)
        walk_at "go"
        refine ⟨(by show 0 ≤ sizeLine; decide), fun ol h_ol => ?_⟩
        simp only [upd_upd, List.nil_append, List.cons_append] at h_ol ⊢
        generalize z : upd Hb2 p _ = Ha3 at h_ol ⊢
        have ba3 : But p Hb2 Ha3 := by rw [← z]; exact But.refl.upd
        have kp := (congrFun z p).symm.trans upd_same
        clear z
        have bb3 := bc2.trans ba3
        have k_cd := ba3 _ _ n_cd k_cd
        have k_nl := ba3 _ _ n_nl k_nl
        have k_tl := ba3 _ _ n_tl k_tl
        have f_ol := bb3.free kp h_ol
        have n_ol : ol ≠ p := fun z => by rw [z, kp] at h_ol; cases h_ol
        have d_cd_ol : cd ≠ ol := fun z => by rw [← z, k_cd] at h_ol; cases h_ol
        have d_nl_ol : nl ≠ ol := fun z => by rw [← z, k_nl] at h_ol; cases h_ol
        have d_tl_ol : tl ≠ ol := fun z => by rw [← z, k_tl] at h_ol; cases h_ol
        generalize z : upd Ha3 ol _ = Hb3
        have s3 : Same Ha3 Hb3 := by rw [← z]; exact same_upd h_ol
        have k_ol := (congrFun z ol).symm.trans upd_same
        clear z
        have kp := s3 _ _ kp
        have k_cd := s3 _ _ k_cd
        have k_nl := s3 _ _ k_nl
        have k_tl := s3 _ _ k_tl
        have bc3 := bb3.trans (But.of s3)
        walk_at "go"
        refine ⟨(by show 0 ≤ sizeLine; decide), fun gl h_gl => ?_⟩
        simp only [upd_upd, List.nil_append, List.cons_append] at h_gl ⊢
        generalize z : upd Hb3 p _ = Ha4 at h_gl ⊢
        have ba4 : But p Hb3 Ha4 := by rw [← z]; exact But.refl.upd
        have kp := (congrFun z p).symm.trans upd_same
        clear z
        have bb4 := bc3.trans ba4
        have k_cd := ba4 _ _ n_cd k_cd
        have k_nl := ba4 _ _ n_nl k_nl
        have k_tl := ba4 _ _ n_tl k_tl
        have k_ol := ba4 _ _ n_ol k_ol
        have f_gl := bb4.free kp h_gl
        have n_gl : gl ≠ p := fun z => by rw [z, kp] at h_gl; cases h_gl
        have d_cd_gl : cd ≠ gl := fun z => by rw [← z, k_cd] at h_gl; cases h_gl
        have d_nl_gl : nl ≠ gl := fun z => by rw [← z, k_nl] at h_gl; cases h_gl
        have d_tl_gl : tl ≠ gl := fun z => by rw [← z, k_tl] at h_gl; cases h_gl
        have d_ol_gl : ol ≠ gl := fun z => by rw [← z, k_ol] at h_gl; cases h_gl
        generalize z : upd Ha4 gl _ = Hb4
        have s4 : Same Ha4 Hb4 := by rw [← z]; exact same_upd h_gl
        have k_gl := (congrFun z gl).symm.trans upd_same
        clear z
        have kp := s4 _ _ kp
        have k_cd := s4 _ _ k_cd
        have k_nl := s4 _ _ k_nl
        have k_tl := s4 _ _ k_tl
        have k_ol := s4 _ _ k_ol
        have bc4 := bb4.trans (But.of s4)
        walk_at "go"
        refine ⟨(by show 0 ≤ sizeLine; decide), fun cl h_cl => ?_⟩
        simp only [upd_upd, List.nil_append, List.cons_append] at h_cl ⊢
        generalize z : upd Hb4 p _ = Ha5 at h_cl ⊢
        have ba5 : But p Hb4 Ha5 := by rw [← z]; exact But.refl.upd
        have kp := (congrFun z p).symm.trans upd_same
        clear z
        have bb5 := bc4.trans ba5
        have k_cd := ba5 _ _ n_cd k_cd
        have k_nl := ba5 _ _ n_nl k_nl
        have k_tl := ba5 _ _ n_tl k_tl
        have k_ol := ba5 _ _ n_ol k_ol
        have k_gl := ba5 _ _ n_gl k_gl
        have f_cl := bb5.free kp h_cl
        have n_cl : cl ≠ p := fun z => by rw [z, kp] at h_cl; cases h_cl
        have d_cd_cl : cd ≠ cl := fun z => by rw [← z, k_cd] at h_cl; cases h_cl
        have d_nl_cl : nl ≠ cl := fun z => by rw [← z, k_nl] at h_cl; cases h_cl
        have d_tl_cl : tl ≠ cl := fun z => by rw [← z, k_tl] at h_cl; cases h_cl
        have d_ol_cl : ol ≠ cl := fun z => by rw [← z, k_ol] at h_cl; cases h_cl
        have d_gl_cl : gl ≠ cl := fun z => by rw [← z, k_gl] at h_cl; cases h_cl
        generalize z : upd Ha5 cl _ = Hb5
        have s5 : Same Ha5 Hb5 := by rw [← z]; exact same_upd h_cl
        have k_cl := (congrFun z cl).symm.trans upd_same
        clear z
        have kp := s5 _ _ kp
        have k_cd := s5 _ _ k_cd
        have k_nl := s5 _ _ k_nl
        have k_tl := s5 _ _ k_tl
        have k_ol := s5 _ _ k_ol
        have k_gl := s5 _ _ k_gl
        have bc5 := bb5.trans (But.of s5)
        walk_at "go"
        simp only [upd_upd, List.nil_append, List.cons_append]
        generalize z : upd Hb5 p _ = HZ
        have bz : But p Hb5 HZ := by rw [← z]; exact But.refl.upd
        have kp := (congrFun z p).symm.trans upd_same
        clear z
        have k_cd := bz _ _ n_cd k_cd
        have k_nl := bz _ _ n_nl k_nl
        have k_tl := bz _ _ n_tl k_tl
        have k_ol := bz _ _ n_ol k_ol
        have k_gl := bz _ _ n_gl k_gl
        have k_cl := bz _ _ n_cl k_cl
        refine q (fun b => if b = p ∨ b = cd ∨ b = nl ∨ b = tl ∨ b = ol ∨ b = gl ∨ b = cl then some 0 else none) ⟨p, dx, cd, nl, tl, ol, gl, cl⟩ (fun _ => ⟨p, p, p, p, .non⟩) HZ (fun b hb => ?_) rfl ?_ (bc5.trans bz)
        · by_cases z : b = p ∨ b = cd ∨ b = nl ∨ b = tl ∨ b = ol ∨ b = gl ∨ b = cl
          · rcases z with z | z | z | z | z | z | z
            · exact .inl z
            · exact .inr (by rw [z]; exact f_cd)
            · exact .inr (by rw [z]; exact f_nl)
            · exact .inr (by rw [z]; exact f_tl)
            · exact .inr (by rw [z]; exact f_ol)
            · exact .inr (by rw [z]; exact f_gl)
            · exact .inr (by rw [z]; exact f_cl)
          · exact absurd (if_neg z) hb
        · refine ⟨kp, k_cd, k_nl, k_tl, k_ol, k_gl, k_cl, fun i c e => (by cases e), fun i hi => absurd hi (Nat.not_lt_zero i), ⟨if_pos (.inl rfl), if_pos (.inr (.inl rfl)), if_pos (.inr (.inr (.inl rfl))), if_pos (.inr (.inr (.inr (.inl rfl)))), if_pos (.inr (.inr (.inr (.inr (.inl rfl))))), if_pos (.inr (.inr (.inr (.inr (.inr (.inl rfl)))))), if_pos (.inr (.inr (.inr (.inr (.inr (.inr rfl))))))⟩, ?_, List.nodup_nil⟩
          simp only [List.nodup_cons, List.mem_cons, List.not_mem_nil, or_false, not_or, List.nodup_nil, not_false_eq_true, and_true]
          exact ⟨⟨d_nl_tl, d_nl_ol, d_nl_gl, d_nl_cl⟩, ⟨d_tl_ol, d_tl_gl, d_tl_cl⟩, ⟨d_ol_gl, d_ol_cl⟩, d_gl_cl⟩
      · rw [if_pos rfl]
        walk_at "go"
        intro cd h_cd
        simp only [upd_upd, List.nil_append, List.cons_append] at h_cd ⊢
        generalize z : upd H p _ = Ha0 at h_cd ⊢
        have ba0 : But p H Ha0 := by rw [← z]; exact But.refl.upd
        have kp := (congrFun z p).symm.trans upd_same
        clear z
        have bb0 := ba0
        have f_cd := bb0.free kp h_cd
        have n_cd : cd ≠ p := fun z => by rw [z, kp] at h_cd; cases h_cd
        generalize z : upd Ha0 cd _ = Hb0
        have s0 : Same Ha0 Hb0 := by rw [← z]; exact same_upd h_cd
        have k_cd := (congrFun z cd).symm.trans upd_same
        clear z
        have kp := s0 _ _ kp
        have bc0 := bb0.trans (But.of s0)
        walk_at "go"
        refine ⟨(by show 0 ≤ sizeLine; decide), fun nl h_nl => ?_⟩
        simp only [upd_upd, List.nil_append, List.cons_append] at h_nl ⊢
        generalize z : upd Hb0 p _ = Ha1 at h_nl ⊢
        have ba1 : But p Hb0 Ha1 := by rw [← z]; exact But.refl.upd
        have kp := (congrFun z p).symm.trans upd_same
        clear z
        have bb1 := bc0.trans ba1
        have k_cd := ba1 _ _ n_cd k_cd
        have f_nl := bb1.free kp h_nl
        have n_nl : nl ≠ p := fun z => by rw [z, kp] at h_nl; cases h_nl
        have d_cd_nl : cd ≠ nl := fun z => by rw [← z, k_cd] at h_nl; cases h_nl
        generalize z : upd Ha1 nl _ = Hb1
        have s1 : Same Ha1 Hb1 := by rw [← z]; exact same_upd h_nl
        have k_nl := (congrFun z nl).symm.trans upd_same
        clear z
        have kp := s1 _ _ kp
        have k_cd := s1 _ _ k_cd
        have bc1 := bb1.trans (But.of s1)
        walk_at "go"
        refine ⟨(by show 0 ≤ sizeLine; decide), fun tl h_tl => ?_⟩
        simp only [upd_upd, List.nil_append, List.cons_append] at h_tl ⊢
        generalize z : upd Hb1 p _ = Ha2 at h_tl ⊢
        have ba2 : But p Hb1 Ha2 := by rw [← z]; exact But.refl.upd
        have kp := (congrFun z p).symm.trans upd_same
        clear z
        have bb2 := bc1.trans ba2
        have k_cd := ba2 _ _ n_cd k_cd
        have k_nl := ba2 _ _ n_nl k_nl
        have f_tl := bb2.free kp h_tl
        have n_tl : tl ≠ p := fun z => by rw [z, kp] at h_tl; cases h_tl
        have d_cd_tl : cd ≠ tl := fun z => by rw [← z, k_cd] at h_tl; cases h_tl
        have d_nl_tl : nl ≠ tl := fun z => by rw [← z, k_nl] at h_tl; cases h_tl
        generalize z : upd Ha2 tl _ = Hb2
        have s2 : Same Ha2 Hb2 := by rw [← z]; exact same_upd h_tl
        have k_tl := (congrFun z tl).symm.trans upd_same
        clear z
        have kp := s2 _ _ kp
        have k_cd := s2 _ _ k_cd
        have k_nl := s2 _ _ k_nl
        have bc2 := bb2.trans (But.of s2)
        walk_at "go"
        refine ⟨(by show 0 ≤ sizeLine; decide), fun ol h_ol => ?_⟩
        simp only [upd_upd, List.nil_append, List.cons_append] at h_ol ⊢
        generalize z : upd Hb2 p _ = Ha3 at h_ol ⊢
        have ba3 : But p Hb2 Ha3 := by rw [← z]; exact But.refl.upd
        have kp := (congrFun z p).symm.trans upd_same
        clear z
        have bb3 := bc2.trans ba3
        have k_cd := ba3 _ _ n_cd k_cd
        have k_nl := ba3 _ _ n_nl k_nl
        have k_tl := ba3 _ _ n_tl k_tl
        have f_ol := bb3.free kp h_ol
        have n_ol : ol ≠ p := fun z => by rw [z, kp] at h_ol; cases h_ol
        have d_cd_ol : cd ≠ ol := fun z => by rw [← z, k_cd] at h_ol; cases h_ol
        have d_nl_ol : nl ≠ ol := fun z => by rw [← z, k_nl] at h_ol; cases h_ol
        have d_tl_ol : tl ≠ ol := fun z => by rw [← z, k_tl] at h_ol; cases h_ol
        generalize z : upd Ha3 ol _ = Hb3
        have s3 : Same Ha3 Hb3 := by rw [← z]; exact same_upd h_ol
        have k_ol := (congrFun z ol).symm.trans upd_same
        clear z
        have kp := s3 _ _ kp
        have k_cd := s3 _ _ k_cd
        have k_nl := s3 _ _ k_nl
        have k_tl := s3 _ _ k_tl
        have bc3 := bb3.trans (But.of s3)
        walk_at "go"
        refine ⟨(by show 0 ≤ sizeLine; decide), fun gl h_gl => ?_⟩
        simp only [upd_upd, List.nil_append, List.cons_append] at h_gl ⊢
        generalize z : upd Hb3 p _ = Ha4 at h_gl ⊢
        have ba4 : But p Hb3 Ha4 := by rw [← z]; exact But.refl.upd
        have kp := (congrFun z p).symm.trans upd_same
        clear z
        have bb4 := bc3.trans ba4
        have k_cd := ba4 _ _ n_cd k_cd
        have k_nl := ba4 _ _ n_nl k_nl
        have k_tl := ba4 _ _ n_tl k_tl
        have k_ol := ba4 _ _ n_ol k_ol
        have f_gl := bb4.free kp h_gl
        have n_gl : gl ≠ p := fun z => by rw [z, kp] at h_gl; cases h_gl
        have d_cd_gl : cd ≠ gl := fun z => by rw [← z, k_cd] at h_gl; cases h_gl
        have d_nl_gl : nl ≠ gl := fun z => by rw [← z, k_nl] at h_gl; cases h_gl
        have d_tl_gl : tl ≠ gl := fun z => by rw [← z, k_tl] at h_gl; cases h_gl
        have d_ol_gl : ol ≠ gl := fun z => by rw [← z, k_ol] at h_gl; cases h_gl
        generalize z : upd Ha4 gl _ = Hb4
        have s4 : Same Ha4 Hb4 := by rw [← z]; exact same_upd h_gl
        have k_gl := (congrFun z gl).symm.trans upd_same
        clear z
        have kp := s4 _ _ kp
        have k_cd := s4 _ _ k_cd
        have k_nl := s4 _ _ k_nl
        have k_tl := s4 _ _ k_tl
        have k_ol := s4 _ _ k_ol
        have bc4 := bb4.trans (But.of s4)
        walk_at "go"
        refine ⟨(by show 0 ≤ sizeLine; decide), fun cl h_cl => ?_⟩
        simp only [upd_upd, List.nil_append, List.cons_append] at h_cl ⊢
        generalize z : upd Hb4 p _ = Ha5 at h_cl ⊢
        have ba5 : But p Hb4 Ha5 := by rw [← z]; exact But.refl.upd
        have kp := (congrFun z p).symm.trans upd_same
        clear z
        have bb5 := bc4.trans ba5
        have k_cd := ba5 _ _ n_cd k_cd
        have k_nl := ba5 _ _ n_nl k_nl
        have k_tl := ba5 _ _ n_tl k_tl
        have k_ol := ba5 _ _ n_ol k_ol
        have k_gl := ba5 _ _ n_gl k_gl
        have f_cl := bb5.free kp h_cl
        have n_cl : cl ≠ p := fun z => by rw [z, kp] at h_cl; cases h_cl
        have d_cd_cl : cd ≠ cl := fun z => by rw [← z, k_cd] at h_cl; cases h_cl
        have d_nl_cl : nl ≠ cl := fun z => by rw [← z, k_nl] at h_cl; cases h_cl
        have d_tl_cl : tl ≠ cl := fun z => by rw [← z, k_tl] at h_cl; cases h_cl
        have d_ol_cl : ol ≠ cl := fun z => by rw [← z, k_ol] at h_cl; cases h_cl
        have d_gl_cl : gl ≠ cl := fun z => by rw [← z, k_gl] at h_cl; cases h_cl
        generalize z : upd Ha5 cl _ = Hb5
        have s5 : Same Ha5 Hb5 := by rw [← z]; exact same_upd h_cl
        have k_cl := (congrFun z cl).symm.trans upd_same
        clear z
        have kp := s5 _ _ kp
        have k_cd := s5 _ _ k_cd
        have k_nl := s5 _ _ k_nl
        have k_tl := s5 _ _ k_tl
        have k_ol := s5 _ _ k_ol
        have k_gl := s5 _ _ k_gl
        have bc5 := bb5.trans (But.of s5)
        walk_at "go"
        simp only [upd_upd, List.nil_append, List.cons_append]
        generalize z : upd Hb5 p _ = HZ
        have bz : But p Hb5 HZ := by rw [← z]; exact But.refl.upd
        have kp := (congrFun z p).symm.trans upd_same
        clear z
        have k_cd := bz _ _ n_cd k_cd
        have k_nl := bz _ _ n_nl k_nl
        have k_tl := bz _ _ n_tl k_tl
        have k_ol := bz _ _ n_ol k_ol
        have k_gl := bz _ _ n_gl k_gl
        have k_cl := bz _ _ n_cl k_cl
        refine q (fun b => if b = p ∨ b = cd ∨ b = nl ∨ b = tl ∨ b = ol ∨ b = gl ∨ b = cl then some 0 else none) ⟨p, dx, cd, nl, tl, ol, gl, cl⟩ (fun _ => ⟨p, p, p, p, .non⟩) HZ (fun b hb => ?_) rfl ?_ (bc5.trans bz)
        · by_cases z : b = p ∨ b = cd ∨ b = nl ∨ b = tl ∨ b = ol ∨ b = gl ∨ b = cl
          · rcases z with z | z | z | z | z | z | z
            · exact .inl z
            · exact .inr (by rw [z]; exact f_cd)
            · exact .inr (by rw [z]; exact f_nl)
            · exact .inr (by rw [z]; exact f_tl)
            · exact .inr (by rw [z]; exact f_ol)
            · exact .inr (by rw [z]; exact f_gl)
            · exact .inr (by rw [z]; exact f_cl)
          · exact absurd (if_neg z) hb
        · refine ⟨kp, k_cd, k_nl, k_tl, k_ol, k_gl, k_cl, fun i c e => (by cases e), fun i hi => absurd hi (Nat.not_lt_zero i), ⟨if_pos (.inl rfl), if_pos (.inr (.inl rfl)), if_pos (.inr (.inr (.inl rfl))), if_pos (.inr (.inr (.inr (.inl rfl)))), if_pos (.inr (.inr (.inr (.inr (.inl rfl))))), if_pos (.inr (.inr (.inr (.inr (.inr (.inl rfl)))))), if_pos (.inr (.inr (.inr (.inr (.inr (.inr rfl))))))⟩, ?_, List.nodup_nil⟩
          simp only [List.nodup_cons, List.mem_cons, List.not_mem_nil, or_false, not_or, List.nodup_nil, not_false_eq_true, and_true]
          exact ⟨⟨d_nl_tl, d_nl_ol, d_nl_gl, d_nl_cl⟩, ⟨d_tl_ol, d_tl_gl, d_tl_cl⟩, ⟨d_ol_gl, d_ol_cl⟩, d_gl_cl⟩

end
end My
namespace My
open PySem PySem.Spec L2
local macro_rules | `(tactic| walk_at "side") => `(tactic| first | assumption | decide | omega | exact ⟨by decide, by decide⟩ | exact ⟨by decide, by decide, by decide⟩ | decide +kernel | exact cdivW (by decide +kernel) (by decide +kernel) | exact Or.inl ⟨by omega, by omega⟩ | exact Or.inr ⟨by omega, by omega⟩ | (simp only [List.length_map, List.length_cons, List.length_nil, List.length_append]; omega))
local macro_rules | `(tactic| walk_at "fact") => `(tactic| first | assumption | omega | with_reducible rfl)
local macro_rules | `(tactic| walk_at "use") => `(tactic| fail "use")
local macro_rules | `(tactic| walk_at "go1") => `(tactic| with_reducible first | refine g_seq ?_ | refine g_asg ?_ | refine g_ret ?_ | refine g_ifS ?_ | refine g_drop ?_ | refine g_star ?_ | refine g_nx ?_ | refine g_rt ?_ | refine g_bkE ?_ | refine g_ctE ?_ | refine g_next ?_ | refine g_retN ?_ | refine g_brk ?_ | refine g_ct ?_ | refine g_c ?_ | refine g_op ?_ | refine g_un ?_ | refine g_rI0 ?_ | refine g_rU ?_ | refine g_rEqI ?_ | refine g_rNeI ?_ | refine g_isN ?_ | refine g_rIsB ?_ | refine g_rNotB ?_ | refine g_test ?_ | refine g_B ?_ | refine g_bl ?_ | refine g_and ?_ | refine g_or ?_ | refine g_not ?_ | refine g_andV ?_ | refine g_orV ?_ | refine g_notV ?_ | refine g_if ?_ | refine g_chain ?_ | refine g_yes ?_ | refine g_lc ?_ | refine g_revR ?_ | refine g_rng1 ?_ | refine g_iList ?_ | refine g_nil ?_ | refine g_cons ?_ | refine g_tup ?_ | refine g_lst ?_ | refine g_call ?_ | refine g_CB ?_ | refine g_sl ?_ | refine g_noPart ?_ | refine g_part ?_ | refine g_intE ?_ | refine g_ref ?_ | refine g_fld ?_ | refine g_sfld ?_ | refine g_meth ?_ | refine g_make ?_ | refine g_prop ?_  | refine g_ipI ?_ | refine g_int1 ?_ | refine g_int1B ?_ | refine g_one ?_ | refine g_two ?_ | refine g_isiI ?_ | refine g_isiIB ?_ | refine g_isiB ?_ | refine g_BM ?_ | refine g_BM0 ?_ | refine g_sub ?_)
local macro_rules | `(tactic| walk_at "go") => `(tactic| repeat (first | walk_at "go1" | ((with_reducible refine' g_nameE ?sd_ ?_); case sd_ => dsimp only [List.set_cons_succ, List.set_cons_zero]) | ((with_reducible refine' g_var ?sd_ ?_); case sd_ => exact rfl) | ((with_reducible refine' g_aug ?sd_ ?_); case sd_ => exact rfl) | ((with_reducible refine' g_rI ?sd_ ?_); case sd_ => walk_at "side") | ((with_reducible refine' g_dT ?sd_ ?_); case sd_ => walk_at "fact") | ((with_reducible refine' g_dF ?sd_ ?_); case sd_ => walk_at "fact") | ((with_reducible refine' g_nT ?sd_ ?_); case sd_ => walk_at "fact") | ((with_reducible refine' g_nF ?sd_ ?_); case sd_ => walk_at "fact") | (with_reducible refine g_iT rfl ?_) | (with_reducible refine g_iF rfl ?_) | walk_at "use"))
local macro_rules | `(tactic| walk_at "nw") => `(tactic| (generalize zq : upd _ _ _ = Hq; have sq : Same _ Hq := (by rw [← zq]; exact same_upd (by assumption)); have kq := (congrFun zq _).symm.trans upd_same; clear zq))
local macro_rules | `(tactic| walk_at "bt") => `(tactic| (generalize zq : upd _ _ _ = Hq; have bq : But _ _ Hq := (by rw [← zq]; exact But.refl.upd); have kq := (congrFun zq _).symm.trans upd_same; clear zq))
local macro_rules | `(tactic| walk_at "use") => `(tactic| first | ((with_reducible refine' fd_Channel_number ?ho_ ?hv_ ?_); (case ho_ => first | assumption | exact upd_same); (case hv_ => exact rfl)) | ((with_reducible refine' fd_Channel_announced ?ho_ ?hv_ ?_); (case ho_ => first | assumption | exact upd_same); (case hv_ => exact rfl)) | ((with_reducible refine' fd_Channel_queue ?ho_ ?hv_ ?_); (case ho_ => first | assumption | exact upd_same); (case hv_ => exact rfl)) | ((with_reducible refine' fd_Channel_credit ?ho_ ?hv_ ?_); (case ho_ => first | assumption | exact upd_same); (case hv_ => exact rfl)) | ((with_reducible refine' fd_Channel_finished ?ho_ ?hv_ ?_); (case ho_ => first | assumption | exact upd_same); (case hv_ => exact rfl)) | ((with_reducible refine' fd_Channel_end_sent ?ho_ ?hv_ ?_); (case ho_ => first | assumption | exact upd_same); (case hv_ => exact rfl)) | ((with_reducible refine' fd_Channel_unread ?ho_ ?hv_ ?_); (case ho_ => first | assumption | exact upd_same); (case hv_ => exact rfl)) | ((with_reducible refine' fd_Channel_due ?ho_ ?hv_ ?_); (case ho_ => first | assumption | exact upd_same); (case hv_ => exact rfl)) | ((with_reducible refine' fd_Channel_end_came ?ho_ ?hv_ ?_); (case ho_ => first | assumption | exact upd_same); (case hv_ => exact rfl)) | ((with_reducible refine' fd_Channel_broken ?ho_ ?hv_ ?_); (case ho_ => first | assumption | exact upd_same); (case hv_ => exact rfl)) | ((with_reducible refine' fd_Channel_reset_told ?ho_ ?hv_ ?_); (case ho_ => first | assumption | exact upd_same); (case hv_ => exact rfl)) | ((with_reducible refine' nw_Channel_number ?ho_ ?hv_ ?_); (case ho_ => first | assumption | exact upd_same); (case hv_ => exact rfl)) | ((with_reducible refine' nw_Channel_announced ?ho_ ?hv_ ?_); (case ho_ => first | assumption | exact upd_same); (case hv_ => exact rfl)) | ((with_reducible refine' nw_Channel_queue ?ho_ ?hv_ ?_); (case ho_ => first | assumption | exact upd_same); (case hv_ => exact rfl)) | ((with_reducible refine' nw_Channel_credit ?ho_ ?hv_ ?_); (case ho_ => first | assumption | exact upd_same); (case hv_ => exact rfl)) | ((with_reducible refine' nw_Channel_finished ?ho_ ?hv_ ?_); (case ho_ => first | assumption | exact upd_same); (case hv_ => exact rfl)) | ((with_reducible refine' nw_Channel_end_sent ?ho_ ?hv_ ?_); (case ho_ => first | assumption | exact upd_same); (case hv_ => exact rfl)) | ((with_reducible refine' nw_Channel_unread ?ho_ ?hv_ ?_); (case ho_ => first | assumption | exact upd_same); (case hv_ => exact rfl)) | ((with_reducible refine' nw_Channel_due ?ho_ ?hv_ ?_); (case ho_ => first | assumption | exact upd_same); (case hv_ => exact rfl)) | ((with_reducible refine' nw_Channel_end_came ?ho_ ?hv_ ?_); (case ho_ => first | assumption | exact upd_same); (case hv_ => exact rfl)) | ((with_reducible refine' nw_Channel_broken ?ho_ ?hv_ ?_); (case ho_ => first | assumption | exact upd_same); (case hv_ => exact rfl)) | ((with_reducible refine' nw_Channel_reset_told ?ho_ ?hv_ ?_); (case ho_ => first | assumption | exact upd_same); (case hv_ => exact rfl)) | ((with_reducible refine' st_Channel_number ?ho_ ?hv_ ?_); (case ho_ => first | assumption | exact upd_same); (case hv_ => exact Nat.le_of_ble_eq_true rfl)) | ((with_reducible refine' st_Channel_announced ?ho_ ?hv_ ?_); (case ho_ => first | assumption | exact upd_same); (case hv_ => exact Nat.le_of_ble_eq_true rfl)) | ((with_reducible refine' st_Channel_queue ?ho_ ?hv_ ?_); (case ho_ => first | assumption | exact upd_same); (case hv_ => exact Nat.le_of_ble_eq_true rfl)) | ((with_reducible refine' st_Channel_credit ?ho_ ?hv_ ?_); (case ho_ => first | assumption | exact upd_same); (case hv_ => exact Nat.le_of_ble_eq_true rfl)) | ((with_reducible refine' st_Channel_finished ?ho_ ?hv_ ?_); (case ho_ => first | assumption | exact upd_same); (case hv_ => exact Nat.le_of_ble_eq_true rfl)) | ((with_reducible refine' st_Channel_end_sent ?ho_ ?hv_ ?_); (case ho_ => first | assumption | exact upd_same); (case hv_ => exact Nat.le_of_ble_eq_true rfl)) | ((with_reducible refine' st_Channel_unread ?ho_ ?hv_ ?_); (case ho_ => first | assumption | exact upd_same); (case hv_ => exact Nat.le_of_ble_eq_true rfl)) | ((with_reducible refine' st_Channel_due ?ho_ ?hv_ ?_); (case ho_ => first | assumption | exact upd_same); (case hv_ => exact Nat.le_of_ble_eq_true rfl)) | ((with_reducible refine' st_Channel_end_came ?ho_ ?hv_ ?_); (case ho_ => first | assumption | exact upd_same); (case hv_ => exact Nat.le_of_ble_eq_true rfl)) | ((with_reducible refine' st_Channel_broken ?ho_ ?hv_ ?_); (case ho_ => first | assumption | exact upd_same); (case hv_ => exact Nat.le_of_ble_eq_true rfl)) | ((with_reducible refine' st_Channel_reset_told ?ho_ ?hv_ ?_); (case ho_ => first | assumption | exact upd_same); (case hv_ => exact Nat.le_of_ble_eq_true rfl)) | ((with_reducible refine' me_Channel_break_off ?ho_ ?_); (case ho_ => first | assumption | exact upd_same)) | ((with_reducible refine' me_Channel_fork ?ho_ ?_); (case ho_ => first | assumption | exact upd_same)))
local macro_rules | `(tactic| walk_at "use") => `(tactic| first | ((with_reducible refine' fd_Channels_failure ?ho_ ?hv_ ?_); (case ho_ => first | assumption | exact upd_same); (case hv_ => exact rfl)) | ((with_reducible refine' fd_Channels__window ?ho_ ?hv_ ?_); (case ho_ => first | assumption | exact upd_same); (case hv_ => exact rfl)) | ((with_reducible refine' fd_Channels__most ?ho_ ?hv_ ?_); (case ho_ => first | assumption | exact upd_same); (case hv_ => exact rfl)) | ((with_reducible refine' fd_Channels__next_here ?ho_ ?hv_ ?_); (case ho_ => first | assumption | exact upd_same); (case hv_ => exact rfl)) | ((with_reducible refine' fd_Channels__next_there ?ho_ ?hv_ ?_); (case ho_ => first | assumption | exact upd_same); (case hv_ => exact rfl)) | ((with_reducible refine' fd_Channels__channels ?ho_ ?hv_ ?_); (case ho_ => first | assumption | exact upd_same); (case hv_ => exact rfl)) | ((with_reducible refine' fd_Channels__numbers ?ho_ ?hv_ ?_); (case ho_ => first | assumption | exact upd_same); (case hv_ => exact rfl)) | ((with_reducible refine' fd_Channels__turns ?ho_ ?hv_ ?_); (case ho_ => first | assumption | exact upd_same); (case hv_ => exact rfl)) | ((with_reducible refine' fd_Channels__offered ?ho_ ?hv_ ?_); (case ho_ => first | assumption | exact upd_same); (case hv_ => exact rfl)) | ((with_reducible refine' fd_Channels__going ?ho_ ?hv_ ?_); (case ho_ => first | assumption | exact upd_same); (case hv_ => exact rfl)) | ((with_reducible refine' fd_Channels__coming ?ho_ ?hv_ ?_); (case ho_ => first | assumption | exact upd_same); (case hv_ => exact rfl)) | ((with_reducible refine' nw_Channels_failure ?ho_ ?hv_ ?_); (case ho_ => first | assumption | exact upd_same); (case hv_ => exact rfl)) | ((with_reducible refine' nw_Channels__window ?ho_ ?hv_ ?_); (case ho_ => first | assumption | exact upd_same); (case hv_ => exact rfl)) | ((with_reducible refine' nw_Channels__most ?ho_ ?hv_ ?_); (case ho_ => first | assumption | exact upd_same); (case hv_ => exact rfl)) | ((with_reducible refine' nw_Channels__next_here ?ho_ ?hv_ ?_); (case ho_ => first | assumption | exact upd_same); (case hv_ => exact rfl)) | ((with_reducible refine' nw_Channels__next_there ?ho_ ?hv_ ?_); (case ho_ => first | assumption | exact upd_same); (case hv_ => exact rfl)) | ((with_reducible refine' nw_Channels__channels ?ho_ ?hv_ ?_); (case ho_ => first | assumption | exact upd_same); (case hv_ => exact rfl)) | ((with_reducible refine' nw_Channels__numbers ?ho_ ?hv_ ?_); (case ho_ => first | assumption | exact upd_same); (case hv_ => exact rfl)) | ((with_reducible refine' nw_Channels__turns ?ho_ ?hv_ ?_); (case ho_ => first | assumption | exact upd_same); (case hv_ => exact rfl)) | ((with_reducible refine' nw_Channels__offered ?ho_ ?hv_ ?_); (case ho_ => first | assumption | exact upd_same); (case hv_ => exact rfl)) | ((with_reducible refine' nw_Channels__going ?ho_ ?hv_ ?_); (case ho_ => first | assumption | exact upd_same); (case hv_ => exact rfl)) | ((with_reducible refine' nw_Channels__coming ?ho_ ?hv_ ?_); (case ho_ => first | assumption | exact upd_same); (case hv_ => exact rfl)) | ((with_reducible refine' st_Channels_failure ?ho_ ?hv_ ?_); (case ho_ => first | assumption | exact upd_same); (case hv_ => exact Nat.le_of_ble_eq_true rfl)) | ((with_reducible refine' st_Channels__window ?ho_ ?hv_ ?_); (case ho_ => first | assumption | exact upd_same); (case hv_ => exact Nat.le_of_ble_eq_true rfl)) | ((with_reducible refine' st_Channels__most ?ho_ ?hv_ ?_); (case ho_ => first | assumption | exact upd_same); (case hv_ => exact Nat.le_of_ble_eq_true rfl)) | ((with_reducible refine' st_Channels__next_here ?ho_ ?hv_ ?_); (case ho_ => first | assumption | exact upd_same); (case hv_ => exact Nat.le_of_ble_eq_true rfl)) | ((with_reducible refine' st_Channels__next_there ?ho_ ?hv_ ?_); (case ho_ => first | assumption | exact upd_same); (case hv_ => exact Nat.le_of_ble_eq_true rfl)) | ((with_reducible refine' st_Channels__channels ?ho_ ?hv_ ?_); (case ho_ => first | assumption | exact upd_same); (case hv_ => exact Nat.le_of_ble_eq_true rfl)) | ((with_reducible refine' st_Channels__numbers ?ho_ ?hv_ ?_); (case ho_ => first | assumption | exact upd_same); (case hv_ => exact Nat.le_of_ble_eq_true rfl)) | ((with_reducible refine' st_Channels__turns ?ho_ ?hv_ ?_); (case ho_ => first | assumption | exact upd_same); (case hv_ => exact Nat.le_of_ble_eq_true rfl)) | ((with_reducible refine' st_Channels__offered ?ho_ ?hv_ ?_); (case ho_ => first | assumption | exact upd_same); (case hv_ => exact Nat.le_of_ble_eq_true rfl)) | ((with_reducible refine' st_Channels__going ?ho_ ?hv_ ?_); (case ho_ => first | assumption | exact upd_same); (case hv_ => exact Nat.le_of_ble_eq_true rfl)) | ((with_reducible refine' st_Channels__coming ?ho_ ?hv_ ?_); (case ho_ => first | assumption | exact upd_same); (case hv_ => exact Nat.le_of_ble_eq_true rfl)) | ((with_reducible refine' me_Channels_len__ ?ho_ ?_); (case ho_ => first | assumption | exact upd_same)) | ((with_reducible refine' me_Channels_iter__ ?ho_ ?_); (case ho_ => first | assumption | exact upd_same)) | ((with_reducible refine' me_Channels_open_channel ?ho_ ?_); (case ho_ => first | assumption | exact upd_same)) | ((with_reducible refine' me_Channels_accept ?ho_ ?_); (case ho_ => first | assumption | exact upd_same)) | ((with_reducible refine' me_Channels_finish ?ho_ ?_); (case ho_ => first | assumption | exact upd_same)) | ((with_reducible refine' me_Channels_reset ?ho_ ?_); (case ho_ => first | assumption | exact upd_same)) | ((with_reducible refine' me_Channels_status ?ho_ ?_); (case ho_ => first | assumption | exact upd_same)) | ((with_reducible refine' me_Channels_take ?ho_ ?_); (case ho_ => first | assumption | exact upd_same)) | ((with_reducible refine' me_Channels_receive ?ho_ ?_); (case ho_ => first | assumption | exact upd_same)) | ((with_reducible refine' me_Channels_fork ?ho_ ?_); (case ho_ => first | assumption | exact upd_same)) | ((with_reducible refine' me_Channels_known ?ho_ ?_); (case ho_ => first | assumption | exact upd_same)) | ((with_reducible refine' me_Channels_add ?ho_ ?_); (case ho_ => first | assumption | exact upd_same)) | ((with_reducible refine' me_Channels_room_of ?ho_ ?_); (case ho_ => first | assumption | exact upd_same)) | ((with_reducible refine' me_Channels_take_frame ?ho_ ?_); (case ho_ => first | assumption | exact upd_same)) | ((with_reducible refine' me_Channels_failure_of ?ho_ ?_); (case ho_ => first | assumption | exact upd_same)) | ((with_reducible refine' me_Channels_apply ?ho_ ?_); (case ho_ => first | assumption | exact upd_same)))
section
variable {P : Program} {w : World} {K : PySem.W.Frag} {mg : Str → Option Value} {base : Heap}
local macro_rules | `(tactic| walk_at "use") => `(tactic| with_reducible first | refine g_rs0 ?_ | refine g_rs1 ?_ | refine g_tryA ?_ | refine g_tryO ?_ | refine g_callS ?_ | refine g_joined ?_ | refine g_jsnil ?_ | refine g_jscons ?_ | refine g_fmt ?_)
local macro_rules | `(tactic| walk_at "fit") => `(tactic| (refine fit2 ?_; (try simp only [PySem.Str.length_append]); omega))
local macro_rules | `(tactic| walk_at "use") => `(tactic| first | ((with_reducible refine' g_addS ?sd_ ?_); case sd_ => (first | omega | (simp only [PySem.Str.length_append]; omega))) | ((with_reducible refine' g_slS ?sd_ ?_); case sd_ => omega) | (with_reducible refine g_m0 ?_))

local macro_rules | `(tactic| walk_at "use") => `(tactic| with_reducible first | refine g_dgetI ?_ | refine g_dputI ?_ | refine g_dget1I ?_ | refine g_dget2I ?_ | refine g_dinI ?_ | refine g_dnotinI ?_ | refine g_dnewK ?_)

section
variable {K : PySem.W.Frag} {H : Hp} {Q : VK}
end
local macro_rules | `(tactic| walk_at "use") => `(tactic| with_reducible first | refine g_rEqS ?_ | refine g_rNeS ?_ | refine g_isiS ?_)

local macro_rules | `(tactic| walk_at "use") => `(tactic| with_reducible refine g_makeK ?_)

/-! ### a side's fork -/
theorem g_lockE {t : TE} {σ : St} {H : Hp} {Q : VK} {d : Addr} {u : HO} (e : H d = some u) (m : Mut (some u)) (h : ∀ od, t σ (upd H d (.frz od u)) fun v H' => H' d = some (.frz od u) ∧ Q v (upd H' d u)) : tLockE t σ H Q := ⟨d, u, e, m, h⟩
theorem g_iKeys {td : TE} {σ : St} {H : Hp} {R : It → Hp → Prop} (h : td σ H fun x H1 => ∃ d o, x = .ref d ∧ ((∃ kvs, H1 d = some (.frz o (.dK kvs)) ∧ R (Itk d o kvs) H1) ∨ ∃ kvs, H1 d = some (.frz o (.dT kvs)) ∧ R (Itkt d o kvs) H1)) : iKeys td σ H R := h
theorem g_dc {wi : TI} {g : TG} {tt : TT} {tk tv : TE} {vs : List Nat} {σ : St} {H : Hp} {Q : VK} (h : wi σ H fun J H1 => ∀ D, H1 D = none → ∃ W : Nat → Nat → Hp → Prop, (∃ m, W 0 m (upd H1 D (.dK []))) ∧ ∀ i m H, W i m H →
  (J.stop i H ∧ Q (.ref D) H) ∨ (J.go i H ∧ ∃ Nx : Hp → Prop, (∀ H', Nx H' → ∃ m', m' < m ∧ W (i + 1) m' H') ∧ ∀ x H', J.yld i H x H' → g x (wipe σ vs) H' fun σ2 H2 => wipe σ2 vs = wipe σ vs ∧ tt σ2 H2 fun b H3 =>
    if b = true then tk σ2 H3 fun y H4 => tv σ2 H4 fun z H5 => ∃ kvs k, y = kV k ∧ H5 D = some (.dK kvs) ∧ kvs.length < sizeLine ∧ Nx (upd H5 D (.dK (putK kvs k z))) else Nx H3)) : tDc wi g tt tk tv vs σ H Q := h
theorem dc_it {J : It} {n : Nat} {G : Hp → Prop} {Y : Nat → Hp → V → Hp → Prop} (w : Walk J n G Y) {g : TG} {tt : TT} {tk tv : TE} {vs : List Nat} {σ : St} {H1 : Hp} {D : Addr} {Qd : Hp → Prop} (Pv : Nat → Hp → Prop) (h0 : Pv 0 (upd H1 D (.dK []))) (hG : ∀ i H, i ≤ n → Pv i H → G H)
    (hs : ∀ i x H H', i < n → Pv i H → Y i H x H' → g x (wipe σ vs) H' fun σ2 H2 => wipe σ2 vs = wipe σ vs ∧ tt σ2 H2 fun b H3 =>
      if b = true then tk σ2 H3 fun y H4 => tv σ2 H4 fun z H5 => ∃ kvs k, y = kV k ∧ H5 D = some (.dK kvs) ∧ kvs.length < sizeLine ∧ Pv (i + 1) (upd H5 D (.dK (putK kvs k z))) else Pv (i + 1) H3) (hd : ∀ H, Pv n H → Qd H) :
    ∃ W : Nat → Nat → Hp → Prop, (∃ m, W 0 m (upd H1 D (.dK []))) ∧ ∀ i m H, W i m H →
      (J.stop i H ∧ Qd H) ∨ (J.go i H ∧ ∃ Nx : Hp → Prop, (∀ H', Nx H' → ∃ m', m' < m ∧ W (i + 1) m' H') ∧ ∀ x H', J.yld i H x H' → g x (wipe σ vs) H' fun σ2 H2 => wipe σ2 vs = wipe σ vs ∧ tt σ2 H2 fun b H3 =>
        if b = true then tk σ2 H3 fun y H4 => tv σ2 H4 fun z H5 => ∃ kvs k, y = kV k ∧ H5 D = some (.dK kvs) ∧ kvs.length < sizeLine ∧ Nx (upd H5 D (.dK (putK kvs k z))) else Nx H3) := by
  refine ⟨fun i m H => m = n - i ∧ i ≤ n ∧ Pv i H, ⟨n, by simp, Nat.zero_le _, h0⟩, ?_⟩
  rintro i m H ⟨rfl, hi, p⟩
  have q := hG i H hi p
  by_cases hlt : i < n
  · refine .inr ⟨w.goes i H hlt q, Pv (i + 1), fun H' p' => ⟨n - (i + 1), by omega, rfl, hlt, p'⟩, fun x H' y => hs i x H H' hlt p (w.yields i H x H' hlt q y)⟩
  · have e : i = n := by omega
    subst e
    exact .inl ⟨w.stops H q, hd H p⟩
def setO (o : Addr → Option Nat) (l : Addr) (k : Nat) : Addr → Option Nat := fun b => if b = l then some k else o b
theorem setO_same {o : Addr → Option Nat} {l : Addr} {k : Nat} : setO o l k l = some k := if_pos rfl
/-- what the fork has made so far -/
structure FkI (H : Hp) (o : Addr → Option Nat) (Hc : Hp) : Prop where
  al : ∀ b, o b ≠ none → Hc b ≠ none ∧ H b = none
  fr : ∀ b, Hc b = none → H b = none
theorem FkI.me {H Hc : Hp} {o : Addr → Option Nat} (_ : FkI H o Hc) {l : Addr} {k : Nat} : setO o l k l = some k := setO_same
theorem FkI.free {H Hc : Hp} {o : Addr → Option Nat} (F : FkI H o Hc) {l : Addr} (h : Hc l = none) : o l = none := Decidable.byContradiction fun z => (F.al l z).1 h
theorem FkI.keep {H Hc : Hp} {o : Addr → Option Nat} (F : FkI H o Hc) {l : Addr} {k k' : Nat} {b : Addr} (h : Hc l = none) (e : o b = some k) : setO o l k' b = some k := by
  unfold setO
  rw [if_neg (fun z => (F.al b (by rw [e]; exact nofun)).1 (by rw [z]; exact h))]
  exact e
theorem FkI.sub {H Hc H' : Hp} {o : Addr → Option Nat} (F : FkI H o Hc) (s : ∀ b, Hc b ≠ none → H' b ≠ none) : FkI H o H' :=
  ⟨fun b h => ⟨s b (F.al b h).1, (F.al b h).2⟩, fun b h => F.fr b (Decidable.byContradiction fun z => s b z h)⟩
theorem FkI.same {H Hc H' : Hp} {o : Addr → Option Nat} (F : FkI H o Hc) (s : Same Hc H') : FkI H o H' := F.sub fun b h => by
  obtain ⟨x, e⟩ := Option.ne_none_iff_exists'.mp h
  rw [s _ _ e]
  exact nofun
theorem FkI.but {H Hc H' : Hp} {o : Addr → Option Nat} (F : FkI H o Hc) {p : Addr} (s : But p Hc H') (hp : H' p ≠ none) : FkI H o H' := F.sub fun b h => by
  by_cases z : b = p
  · rw [z]; exact hp
  · obtain ⟨x, e⟩ := Option.ne_none_iff_exists'.mp h
    rw [s _ _ z e]
    exact nofun
theorem FkI.add {H Hc : Hp} {o : Addr → Option Nat} (F : FkI H o Hc) {l : Addr} {k : Nat} (h : Hc l ≠ none) (h2 : H l = none) : FkI H (setO o l k) Hc := ⟨fun b hb => by
  by_cases z : b = l
  · rw [z]; exact ⟨h, h2⟩
  · exact F.al b (by unfold setO at hb; rw [if_neg z] at hb; exact hb), F.fr⟩
theorem FkI.new {H Hc H' : Hp} {o : Addr → Option Nat} (F : FkI H o Hc) {l : Addr} {k : Nat} (h : Hc l = none) (s : Same Hc H') (h2 : H' l ≠ none) : FkI H (setO o l k) H' := (F.same s).add h2 (F.fr l h)
theorem Same.back {H H' : Hp} {d : Addr} {od : Obj} {u : HO} (e : H d = some u) (s : Same (upd H d (.frz od u)) H') : Same H (upd H' d u) := fun b o h => by
  by_cases z : b = d
  · rw [z, upd_same, ← e, ← z]; exact h
  · rw [upd_ne z]
    exact s b o (by rw [upd_ne z]; exact h)
def sp_Channels_fork (CS CC : Addr) : Sp := fun vs H Q _ => ∃ (own : Addr → Option Nat) (S : Sg) (x : Nat → Ca) (g : Sd), vs = [.ref S.p] ∧ SgO CS CC own H S x g ∧ 1 ≤ g.w ∧ g.w ≤ 65535 ∧ 1 ≤ g.m ∧ g.m ≤ 65535 ∧ g.cs.length < 1000 ∧
  ∀ own2 S2 x2 H', (∀ b, own2 b ≠ none → H b = none) → Same H H' → SgO CS CC own2 H' S2 x2 g → Q (.ref S2.p) H'
theorem kbt_1 {P : Program} {w : World} {K : PySem.W.Frag} {mg : Str → Option Value} (T : Txt P w K mg) : ∃ g, KBn K T.d_Channels_init__ ["self", "first", "window", "most"] 1 ["first", "window", "most"] g (fun vs zs => vs ++ ((zs.drop 0).take 1 ++ ((zs.drop 1).take 1 ++ ((zs.drop 2).take 1)))) :=
  ⟨_, kb_pure (ps := ["self", "first", "window", "most"]) T.F_Channels_init__ 1 ["first", "window", "most"] (fun vs zs => vs ++ ((zs.drop 0).take 1 ++ ((zs.drop 1).take 1 ++ ((zs.drop 2).take 1)))) (fun r1 r2 => r1.append (((r2.drop 0).take 1).append (((r2.drop 1).take 1).append ((r2.drop 2).take 1)))) (fun kV doc pm an cdv ct us ws l1 l2 => match us, l1, ws, l2 with | [_], _, [_, _, _], _ => rfl)⟩
theorem ok_Channels_fork (T : Txt P w K mg) : FnOk P w K mg base (L2.CX P w) 4 T.f_Channels_fork T.d_Channels_fork ["self"] (sp_Channels_fork T.C_Channels T.C_Channel) := by
  refine T.F_Channels_fork.okX sc_Channels_fork (fun vs H Q E h => ?_) (fun cdv A outer s H vs Q E hr h => ?_)
  · obtain ⟨own, S, x, g, rfl, O, w0, w1, m0, m1, lc, q⟩ := h
    rfl
  · obtain ⟨own, S, x, g, rfl, O, w0, w1, m0, m1, lc, q⟩ := h
    have hu := hu_of hr
    obtain ⟨gk_1, kb_1⟩ := kbt_1 T
    refine ⟨_, (pss_cons (ps_set (i := 1) sc_Channels_fork.nd rfl (Or.inl rfl) (pe_makeK0 T.mk_Channels (ok_Channels_init__ T) (hr.mono (by decide)) rfl T.c_Channels kb_1 (passes_call (takes_of rfl rfl rfl rfl) (fun _ _ _ _ h => h)) (pk_cons pe_bl (pk_cons (pe_fld (pv 0) rfl) (pk_cons (pe_fld (pv 0) rfl) pk_nil)))))
        (pss_cons (ps_fld (pv 1) (pe_fld (pv 0) rfl) rfl)
        (pss_cons (ps_fld (pv 1) (pe_fld (pv 0) rfl) rfl)
        (pss_cons (ps_fld (pv 1) (pe_fld (pv 0) rfl) rfl)
        (pss_cons (ps_fld (pv 1) (pe_lock (pe_dc (own := [("number", 2)]) (g := gName 2) (tt := tYes) rfl sc_Channels_fork.nd (pi_keys (pe_fld (pv 0) rfl)) (blkOk_by (N := ["self", "other", "number"]) (sc := defScope s_Channels_fork) (by decide +kernel)) (fun _ _ _ _ _ => (pg_name (i := 2) sc_Channels_fork.nd rfl (Or.inl rfl))) (fun _ _ _ _ _ => pts_nil) (fun _ _ _ _ _ => (pv 2)) (fun _ _ _ _ _ => (pe_meth0 (pe_dget hu (show PE _ _ (tFld K _ _) from pe_fld (pv 0) rfl) (pv 2) (fun _ _ => rfl)) T.k_Channel T.a_Channel_fork (ok_Channel_fork T) (hr.mono (by decide)) T.b_Channel_fork .nil pass0)))) rfl)
        (pss_cons (ps_fld (pv 1) (pe_callTy call_list_of (by rfl) T.n_list (by decide +kernel) (pa_cons (pe_fld (pv 0) rfl) pa_nil)) rfl)
        (pss_cons (ps_fld (pv 1) (pe_callTy call_list_of (by rfl) T.n_list (by decide +kernel) (pa_cons (pe_fld (pv 0) rfl) pa_nil)) rfl)
        (pss_cons (ps_fld (pv 1) (pe_callTy call_list_of (by rfl) T.n_list (by decide +kernel) (pa_cons (pe_fld (pv 0) rfl) pa_nil)) rfl)
        (pss_cons (ps_fld (pv 1) (pe_callTy call_list_of (by rfl) T.n_list (by decide +kernel) (pa_cons (pe_fld (pv 0) rfl) pa_nil)) rfl)
        (pss_cons (ps_fld (pv 1) (pe_callTy call_list_of (by rfl) T.n_list (by decide +kernel) (pa_cons (pe_fld (pv 0) rfl) pa_nil)) rfl)
        (pss_one (ps_ret (pv 1))))))))))))), ?_⟩
    dsimp only [cxOf, Cx.nox, Cx.wish, L2.start, List.map, List.cons_append, List.nil_append, List.length_cons, List.length_nil, Nat.reduceAdd, Nat.reduceSub, Nat.zero_add, List.replicate_succ, List.replicate_zero]
    have ho := O.ho
    walk_at "go"
    refine ⟨rfl, rfl, fun y dy hy hdy hnd => ?_⟩
    have s1 : Same H (upd (upd H dy (.own y)) y (.ins T.C_Channels dy [])) := (same_upd hdy).trans (same_upd (by rw [upd_ne hnd.symm]; exact hy))
    refine ⟨y, dy, true, g.w, g.m, rfl, upd_same, by omega, by omega, by omega, by omega, .inr ⟨⟨w0, w1, m0, m1⟩, fun oA SA xA H3 hoA hSp OA b3 => ⟨rfl, ?_⟩⟩⟩
    have s0 : Same H H3 := ((But.of s1).trans b3).same hy
    obtain ⟨oB, eB, nB, OB⟩ := OA.nrm
    have F0 : FkI H oB H3 := ⟨fun b hb => ⟨fun z => hb (nB b z), by
      have hn : H3 b ≠ none := fun z => hb (nB b z)
      have : oA b ≠ none := by rw [← eB b hn]; exact hb
      rcases hoA b this with z | z
      · rw [z]; exact hy
      · exact free_same s1 z⟩, fun b h => free_same s0 h⟩
    obtain ⟨pY, dY, cdY, nlY, tlY, olY, glY, clY⟩ := SA
    have hSp : pY = y := hSp
    subst hSp
    have op : oB pY = some 0 := OB.os.1
    have hoY := OB.ho
    have hoX := s0 _ _ ho
    generalize eo : oB = o1 at F0 op
    clear s1 b3 OA OB hoA eB nB eo
    dsimp only at hoY hy hdy
    walk_at "go"
    simp only [List.set_cons_succ, List.set_cons_zero]
    walk_at "bt"
    rename_i H5 b5 hoY
    have s0 : Same H H5 := ((But.of s0).trans b5).same hy
    have F0 := F0.but b5 (by rw [hoY]; exact nofun)
    have hoX := s0 _ _ ho
    walk_at "go"
    simp only [List.set_cons_succ, List.set_cons_zero]
    walk_at "bt"
    rename_i H5 b5 hoY
    have s0 : Same H H5 := ((But.of s0).trans b5).same hy
    have F0 := F0.but b5 (by rw [hoY]; exact nofun)
    have hoX := s0 _ _ ho
    walk_at "go"
    simp only [List.set_cons_succ, List.set_cons_zero]
    walk_at "bt"
    rename_i H5 b5 hoY
    have s0 : Same H H5 := ((But.of s0).trans b5).same hy
    have F0 := F0.but b5 (by rw [hoY]; exact nofun)
    have hoX := s0 _ _ ho
    have O5 := O.same s0
    walk_at "go"
    refine g_lockE O5.hd trivial fun od => ?_
    have eF : (upd H5 S.cd (.frz od (.dK (chK x g.cs)))) S.cd = some (.frz od (.dK (chK x g.cs))) := upd_same
    have bF : But S.cd H5 (upd H5 S.cd (.frz od (.dK (chK x g.cs)))) := But.refl.upd
    have hX5 : ∀ (i : Nat) (c : Cg), g.cs[i]? = some c → CgO T.C_Channel (upd H5 S.cd (.frz od (.dK (chK x g.cs)))) (x i) c := fun i c e => O5.hxk (fun a o z e => bF _ _ (fun w => by
      rcases z with ⟨kk, z⟩ | ⟨kk, z⟩
      · rw [w, O.os.2.1] at z; cases z
      · rw [w, O5.hd, z] at e; cases e) e) i c e
    have hpF := bF _ _ (ne_of O5.ho O5.hd (fun z => nomatch z)) O5.ho
    have hyF := bF _ _ (ne_of hoY O5.hd (fun z => nomatch z)) hoY
    have back : ∀ {H'}, Same (upd H5 S.cd (.frz od (.dK (chK x g.cs)))) H' → Same H5 (upd H' S.cd (.dK (chK x g.cs))) := fun s => Same.back O5.hd s
    have FF := F0.but bF (by rw [eF]; exact nofun)
    generalize upd H5 S.cd (.frz od (.dK (chK x g.cs))) = HF at eF bF hX5 hpF hyF back FF
    refine g_dc ?_
    refine g_iKeys ?_
    walk_at "go"
    refine ⟨S.cd, od, rfl, .inl ⟨_, eF, ?_⟩⟩
    intro D hD
    have hDo := FF.free hD
    refine dc_it walk_keys (fun i H' => Same HF H' ∧ ∃ (y : Nat → Ca) (o : Addr → Option Nat), H' D = some (.dK (chK y (g.cs.take i))) ∧ FkI H o H' ∧ o pY = some 0 ∧ o D = some 0 ∧ ∀ (j : Nat) (c : Cg), j < i → g.cs[j]? = some c → CgO T.C_Channel H' (y j) c ∧ o (y j).a = some (j + 1) ∧ o (y j).q = some (j + 1) ∧ o (y j).u = some (j + 1)) ?h0 (fun i H' _ p => p.1 _ _ eF) ?turn ?done
    case h0 =>
      exact ⟨same_upd hD, fun _ => ⟨pY, pY, pY, pY, .non⟩, setO o1 D 0, upd_same, FF.new hD (same_upd hD) (by rw [upd_same]; exact nofun), FF.keep hD op, setO_same, fun j c h => absurd h (Nat.not_lt_zero j)⟩
    case turn =>
      rintro i x0 H'' H' hi ⟨s, y, o, kD, F, o1', o2', hj⟩ ⟨rfl, k, vv, hk, rfl⟩
      rw [chK_len] at hi
      obtain ⟨c, hc⟩ : ∃ c, g.cs[i]? = some c := ⟨_, List.getElem?_eq_getElem hi⟩
      obtain rfl : k = .inl c.n := by
        unfold chK at hk
        rw [List.getElem?_map, List.getElem?_range hi, Option.map_some, hc] at hk
        have hk := Option.some.inj hk
        exact (congrArg Prod.fst hk).symm
      have hpS := s _ _ hpF
      refine ⟨rfl, ?_⟩
      walk_at "go"
      refine ⟨S.cd, .ref (x i).a, rfl, .inl ⟨_, .inl c.n, .inr ⟨od, s _ _ eF⟩, rfl, ?_⟩, ?_⟩
      · rw [chK_get O.nk]
        have : ixN? g.cs c.n = some i := by
          have e := List.getElem?_eq_some_iff.mp hc
          unfold ixN?
          rw [List.findIdx?_eq_some_iff_getElem]
          refine ⟨hi, decide_eq_true (by rw [e.2]), fun j hj => ?_⟩
          have nk := O.nk
          unfold List.Nodup at nk
          rw [List.pairwise_map] at nk
          have := List.pairwise_iff_getElem.mp nk j i (by omega) hi hj
          rw [e.2] at this
          simpa using this
        rw [this]
        rfl
      have hxi := (hX5 i c hc).same s
      have hxo := hxi.1
      walk_at "go"
      refine ⟨x i, c, rfl, hxi, fun yi H2 fa fq fu s2 hyi => ?_⟩
      have kD2 := s2 _ _ kD
      have F2 := F.same s2
      obtain ⟨ma, mq, mu⟩ := hyi.mem
      have naq : yi.a ≠ yi.q := ne_of hyi.1 hyi.2.1 (fun z => nomatch z)
      have nau : yi.a ≠ yi.u := ne_of hyi.1 hyi.2.2.1 (fun z => nomatch z)
      have et : g.cs.take (i + 1) = g.cs.take i ++ [c] := by rw [List.take_add_one, hc]; rfl
      have li : (g.cs.take i).length = i := by rw [List.length_take]; omega
      have nin : ∀ d ∈ g.cs.take i, d.n ≠ c.n := fun d hd => by
        obtain ⟨j, hjj⟩ := List.getElem?_of_mem hd
        have hj2 := ls_i hjj
        rw [li] at hj2
        rw [List.getElem?_take_of_lt hj2] at hjj
        have nk := O.nk
        unfold List.Nodup at nk
        rw [List.pairwise_map] at nk
        have := List.pairwise_iff_getElem.mp nk j i (by omega) hi hj2
        rw [(List.getElem?_eq_some_iff.mp hjj).2, (List.getElem?_eq_some_iff.mp hc).2] at this
        exact this
      have nDa : ∀ {b : Addr}, H' b = none → b ≠ D := fun e z => by rw [z, kD] at e; cases e
      have kp : ∀ {b : Addr} {k : Nat}, o b = some k → setO (setO (setO o yi.a (i + 1)) yi.q (i + 1)) yi.u (i + 1) b = some k := fun {b k} e => by
        have hb : H' b ≠ none := (F.al b (by rw [e]; exact nofun)).1
        unfold setO
        rw [if_neg (fun z => hb (by rw [z]; exact fu)), if_neg (fun z => hb (by rw [z]; exact fq)), if_neg (fun z => hb (by rw [z]; exact fa))]
        exact e
      refine ⟨_, .inl c.n, rfl, kD2, szl (by rw [chK_len, li]; omega), (fun b o' e => by rw [upd_ne (ne_of_none e hD)]; exact (s.trans s2) b o' e), addX y i yi, setO (setO (setO o yi.a (i + 1)) yi.q (i + 1)) yi.u (i + 1), ?_, ?_, ?_, ?_, ?_⟩
      · rw [upd_same, putK_new _ (chK_out nin), et]
        have := chK_add (x := y) (cs := g.cs.take i) (c := c) (y := yi)
        rw [li] at this
        rw [this]
      · have F3 := ((F2.add (k := i + 1) ma (F.fr _ fa)).add (k := i + 1) mq (F.fr _ fq)).add (k := i + 1) mu (F.fr _ fu)
        exact F3.but But.refl.upd (by rw [upd_same]; exact nofun)
      · exact kp o1'
      · exact kp o2'
      · intro j d hji hd
        have bD : But D H2 (upd H2 D (.dK (putK (chK y (g.cs.take i)) (.inl c.n) (.ref yi.a)))) := But.refl.upd
        have kC : ∀ {z : Ca} {d : Cg}, CgO T.C_Channel H2 z d → CgO T.C_Channel (upd H2 D (.dK (putK (chK y (g.cs.take i)) (.inl c.n) (.ref yi.a)))) z d := fun h => h.keep fun b o h' e => bD b o (fun w => by
          subst w
          rw [kD2] at e
          cases e
          rcases h' with h' | h' | h' | ⟨kk, h'⟩
          · rw [h', h.1] at kD2; cases kD2
          · rw [h', h.2.1] at kD2; cases kD2
          · rw [h', h.2.2.1] at kD2; cases kD2
          · cases h') e
        by_cases z : j = i
        · subst z
          rw [hc] at hd
          obtain rfl := Option.some.inj hd
          unfold addX
          rw [if_pos rfl]
          refine ⟨kC hyi, ?_, ?_, ?_⟩
          · unfold setO
            rw [if_neg nau, if_neg naq, if_pos rfl]
          · unfold setO
            by_cases w : yi.q = yi.u
            · rw [if_pos w]
            · rw [if_neg w, if_pos rfl]
          · exact setO_same
        · unfold addX
          rw [if_neg z]
          obtain ⟨j1, j2, j3, j4⟩ := hj j d (by omega) hd
          exact ⟨kC (j1.same s2), kp j2, kp j3, kp j4⟩
    case done =>
      rintro HE ⟨sE, y, o, kD, FE, op, oD, hj⟩
      rw [chK_len, List.take_length] at kD
      rw [chK_len] at hj
      have sB := back sE
      have ndD : D ≠ S.cd := fun z => by rw [z, eF] at hD; cases hD
      have nE : HE S.cd ≠ none := by rw [sE _ _ eF]; exact nofun
      refine ⟨sE _ _ eF, ?_⟩
      have kD : (upd HE S.cd (.dK (chK x g.cs))) D = some (.dK (chK y g.cs)) := by rw [upd_ne ndD]; exact kD
      have F0 : FkI H o (upd HE S.cd (.dK (chK x g.cs))) := FE.but But.refl.upd (by rw [upd_same]; exact nofun)
      have hj : ∀ (j : Nat) (c : Cg), g.cs[j]? = some c → CgO T.C_Channel (upd HE S.cd (.dK (chK x g.cs))) (y j) c ∧ o (y j).a = some (j + 1) ∧ o (y j).q = some (j + 1) ∧ o (y j).u = some (j + 1) := fun j c hc => by
        obtain ⟨j1, j2, j3, j4⟩ := hj j c (ls_i hc) hc
        have bd : But S.cd HE (upd HE S.cd (.dK (chK x g.cs))) := But.refl.upd
        refine ⟨j1.keep fun b o h e => bd _ _ (fun w => ?_) e, j2, j3, j4⟩
        have eE := sE _ _ eF
        rw [w, eE] at e
        cases e
        rcases h with h | h | h | ⟨kk, h⟩
        · have := j1.1; rw [← h, w, eE] at this; cases this
        · have := j1.2.1; rw [← h, w, eE] at this; cases this
        · have := j1.2.2.1; rw [← h, w, eE] at this; cases this
        · cases h
      generalize upd HE S.cd (.dK (chK x g.cs)) = HG at sB kD F0 hj
      have s0 : Same H HG := s0.trans sB
      have hoX := s0 _ _ ho
      have hoY := sB _ _ hoY
      clear sE FE back nE hyF hpF hX5 bF eF FF hDo
      have nDp : D ≠ pY := ne_of kD hoY (fun z => nomatch z)
      have hyp : ∀ {b : Addr} {o' : HO}, (∀ od fs, o' ≠ .ins T.C_Channels od fs) → HG b = some o' → b ≠ pY := fun hn e z => by rw [z, hoY] at e; exact hn _ _ (Option.some.inj e).symm
      have keepJ : ∀ {o' : Addr → Option Nat} {HA HB : Hp}, (∀ b o, b ≠ pY → HA b = some o → HB b = some o) → (∀ (j : Nat) (c : Cg), g.cs[j]? = some c → CgO T.C_Channel HA (y j) c ∧ o' (y j).a = some (j + 1) ∧ o' (y j).q = some (j + 1) ∧ o' (y j).u = some (j + 1)) → (hpo : o' pY = some 0) → (hpH : ∀ k, HA pY ≠ some (.tup k)) → ∀ (j : Nat) (c : Cg), g.cs[j]? = some c → CgO T.C_Channel HB (y j) c ∧ o' (y j).a = some (j + 1) ∧ o' (y j).q = some (j + 1) ∧ o' (y j).u = some (j + 1) := fun {o' HA HB} fr hj hpo hpH j c hc => by
        obtain ⟨j1, j2, j3, j4⟩ := hj j c hc
        refine ⟨j1.keep fun b o h e => fr b o (fun w => ?_) e, j2, j3, j4⟩
        subst w
        rcases h with h | h | h | ⟨kk, h⟩
        · rw [← h, hpo] at j2; cases j2
        · rw [← h, hpo] at j3; cases j3
        · rw [← h, hpo] at j4; cases j4
        · exact hpH kk (h ▸ e)
      walk_at "go"
      simp only [List.set_cons_succ, List.set_cons_zero]
      walk_at "bt"
      rename_i H5 b5 hoY5
      have hj := keepJ (fun b o h e => b5 _ _ h e) hj op (fun k z => by rw [hoY] at z; cases z)
      have hoY := hoY5
      clear hoY5
      have s0 : Same H H5 := ((But.of s0).trans b5).same hy
      have F0 := F0.but b5 (by rw [hoY]; exact nofun)
      have hoX := s0 _ _ ho
      have kD := b5 _ _ nDp kD
      walk_at "go"
      refine ⟨S.nl, _, rfl, .inl (sl (s0 _ _ O.hn)), fun nl h_nl => ?_⟩
      have fo := F0
      walk_at "nw"
      rename_i H4 s4 k_nl
      have hj := fun j c hc => let ⟨j1, j2, j3, j4⟩ := hj j c hc; (⟨j1.same s4, fo.keep h_nl j2 (k' := 0), fo.keep h_nl j3 (k' := 0), fo.keep h_nl j4 (k' := 0)⟩ : CgO T.C_Channel H4 (y j) c ∧ _ ∧ _ ∧ _)
      have op := fo.keep (k' := 0) h_nl op
      have oD := fo.keep (k' := 0) h_nl oD
      have o_nl := fo.me (l := nl) (k := 0)
      have F0 := fo.new (k := 0) h_nl s4 (by rw [k_nl]; exact nofun)
      have hoX := s4 _ _ hoX
      have hoY := s4 _ _ hoY
      have kD := s4 _ _ kD
      have s0 := s0.trans s4
      have n_nl : nl ≠ pY := fun z => by rw [z, hoY] at k_nl; cases k_nl
      walk_at "go"
      simp only [List.set_cons_succ, List.set_cons_zero]
      walk_at "bt"
      rename_i H5 b5 hoY5
      have hj := keepJ (fun b o h e => b5 _ _ h e) hj op (fun k z => by rw [hoY] at z; cases z)
      have hoY := hoY5
      clear hoY5
      have s0 : Same H H5 := ((But.of s0).trans b5).same hy
      have F0 := F0.but b5 (by rw [hoY]; exact nofun)
      have hoX := s0 _ _ ho
      have kD := b5 _ _ nDp kD
      have k_nl := b5 _ _ n_nl k_nl
      walk_at "go"
      refine ⟨S.tl, _, rfl, .inl (sl (s0 _ _ O.ht)), fun tl h_tl => ?_⟩
      have d_nl_tl : nl ≠ tl := fun z => by rw [← z, k_nl] at h_tl; cases h_tl
      have fo := F0
      walk_at "nw"
      rename_i H4 s4 k_tl
      have hj := fun j c hc => let ⟨j1, j2, j3, j4⟩ := hj j c hc; (⟨j1.same s4, fo.keep h_tl j2 (k' := 0), fo.keep h_tl j3 (k' := 0), fo.keep h_tl j4 (k' := 0)⟩ : CgO T.C_Channel H4 (y j) c ∧ _ ∧ _ ∧ _)
      have op := fo.keep (k' := 0) h_tl op
      have oD := fo.keep (k' := 0) h_tl oD
      have o_nl := fo.keep (k' := 0) h_tl o_nl
      have o_tl := fo.me (l := tl) (k := 0)
      have F0 := fo.new (k := 0) h_tl s4 (by rw [k_tl]; exact nofun)
      have hoX := s4 _ _ hoX
      have hoY := s4 _ _ hoY
      have kD := s4 _ _ kD
      have s0 := s0.trans s4
      have n_tl : tl ≠ pY := fun z => by rw [z, hoY] at k_tl; cases k_tl
      have k_nl := s4 _ _ k_nl
      walk_at "go"
      simp only [List.set_cons_succ, List.set_cons_zero]
      walk_at "bt"
      rename_i H5 b5 hoY5
      have hj := keepJ (fun b o h e => b5 _ _ h e) hj op (fun k z => by rw [hoY] at z; cases z)
      have hoY := hoY5
      clear hoY5
      have s0 : Same H H5 := ((But.of s0).trans b5).same hy
      have F0 := F0.but b5 (by rw [hoY]; exact nofun)
      have hoX := s0 _ _ ho
      have kD := b5 _ _ nDp kD
      have k_nl := b5 _ _ n_nl k_nl
      have k_tl := b5 _ _ n_tl k_tl
      walk_at "go"
      refine ⟨S.ol, _, rfl, .inl (sl (s0 _ _ O.hl)), fun ol h_ol => ?_⟩
      have d_nl_ol : nl ≠ ol := fun z => by rw [← z, k_nl] at h_ol; cases h_ol
      have d_tl_ol : tl ≠ ol := fun z => by rw [← z, k_tl] at h_ol; cases h_ol
      have fo := F0
      walk_at "nw"
      rename_i H4 s4 k_ol
      have hj := fun j c hc => let ⟨j1, j2, j3, j4⟩ := hj j c hc; (⟨j1.same s4, fo.keep h_ol j2 (k' := 0), fo.keep h_ol j3 (k' := 0), fo.keep h_ol j4 (k' := 0)⟩ : CgO T.C_Channel H4 (y j) c ∧ _ ∧ _ ∧ _)
      have op := fo.keep (k' := 0) h_ol op
      have oD := fo.keep (k' := 0) h_ol oD
      have o_nl := fo.keep (k' := 0) h_ol o_nl
      have o_tl := fo.keep (k' := 0) h_ol o_tl
      have o_ol := fo.me (l := ol) (k := 0)
      have F0 := fo.new (k := 0) h_ol s4 (by rw [k_ol]; exact nofun)
      have hoX := s4 _ _ hoX
      have hoY := s4 _ _ hoY
      have kD := s4 _ _ kD
      have s0 := s0.trans s4
      have n_ol : ol ≠ pY := fun z => by rw [z, hoY] at k_ol; cases k_ol
      have k_nl := s4 _ _ k_nl
      have k_tl := s4 _ _ k_tl
      walk_at "go"
      simp only [List.set_cons_succ, List.set_cons_zero]
      walk_at "bt"
      rename_i H5 b5 hoY5
      have hj := keepJ (fun b o h e => b5 _ _ h e) hj op (fun k z => by rw [hoY] at z; cases z)
      have hoY := hoY5
      clear hoY5
      have s0 : Same H H5 := ((But.of s0).trans b5).same hy
      have F0 := F0.but b5 (by rw [hoY]; exact nofun)
      have hoX := s0 _ _ ho
      have kD := b5 _ _ nDp kD
      have k_nl := b5 _ _ n_nl k_nl
      have k_tl := b5 _ _ n_tl k_tl
      have k_ol := b5 _ _ n_ol k_ol
      walk_at "go"
      refine ⟨S.gl, _, rfl, .inl (sl (s0 _ _ O.hg)), fun gl h_gl => ?_⟩
      have d_nl_gl : nl ≠ gl := fun z => by rw [← z, k_nl] at h_gl; cases h_gl
      have d_tl_gl : tl ≠ gl := fun z => by rw [← z, k_tl] at h_gl; cases h_gl
      have d_ol_gl : ol ≠ gl := fun z => by rw [← z, k_ol] at h_gl; cases h_gl
      have fo := F0
      walk_at "nw"
      rename_i H4 s4 k_gl
      have hj := fun j c hc => let ⟨j1, j2, j3, j4⟩ := hj j c hc; (⟨j1.same s4, fo.keep h_gl j2 (k' := 0), fo.keep h_gl j3 (k' := 0), fo.keep h_gl j4 (k' := 0)⟩ : CgO T.C_Channel H4 (y j) c ∧ _ ∧ _ ∧ _)
      have op := fo.keep (k' := 0) h_gl op
      have oD := fo.keep (k' := 0) h_gl oD
      have o_nl := fo.keep (k' := 0) h_gl o_nl
      have o_tl := fo.keep (k' := 0) h_gl o_tl
      have o_ol := fo.keep (k' := 0) h_gl o_ol
      have o_gl := fo.me (l := gl) (k := 0)
      have F0 := fo.new (k := 0) h_gl s4 (by rw [k_gl]; exact nofun)
      have hoX := s4 _ _ hoX
      have hoY := s4 _ _ hoY
      have kD := s4 _ _ kD
      have s0 := s0.trans s4
      have n_gl : gl ≠ pY := fun z => by rw [z, hoY] at k_gl; cases k_gl
      have k_nl := s4 _ _ k_nl
      have k_tl := s4 _ _ k_tl
      have k_ol := s4 _ _ k_ol
      walk_at "go"
      simp only [List.set_cons_succ, List.set_cons_zero]
      walk_at "bt"
      rename_i H5 b5 hoY5
      have hj := keepJ (fun b o h e => b5 _ _ h e) hj op (fun k z => by rw [hoY] at z; cases z)
      have hoY := hoY5
      clear hoY5
      have s0 : Same H H5 := ((But.of s0).trans b5).same hy
      have F0 := F0.but b5 (by rw [hoY]; exact nofun)
      have hoX := s0 _ _ ho
      have kD := b5 _ _ nDp kD
      have k_nl := b5 _ _ n_nl k_nl
      have k_tl := b5 _ _ n_tl k_tl
      have k_ol := b5 _ _ n_ol k_ol
      have k_gl := b5 _ _ n_gl k_gl
      walk_at "go"
      refine ⟨S.cl, _, rfl, .inl (sl (s0 _ _ O.hc)), fun cl h_cl => ?_⟩
      have d_nl_cl : nl ≠ cl := fun z => by rw [← z, k_nl] at h_cl; cases h_cl
      have d_tl_cl : tl ≠ cl := fun z => by rw [← z, k_tl] at h_cl; cases h_cl
      have d_ol_cl : ol ≠ cl := fun z => by rw [← z, k_ol] at h_cl; cases h_cl
      have d_gl_cl : gl ≠ cl := fun z => by rw [← z, k_gl] at h_cl; cases h_cl
      have fo := F0
      walk_at "nw"
      rename_i H4 s4 k_cl
      have hj := fun j c hc => let ⟨j1, j2, j3, j4⟩ := hj j c hc; (⟨j1.same s4, fo.keep h_cl j2 (k' := 0), fo.keep h_cl j3 (k' := 0), fo.keep h_cl j4 (k' := 0)⟩ : CgO T.C_Channel H4 (y j) c ∧ _ ∧ _ ∧ _)
      have op := fo.keep (k' := 0) h_cl op
      have oD := fo.keep (k' := 0) h_cl oD
      have o_nl := fo.keep (k' := 0) h_cl o_nl
      have o_tl := fo.keep (k' := 0) h_cl o_tl
      have o_ol := fo.keep (k' := 0) h_cl o_ol
      have o_gl := fo.keep (k' := 0) h_cl o_gl
      have o_cl := fo.me (l := cl) (k := 0)
      have F0 := fo.new (k := 0) h_cl s4 (by rw [k_cl]; exact nofun)
      have hoX := s4 _ _ hoX
      have hoY := s4 _ _ hoY
      have kD := s4 _ _ kD
      have s0 := s0.trans s4
      have n_cl : cl ≠ pY := fun z => by rw [z, hoY] at k_cl; cases k_cl
      have k_nl := s4 _ _ k_nl
      have k_tl := s4 _ _ k_tl
      have k_ol := s4 _ _ k_ol
      have k_gl := s4 _ _ k_gl
      walk_at "go"
      simp only [List.set_cons_succ, List.set_cons_zero]
      walk_at "bt"
      rename_i H5 b5 hoY5
      have hj := keepJ (fun b o h e => b5 _ _ h e) hj op (fun k z => by rw [hoY] at z; cases z)
      have hoY := hoY5
      clear hoY5
      have s0 : Same H H5 := ((But.of s0).trans b5).same hy
      have F0 := F0.but b5 (by rw [hoY]; exact nofun)
      have hoX := s0 _ _ ho
      have kD := b5 _ _ nDp kD
      have k_nl := b5 _ _ n_nl k_nl
      have k_tl := b5 _ _ n_tl k_tl
      have k_ol := b5 _ _ n_ol k_ol
      have k_gl := b5 _ _ n_gl k_gl
      have k_cl := b5 _ _ n_cl k_cl
      walk_at "go"
      refine q _ ⟨pY, dY, D, nl, tl, ol, gl, cl⟩ y _ (fun b hb => (F0.al b hb).2) s0 ⟨hoY, kD, k_nl, k_tl, k_ol, k_gl, k_cl, fun i c hc => (hj i c hc).1, fun i hi => (hj i _ (List.getElem?_eq_getElem hi)).2, ⟨op, oD, o_nl, o_tl, o_ol, o_gl, o_cl⟩, ?_, O.nk⟩
      simp only [List.nodup_cons, List.mem_cons, List.not_mem_nil, or_false, not_or, List.nodup_nil, not_false_eq_true, and_true]
      exact ⟨⟨d_nl_tl, d_nl_ol, d_nl_gl, d_nl_cl⟩, ⟨d_tl_ol, d_tl_gl, d_tl_cl⟩, ⟨d_ol_gl, d_ol_cl⟩, d_gl_cl⟩
def sp_Channels_take (CS CC IA : Addr) : Sp := fun vs H Q E => ∃ (own : Addr → Option Nat) (S : Sg) (x : Nat → Ca) (g : Sd) (n : Int), vs = [.ref S.p, .int n] ∧ SgO CS CC own H S x g ∧ -1000000 ≤ n ∧ n ≤ 1000000 ∧
  ((n < 0 ∧ E (.ref IA) none H) ∨ (0 ≤ n ∧ g.fl ≠ none ∧ ∀ l H', H l = none → Same H H' → H' l = some (.lst []) → Q (.ref l) H'))
theorem ok_Channels_take (T : Txt P w K mg) : FnOk P w K mg base (L2.CX P w) 1 T.f_Channels_take T.d_Channels_take ["self", "count"] (sp_Channels_take T.C_Channels T.C_Channel T.C_InvalidAmount) := by
  refine T.F_Channels_take.okX sc_Channels_take (fun vs H Q E h => ?_) (fun cdv A outer s H vs Q E hr h => ?_)
  · obtain ⟨own, S, x, g, n, rfl, O, n0, n1, q⟩ := h
    rfl
  · obtain ⟨own, S, x, g, n, rfl, O, n0, n1, q⟩ := h
    have hu := hu_of hr
    refine ⟨_, (pss_cons (ps_if (pt_cmpR op_lt (pv 1) pe_int (nomark _)) (pss_one (ps_rs rfl (takes_of rfl rfl rfl rfl) (pmk_1 PySem.F.excBase_ValueError T.xP_InvalidAmount T.c_InvalidAmount T.ke_InvalidAmount (raises_own T.be_InvalidAmount T.te_InvalidAmount) rfl (pe_joinedJ (.cons pe_str (.cons (pe_fmt (pv 1)) .nil)))))) pss_nil)
        (pss_cons (ps_if (pt_cmpR op_notN (pe_fld (pv 0) rfl) pe_non (nomark _)) (pss_one (ps_ret (pe_lst pa_nil))) pss_nil)
        (pss_cons (ps_dead)
        (pss_cons (ps_set (i := 3) sc_Channels_take.nd rfl (Or.inl rfl) (pe_slice sl_list (pe_fld (pv 0) rfl) po_none (po_some (pv 1))))
        (pss_cons (ps_delS (pe_fld (pv 0) rfl) (pv 1))
        (pss_one (ps_ret (pv 3)))))))), ?_⟩
    dsimp only [cxOf, Cx.nox, Cx.wish, L2.start, List.map, List.cons_append, List.nil_append, List.length_cons, List.length_nil, Nat.reduceAdd, Nat.reduceSub, Nat.zero_add, List.replicate_succ, List.replicate_zero]
    have ho := O.ho
    walk_at "go"
    rcases q with ⟨hn, q⟩ | ⟨hn, efl, q⟩
    · refine g_dT hn ?_
      walk_at "go"
      have e0 : Str.empty.length = 0 := by decide
      have e1 : (Str.ofString "a count of ").length = 11 := by decide +kernel
      have e3 := itext (i := n) (by omega)
      refine g_jsE (by walk_at "fit") ?_
      walk_at "go"
      refine g_fmtI (log_lt (by omega)) ?_
      refine g_jsE (by walk_at "fit") ?_
      walk_at "go"
      exact q
    · refine g_dF (by omega) ?_
      walk_at "go"
      refine g_nT (by
        cases z : g.fl with
        | none => exact absurd z efl
        | some s => exact nofun) ?_
      walk_at "go"
      refine ⟨by show 0 ≤ sizeLine; decide, fun l hl => ?_⟩
      walk_at "nw"
      rename_i H1 s1 k1
      exact q l H1 hl s1 k1

end
end My
namespace My
open PySem PySem.Spec L2
local macro_rules | `(tactic| walk_at "side") => `(tactic| first | assumption | decide | omega | exact ⟨by decide, by decide⟩ | exact ⟨by decide, by decide, by decide⟩ | decide +kernel | exact cdivW (by decide +kernel) (by decide +kernel) | exact Or.inl ⟨by omega, by omega⟩ | exact Or.inr ⟨by omega, by omega⟩ | (simp only [List.length_map, List.length_cons, List.length_nil, List.length_append]; omega))
local macro_rules | `(tactic| walk_at "fact") => `(tactic| first | assumption | omega | with_reducible rfl)
local macro_rules | `(tactic| walk_at "use") => `(tactic| fail "use")
local macro_rules | `(tactic| walk_at "go1") => `(tactic| with_reducible first | refine g_seq ?_ | refine g_asg ?_ | refine g_ret ?_ | refine g_ifS ?_ | refine g_drop ?_ | refine g_star ?_ | refine g_nx ?_ | refine g_rt ?_ | refine g_bkE ?_ | refine g_ctE ?_ | refine g_next ?_ | refine g_retN ?_ | refine g_brk ?_ | refine g_ct ?_ | refine g_c ?_ | refine g_op ?_ | refine g_un ?_ | refine g_rI0 ?_ | refine g_rU ?_ | refine g_rEqI ?_ | refine g_rNeI ?_ | refine g_isN ?_ | refine g_rIsB ?_ | refine g_rNotB ?_ | refine g_test ?_ | refine g_B ?_ | refine g_bl ?_ | refine g_and ?_ | refine g_or ?_ | refine g_not ?_ | refine g_andV ?_ | refine g_orV ?_ | refine g_notV ?_ | refine g_if ?_ | refine g_chain ?_ | refine g_yes ?_ | refine g_lc ?_ | refine g_revR ?_ | refine g_rng1 ?_ | refine g_iList ?_ | refine g_nil ?_ | refine g_cons ?_ | refine g_tup ?_ | refine g_lst ?_ | refine g_call ?_ | refine g_CB ?_ | refine g_sl ?_ | refine g_noPart ?_ | refine g_part ?_ | refine g_intE ?_ | refine g_ref ?_ | refine g_fld ?_ | refine g_sfld ?_ | refine g_meth ?_ | refine g_make ?_ | refine g_prop ?_  | refine g_ipI ?_ | refine g_int1 ?_ | refine g_int1B ?_ | refine g_one ?_ | refine g_two ?_ | refine g_isiI ?_ | refine g_isiIB ?_ | refine g_isiB ?_ | refine g_BM ?_ | refine g_BM0 ?_ | refine g_sub ?_)
local macro_rules | `(tactic| walk_at "go") => `(tactic| repeat (first | walk_at "go1" | ((with_reducible refine' g_nameE ?sd_ ?_); case sd_ => dsimp only [List.set_cons_succ, List.set_cons_zero]) | ((with_reducible refine' g_var ?sd_ ?_); case sd_ => exact rfl) | ((with_reducible refine' g_aug ?sd_ ?_); case sd_ => exact rfl) | ((with_reducible refine' g_rI ?sd_ ?_); case sd_ => walk_at "side") | ((with_reducible refine' g_dT ?sd_ ?_); case sd_ => walk_at "fact") | ((with_reducible refine' g_dF ?sd_ ?_); case sd_ => walk_at "fact") | ((with_reducible refine' g_nT ?sd_ ?_); case sd_ => walk_at "fact") | ((with_reducible refine' g_nF ?sd_ ?_); case sd_ => walk_at "fact") | (with_reducible refine g_iT rfl ?_) | (with_reducible refine g_iF rfl ?_) | walk_at "use"))
local macro_rules | `(tactic| walk_at "nw") => `(tactic| (generalize zq : upd _ _ _ = Hq; have sq : Same _ Hq := (by rw [← zq]; exact same_upd (by assumption)); have kq := (congrFun zq _).symm.trans upd_same; clear zq))
local macro_rules | `(tactic| walk_at "bt") => `(tactic| (generalize zq : upd _ _ _ = Hq; have bq : But _ _ Hq := (by rw [← zq]; exact But.refl.upd); have kq := (congrFun zq _).symm.trans upd_same; clear zq))
local macro_rules | `(tactic| walk_at "use") => `(tactic| first | ((with_reducible refine' fd_Channel_number ?ho_ ?hv_ ?_); (case ho_ => first | assumption | exact upd_same); (case hv_ => exact rfl)) | ((with_reducible refine' fd_Channel_announced ?ho_ ?hv_ ?_); (case ho_ => first | assumption | exact upd_same); (case hv_ => exact rfl)) | ((with_reducible refine' fd_Channel_queue ?ho_ ?hv_ ?_); (case ho_ => first | assumption | exact upd_same); (case hv_ => exact rfl)) | ((with_reducible refine' fd_Channel_credit ?ho_ ?hv_ ?_); (case ho_ => first | assumption | exact upd_same); (case hv_ => exact rfl)) | ((with_reducible refine' fd_Channel_finished ?ho_ ?hv_ ?_); (case ho_ => first | assumption | exact upd_same); (case hv_ => exact rfl)) | ((with_reducible refine' fd_Channel_end_sent ?ho_ ?hv_ ?_); (case ho_ => first | assumption | exact upd_same); (case hv_ => exact rfl)) | ((with_reducible refine' fd_Channel_unread ?ho_ ?hv_ ?_); (case ho_ => first | assumption | exact upd_same); (case hv_ => exact rfl)) | ((with_reducible refine' fd_Channel_due ?ho_ ?hv_ ?_); (case ho_ => first | assumption | exact upd_same); (case hv_ => exact rfl)) | ((with_reducible refine' fd_Channel_end_came ?ho_ ?hv_ ?_); (case ho_ => first | assumption | exact upd_same); (case hv_ => exact rfl)) | ((with_reducible refine' fd_Channel_broken ?ho_ ?hv_ ?_); (case ho_ => first | assumption | exact upd_same); (case hv_ => exact rfl)) | ((with_reducible refine' fd_Channel_reset_told ?ho_ ?hv_ ?_); (case ho_ => first | assumption | exact upd_same); (case hv_ => exact rfl)) | ((with_reducible refine' nw_Channel_number ?ho_ ?hv_ ?_); (case ho_ => first | assumption | exact upd_same); (case hv_ => exact rfl)) | ((with_reducible refine' nw_Channel_announced ?ho_ ?hv_ ?_); (case ho_ => first | assumption | exact upd_same); (case hv_ => exact rfl)) | ((with_reducible refine' nw_Channel_queue ?ho_ ?hv_ ?_); (case ho_ => first | assumption | exact upd_same); (case hv_ => exact rfl)) | ((with_reducible refine' nw_Channel_credit ?ho_ ?hv_ ?_); (case ho_ => first | assumption | exact upd_same); (case hv_ => exact rfl)) | ((with_reducible refine' nw_Channel_finished ?ho_ ?hv_ ?_); (case ho_ => first | assumption | exact upd_same); (case hv_ => exact rfl)) | ((with_reducible refine' nw_Channel_end_sent ?ho_ ?hv_ ?_); (case ho_ => first | assumption | exact upd_same); (case hv_ => exact rfl)) | ((with_reducible refine' nw_Channel_unread ?ho_ ?hv_ ?_); (case ho_ => first | assumption | exact upd_same); (case hv_ => exact rfl)) | ((with_reducible refine' nw_Channel_due ?ho_ ?hv_ ?_); (case ho_ => first | assumption | exact upd_same); (case hv_ => exact rfl)) | ((with_reducible refine' nw_Channel_end_came ?ho_ ?hv_ ?_); (case ho_ => first | assumption | exact upd_same); (case hv_ => exact rfl)) | ((with_reducible refine' nw_Channel_broken ?ho_ ?hv_ ?_); (case ho_ => first | assumption | exact upd_same); (case hv_ => exact rfl)) | ((with_reducible refine' nw_Channel_reset_told ?ho_ ?hv_ ?_); (case ho_ => first | assumption | exact upd_same); (case hv_ => exact rfl)) | ((with_reducible refine' st_Channel_number ?ho_ ?hv_ ?_); (case ho_ => first | assumption | exact upd_same); (case hv_ => exact Nat.le_of_ble_eq_true rfl)) | ((with_reducible refine' st_Channel_announced ?ho_ ?hv_ ?_); (case ho_ => first | assumption | exact upd_same); (case hv_ => exact Nat.le_of_ble_eq_true rfl)) | ((with_reducible refine' st_Channel_queue ?ho_ ?hv_ ?_); (case ho_ => first | assumption | exact upd_same); (case hv_ => exact Nat.le_of_ble_eq_true rfl)) | ((with_reducible refine' st_Channel_credit ?ho_ ?hv_ ?_); (case ho_ => first | assumption | exact upd_same); (case hv_ => exact Nat.le_of_ble_eq_true rfl)) | ((with_reducible refine' st_Channel_finished ?ho_ ?hv_ ?_); (case ho_ => first | assumption | exact upd_same); (case hv_ => exact Nat.le_of_ble_eq_true rfl)) | ((with_reducible refine' st_Channel_end_sent ?ho_ ?hv_ ?_); (case ho_ => first | assumption | exact upd_same); (case hv_ => exact Nat.le_of_ble_eq_true rfl)) | ((with_reducible refine' st_Channel_unread ?ho_ ?hv_ ?_); (case ho_ => first | assumption | exact upd_same); (case hv_ => exact Nat.le_of_ble_eq_true rfl)) | ((with_reducible refine' st_Channel_due ?ho_ ?hv_ ?_); (case ho_ => first | assumption | exact upd_same); (case hv_ => exact Nat.le_of_ble_eq_true rfl)) | ((with_reducible refine' st_Channel_end_came ?ho_ ?hv_ ?_); (case ho_ => first | assumption | exact upd_same); (case hv_ => exact Nat.le_of_ble_eq_true rfl)) | ((with_reducible refine' st_Channel_broken ?ho_ ?hv_ ?_); (case ho_ => first | assumption | exact upd_same); (case hv_ => exact Nat.le_of_ble_eq_true rfl)) | ((with_reducible refine' st_Channel_reset_told ?ho_ ?hv_ ?_); (case ho_ => first | assumption | exact upd_same); (case hv_ => exact Nat.le_of_ble_eq_true rfl)) | ((with_reducible refine' me_Channel_break_off ?ho_ ?_); (case ho_ => first | assumption | exact upd_same)) | ((with_reducible refine' me_Channel_fork ?ho_ ?_); (case ho_ => first | assumption | exact upd_same)))
local macro_rules | `(tactic| walk_at "use") => `(tactic| first | ((with_reducible refine' fd_Channels_failure ?ho_ ?hv_ ?_); (case ho_ => first | assumption | exact upd_same); (case hv_ => exact rfl)) | ((with_reducible refine' fd_Channels__window ?ho_ ?hv_ ?_); (case ho_ => first | assumption | exact upd_same); (case hv_ => exact rfl)) | ((with_reducible refine' fd_Channels__most ?ho_ ?hv_ ?_); (case ho_ => first | assumption | exact upd_same); (case hv_ => exact rfl)) | ((with_reducible refine' fd_Channels__next_here ?ho_ ?hv_ ?_); (case ho_ => first | assumption | exact upd_same); (case hv_ => exact rfl)) | ((with_reducible refine' fd_Channels__next_there ?ho_ ?hv_ ?_); (case ho_ => first | assumption | exact upd_same); (case hv_ => exact rfl)) | ((with_reducible refine' fd_Channels__channels ?ho_ ?hv_ ?_); (case ho_ => first | assumption | exact upd_same); (case hv_ => exact rfl)) | ((with_reducible refine' fd_Channels__numbers ?ho_ ?hv_ ?_); (case ho_ => first | assumption | exact upd_same); (case hv_ => exact rfl)) | ((with_reducible refine' fd_Channels__turns ?ho_ ?hv_ ?_); (case ho_ => first | assumption | exact upd_same); (case hv_ => exact rfl)) | ((with_reducible refine' fd_Channels__offered ?ho_ ?hv_ ?_); (case ho_ => first | assumption | exact upd_same); (case hv_ => exact rfl)) | ((with_reducible refine' fd_Channels__going ?ho_ ?hv_ ?_); (case ho_ => first | assumption | exact upd_same); (case hv_ => exact rfl)) | ((with_reducible refine' fd_Channels__coming ?ho_ ?hv_ ?_); (case ho_ => first | assumption | exact upd_same); (case hv_ => exact rfl)) | ((with_reducible refine' nw_Channels_failure ?ho_ ?hv_ ?_); (case ho_ => first | assumption | exact upd_same); (case hv_ => exact rfl)) | ((with_reducible refine' nw_Channels__window ?ho_ ?hv_ ?_); (case ho_ => first | assumption | exact upd_same); (case hv_ => exact rfl)) | ((with_reducible refine' nw_Channels__most ?ho_ ?hv_ ?_); (case ho_ => first | assumption | exact upd_same); (case hv_ => exact rfl)) | ((with_reducible refine' nw_Channels__next_here ?ho_ ?hv_ ?_); (case ho_ => first | assumption | exact upd_same); (case hv_ => exact rfl)) | ((with_reducible refine' nw_Channels__next_there ?ho_ ?hv_ ?_); (case ho_ => first | assumption | exact upd_same); (case hv_ => exact rfl)) | ((with_reducible refine' nw_Channels__channels ?ho_ ?hv_ ?_); (case ho_ => first | assumption | exact upd_same); (case hv_ => exact rfl)) | ((with_reducible refine' nw_Channels__numbers ?ho_ ?hv_ ?_); (case ho_ => first | assumption | exact upd_same); (case hv_ => exact rfl)) | ((with_reducible refine' nw_Channels__turns ?ho_ ?hv_ ?_); (case ho_ => first | assumption | exact upd_same); (case hv_ => exact rfl)) | ((with_reducible refine' nw_Channels__offered ?ho_ ?hv_ ?_); (case ho_ => first | assumption | exact upd_same); (case hv_ => exact rfl)) | ((with_reducible refine' nw_Channels__going ?ho_ ?hv_ ?_); (case ho_ => first | assumption | exact upd_same); (case hv_ => exact rfl)) | ((with_reducible refine' nw_Channels__coming ?ho_ ?hv_ ?_); (case ho_ => first | assumption | exact upd_same); (case hv_ => exact rfl)) | ((with_reducible refine' st_Channels_failure ?ho_ ?hv_ ?_); (case ho_ => first | assumption | exact upd_same); (case hv_ => exact Nat.le_of_ble_eq_true rfl)) | ((with_reducible refine' st_Channels__window ?ho_ ?hv_ ?_); (case ho_ => first | assumption | exact upd_same); (case hv_ => exact Nat.le_of_ble_eq_true rfl)) | ((with_reducible refine' st_Channels__most ?ho_ ?hv_ ?_); (case ho_ => first | assumption | exact upd_same); (case hv_ => exact Nat.le_of_ble_eq_true rfl)) | ((with_reducible refine' st_Channels__next_here ?ho_ ?hv_ ?_); (case ho_ => first | assumption | exact upd_same); (case hv_ => exact Nat.le_of_ble_eq_true rfl)) | ((with_reducible refine' st_Channels__next_there ?ho_ ?hv_ ?_); (case ho_ => first | assumption | exact upd_same); (case hv_ => exact Nat.le_of_ble_eq_true rfl)) | ((with_reducible refine' st_Channels__channels ?ho_ ?hv_ ?_); (case ho_ => first | assumption | exact upd_same); (case hv_ => exact Nat.le_of_ble_eq_true rfl)) | ((with_reducible refine' st_Channels__numbers ?ho_ ?hv_ ?_); (case ho_ => first | assumption | exact upd_same); (case hv_ => exact Nat.le_of_ble_eq_true rfl)) | ((with_reducible refine' st_Channels__turns ?ho_ ?hv_ ?_); (case ho_ => first | assumption | exact upd_same); (case hv_ => exact Nat.le_of_ble_eq_true rfl)) | ((with_reducible refine' st_Channels__offered ?ho_ ?hv_ ?_); (case ho_ => first | assumption | exact upd_same); (case hv_ => exact Nat.le_of_ble_eq_true rfl)) | ((with_reducible refine' st_Channels__going ?ho_ ?hv_ ?_); (case ho_ => first | assumption | exact upd_same); (case hv_ => exact Nat.le_of_ble_eq_true rfl)) | ((with_reducible refine' st_Channels__coming ?ho_ ?hv_ ?_); (case ho_ => first | assumption | exact upd_same); (case hv_ => exact Nat.le_of_ble_eq_true rfl)) | ((with_reducible refine' me_Channels_len__ ?ho_ ?_); (case ho_ => first | assumption | exact upd_same)) | ((with_reducible refine' me_Channels_iter__ ?ho_ ?_); (case ho_ => first | assumption | exact upd_same)) | ((with_reducible refine' me_Channels_open_channel ?ho_ ?_); (case ho_ => first | assumption | exact upd_same)) | ((with_reducible refine' me_Channels_accept ?ho_ ?_); (case ho_ => first | assumption | exact upd_same)) | ((with_reducible refine' me_Channels_finish ?ho_ ?_); (case ho_ => first | assumption | exact upd_same)) | ((with_reducible refine' me_Channels_reset ?ho_ ?_); (case ho_ => first | assumption | exact upd_same)) | ((with_reducible refine' me_Channels_status ?ho_ ?_); (case ho_ => first | assumption | exact upd_same)) | ((with_reducible refine' me_Channels_take ?ho_ ?_); (case ho_ => first | assumption | exact upd_same)) | ((with_reducible refine' me_Channels_receive ?ho_ ?_); (case ho_ => first | assumption | exact upd_same)) | ((with_reducible refine' me_Channels_fork ?ho_ ?_); (case ho_ => first | assumption | exact upd_same)) | ((with_reducible refine' me_Channels_known ?ho_ ?_); (case ho_ => first | assumption | exact upd_same)) | ((with_reducible refine' me_Channels_add ?ho_ ?_); (case ho_ => first | assumption | exact upd_same)) | ((with_reducible refine' me_Channels_room_of ?ho_ ?_); (case ho_ => first | assumption | exact upd_same)) | ((with_reducible refine' me_Channels_take_frame ?ho_ ?_); (case ho_ => first | assumption | exact upd_same)) | ((with_reducible refine' me_Channels_failure_of ?ho_ ?_); (case ho_ => first | assumption | exact upd_same)) | ((with_reducible refine' me_Channels_apply ?ho_ ?_); (case ho_ => first | assumption | exact upd_same)))
section
variable {P : Program} {w : World} {K : PySem.W.Frag} {mg : Str → Option Value} {base : Heap}
local macro_rules | `(tactic| walk_at "use") => `(tactic| with_reducible first | refine g_rs0 ?_ | refine g_rs1 ?_ | refine g_tryA ?_ | refine g_tryO ?_ | refine g_callS ?_ | refine g_joined ?_ | refine g_jsnil ?_ | refine g_jscons ?_ | refine g_fmt ?_)
local macro_rules | `(tactic| walk_at "fit") => `(tactic| (refine fit2 ?_; (try simp only [PySem.Str.length_append]); omega))
local macro_rules | `(tactic| walk_at "use") => `(tactic| first | ((with_reducible refine' g_addS ?sd_ ?_); case sd_ => (first | omega | (simp only [PySem.Str.length_append]; omega))) | ((with_reducible refine' g_slS ?sd_ ?_); case sd_ => omega) | (with_reducible refine g_m0 ?_))

local macro_rules | `(tactic| walk_at "use") => `(tactic| with_reducible first | refine g_dgetI ?_ | refine g_dputI ?_ | refine g_dget1I ?_ | refine g_dget2I ?_ | refine g_dinI ?_ | refine g_dnotinI ?_ | refine g_dnewK ?_)

section
variable {K : PySem.W.Frag} {H : Hp} {Q : VK}
end
local macro_rules | `(tactic| walk_at "use") => `(tactic| with_reducible first | refine g_rEqS ?_ | refine g_rNeS ?_ | refine g_isiS ?_)

local macro_rules | `(tactic| walk_at "use") => `(tactic| first | ((with_reducible refine' dg_D_writable ?ho_ ?hv_ ?_); (case ho_ => first | assumption | exact upd_same); (case hv_ => exact rfl)) | ((with_reducible refine' dg_D_waiting ?ho_ ?hv_ ?_); (case ho_ => first | assumption | exact upd_same); (case hv_ => exact rfl)) | ((with_reducible refine' dg_D_readable ?ho_ ?hv_ ?_); (case ho_ => first | assumption | exact upd_same); (case hv_ => exact rfl)) | ((with_reducible refine' dg_D_finished ?ho_ ?hv_ ?_); (case ho_ => first | assumption | exact upd_same); (case hv_ => exact rfl)) | ((with_reducible refine' dg_D_at_end ?ho_ ?hv_ ?_); (case ho_ => first | assumption | exact upd_same); (case hv_ => exact rfl)) | ((with_reducible refine' dg_D_reset ?ho_ ?hv_ ?_); (case ho_ => first | assumption | exact upd_same); (case hv_ => exact rfl)) | ((with_reducible refine' dn_D_writable ?ho_ ?hv_ ?_); (case ho_ => first | assumption | exact upd_same); (case hv_ => exact rfl)) | ((with_reducible refine' dn_D_waiting ?ho_ ?hv_ ?_); (case ho_ => first | assumption | exact upd_same); (case hv_ => exact rfl)) | ((with_reducible refine' dn_D_readable ?ho_ ?hv_ ?_); (case ho_ => first | assumption | exact upd_same); (case hv_ => exact rfl)) | ((with_reducible refine' dn_D_finished ?ho_ ?hv_ ?_); (case ho_ => first | assumption | exact upd_same); (case hv_ => exact rfl)) | ((with_reducible refine' dn_D_at_end ?ho_ ?hv_ ?_); (case ho_ => first | assumption | exact upd_same); (case hv_ => exact rfl)) | ((with_reducible refine' dn_D_reset ?ho_ ?hv_ ?_); (case ho_ => first | assumption | exact upd_same); (case hv_ => exact rfl)) | ((with_reducible refine' dp_D_writable ?ho_ ?hv_ ?_); (case ho_ => first | assumption | exact upd_same); (case hv_ => exact Nat.le_of_ble_eq_true rfl)) | ((with_reducible refine' dp_D_waiting ?ho_ ?hv_ ?_); (case ho_ => first | assumption | exact upd_same); (case hv_ => exact Nat.le_of_ble_eq_true rfl)) | ((with_reducible refine' dp_D_readable ?ho_ ?hv_ ?_); (case ho_ => first | assumption | exact upd_same); (case hv_ => exact Nat.le_of_ble_eq_true rfl)) | ((with_reducible refine' dp_D_finished ?ho_ ?hv_ ?_); (case ho_ => first | assumption | exact upd_same); (case hv_ => exact Nat.le_of_ble_eq_true rfl)) | ((with_reducible refine' dp_D_at_end ?ho_ ?hv_ ?_); (case ho_ => first | assumption | exact upd_same); (case hv_ => exact Nat.le_of_ble_eq_true rfl)) | ((with_reducible refine' dp_D_reset ?ho_ ?hv_ ?_); (case ho_ => first | assumption | exact upd_same); (case hv_ => exact Nat.le_of_ble_eq_true rfl)))
local macro_rules | `(tactic| walk_at "use") => `(tactic| with_reducible first | refine g_dgetT ?_ | refine g_dputT ?_)
def sp_l_cell (K : PySem.W.Frag) : Sp := fun vs H Q _ => ∃ (a : Addr) (ns : List Int) (k : Int), vs = [.ref a, .int k] ∧ SqL K H a (ns.map V.int) ∧ 0 ≤ k ∧ Q (.int (cell ns k)) H
theorem u_cell {a : Addr} {ns : List Int} {k : Int} {H Q E} (h : SqL K H a (ns.map V.int)) (h0 : 0 ≤ k) (q : Q (.int (cell ns k)) H) : sp_l_cell K ([.ref a, .int k] ++ []) H Q E := ⟨a, ns, k, rfl, h, h0, q⟩
theorem ok_l_cell (T : Txt P w K mg) : FnOk P w K mg base CX0 1 T.f_l_cell T.d_l_cell ["script", "k"] (sp_l_cell K) := by
  refine T.F_l_cell.ok sc_l_cell (fun vs H Q E h => ?_) (fun cdv A outer s H vs Q E hr h => ?_)
  · obtain ⟨a, ns, k, rfl, hS, h0, q⟩ := h
    rfl
  · obtain ⟨a, ns, k, rfl, hS, h0, q⟩ := h
    have hu := hu_of hr
    refine ⟨_, (pss_cons (ps_if (pt_cmpR op_lt (pv 1) (pe_callB call_len_seq (by rfl) T.n_len (by decide +kernel) (pa_cons (pv 0) pa_nil)) (nomark _)) (pss_one (ps_ret (pe_ix ix_list (pv 0) (pv 1) (fun _ _ => rfl)))) pss_nil)
        (pss_one (ps_ret pe_int))), ?_⟩
    dsimp only [cxOf, Cx.nox, Cx.wish, L2.start, List.map, List.cons_append, List.nil_append, List.length_cons, List.length_nil, Nat.reduceAdd, Nat.reduceSub, Nat.zero_add, List.replicate_succ, List.replicate_zero]
    walk_at "go"
    refine g_len (.inl hS) ?_
    walk_at "go"
    rw [List.length_map]
    refine g_ite (fun h => ?_) (fun h => ?_)
    · walk_at "go"
      refine g_ixL hS (atI_map h0 h) ?_
      exact q
    · walk_at "go"
      rw [cell_out h] at q
      exact q
local macro_rules | `(tactic| walk_at "use") => `(tactic| with_reducible refine u_cell (by assumption) (by decide) ?_)

def sp_l_is_integer (K : PySem.W.Frag) : Sp := fun vs H Q _ => ∃ (n : Int), vs = [.int n] ∧ Q (.bl true) H
theorem u_isint {n : Int} {H Q E} (q : Q (.bl true) H) : sp_l_is_integer K ([.int n] ++ []) H Q E := ⟨n, rfl, q⟩
theorem ok_l_is_integer (T : Txt P w K mg) : FnOk P w K mg base CX0 1 T.f_l_is_integer T.d_l_is_integer ["told"] (sp_l_is_integer K) := by
  refine T.F_l_is_integer.ok sc_l_is_integer (fun vs H Q E h => ?_) (fun cdv A outer s H vs Q E hr h => ?_)
  · obtain ⟨n, rfl, q⟩ := h
    rfl
  · obtain ⟨n, rfl, q⟩ := h
    have hu := hu_of hr
    refine ⟨_, (pss_one (ps_ret (pe_and (pe_callB call_isi (by rfl) T.n_isinstance (by decide +kernel) (pa_cons (pv 0) (pa_cons (pe_bltn (v := .ty "int") (by rfl) T.n_int (by decide +kernel) rfl) pa_nil))) (pe_one (pe_not (pe_callB call_isi (by rfl) T.n_isinstance (by decide +kernel) (pa_cons (pv 0) (pa_cons (pe_bltn (v := .ty "bool") (by rfl) T.n_bool (by decide +kernel) rfl) pa_nil)))))))), ?_⟩
    dsimp only [cxOf, Cx.nox, Cx.wish, L2.start, List.map, List.cons_append, List.nil_append, List.length_cons, List.length_nil, Nat.reduceAdd, Nat.reduceSub, Nat.zero_add, List.replicate_succ, List.replicate_zero]
    walk_at "go"
    exact q
local macro_rules | `(tactic| walk_at "use") => `(tactic| with_reducible refine u_isint ?_)

def stN (c k : Int) : Int := if -1000000000000000000 < c then if c < 1000000000000000000 then ((c * 2654435761 + (k + 1) * 6700417) % 618970019642690137449562111 * ((c * 2654435761 + (k + 1) * 6700417) % 618970019642690137449562111) + 7 * ((c * 2654435761 + (k + 1) * 6700417) % 618970019642690137449562111) + k) % 618970019642690137449562111 else c else c
def sp_l_start (K : PySem.W.Frag) : Sp := fun vs H Q _ => ∃ c k : Int, vs = [.int c, .int k] ∧ ∀ p, H p = none → Q (.ref p) (upd H p (.lst [.int (stN c k)]))
theorem u_start {c k : Int} {H Q E} (q : ∀ p, H p = none → Q (.ref p) (upd H p (.lst [.int (stN c k)]))) : sp_l_start K ([.int c, .int k] ++ []) H Q E := ⟨c, k, rfl, q⟩
theorem one_ok : 1 ≤ sizeLine := by decide
theorem abs_mod {a : Int} : (a % 618970019642690137449562111).natAbs < 2 ^ 89 := by omega
theorem ok_l_start (T : Txt P w K mg) : FnOk P w K mg base CX0 1 T.f_l_start T.d_l_start ["cell", "k"] (sp_l_start K) := by
  refine T.F_l_start.ok sc_l_start (fun vs H Q E h => ?_) (fun cdv A outer s H vs Q E hr h => ?_)
  · obtain ⟨c, k, rfl, q⟩ := h
    rfl
  · obtain ⟨c, k, rfl, q⟩ := h
    have hu := hu_of hr
    refine ⟨_, (pss_cons (ps_set (i := 2) sc_l_start.nd rfl (Or.inl rfl) pe_int)
        (pss_cons (ps_if (pt_chain op_lt op_lt (pe_un un_neg pe_int) (pv 0) pe_int) (pss_cons (ps_set (i := 3) sc_l_start.nd rfl (Or.inl rfl) (pe_op op_mod (pe_callTy call_int1 (by rfl) T.n_int (by decide +kernel) (pa_cons (pe_op op_add (pe_op op_mul (pv 0) pe_int) (pe_op op_mul (pe_op op_add (pv 1) pe_int) pe_int)) pa_nil)) (pv 2)))
        (pss_one (ps_ret (pe_lst (pa_cons (pe_op op_mod (pe_callTy call_int1 (by rfl) T.n_int (by decide +kernel) (pa_cons (pe_op op_add (pe_op op_add (pe_op op_mulW (pv 3) (pv 3)) (pe_op op_mul pe_int (pv 3))) (pv 1)) pa_nil)) (pv 2)) pa_nil))))) pss_nil)
        (pss_one (ps_ret (pe_lst (pa_cons (pv 0) pa_nil)))))), ?_⟩
    dsimp only [cxOf, Cx.nox, Cx.wish, L2.start, List.map, List.cons_append, List.nil_append, List.length_cons, List.length_nil, Nat.reduceAdd, Nat.reduceSub, Nat.zero_add, List.replicate_succ, List.replicate_zero]
    unfold stN at q
    walk_at "go"
    refine g_ite (fun c1 => ?_) (fun c1 => ?_)
    · rw [if_pos c1] at q
      walk_at "go"
      refine g_ite (fun c2 => ?_) (fun c2 => ?_)
      · rw [if_pos c2] at q
        walk_at "go"
        refine g_rI (wide_mul abs_mod abs_mod (by decide) (by decide) (by decide)) ?_
        walk_at "go"
        exact ⟨one_ok, fun p hp => q p hp⟩
      · rw [if_neg c2] at q
        walk_at "go"
        exact ⟨one_ok, fun p hp => q p hp⟩
    · rw [if_neg c1] at q
      walk_at "go"
      exact ⟨one_ok, fun p hp => q p hp⟩
theorem lt8000 {m : Int} (h : m < 18446744073709551616) : m < 2 ^ 8000 := Int.lt_trans h (by decide +kernel)
def sp_l_digit (K : PySem.W.Frag) : Sp := fun vs H Q _ => ∃ (p : Addr) (n m : Int), vs = [.ref p, .int m] ∧ H p = some (.lst [.int n]) ∧ 0 < m ∧ m < 18446744073709551616 ∧ Q (.int (n % m)) (upd H p (.lst [.int (n / m)]))
theorem u_digit {p : Addr} {n m : Int} {H Q E} (h : H p = some (.lst [.int n])) (h0 : 0 < m) (h1 : m < 18446744073709551616) (q : Q (.int (n % m)) (upd H p (.lst [.int (n / m)]))) : sp_l_digit K ([.ref p, .int m] ++ []) H Q E := ⟨p, n, m, rfl, h, h0, h1, q⟩
theorem ok_l_digit (T : Txt P w K mg) : FnOk P w K mg base CX0 1 T.f_l_digit T.d_l_digit ["state", "many"] (sp_l_digit K) := by
  refine T.F_l_digit.ok sc_l_digit (fun vs H Q E h => ?_) (fun cdv A outer s H vs Q E hr h => ?_)
  · obtain ⟨p, n, m, rfl, hp, h0, h1, q⟩ := h
    rfl
  · obtain ⟨p, n, m, rfl, hp, h0, h1, q⟩ := h
    have hu := hu_of hr
    refine ⟨_, (pss_cons (ps_set (i := 2) sc_l_digit.nd rfl (Or.inl rfl) (pe_op op_mod (pe_callTy call_int1 (by rfl) T.n_int (by decide +kernel) (pa_cons (pe_ix ix_list (pv 0) pe_int (fun _ _ => rfl)) pa_nil)) (pv 1)))
        (pss_cons (ps_asg (pe_op op_fdivW (pe_ix ix_list (pv 0) pe_int (fun _ _ => rfl)) (pv 1)) (pg_sub (pv 0) pe_int set_list))
        (pss_one (ps_ret (pv 2))))), ?_⟩
    dsimp only [cxOf, Cx.nox, Cx.wish, L2.start, List.map, List.cons_append, List.nil_append, List.length_cons, List.length_nil, Nat.reduceAdd, Nat.reduceSub, Nat.zero_add, List.replicate_succ, List.replicate_zero]
    walk_at "go"
    refine g_ixL (sl hp) (at_of (j := 0) rfl rfl) ?_
    walk_at "go"
    refine g_ixL (sl hp) (at_of (j := 0) rfl rfl) ?_
    walk_at "go"
    refine g_rI (cdivW h0 (lt8000 h1)) ?_
    walk_at "go"
    refine g_setL (j := 0) hp rfl ?_
    walk_at "go"
    exact q

/-- [_law_digit(state, m) for j in range(cnt)] -/
theorem lc_digs {σ : St} {H1 : Hp} {p : Addr} {n m : Int} {cnt is j : Nat} {D : Addr} {Qd : Hp → Prop} (hD : H1 D = none) (hp : H1 p = some (.lst [.int n])) (h0 : 0 < m) (h1 : m < 18446744073709551616) (hc : cnt ≤ 100000)
    (hσ : ∀ x, ((wipe σ [j]).set j (some x))[is]? = some (some (.ref p)))
    (q : ∀ (H' : Hp) (us : List Int) (n' : Int), But p H1 H' → H' D = some (.lst (us.map V.int)) → H' p = some (.lst [.int n']) → us.length = cnt → (∀ u ∈ us, 0 ≤ u ∧ u < m) → Qd H') :
    ∃ W : Nat → Nat → Hp → Prop, (∃ m, W 0 m (upd H1 D (.lst []))) ∧ ∀ i m0 H, W i m0 H →
      ((Itr 0 cnt).stop i H ∧ Qd H) ∨ ((Itr 0 cnt).go i H ∧ ∃ Nx : Hp → Prop, (∀ H', Nx H' → ∃ m', m' < m0 ∧ W (i + 1) m' H') ∧ ∀ x H', (Itr 0 cnt).yld i H x H' → gName j x (wipe σ [j]) H' fun σ2 H2 => wipe σ2 [j] = wipe σ [j] ∧ tYes σ2 H2 fun b H3 =>
        if b = true then tCall (sp_l_digit K) [] E0 (tCons (tVar is) (tCons (tC (.int m)) tNil)) σ2 H3 fun y H4 => ∃ acc, H4 D = some (.lst acc) ∧ acc.length < sizeLine ∧ Nx (upd H4 D (.lst (acc ++ [y]))) else Nx H3) := by
  have nDp : p ≠ D := ne_of_none hp hD
  refine lc_it walk_range (fun i H => But p H1 H ∧ ∃ (us : List Int) (n' : Int), H D = some (.lst (us.map V.int)) ∧ H p = some (.lst [.int n']) ∧ us.length = i ∧ (∀ u ∈ us, 0 ≤ u ∧ u < m)) ?_ (fun _ _ _ _ => trivial) ?_ ?_
  · refine ⟨But.of (same_upd hD), [], n, upd_same, (same_upd hD) _ _ hp, rfl, fun u z => nomatch z⟩
  · rintro i x H H' hi ⟨bt, us, n', hu, hn, hl, hb⟩ ⟨rfl, rfl⟩
    refine ⟨?_, ?_⟩
    · show ((σ.set j none).set j (some _)).set j none = σ.set j none
      rw [List.set_set, List.set_set]
    refine g_yes ?_
    refine iteT ?_
    refine g_call ?_
    refine g_cons ?_
    refine g_var (hσ _) ?_
    refine g_cons ?_
    refine g_c ?_
    refine g_nil ?_
    refine u_digit hn h0 h1 ?_
    refine ⟨us.map V.int, ?_, ?_, ?_⟩
    · rw [upd_ne (Ne.symm nDp)]
      exact hu
    · rw [List.length_map]
      exact szl (by omega)
    · refine ⟨?_, us ++ [n' % m], n' / m, ?_, ?_, ?_, ?_⟩
      · intro b o nb e
        by_cases z : b = D
        · rw [z, hD] at e; cases e
        · rw [upd_ne z, upd_ne nb]
          exact bt b o nb e
      · rw [upd_same, List.map_append]
        rfl
      · rw [upd_ne nDp, upd_same]
      · rw [List.length_append, hl]
        rfl
      · intro u hu
        rcases List.mem_append.mp hu with z | z
        · exact hb u z
        · rw [List.mem_singleton.mp z]
          exact ⟨Int.emod_nonneg _ (by omega), Int.emod_lt_of_pos _ h0⟩
  · rintro H ⟨bt, us, n', hu, hn, hl, hb⟩
    exact q H us n' bt hu hn hl hb

mutual
theorem Dp.same {K : PySem.W.Frag} {H H' : Hp} (s : Same H H') : ∀ {v : V} {d : PyData}, Dp K H v d → Dp K H' v d
  | _, _, .non => .non
  | _, _, .bl b => .bl b
  | _, _, .int i => .int i
  | _, _, .str x => .str x
  | _, _, .lst h a => .lst (s.seq h) (DpAll.same s a)
  | _, _, .tup h a => .tup (Same.sqt s h) (DpAll.same s a)
theorem DpAll.same {K : PySem.W.Frag} {H H' : Hp} (s : Same H H') : ∀ {vs : List V} {ds : List PyData}, DpAll K H vs ds → DpAll K H' vs ds
  | _, _, .nil => .nil
  | _, _, .cons a b => .cons (Dp.same s a) (DpAll.same s b)
end
theorem g_eqDD {K : PySem.W.Frag} {H : Hp} {Q : VK} {x y : V} {d : PyData} (h1 : Dp K H x d) (h2 : Dp K H y d) (sh : SeqAt.shaped d = true) (q : Q (.bl true) H) : rEqD K x y H Q :=
  ⟨_, _, h1, h2, sh, sh, by rw [SeqAt.eqv_refl d (by unfold SeqAt.shaped at sh; exact (Bool.and_eq_true_iff.mp sh).1)]; exact q⟩
theorem g_neDD {K : PySem.W.Frag} {H : Hp} {Q : VK} {x y : V} {d : PyData} (h1 : Dp K H x d) (h2 : Dp K H y d) (sh : SeqAt.shaped d = true) (q : Q (.bl false) H) : rNeD K x y H Q :=
  ⟨_, _, h1, h2, sh, sh, by rw [SeqAt.eqv_refl d (by unfold SeqAt.shaped at sh; exact (Bool.and_eq_true_iff.mp sh).1)]; exact q⟩
theorem shaped_of {d : PyData} (h1 : d.canLay0 = true) (h2 : d.depth ≤ 64) : SeqAt.shaped d = true := by
  unfold SeqAt.shaped
  rw [h1, decide_eq_true h2]
  rfl

/-! ### what a side shows, as data -/
def flD : Option Str → PyData
  | none => .none
  | some s => .str s
def brD : Option (Str × Int) → PyData
  | none => .none
  | some p => .tuple [.str p.1, .int p.2]
theorem dp_fl {K : PySem.W.Frag} {H : Hp} : ∀ {f : Option Str}, Dp K H (flV f) (flD f)
  | none => .non
  | some s => .str s
theorem dp_br {K : PySem.W.Frag} {H : Hp} {b : V} : ∀ {f : Option (Str × Int)}, BrG H b f → Dp K H b (brD f)
  | none, h => by
    obtain rfl : b = .non := h
    exact .non
  | some p, ⟨t, e, h⟩ => by
    subst e
    exact .tup (st h) (.cons (.str _) (.cons (.int _) .nil))
/-- the channel with that number -/
def Sd.ch (g : Sd) (n : Int) : Cg := ((ixN? g.cs n).bind fun i => g.cs[i]?).getD (Cg.new n true)
theorem Sd.ch_at {g : Sd} {n : Int} {i : Nat} {c : Cg} (e : ixN? g.cs n = some i) (h : g.cs[i]? = some c) : g.ch n = c := by
  unfold Sd.ch
  rw [e]
  show (g.cs[i]?).getD _ = c
  rw [h]
  rfl
theorem ix_mem {cs : List Cg} {c : Cg} (h : c ∈ cs) : ∃ (i : Nat) (d : Cg), ixN? cs c.n = some i ∧ cs[i]? = some d ∧ d.n = c.n := by
  cases e : ixN? cs c.n with
  | none => exact absurd rfl (ixN_none e c h)
  | some i =>
    obtain ⟨d, h1, h2⟩ := ixN_some e
    exact ⟨i, d, rfl, h1, h2⟩
def okS (s : Str) : Prop := PyData.canLay0 (.str s) = true
theorem lay_fl : ∀ {f : Option Str}, (∀ s, f = some s → okS s) → PyData.canLay0 (flD f) = true
  | none, _ => rfl
  | some s, h => h s rfl
theorem lay_br : ∀ {f : Option (Str × Int)}, (∀ p, f = some p → okS p.1) → PyData.canLay0 (brD f) = true
  | none, _ => rfl
  | some p, h => by
    show (PyData.canLay0 (.str p.1) && (true && true)) = true
    rw [show PyData.canLay0 (.str p.1) = true from h p rfl]
    rfl
theorem dep_fl : ∀ {f : Option Str}, PyData.depth (flD f) = 0
  | none => rfl
  | some _ => rfl
theorem dep_br : ∀ {f : Option (Str × Int)}, PyData.depth (brD f) ≤ 1
  | none => Nat.zero_le _
  | some _ => by show max 0 (max 0 0) + 1 ≤ 1; decide
theorem lay_map {α : Type} {f : α → PyData} : ∀ {xs : List α}, (∀ x ∈ xs, (f x).canLay0 = true) → PyData.canLayAll0 (xs.map f) = true
  | [], _ => rfl
  | x :: xs, h => by
    show ((f x).canLay0 && PyData.canLayAll0 (xs.map f)) = true
    rw [h x (List.mem_cons_self ..), lay_map fun y hy => h y (List.mem_cons_of_mem _ hy)]
    rfl
theorem dep_map {α : Type} {f : α → PyData} {n : Nat} : ∀ {xs : List α}, (∀ x ∈ xs, (f x).depth ≤ n) → PyData.depthAll (xs.map f) ≤ n
  | [], _ => Nat.zero_le _
  | x :: xs, h => Nat.max_le.mpr ⟨h x (List.mem_cons_self ..), dep_map fun y hy => h y (List.mem_cons_of_mem _ hy)⟩

end
end My
namespace My
open PySem PySem.Spec L2
local macro_rules | `(tactic| walk_at "side") => `(tactic| first | assumption | decide | omega | exact ⟨by decide, by decide⟩ | exact ⟨by decide, by decide, by decide⟩ | decide +kernel | exact cdivW (by decide +kernel) (by decide +kernel) | exact Or.inl ⟨by omega, by omega⟩ | exact Or.inr ⟨by omega, by omega⟩ | (simp only [List.length_map, List.length_cons, List.length_nil, List.length_append]; omega))
local macro_rules | `(tactic| walk_at "fact") => `(tactic| first | assumption | omega | with_reducible rfl)
local macro_rules | `(tactic| walk_at "use") => `(tactic| fail "use")
local macro_rules | `(tactic| walk_at "go1") => `(tactic| with_reducible first | refine g_seq ?_ | refine g_asg ?_ | refine g_ret ?_ | refine g_ifS ?_ | refine g_drop ?_ | refine g_star ?_ | refine g_nx ?_ | refine g_rt ?_ | refine g_bkE ?_ | refine g_ctE ?_ | refine g_next ?_ | refine g_retN ?_ | refine g_brk ?_ | refine g_ct ?_ | refine g_c ?_ | refine g_op ?_ | refine g_un ?_ | refine g_rI0 ?_ | refine g_rU ?_ | refine g_rEqI ?_ | refine g_rNeI ?_ | refine g_isN ?_ | refine g_rIsB ?_ | refine g_rNotB ?_ | refine g_test ?_ | refine g_B ?_ | refine g_bl ?_ | refine g_and ?_ | refine g_or ?_ | refine g_not ?_ | refine g_andV ?_ | refine g_orV ?_ | refine g_notV ?_ | refine g_if ?_ | refine g_chain ?_ | refine g_yes ?_ | refine g_lc ?_ | refine g_revR ?_ | refine g_rng1 ?_ | refine g_iList ?_ | refine g_nil ?_ | refine g_cons ?_ | refine g_tup ?_ | refine g_lst ?_ | refine g_call ?_ | refine g_CB ?_ | refine g_sl ?_ | refine g_noPart ?_ | refine g_part ?_ | refine g_intE ?_ | refine g_ref ?_ | refine g_fld ?_ | refine g_sfld ?_ | refine g_meth ?_ | refine g_make ?_ | refine g_prop ?_  | refine g_ipI ?_ | refine g_int1 ?_ | refine g_int1B ?_ | refine g_one ?_ | refine g_two ?_ | refine g_isiI ?_ | refine g_isiIB ?_ | refine g_isiB ?_ | refine g_BM ?_ | refine g_BM0 ?_ | refine g_sub ?_)
local macro_rules | `(tactic| walk_at "go") => `(tactic| repeat (first | walk_at "go1" | ((with_reducible refine' g_nameE ?sd_ ?_); case sd_ => dsimp only [List.set_cons_succ, List.set_cons_zero]) | ((with_reducible refine' g_var ?sd_ ?_); case sd_ => exact rfl) | ((with_reducible refine' g_aug ?sd_ ?_); case sd_ => exact rfl) | ((with_reducible refine' g_rI ?sd_ ?_); case sd_ => walk_at "side") | ((with_reducible refine' g_dT ?sd_ ?_); case sd_ => walk_at "fact") | ((with_reducible refine' g_dF ?sd_ ?_); case sd_ => walk_at "fact") | ((with_reducible refine' g_nT ?sd_ ?_); case sd_ => walk_at "fact") | ((with_reducible refine' g_nF ?sd_ ?_); case sd_ => walk_at "fact") | (with_reducible refine g_iT rfl ?_) | (with_reducible refine g_iF rfl ?_) | walk_at "use"))
local macro_rules | `(tactic| walk_at "nw") => `(tactic| (generalize zq : upd _ _ _ = Hq; have sq : Same _ Hq := (by rw [← zq]; exact same_upd (by assumption)); have kq := (congrFun zq _).symm.trans upd_same; clear zq))
local macro_rules | `(tactic| walk_at "bt") => `(tactic| (generalize zq : upd _ _ _ = Hq; have bq : But _ _ Hq := (by rw [← zq]; exact But.refl.upd); have kq := (congrFun zq _).symm.trans upd_same; clear zq))
local macro_rules | `(tactic| walk_at "use") => `(tactic| first | ((with_reducible refine' fd_Channel_number ?ho_ ?hv_ ?_); (case ho_ => first | assumption | exact upd_same); (case hv_ => exact rfl)) | ((with_reducible refine' fd_Channel_announced ?ho_ ?hv_ ?_); (case ho_ => first | assumption | exact upd_same); (case hv_ => exact rfl)) | ((with_reducible refine' fd_Channel_queue ?ho_ ?hv_ ?_); (case ho_ => first | assumption | exact upd_same); (case hv_ => exact rfl)) | ((with_reducible refine' fd_Channel_credit ?ho_ ?hv_ ?_); (case ho_ => first | assumption | exact upd_same); (case hv_ => exact rfl)) | ((with_reducible refine' fd_Channel_finished ?ho_ ?hv_ ?_); (case ho_ => first | assumption | exact upd_same); (case hv_ => exact rfl)) | ((with_reducible refine' fd_Channel_end_sent ?ho_ ?hv_ ?_); (case ho_ => first | assumption | exact upd_same); (case hv_ => exact rfl)) | ((with_reducible refine' fd_Channel_unread ?ho_ ?hv_ ?_); (case ho_ => first | assumption | exact upd_same); (case hv_ => exact rfl)) | ((with_reducible refine' fd_Channel_due ?ho_ ?hv_ ?_); (case ho_ => first | assumption | exact upd_same); (case hv_ => exact rfl)) | ((with_reducible refine' fd_Channel_end_came ?ho_ ?hv_ ?_); (case ho_ => first | assumption | exact upd_same); (case hv_ => exact rfl)) | ((with_reducible refine' fd_Channel_broken ?ho_ ?hv_ ?_); (case ho_ => first | assumption | exact upd_same); (case hv_ => exact rfl)) | ((with_reducible refine' fd_Channel_reset_told ?ho_ ?hv_ ?_); (case ho_ => first | assumption | exact upd_same); (case hv_ => exact rfl)) | ((with_reducible refine' nw_Channel_number ?ho_ ?hv_ ?_); (case ho_ => first | assumption | exact upd_same); (case hv_ => exact rfl)) | ((with_reducible refine' nw_Channel_announced ?ho_ ?hv_ ?_); (case ho_ => first | assumption | exact upd_same); (case hv_ => exact rfl)) | ((with_reducible refine' nw_Channel_queue ?ho_ ?hv_ ?_); (case ho_ => first | assumption | exact upd_same); (case hv_ => exact rfl)) | ((with_reducible refine' nw_Channel_credit ?ho_ ?hv_ ?_); (case ho_ => first | assumption | exact upd_same); (case hv_ => exact rfl)) | ((with_reducible refine' nw_Channel_finished ?ho_ ?hv_ ?_); (case ho_ => first | assumption | exact upd_same); (case hv_ => exact rfl)) | ((with_reducible refine' nw_Channel_end_sent ?ho_ ?hv_ ?_); (case ho_ => first | assumption | exact upd_same); (case hv_ => exact rfl)) | ((with_reducible refine' nw_Channel_unread ?ho_ ?hv_ ?_); (case ho_ => first | assumption | exact upd_same); (case hv_ => exact rfl)) | ((with_reducible refine' nw_Channel_due ?ho_ ?hv_ ?_); (case ho_ => first | assumption | exact upd_same); (case hv_ => exact rfl)) | ((with_reducible refine' nw_Channel_end_came ?ho_ ?hv_ ?_); (case ho_ => first | assumption | exact upd_same); (case hv_ => exact rfl)) | ((with_reducible refine' nw_Channel_broken ?ho_ ?hv_ ?_); (case ho_ => first | assumption | exact upd_same); (case hv_ => exact rfl)) | ((with_reducible refine' nw_Channel_reset_told ?ho_ ?hv_ ?_); (case ho_ => first | assumption | exact upd_same); (case hv_ => exact rfl)) | ((with_reducible refine' st_Channel_number ?ho_ ?hv_ ?_); (case ho_ => first | assumption | exact upd_same); (case hv_ => exact Nat.le_of_ble_eq_true rfl)) | ((with_reducible refine' st_Channel_announced ?ho_ ?hv_ ?_); (case ho_ => first | assumption | exact upd_same); (case hv_ => exact Nat.le_of_ble_eq_true rfl)) | ((with_reducible refine' st_Channel_queue ?ho_ ?hv_ ?_); (case ho_ => first | assumption | exact upd_same); (case hv_ => exact Nat.le_of_ble_eq_true rfl)) | ((with_reducible refine' st_Channel_credit ?ho_ ?hv_ ?_); (case ho_ => first | assumption | exact upd_same); (case hv_ => exact Nat.le_of_ble_eq_true rfl)) | ((with_reducible refine' st_Channel_finished ?ho_ ?hv_ ?_); (case ho_ => first | assumption | exact upd_same); (case hv_ => exact Nat.le_of_ble_eq_true rfl)) | ((with_reducible refine' st_Channel_end_sent ?ho_ ?hv_ ?_); (case ho_ => first | assumption | exact upd_same); (case hv_ => exact Nat.le_of_ble_eq_true rfl)) | ((with_reducible refine' st_Channel_unread ?ho_ ?hv_ ?_); (case ho_ => first | assumption | exact upd_same); (case hv_ => exact Nat.le_of_ble_eq_true rfl)) | ((with_reducible refine' st_Channel_due ?ho_ ?hv_ ?_); (case ho_ => first | assumption | exact upd_same); (case hv_ => exact Nat.le_of_ble_eq_true rfl)) | ((with_reducible refine' st_Channel_end_came ?ho_ ?hv_ ?_); (case ho_ => first | assumption | exact upd_same); (case hv_ => exact Nat.le_of_ble_eq_true rfl)) | ((with_reducible refine' st_Channel_broken ?ho_ ?hv_ ?_); (case ho_ => first | assumption | exact upd_same); (case hv_ => exact Nat.le_of_ble_eq_true rfl)) | ((with_reducible refine' st_Channel_reset_told ?ho_ ?hv_ ?_); (case ho_ => first | assumption | exact upd_same); (case hv_ => exact Nat.le_of_ble_eq_true rfl)) | ((with_reducible refine' me_Channel_break_off ?ho_ ?_); (case ho_ => first | assumption | exact upd_same)) | ((with_reducible refine' me_Channel_fork ?ho_ ?_); (case ho_ => first | assumption | exact upd_same)))
local macro_rules | `(tactic| walk_at "use") => `(tactic| first | ((with_reducible refine' fd_Channels_failure ?ho_ ?hv_ ?_); (case ho_ => first | assumption | exact upd_same); (case hv_ => exact rfl)) | ((with_reducible refine' fd_Channels__window ?ho_ ?hv_ ?_); (case ho_ => first | assumption | exact upd_same); (case hv_ => exact rfl)) | ((with_reducible refine' fd_Channels__most ?ho_ ?hv_ ?_); (case ho_ => first | assumption | exact upd_same); (case hv_ => exact rfl)) | ((with_reducible refine' fd_Channels__next_here ?ho_ ?hv_ ?_); (case ho_ => first | assumption | exact upd_same); (case hv_ => exact rfl)) | ((with_reducible refine' fd_Channels__next_there ?ho_ ?hv_ ?_); (case ho_ => first | assumption | exact upd_same); (case hv_ => exact rfl)) | ((with_reducible refine' fd_Channels__channels ?ho_ ?hv_ ?_); (case ho_ => first | assumption | exact upd_same); (case hv_ => exact rfl)) | ((with_reducible refine' fd_Channels__numbers ?ho_ ?hv_ ?_); (case ho_ => first | assumption | exact upd_same); (case hv_ => exact rfl)) | ((with_reducible refine' fd_Channels__turns ?ho_ ?hv_ ?_); (case ho_ => first | assumption | exact upd_same); (case hv_ => exact rfl)) | ((with_reducible refine' fd_Channels__offered ?ho_ ?hv_ ?_); (case ho_ => first | assumption | exact upd_same); (case hv_ => exact rfl)) | ((with_reducible refine' fd_Channels__going ?ho_ ?hv_ ?_); (case ho_ => first | assumption | exact upd_same); (case hv_ => exact rfl)) | ((with_reducible refine' fd_Channels__coming ?ho_ ?hv_ ?_); (case ho_ => first | assumption | exact upd_same); (case hv_ => exact rfl)) | ((with_reducible refine' nw_Channels_failure ?ho_ ?hv_ ?_); (case ho_ => first | assumption | exact upd_same); (case hv_ => exact rfl)) | ((with_reducible refine' nw_Channels__window ?ho_ ?hv_ ?_); (case ho_ => first | assumption | exact upd_same); (case hv_ => exact rfl)) | ((with_reducible refine' nw_Channels__most ?ho_ ?hv_ ?_); (case ho_ => first | assumption | exact upd_same); (case hv_ => exact rfl)) | ((with_reducible refine' nw_Channels__next_here ?ho_ ?hv_ ?_); (case ho_ => first | assumption | exact upd_same); (case hv_ => exact rfl)) | ((with_reducible refine' nw_Channels__next_there ?ho_ ?hv_ ?_); (case ho_ => first | assumption | exact upd_same); (case hv_ => exact rfl)) | ((with_reducible refine' nw_Channels__channels ?ho_ ?hv_ ?_); (case ho_ => first | assumption | exact upd_same); (case hv_ => exact rfl)) | ((with_reducible refine' nw_Channels__numbers ?ho_ ?hv_ ?_); (case ho_ => first | assumption | exact upd_same); (case hv_ => exact rfl)) | ((with_reducible refine' nw_Channels__turns ?ho_ ?hv_ ?_); (case ho_ => first | assumption | exact upd_same); (case hv_ => exact rfl)) | ((with_reducible refine' nw_Channels__offered ?ho_ ?hv_ ?_); (case ho_ => first | assumption | exact upd_same); (case hv_ => exact rfl)) | ((with_reducible refine' nw_Channels__going ?ho_ ?hv_ ?_); (case ho_ => first | assumption | exact upd_same); (case hv_ => exact rfl)) | ((with_reducible refine' nw_Channels__coming ?ho_ ?hv_ ?_); (case ho_ => first | assumption | exact upd_same); (case hv_ => exact rfl)) | ((with_reducible refine' st_Channels_failure ?ho_ ?hv_ ?_); (case ho_ => first | assumption | exact upd_same); (case hv_ => exact Nat.le_of_ble_eq_true rfl)) | ((with_reducible refine' st_Channels__window ?ho_ ?hv_ ?_); (case ho_ => first | assumption | exact upd_same); (case hv_ => exact Nat.le_of_ble_eq_true rfl)) | ((with_reducible refine' st_Channels__most ?ho_ ?hv_ ?_); (case ho_ => first | assumption | exact upd_same); (case hv_ => exact Nat.le_of_ble_eq_true rfl)) | ((with_reducible refine' st_Channels__next_here ?ho_ ?hv_ ?_); (case ho_ => first | assumption | exact upd_same); (case hv_ => exact Nat.le_of_ble_eq_true rfl)) | ((with_reducible refine' st_Channels__next_there ?ho_ ?hv_ ?_); (case ho_ => first | assumption | exact upd_same); (case hv_ => exact Nat.le_of_ble_eq_true rfl)) | ((with_reducible refine' st_Channels__channels ?ho_ ?hv_ ?_); (case ho_ => first | assumption | exact upd_same); (case hv_ => exact Nat.le_of_ble_eq_true rfl)) | ((with_reducible refine' st_Channels__numbers ?ho_ ?hv_ ?_); (case ho_ => first | assumption | exact upd_same); (case hv_ => exact Nat.le_of_ble_eq_true rfl)) | ((with_reducible refine' st_Channels__turns ?ho_ ?hv_ ?_); (case ho_ => first | assumption | exact upd_same); (case hv_ => exact Nat.le_of_ble_eq_true rfl)) | ((with_reducible refine' st_Channels__offered ?ho_ ?hv_ ?_); (case ho_ => first | assumption | exact upd_same); (case hv_ => exact Nat.le_of_ble_eq_true rfl)) | ((with_reducible refine' st_Channels__going ?ho_ ?hv_ ?_); (case ho_ => first | assumption | exact upd_same); (case hv_ => exact Nat.le_of_ble_eq_true rfl)) | ((with_reducible refine' st_Channels__coming ?ho_ ?hv_ ?_); (case ho_ => first | assumption | exact upd_same); (case hv_ => exact Nat.le_of_ble_eq_true rfl)) | ((with_reducible refine' me_Channels_len__ ?ho_ ?_); (case ho_ => first | assumption | exact upd_same)) | ((with_reducible refine' me_Channels_iter__ ?ho_ ?_); (case ho_ => first | assumption | exact upd_same)) | ((with_reducible refine' me_Channels_open_channel ?ho_ ?_); (case ho_ => first | assumption | exact upd_same)) | ((with_reducible refine' me_Channels_accept ?ho_ ?_); (case ho_ => first | assumption | exact upd_same)) | ((with_reducible refine' me_Channels_finish ?ho_ ?_); (case ho_ => first | assumption | exact upd_same)) | ((with_reducible refine' me_Channels_reset ?ho_ ?_); (case ho_ => first | assumption | exact upd_same)) | ((with_reducible refine' me_Channels_status ?ho_ ?_); (case ho_ => first | assumption | exact upd_same)) | ((with_reducible refine' me_Channels_take ?ho_ ?_); (case ho_ => first | assumption | exact upd_same)) | ((with_reducible refine' me_Channels_receive ?ho_ ?_); (case ho_ => first | assumption | exact upd_same)) | ((with_reducible refine' me_Channels_fork ?ho_ ?_); (case ho_ => first | assumption | exact upd_same)) | ((with_reducible refine' me_Channels_known ?ho_ ?_); (case ho_ => first | assumption | exact upd_same)) | ((with_reducible refine' me_Channels_add ?ho_ ?_); (case ho_ => first | assumption | exact upd_same)) | ((with_reducible refine' me_Channels_room_of ?ho_ ?_); (case ho_ => first | assumption | exact upd_same)) | ((with_reducible refine' me_Channels_take_frame ?ho_ ?_); (case ho_ => first | assumption | exact upd_same)) | ((with_reducible refine' me_Channels_failure_of ?ho_ ?_); (case ho_ => first | assumption | exact upd_same)) | ((with_reducible refine' me_Channels_apply ?ho_ ?_); (case ho_ => first | assumption | exact upd_same)))
section
variable {P : Program} {w : World} {K : PySem.W.Frag} {mg : Str → Option Value} {base : Heap}
local macro_rules | `(tactic| walk_at "use") => `(tactic| with_reducible first | refine g_rs0 ?_ | refine g_rs1 ?_ | refine g_tryA ?_ | refine g_tryO ?_ | refine g_callS ?_ | refine g_joined ?_ | refine g_jsnil ?_ | refine g_jscons ?_ | refine g_fmt ?_)
local macro_rules | `(tactic| walk_at "fit") => `(tactic| (refine fit2 ?_; (try simp only [PySem.Str.length_append]); omega))
local macro_rules | `(tactic| walk_at "use") => `(tactic| first | ((with_reducible refine' g_addS ?sd_ ?_); case sd_ => (first | omega | (simp only [PySem.Str.length_append]; omega))) | ((with_reducible refine' g_slS ?sd_ ?_); case sd_ => omega) | (with_reducible refine g_m0 ?_))

local macro_rules | `(tactic| walk_at "use") => `(tactic| with_reducible first | refine g_dgetI ?_ | refine g_dputI ?_ | refine g_dget1I ?_ | refine g_dget2I ?_ | refine g_dinI ?_ | refine g_dnotinI ?_ | refine g_dnewK ?_)

section
variable {K : PySem.W.Frag} {H : Hp} {Q : VK}
end
local macro_rules | `(tactic| walk_at "use") => `(tactic| with_reducible first | refine g_rEqS ?_ | refine g_rNeS ?_ | refine g_isiS ?_)

local macro_rules | `(tactic| walk_at "use") => `(tactic| first | ((with_reducible refine' dg_D_writable ?ho_ ?hv_ ?_); (case ho_ => first | assumption | exact upd_same); (case hv_ => exact rfl)) | ((with_reducible refine' dg_D_waiting ?ho_ ?hv_ ?_); (case ho_ => first | assumption | exact upd_same); (case hv_ => exact rfl)) | ((with_reducible refine' dg_D_readable ?ho_ ?hv_ ?_); (case ho_ => first | assumption | exact upd_same); (case hv_ => exact rfl)) | ((with_reducible refine' dg_D_finished ?ho_ ?hv_ ?_); (case ho_ => first | assumption | exact upd_same); (case hv_ => exact rfl)) | ((with_reducible refine' dg_D_at_end ?ho_ ?hv_ ?_); (case ho_ => first | assumption | exact upd_same); (case hv_ => exact rfl)) | ((with_reducible refine' dg_D_reset ?ho_ ?hv_ ?_); (case ho_ => first | assumption | exact upd_same); (case hv_ => exact rfl)) | ((with_reducible refine' dn_D_writable ?ho_ ?hv_ ?_); (case ho_ => first | assumption | exact upd_same); (case hv_ => exact rfl)) | ((with_reducible refine' dn_D_waiting ?ho_ ?hv_ ?_); (case ho_ => first | assumption | exact upd_same); (case hv_ => exact rfl)) | ((with_reducible refine' dn_D_readable ?ho_ ?hv_ ?_); (case ho_ => first | assumption | exact upd_same); (case hv_ => exact rfl)) | ((with_reducible refine' dn_D_finished ?ho_ ?hv_ ?_); (case ho_ => first | assumption | exact upd_same); (case hv_ => exact rfl)) | ((with_reducible refine' dn_D_at_end ?ho_ ?hv_ ?_); (case ho_ => first | assumption | exact upd_same); (case hv_ => exact rfl)) | ((with_reducible refine' dn_D_reset ?ho_ ?hv_ ?_); (case ho_ => first | assumption | exact upd_same); (case hv_ => exact rfl)) | ((with_reducible refine' dp_D_writable ?ho_ ?hv_ ?_); (case ho_ => first | assumption | exact upd_same); (case hv_ => exact Nat.le_of_ble_eq_true rfl)) | ((with_reducible refine' dp_D_waiting ?ho_ ?hv_ ?_); (case ho_ => first | assumption | exact upd_same); (case hv_ => exact Nat.le_of_ble_eq_true rfl)) | ((with_reducible refine' dp_D_readable ?ho_ ?hv_ ?_); (case ho_ => first | assumption | exact upd_same); (case hv_ => exact Nat.le_of_ble_eq_true rfl)) | ((with_reducible refine' dp_D_finished ?ho_ ?hv_ ?_); (case ho_ => first | assumption | exact upd_same); (case hv_ => exact Nat.le_of_ble_eq_true rfl)) | ((with_reducible refine' dp_D_at_end ?ho_ ?hv_ ?_); (case ho_ => first | assumption | exact upd_same); (case hv_ => exact Nat.le_of_ble_eq_true rfl)) | ((with_reducible refine' dp_D_reset ?ho_ ?hv_ ?_); (case ho_ => first | assumption | exact upd_same); (case hv_ => exact Nat.le_of_ble_eq_true rfl)))
local macro_rules | `(tactic| walk_at "use") => `(tactic| with_reducible first | refine g_dgetT ?_ | refine g_dputT ?_)
/-! ### len(o), o an own object with a __len__ -/
section
open PyProof.Rows
variable {X : Cx} {C f : Addr} {fd : FuncData} {ps : List Str} {k : Nat}
def rLenO (C : Addr) (sp : Sp) : List V → Hp → VK → Prop := fun xs H Q => ∃ a dx fs, xs = [.ref a] ∧ H a = some (.ins C dx fs) ∧ sp [.ref a] H (fun v H' => ∃ n : Int, v = .int n ∧ 0 ≤ n ∧ n < 1000000 ∧ Q (.int n) H') E0
theorem call_lenO {sp : Sp} (hm : Meth X.K C "__len__" f) (F : FnOk X.prog X.w X.K X.mg X.base CX0 k f fd ps sp) (hr : Room (k + 1) X.A) (hb : Binds X.K fd ps []) : CallR X (.builtin "len") (rLenO C sp) := by
  obtain ⟨hat, hfn, _⟩ := hm
  intro pins s σ H xs us Q I rv h
  obtain ⟨a, dx, fs, rfl, ha, hq⟩ := h
  obtain ⟨u, rfl, ru⟩ := rv.one
  cases ru
  have sb : Sub X k X.A.in1 := Sub.in1 (⟨hr, rfl⟩ : Sub X (k + 1) X.A)
  obtain ⟨mA, J, _⟩ := ins_get I.hok ha
  obtain ⟨od, J, _⟩ := J.look
  have kIn := I.kIn
  have hl := F.len _ _ _ _ hq
  have bnd : BindsTo s fd ⟨[.ref a], []⟩ (ps.zip [.ref a]) := by
    have z := hb s [.ref a] kIn (by simpa using hl)
    simpa using z
  have e0 : Env0 X.prog X.w X.K X.mg X.base X.A.in1 X.stack s H := by
    have e := I.env0
    exact ⟨by rw [sb.fr]; exact e.frames, e.mod, e.bs, e.bsz, e.funs, e.frf, e.hok, e.bare⟩
  refine Calls.call_function_entry kind_len plain_len entry_len (args_len1 _) ?_
  unfold Builtin.«len»
  refine wpAny_bind (m := oneArg "len" _) (wpAny_pure ?_)
  refine wpAny_bind (m := callSpecial? (.ref a) (Str.ofString "__len__")) ?_
  simp only [callSpecial?]
  refine wpAny_bind (wpAny_bind (J.type.here ((PySem.W.looks_findIn kIn hat).here ?_)))
  refine wpAny_holding ?_
  refine wpAny_bind ((PySem.W.bind_fn kIn _ (beq_iff_eq.mp hfn)).here ?_)
  dsimp only
  refine wpAny_bind (wpAny_call (codeAny_mono (F.run X.A.in1 X.stack s H ⟨[.ref a], []⟩ [.ref a] [.ref a] _ E0 sb.room e0 bnd (.cons rfl .nil) hq) fun r s' hq => ?_))
  match r, hq with
  | .error _, hq => exact False.elim hq
  | .ok .next, hq => exact False.elim hq
  | .ok .brk, hq => exact False.elim hq
  | .ok .cont, hq => exact False.elim hq
  | .ok (.ret z), hq =>
    obtain ⟨v, H', I', rv, n, ev, n0, n1, q⟩ := I.after hq
    subst ev
    obtain ⟨t, rfl⟩ := rv
    refine wpAny_pure ?_
    refine wpAny_bind (wpAny_holding (wpAny_pure ?_))
    refine wpAny_bind (wpAny_letGo ?_)
    show wpAny _ _ (if n < 0 then _ else _) _ _ _
    rw [if_neg (by omega)]
    show wpAny _ _ (if n ≥ 2 ^ 63 then _ else _) _ _ _
    rw [if_neg (by omega)]
    exact wpAny_bind (wpAny_mkInt (wpAny_pure ⟨_, rfl, .int n, H', I'.tok _, ⟨_, rfl⟩, q⟩))
end

/-! ### the law's helpers (k00) -/
local macro_rules | `(tactic| walk_at "use") => `(tactic| with_reducible first | refine g_methT ?_ | refine g_iOwnL ?_ | refine u_isint ?_)
theorem u_dig {p : Addr} {n m : Int} {H Q E} (h : H p = some (.lst [.int n])) (h0 : 0 < m) (h1 : m < 18446744073709551616) (q : ∀ H', But p H H' → H' p = some (.lst [.int (n / m)]) → Q (.int (n % m)) H') : sp_l_digit K ([.ref p, .int m] ++ []) H Q E := u_digit h h0 h1 (q _ But.refl.upd upd_same)
def nmG (t : Int) (mi th : Nat) (n : Int) : Prop := (∃ k : Nat, k < mi ∧ n = 2 * (k : Int) + 1 + t) ∨ ∃ k : Nat, k < th ∧ n = 2 * (k : Int) + 2 - t
def osL (t : Int) (th : Nat) : List Int := (List.range th).map fun k : Nat => 2 * (k : Int) + 2 - t
structure Zg (t : Int) (mi th : Nat) (g : Sd) : Prop where
  w1 : 1 ≤ g.w ∧ g.w ≤ 65535
  m1 : 1 ≤ g.m ∧ g.m ≤ 65535
  tt : t = 0 ∨ t = 1
  nh : g.nh = 2 * (mi : Int) + 1 + t
  nt : g.nt = 2 * (th : Int) + 2 - t
  os : g.os = osL t th
  cn : ∀ c ∈ g.cs, nmG t mi th c.n ∧ c.br = none
  lc : g.cs.length = mi + th
  ns : ∀ n ∈ g.ns, ∃ c ∈ g.cs, c.n = n
  ln : g.ns.length = mi + th
  lt : g.ts.length = mi + th
  m2 : mi ≤ 101
  t2 : th ≤ 100
theorem nm_b {t : Int} {mi th : Nat} {n : Int} (h : nmG t mi th n) (tt : t = 0 ∨ t = 1) (m2 : mi ≤ 101) (t2 : th ≤ 100) : 0 ≤ n ∧ n ≤ 1000 := by
  rcases h with ⟨k, h, rfl⟩ | ⟨k, h, rfl⟩ <;> rcases tt with e | e <;> omega
theorem ins_mem {ns : List Int} {n m : Int} : m ∈ insN ns n ↔ m ∈ ns ∨ m = n := by
  unfold insN
  rw [(List.mergeSort_perm _ _).mem_iff, List.mem_append, List.mem_singleton]
theorem Zg.open {t : Int} {mi th : Nat} {g : Sd} (Z : Zg t mi th g) (h : mi < 100) : g.nh ≤ 200 ∧ (∀ d ∈ g.cs, d.n ≠ g.nh) ∧ Zg t (mi + 1) th g.open' := by
  have e := Z.nh
  have tt := Z.tt
  refine ⟨by rcases tt with z | z <;> omega, fun d hd z => ?_, Z.w1, Z.m1, tt, ?_, Z.nt, Z.os, fun c hc => ?_, ?_, fun n hn => ?_, ?_, ?_, by omega, Z.t2⟩
  · rcases (Z.cn d hd).1 with ⟨k, h1, h2⟩ | ⟨k, h1, h2⟩ <;> rcases tt with y | y <;> omega
  · show g.nh + 2 = 2 * ((mi + 1 : Nat) : Int) + 1 + t
    omega
  · rcases List.mem_append.mp (show c ∈ g.cs ++ [Cg.new g.nh false] from hc) with hc | hc
    · obtain ⟨h1, h2⟩ := Z.cn c hc
      refine ⟨?_, h2⟩
      rcases h1 with ⟨k, h1, h3⟩ | h1
      · exact .inl ⟨k, by omega, h3⟩
      · exact .inr h1
    · rw [List.mem_singleton.mp hc]
      exact ⟨.inl ⟨mi, by omega, e⟩, rfl⟩
  · show (g.cs ++ [Cg.new g.nh false]).length = _
    rw [List.length_append, Z.lc]
    show mi + th + 1 = _
    omega
  · rcases ins_mem.mp (show n ∈ insN g.ns g.nh from hn) with hn | rfl
    · obtain ⟨c, h1, h2⟩ := Z.ns n hn
      exact ⟨c, List.mem_append.mpr (.inl h1), h2⟩
    · exact ⟨_, List.mem_append.mpr (.inr (List.mem_singleton.mpr rfl)), rfl⟩
  · show (insN g.ns g.nh).length = _
    rw [insN_len, Z.ln]
    omega
  · show (g.ts ++ [g.nh]).length = _
    rw [List.length_append, Z.lt]
    show mi + th + 1 = _
    omega
theorem osL_succ {t : Int} {th : Nat} : osL t (th + 1) = osL t th ++ [2 * (th : Int) + 2 - t] := by
  unfold osL
  rw [List.range_succ, List.map_append]
  rfl
theorem Zg.opn {t : Int} {mi th : Nat} {g : Sd} (Z : Zg t mi th g) (h : th < 100) : (∀ d ∈ g.cs, d.n ≠ g.nt) ∧ Zg t mi (th + 1) (g.opn g.nt) := by
  have e := Z.nt
  have tt := Z.tt
  refine ⟨fun d hd z => ?_, Z.w1, Z.m1, tt, Z.nh, ?_, ?_, fun c hc => ?_, ?_, fun n hn => ?_, ?_, ?_, Z.m2, by omega⟩
  · rcases (Z.cn d hd).1 with ⟨k, h1, h2⟩ | ⟨k, h1, h2⟩ <;> rcases tt with y | y <;> omega
  · show g.nt + 2 = 2 * ((th + 1 : Nat) : Int) + 2 - t
    omega
  · show g.os ++ [g.nt] = _
    rw [Z.os, e, osL_succ]
  · rcases List.mem_append.mp (show c ∈ g.cs ++ [Cg.new g.nt true] from hc) with hc | hc
    · obtain ⟨h1, h2⟩ := Z.cn c hc
      refine ⟨?_, h2⟩
      rcases h1 with h1 | ⟨k, h1, h3⟩
      · exact .inl h1
      · exact .inr ⟨k, by omega, h3⟩
    · rw [List.mem_singleton.mp hc]
      exact ⟨.inr ⟨th, by omega, e⟩, rfl⟩
  · show (g.cs ++ [Cg.new g.nt true]).length = _
    rw [List.length_append, Z.lc]
    show mi + th + 1 = _
    omega
  · rcases ins_mem.mp (show n ∈ insN g.ns g.nt from hn) with hn | rfl
    · obtain ⟨c, h1, h2⟩ := Z.ns n hn
      exact ⟨c, List.mem_append.mpr (.inl h1), h2⟩
    · exact ⟨_, List.mem_append.mpr (.inr (List.mem_singleton.mpr rfl)), rfl⟩
  · show (insN g.ns g.nt).length = _
    rw [insN_len, Z.ln]
    omega
  · show (g.ts ++ [g.nt]).length = _
    rw [List.length_append, Z.lt]
    show mi + th + 1 = _
    omega
theorem Zg.at {t : Int} {mi th : Nat} {g : Sd} (Z : Zg t mi th g) {n : Int} (h : n ∈ g.ns) : ∃ (i : Nat) (c : Cg), ixN? g.cs n = some i ∧ g.cs[i]? = some c ∧ c.n = n ∧ c.br = none ∧ 0 ≤ n ∧ n ≤ 1000 := by
  obtain ⟨c, h1, rfl⟩ := Z.ns n h
  obtain ⟨i, d, h2, h3, h4⟩ := ix_mem h1
  exact ⟨i, d, h2, h3, h4, (Z.cn d (List.mem_of_getElem? h3)).2, nm_b (Z.cn c h1).1 Z.tt Z.m2 Z.t2⟩
theorem Zg.lens {t : Int} {mi th : Nat} {g : Sd} (Z : Zg t mi th g) : g.cs.length < 1000 ∧ g.ns.length < 1000 ∧ g.ts.length < 1000 ∧ g.os.length < 1000 := by
  have h1 := Z.lc
  have h2 := Z.ln
  have h3 := Z.lt
  have h4 := Z.m2
  have h5 := Z.t2
  have h6 : g.os.length = th := by rw [Z.os]; unfold osL; rw [List.length_map, List.length_range]
  omega
def sp_Channels_iter__ (CS CC : Addr) : Nat → Sp := fun n vs H Q _ => ∃ (own : Addr → Option Nat) (S : Sg) (x : Nat → Ca) (g : Sd), vs = [.ref S.p] ∧ SgO CS CC own H S x g ∧ ∀ it, H it = none → n ≤ it → Q (.ref it) (upd H it (ItO S.nl it 0))
theorem okN_Channels_iter__ (T : Txt P w K mg) : FnN P w K mg base 1 T.f_Channels_iter__ T.d_Channels_iter__ ["self"] (sp_Channels_iter__ T.C_Channels T.C_Channel) := by
  refine fnN_of T.F_Channels_iter__ sc_Channels_iter__ (fun n vs H Q E h => ?_) (fun cdv A outer s H vs Q E hr h => ?_)
  · obtain ⟨own, S, x, g, rfl, O, q⟩ := h
    rfl
  · obtain ⟨own, S, x, g, rfl, O, q⟩ := h
    have hu := hu_of hr
    refine ⟨_, (pss_one (ps_ret (pe_callB ItX.call_iterN (by rfl) T.n_iter (by decide +kernel) (pa_cons (pe_fld (pv 0) rfl) pa_nil)))), ?_⟩
    dsimp only [cxOf, Cx.nox, Cx.wish, L2.start, List.map, List.cons_append, List.nil_append, List.length_cons, List.length_nil, Nat.reduceAdd, Nat.reduceSub, Nat.zero_add, List.replicate_succ, List.replicate_zero]
    have ho := O.ho
    walk_at "go"
    exact ⟨S.nl, _, rfl, sl O.hn, q⟩
def sp_l_many (K : PySem.W.Frag) : Sp := fun vs H Q _ => ∃ (p : Addr) (n : Int), vs = [.ref p] ∧ H p = some (.lst [.int n]) ∧ ∀ (v : Nat) H', v ≤ 100 → But p H H' → H' p = some (.lst [.int (n / 8)]) → Q (.int v) H'
theorem ok_l_many (T : Txt P w K mg) : FnOk P w K mg base CX0 2 T.f_l_many T.d_l_many ["state"] (sp_l_many K) := by
  refine T.F_l_many.ok sc_l_many (fun vs H Q E h => ?_) (fun cdv A outer s H vs Q E hr h => ?_)
  · obtain ⟨p, n, rfl, hp, q⟩ := h
    rfl
  · obtain ⟨p, n, rfl, hp, q⟩ := h
    have hu := hu_of hr
    refine ⟨_, (pss_one (ps_ret (pe_ix ix_tup (pe_tup (pa_cons pe_int (pa_cons pe_int (pa_cons pe_int (pa_cons pe_int (pa_cons pe_int (pa_cons pe_int (pa_cons pe_int (pa_cons pe_int pa_nil))))))))) (pe_call (ok_l_digit T) (hr.mono (by decide)) rfl T.m_l_digit T.F_l_digit.kp T.b_l_digit .nil pass0 (pa_cons (pv 0) (pa_cons pe_int pa_nil))) (fun _ _ => rfl)))), ?_⟩
    dsimp only [cxOf, Cx.nox, Cx.wish, L2.start, List.map, List.cons_append, List.nil_append, List.length_cons, List.length_nil, Nat.reduceAdd, Nat.reduceSub, Nat.zero_add, List.replicate_succ, List.replicate_zero]
    walk_at "go"
    refine ⟨by show 8 ≤ sizeLine; decide, fun tp ht => ?_⟩
    walk_at "nw"
    rename_i H1 s1 k1
    have hp1 := s1 _ _ hp
    walk_at "go"
    refine u_dig hp1 (by decide) (by decide) fun H2 b2 k2 => ?_
    have k12 := b2 _ _ (ne_of k1 hp1 (fun z => nomatch z)) k1
    walk_at "go"
    have hv : ∃ v : Nat, v ≤ 100 ∧ atI [V.int 0, .int 1, .int 2, .int 3, .int 98, .int 99, .int 100, .int 100] (n % 8) = some (.int (v : Nat)) := by
      have h0 := Int.emod_nonneg n (show (8 : Int) ≠ 0 by decide)
      have h1 := Int.emod_lt_of_pos n (show (0 : Int) < 8 by decide)
      rcases (show n % 8 = 0 ∨ n % 8 = 1 ∨ n % 8 = 2 ∨ n % 8 = 3 ∨ n % 8 = 4 ∨ n % 8 = 5 ∨ n % 8 = 6 ∨ n % 8 = 7 by omega) with e | e | e | e | e | e | e | e <;> rw [e]
      · exact ⟨0, by decide, at_of (j := 0) rfl rfl⟩
      · exact ⟨1, by decide, at_of (j := 1) rfl rfl⟩
      · exact ⟨2, by decide, at_of (j := 2) rfl rfl⟩
      · exact ⟨3, by decide, at_of (j := 3) rfl rfl⟩
      · exact ⟨98, by decide, at_of (j := 4) rfl rfl⟩
      · exact ⟨99, by decide, at_of (j := 5) rfl rfl⟩
      · exact ⟨100, by decide, at_of (j := 6) rfl rfl⟩
      · exact ⟨100, by decide, at_of (j := 7) rfl rfl⟩
    obtain ⟨v, v1, hv⟩ := hv
    refine g_ixT (st k12) hv ?_
    exact q v H2 v1 ((But.of s1).trans b2) k2
def sp_l_frame (K : PySem.W.Frag) : Sp := fun vs H Q _ => ∃ (k : Int), vs = [.int k] ∧ 0 ≤ k ∧ k < 65536 ∧ ∀ p H', H p = none → Same H H' → H' p = some (.lst ((enc (.op k)).map V.int)) → Q (.ref p) H'
theorem ok_l_frame (T : Txt P w K mg) : FnOk P w K mg base CX0 1 T.f_l_frame T.d_l_frame ["number"] (sp_l_frame K) := by
  refine T.F_l_frame.ok sc_l_frame (fun vs H Q E h => ?_) (fun cdv A outer s H vs Q E hr h => ?_)
  · obtain ⟨k, rfl, k0, k1, q⟩ := h
    rfl
  · obtain ⟨k, rfl, k0, k1, q⟩ := h
    have hu := hu_of hr
    refine ⟨_, (pss_one (ps_ret (pe_lst (pa_cons pe_int (pa_cons (pe_op op_fdiv (pv 0) pe_int) (pa_cons (pe_op op_mod (pe_callTy call_int1 (by rfl) T.n_int (by decide +kernel) (pa_cons (pv 0) pa_nil)) pe_int) pa_nil)))))), ?_⟩
    dsimp only [cxOf, Cx.nox, Cx.wish, L2.start, List.map, List.cons_append, List.nil_append, List.length_cons, List.length_nil, Nat.reduceAdd, Nat.reduceSub, Nat.zero_add, List.replicate_succ, List.replicate_zero]
    walk_at "go"
    refine ⟨by show 3 ≤ sizeLine; decide, fun p hp => ?_⟩
    refine q p _ hp (same_upd hp) ?_
    rw [upd_same, enc_eq]
    show some (HO.lst [.int 1, .int (k / 256), .int (k % 256)]) = some (HO.lst [.int 1, .int (k / 256 % 256), .int (k % 256)])
    rw [show k / 256 % 256 = k / 256 by omega]
def sp_l_negative (K : PySem.W.Frag) (CS CC : Addr) : Sp := fun vs H Q _ => ∃ (own : Addr → Option Nat) (S : Sg) (x : Nat → Ca) (g : Sd) (s_ : Addr) (n : Int), vs = [.ref S.p, .ref s_] ∧ SgO CS CC own H S x g ∧ own s_ = none ∧ H s_ = some (.lst [.int n]) ∧
  ∀ H' n', But s_ H H' → H' s_ = some (.lst [.int n']) → Q (.bl true) H'
theorem SgO.but {CS CC : Addr} {own : Addr → Option Nat} {H H' : Hp} {S : Sg} {x : Nat → Ca} {g : Sd} (O : SgO CS CC own H S x g) {a : Addr} {xs : List V} (oa : own a = none) (ha : H a = some (.lst xs)) (b : But a H H') : SgO CS CC own H' S x g := O.keep fun c o h e => b c o (fun z => by
  subst z
  rcases h with h | ⟨kk, h⟩
  · exact h oa
  · rw [ha, h] at e; cases e) e
theorem ok_l_negative (T : Txt P w K mg) : FnOk P w K mg base CX0 2 T.f_l_negative T.d_l_negative ["side", "state"] (sp_l_negative K T.C_Channels T.C_Channel) := by
  refine T.F_l_negative.ok sc_l_negative (fun vs H Q E h => ?_) (fun cdv A outer s H vs Q E hr h => ?_)
  · obtain ⟨own, S, x, g, s_, n, rfl, O, os_, hs, q⟩ := h
    rfl
  · obtain ⟨own, S, x, g, s_, n, rfl, O, os_, hs, q⟩ := h
    have hu := hu_of hr
    refine ⟨_, (pss_cons (ps_tryA (i := 2) rfl rfl sc_l_negative.nd rfl rfl ⟨rfl, by decide, .inl T.c_InvalidAmount⟩ takes0 (fun W pn xe tk po_ => (pss_one (ps_expr (pe_methT (pv 0) T.k_Channels T.a_Channels_take (ok_Channels_take T) (hr.mono (by decide)) T.b_Channels_take (fun σ => passAt tk σ) (pa_cons (pe_op op_sub (pe_un un_neg pe_int) (pe_call (ok_l_digit T) (hr.mono (by decide)) rfl T.m_l_digit T.F_l_digit.kp T.b_l_digit .nil pass0 (pa_cons (pv 1) (pa_cons pe_int pa_nil)))) pa_nil))))) (fun a oe cls d pn hz_ hf_ => (pss_one (ps_ret (pe_and (pe_callB (call_isE2 hz_ hf_) (by rfl) T.n_isinstance (by decide +kernel) (pa_cons (pv 2) (pa_cons (pe_glob (v := .ref T.C_ThroughlineError) (by rfl) T.c_ThroughlineError rfl) pa_nil))) (pe_one (pe_not (pe_callB (call_isE2 hz_ hf_) (by rfl) T.n_isinstance (by decide +kernel) (pa_cons (pv 2) (pa_cons (pe_glob (v := .ref T.C_InvalidOptions) (by rfl) T.c_InvalidOptions rfl) pa_nil))))))))))
        (pss_one (ps_ret pe_bl))), ?_⟩
    dsimp only [cxOf, Cx.nox, Cx.wish, L2.start, List.map, List.cons_append, List.nil_append, List.length_cons, List.length_nil, Nat.reduceAdd, Nat.reduceSub, Nat.zero_add, List.replicate_succ, List.replicate_zero]
    have ho := O.ho
    walk_at "go"
    refine u_dig hs (by decide) (by decide) fun H1 b1 k1 => ?_
    have O1 := O.but os_ hs b1
    have d0 := Int.emod_nonneg n (show (99 : Int) ≠ 0 by decide)
    have d1 := Int.emod_lt_of_pos n (show (0 : Int) < 99 by decide)
    walk_at "go"
    refine ⟨own, S, x, g, _, rfl, O1, by omega, by omega, .inl ⟨by omega, ?_⟩⟩
    refine g_caught T.em_InvalidAmount_InvalidAmount fun e he => ?_
    walk_at "go"
    refine g_isER T.xc_InvalidAmount T.ko_InvalidAmount_ThroughlineError ?_
    walk_at "go"
    refine g_isER T.xc_InvalidAmount T.ko_InvalidAmount_InvalidOptions ?_
    walk_at "go"
    exact q H1 _ b1 k1
def sp_l_open (K : PySem.W.Frag) (CS CC : Addr) : Sp := fun vs H Q _ => ∃ (own : Addr → Option Nat) (S : Sg) (x : Nat → Ca) (g : Sd), vs = [.ref S.p] ∧ SgO CS CC own H S x g ∧ g.cs.length < 1000 ∧ g.ns.length < 1000 ∧ g.ts.length < 1000 ∧
  ((200 < g.nh ∧ ∀ t H', H t = none → Same H H' → H' t = some (.tup [.str "many", .bl true]) → Q (.ref t) H') ∨ (g.nh ≤ 200 ∧ (∀ d ∈ g.cs, d.n ≠ g.nh) ∧ ∀ own' l x' H', SgO CS CC own' H' { S with nl := l } x' g.open' → Fm own own' H H' → Q (.int g.nh) H'))
theorem ok_l_open (T : Txt P w K mg) : FnOk P w K mg base CX0 4 T.f_l_open T.d_l_open ["side"] (sp_l_open K T.C_Channels T.C_Channel) := by
  refine T.F_l_open.ok sc_l_open (fun vs H Q E h => ?_) (fun cdv A outer s H vs Q E hr h => ?_)
  · obtain ⟨own, S, x, g, rfl, O, l1, l2, l3, q⟩ := h
    rfl
  · obtain ⟨own, S, x, g, rfl, O, l1, l2, l3, q⟩ := h
    have hu := hu_of hr
    refine ⟨_, (pss_one (ps_tryA (i := 1) rfl rfl sc_l_open.nd rfl rfl ⟨rfl, by decide, .inl T.c_TooManyChannels⟩ takes0 (fun W pn xe tk po_ => (pss_one (ps_ret (pe_meth0T (pv 0) T.k_Channels T.a_Channels_open_channel (ok_Channels_open_channel T) (hr.mono (by decide)) T.b_Channels_open_channel (fun σ => passAt tk σ))))) (fun a oe cls d pn hz_ hf_ => (pss_one (ps_ret (pe_tup (pa_cons pe_str (pa_cons (pe_callB (call_isE2 hz_ hf_) (by rfl) T.n_isinstance (by decide +kernel) (pa_cons (pv 1) (pa_cons (pe_glob (v := .ref T.C_ThroughlineError) (by rfl) T.c_ThroughlineError rfl) pa_nil))) pa_nil)))))))), ?_⟩
    dsimp only [cxOf, Cx.nox, Cx.wish, L2.start, List.map, List.cons_append, List.nil_append, List.length_cons, List.length_nil, Nat.reduceAdd, Nat.reduceSub, Nat.zero_add, List.replicate_succ, List.replicate_zero]
    have ho := O.ho
    walk_at "go"
    refine ⟨own, S, x, g, rfl, O, l1, l2, l3, ?_⟩
    rcases q with ⟨hn, q⟩ | ⟨hn, nin, q⟩
    · refine .inl ⟨hn, ?_⟩
      refine g_caught T.em_TooManyChannels_TooManyChannels fun e he => ?_
      walk_at "go"
      refine g_isER T.xc_TooManyChannels T.ko_TooManyChannels_ThroughlineError ?_
      walk_at "go"
      refine ⟨by show 2 ≤ sizeLine; decide, fun t ht => ?_⟩
      exact q t _ ht (same_upd ht) upd_same
    · refine .inr ⟨hn, nin, fun own' l x' H' e O' f => ?_⟩
      walk_at "go"
      exact q own' l x' H' O' (Fm.own e f)
def sp_l_opens (K : PySem.W.Frag) (CS CC : Addr) : Sp := fun vs H Q _ => ∃ (own : Addr → Option Nat) (S : Sg) (x : Nat → Ca) (g : Sd) (t : Int) (v : Nat), vs = [.ref S.p, .int t, .int v] ∧ SgO CS CC own H S x g ∧ Zg t 0 0 g ∧ g.fl = none ∧ g.co = [] ∧ v ≤ 100 ∧
  ∀ own' S' x' g' H', S'.p = S.p → SgO CS CC own' H' S' x' g' → Fm own own' H H' → Zg t v 0 g' → g'.fl = none → g'.co = [] → Q (.bl true) H'
theorem ok_l_opens (T : Txt P w K mg) : FnOk P w K mg base CX0 5 T.f_l_opens T.d_l_opens ["side", "turn", "many"] (sp_l_opens K T.C_Channels T.C_Channel) := by
  refine T.F_l_opens.ok sc_l_opens (fun vs H Q E h => ?_) (fun cdv A outer s H vs Q E hr h => ?_)
  · obtain ⟨own, S, x, g, t, v, rfl, O, Z, fl, co, v1, q⟩ := h
    rfl
  · obtain ⟨own, S, x, g, t, v, rfl, O, Z, fl, co, v1, q⟩ := h
    have hu := hu_of hr
    refine ⟨_, (pss_cons (ps_for PassesOwn.never rfl (pi_range1 (by rfl) T.n_range (pa_cons (pv 2) pa_nil)) (pg_name (i := 3) sc_l_opens.nd rfl (Or.inl rfl)) (pss_one (ps_if (pt_cmpR op_ne (pe_call (ok_l_open T) (hr.mono (by decide)) rfl T.m_l_open T.F_l_open.kp T.b_l_open .nil pass0 (pa_cons (pv 0) pa_nil)) (pe_op op_add (pe_op op_add (pe_op op_mul pe_int (pv 3)) pe_int) (pv 1)) (nomark _)) (pss_one (ps_ret pe_bl)) pss_nil)))
        (pss_one (ps_ret pe_bl))), ?_⟩
    dsimp only [cxOf, Cx.nox, Cx.wish, L2.start, List.map, List.cons_append, List.nil_append, List.length_cons, List.length_nil, Nat.reduceAdd, Nat.reduceSub, Nat.zero_add, List.replicate_succ, List.replicate_zero]
    walk_at "go"
    refine for_r (n := (v : Int)) v (by omega) (by omega) (by omega) (fun i σ H' => (∃ v3 : Option V, σ = [some (.ref S.p), some (.int t), some (.int (v : Nat)), v3]) ∧ ∃ own' S' x' g', S'.p = S.p ∧ SgO T.C_Channels T.C_Channel own' H' S' x' g' ∧ Fm own own' H H' ∧ Zg t i 0 g' ∧ g'.fl = none ∧ g'.co = []) ⟨⟨_, rfl⟩, own, S, x, g, rfl, O, Fm.same fun _ _ e => e, Z, fl, co⟩ ?turn ?done ?ev
    case ev =>
      intro R hR
      walk_at "go"
      exact hR
    case turn =>
      rintro i σ H1 hi ⟨⟨v3, rfl⟩, own1, S1, x1, g1, es, O1, f1, Z1, fl1, co1⟩
      obtain ⟨a1, a2, Z2⟩ := Z1.open (by omega)
      obtain ⟨l1, l2, l3, l4⟩ := Z1.lens
      walk_at "go"
      rw [← es]
      refine ⟨own1, S1, x1, g1, rfl, O1, l1, l2, l3, .inr ⟨a1, a2, fun own' l x' H2 O2 f2 => ?_⟩⟩
      have en := Z1.nh
      walk_at "go"
      exact ⟨⟨_, rfl⟩, own', { S1 with nl := l }, x', _, rfl, O2, f1.trans f2, Z2, fl1, co1⟩
    case done =>
      rintro σ H1 ⟨⟨v3, rfl⟩, own1, S1, x1, g1, es, O1, f1, Z1, fl1, co1⟩
      walk_at "go"
      exact q own1 S1 x1 g1 H1 es O1 f1 Z1 fl1 co1

def rowD (g : Sd) (n : Int) : PyData := .tuple [.int n, .bool (g.ch n).fin, brD (g.ch n).br, .int (g.room (g.ch n)), .int ((g.ch n).q.length : Int), .int ((g.ch n).u.length : Int)]
def shD (g : Sd) : PyData := .tuple [flD g.fl, .int (g.ns.length : Int), .list (g.ns.map (rowD g))]
/-- the row that tells of the channel n -/
def RowG (H : Hp) (g : Sd) (n : Int) (t : Addr) : Prop := ∃ b, H t = some (.tup [.int n, .bl (g.ch n).fin, b, .int (g.room (g.ch n)), .int ((g.ch n).q.length : Int), .int ((g.ch n).u.length : Int)]) ∧ BrG H b (g.ch n).br
theorem RowG.but {H H' : Hp} {g : Sd} {n : Int} {t a : Addr} {xs : List V} (h : RowG H g n t) (ha : H a = some (.lst xs)) (b : But a H H') : RowG H' g n t := by
  obtain ⟨v, h1, h2⟩ := h
  exact ⟨v, b _ _ (ne_of h1 ha (fun z => nomatch z)) h1, h2.same fun tt o ⟨kk, e⟩ et => b _ _ (ne_of et ha (by rw [e]; exact fun z => nomatch z)) et⟩
theorem RowG.same {H H' : Hp} {g : Sd} {n : Int} {t : Addr} (h : RowG H g n t) (s : Same H H') : RowG H' g n t := by
  obtain ⟨v, h1, h2⟩ := h
  exact ⟨v, s _ _ h1, h2.same fun tt o _ et => s _ _ et⟩
theorem RowG.dp {H : Hp} {g : Sd} {n : Int} {t : Addr} (h : RowG H g n t) : Dp K H (.ref t) (rowD g n) := by
  obtain ⟨v, h1, h2⟩ := h
  exact .tup (st h1) (.cons (.int _) (.cons (.bl _) (.cons (dp_br h2) (.cons (.int _) (.cons (.int _) (.cons (.int _) .nil))))))
theorem rows_dp {H : Hp} {g : Sd} : ∀ {ns : List Int} {ts : List Addr}, ts.length = ns.length → (∀ (j : Nat) n t, ns[j]? = some n → ts[j]? = some t → RowG H g n t) → DpAll K H (ts.map V.ref) (ns.map (rowD g))
  | [], [], _, _ => .nil
  | [], _ :: _, h, _ => by cases h
  | _ :: _, [], h, _ => by cases h
  | n :: ns, t :: ts, h, hj => .cons (hj 0 n t rfl rfl).dp (rows_dp (Nat.succ.inj h) fun j n t h1 h2 => hj (j + 1) n t h1 h2)
theorem shaped_sh {g : Sd} (hf : ∀ s, g.fl = some s → okS s) (hb : ∀ n ∈ g.ns, ∀ p, (g.ch n).br = some p → okS p.1) : SeqAt.shaped (shD g) = true := by
  refine shaped_of ?_ ?_
  · show (PyData.canLay0 (flD g.fl) && (true && (PyData.canLayAll0 (g.ns.map (rowD g)) && true))) = true
    rw [lay_fl hf, lay_map fun n hn => ?_]
    · rfl
    · show (true && (true && (PyData.canLay0 (brD (g.ch n).br) && (true && (true && (true && true)))))) = true
      rw [lay_br (hb n hn)]
      rfl
  · show max (PyData.depth (flD g.fl)) (max 0 (max (PyData.depthAll (g.ns.map (rowD g)) + 1) 0)) + 1 ≤ 64
    have h1 : PyData.depthAll (g.ns.map (rowD g)) ≤ 3 := dep_map fun n hn => by
      show max 0 (max 0 (max (PyData.depth (brD (g.ch n).br)) (max 0 (max 0 (max 0 0))))) + 1 ≤ 3
      have := dep_br (f := (g.ch n).br)
      omega
    rw [dep_fl]
    omega
def sp_l_shown (K : PySem.W.Frag) (CS CC : Addr) : Sp := fun vs H Q _ => ∃ (own : Addr → Option Nat) (S : Sg) (x : Nat → Ca) (g : Sd), vs = [.ref S.p] ∧ SgO CS CC own H S x g ∧ (∀ n ∈ g.ns, 0 ≤ n ∧ n ≤ 1000 ∧ ∃ c ∈ g.cs, c.n = n) ∧ g.ns.length < 1000 ∧
  ∀ t H', H t = none → Same H H' → Dp K H' (.ref t) (shD g) → Q (.ref t) H'
theorem ok_l_shown (T : Txt P w K mg) : FnOk P w K mg base (L2.CX P w) 4 T.f_l_shown T.d_l_shown ["side"] (sp_l_shown K T.C_Channels T.C_Channel) := by
  refine T.F_l_shown.okX sc_l_shown (fun vs H Q E h => ?_) (fun cdv A outer s H vs Q E hr h => ?_)
  · obtain ⟨own, S, x, g, rfl, O, hns, lns, q⟩ := h
    rfl
  · obtain ⟨own, S, x, g, rfl, O, hns, lns, q⟩ := h
    have hu := hu_of hr
    refine ⟨_, (pss_cons (ps_set (i := 1) sc_l_shown.nd rfl (Or.inl rfl) (pe_lst pa_nil))
        (pss_cons (ps_for (passes_of rfl) rfl (pi_ownL (pv 0) T.a_Channels_iter__ (okN_Channels_iter__ T) (hr.mono (by decide)) T.b_Channels_iter__) (pg_name (i := 2) sc_l_shown.nd rfl (Or.inl rfl)) (pss_cons (ps_set (i := 3) sc_l_shown.nd rfl (Or.inl rfl) (pe_meth (pv 0) T.k_Channels T.a_Channels_status (ok_Channels_status T) (hr.mono (by decide)) T.b_Channels_status .nil (passes_call (takes_of rfl rfl rfl rfl) (fun _ _ _ _ h => h)) (pa_cons (pv 2) pa_nil)))
        (pss_one (ps_expr (pe_bm PySem.F.plainAttrs_list PySem.F.slot_list_append PySem.F.type_list_append mt_append (pv 1) (pa_cons (pe_tup (pa_cons (pv 2) (pa_cons (pe_dget hu (pv 3) pe_str (fun _ _ => rfl)) (pa_cons (pe_dget hu (pv 3) pe_str (fun _ _ => rfl)) (pa_cons (pe_dget hu (pv 3) pe_str (fun _ _ => rfl)) (pa_cons (pe_dget hu (pv 3) pe_str (fun _ _ => rfl)) (pa_cons (pe_dget hu (pv 3) pe_str (fun _ _ => rfl)) pa_nil))))))) pa_nil))))))
        (pss_one (ps_ret (pe_tup (pa_cons (pe_fld (pv 0) rfl) (pa_cons (pe_callB (call_lenO T.a_Channels_len__ (ok_Channels_len__ T) (hr.mono (by decide)) T.b_Channels_len__) (by rfl) T.n_len (by decide +kernel) (pa_cons (pv 0) pa_nil)) (pa_cons (pv 1) pa_nil)))))))), ?_⟩
    dsimp only [cxOf, Cx.nox, Cx.wish, L2.start, List.map, List.cons_append, List.nil_append, List.length_cons, List.length_nil, Nat.reduceAdd, Nat.reduceSub, Nat.zero_add, List.replicate_succ, List.replicate_zero]
    have ho := O.ho
    walk_at "go"
    refine ⟨by show 0 ≤ sizeLine; decide, fun rl hrl => ?_⟩
    walk_at "nw"
    rename_i H1 s1 k1
    have O1 := O.same s1
    walk_at "go"
    refine g_for ?_
    walk_at "go"
    refine ⟨S.p, S.dx, _, rfl, O1.ho, fun n => ⟨own, S, x, g, rfl, O1, fun it nit hn => ⟨it, S.nl, rfl, hn, upd_same, ?_⟩⟩⟩
    rw [ItX.dropH_upd nit]
    have nrl : S.nl ≠ rl := fun z => by rw [← z, O.hn] at hrl; cases hrl
    refine for_list (xs := g.ns.map V.int) (fun i σ H' => (∃ v2 v3 : Option V, σ = [some (.ref S.p), some (.ref rl), v2, v3]) ∧ Same H H' ∧ ∃ ts : List Addr, H' rl = some (.lst (ts.map V.ref)) ∧ ts.length = i ∧ ∀ (j : Nat) n t, g.ns[j]? = some n → ts[j]? = some t → RowG H' g n t) ⟨⟨_, _, rfl⟩, s1, [], k1, rfl, fun j n t _ h => by cases h⟩ (fun i σ H' _ ⟨_, s, _⟩ => s.seq (sl O.hn)) ?turn ?done
    case turn =>
      rintro i x0 σ H2 hx ⟨⟨v2, v3, rfl⟩, s2, ts, kr, lts, hj⟩
      obtain ⟨n, hn, rfl⟩ := map_get hx
      obtain ⟨n0, n1, c0, hc0, rfl⟩ := hns n (List.mem_of_getElem? hn)
      obtain ⟨i0, c, ei, hi, ec⟩ := ix_mem hc0
      have ech : g.ch c0.n = c := Sd.ch_at ei hi
      have O2 := O.same s2
      have ho2 := O2.ho
      walk_at "go"
      refine ⟨own, S, x, g, c0.n, rfl, O2, by omega, by omega, .inr ⟨i0, c, ei, hi, fun dd H3 hd s3 k3 => ?_⟩⟩
      have kr3 := s3 _ _ kr
      have hb := (O2.same s3).hx i0 c hi
      walk_at "go"
      refine ⟨ty_l kr3, ?_⟩
      walk_at "go"
      refine ⟨by show 6 ≤ sizeLine; decide, fun tt ht => ?_⟩
      walk_at "nw"
      rename_i H4 s4 k4
      have kr4 := s4 _ _ kr3
      walk_at "go"
      have li := ls_i hn
      refine g_append kr4 (szl (by rw [List.length_map]; omega)) ?_
      walk_at "bt"
      rename_i H5 b5 k5
      walk_at "go"
      refine ⟨⟨_, _, rfl⟩, ((But.of (s2.trans (s3.trans s4))).trans b5).same hrl, ts ++ [tt], by rw [k5, List.map_append]; rfl, by rw [List.length_append, lts]; rfl, fun j n t h1 h2 => ?_⟩
      by_cases z : j < ts.length
      · rw [List.getElem?_append_left z] at h2
        exact (((hj j n t h1 h2).same s3).same s4).but kr4 b5
      · have zl := ls_i h2
        rw [List.length_append] at zl
        obtain rfl : j = i := by have : ([tt] : List Addr).length = 1 := rfl; omega
        rw [hn] at h1
        obtain rfl := Option.some.inj h1
        rw [List.getElem?_append_right (by omega), lts, Nat.sub_self] at h2
        obtain rfl : tt = t := Option.some.inj h2
        rw [← ech] at k4
        refine RowG.but ⟨_, k4, ?_⟩ kr4 b5
        rw [ech]
        exact (hb.2.2.2.2).same fun tt o _ et => s4 _ _ et
    case done =>
      rintro σ H2 ⟨⟨v2, v3, rfl⟩, s2, ts, kr, lts, hj⟩
      rw [List.length_map] at lts
      have O2 := O.same s2
      have ho2 := O2.ho
      walk_at "go"
      refine ⟨S.p, S.dx, _, rfl, ho2, own, S, x, g, rfl, O2, (g.ns.length : Int), rfl, by omega, by omega, ?_⟩
      walk_at "go"
      refine ⟨by show 3 ≤ sizeLine; decide, fun tt ht => ?_⟩
      walk_at "nw"
      rename_i H3 s3 k3
      exact q tt H3 (free_same s2 ht) (s2.trans s3) (.tup (st k3) (.cons dp_fl (.cons (.int _) (.cons (.lst (sl (s3 _ _ kr)) (rows_dp lts fun j n t h1 h2 => (hj j n t h1 h2).same s3)) .nil))))
def sp_l_accepts (K : PySem.W.Frag) (CS CC : Addr) : Sp := fun vs H Q _ => ∃ (own : Addr → Option Nat) (S : Sg) (x : Nat → Ca) (g : Sd) (t : Int) (th : Nat), vs = [.ref S.p, .int t, .int th] ∧ SgO CS CC own H S x g ∧ g.os = osL t th ∧ th ≤ 100 ∧
  ∀ H', SgO CS CC own H' S x { g with os := [] } → Fm own own H H' → Q (.bl true) H'
theorem ok_l_accepts (T : Txt P w K mg) : FnOk P w K mg base CX0 2 T.f_l_accepts T.d_l_accepts ["side", "turn", "many"] (sp_l_accepts K T.C_Channels T.C_Channel) := by
  refine T.F_l_accepts.ok sc_l_accepts (fun vs H Q E h => ?_) (fun cdv A outer s H vs Q E hr h => ?_)
  · obtain ⟨own, S, x, g, t, th, rfl, O, eos, ht, q⟩ := h
    rfl
  · obtain ⟨own, S, x, g, t, th, rfl, O, eos, ht, q⟩ := h
    have hu := hu_of hr
    refine ⟨_, (pss_cons (ps_for PassesOwn.never rfl (pi_range1 (by rfl) T.n_range (pa_cons (pv 2) pa_nil)) (pg_name (i := 3) sc_l_accepts.nd rfl (Or.inl rfl)) (pss_cons (ps_set (i := 4) sc_l_accepts.nd rfl (Or.inl rfl) (pe_meth0 (pv 0) T.k_Channels T.a_Channels_accept (ok_Channels_accept T) (hr.mono (by decide)) T.b_Channels_accept .nil pass0))
        (pss_one (ps_if (PW.pt (pw_or (pt_not (pt_val (pe_call (ok_l_is_integer T) (hr.mono (by decide)) rfl T.m_l_is_integer T.F_l_is_integer.kp T.b_l_is_integer .nil pass0 (pa_cons (pv 4) pa_nil)))) (pw_or1 (pt_cmpR op_ne (pv 4) (pe_op op_sub (pe_op op_add (pe_op op_mul pe_int (pv 3)) pe_int) (pv 1)) (nomark _))))) (pss_one (ps_ret pe_bl)) pss_nil))))
        (pss_one (ps_ret (pe_cmpR op_isN (pe_meth0 (pv 0) T.k_Channels T.a_Channels_accept (ok_Channels_accept T) (hr.mono (by decide)) T.b_Channels_accept .nil pass0) pe_non (nomark _))))), ?_⟩
    dsimp only [cxOf, Cx.nox, Cx.wish, L2.start, List.map, List.cons_append, List.nil_append, List.length_cons, List.length_nil, Nat.reduceAdd, Nat.reduceSub, Nat.zero_add, List.replicate_succ, List.replicate_zero]
    walk_at "go"
    refine for_r (n := (th : Int)) th (by omega) (by omega) (by omega) (fun i σ H' => (∃ v3 v4 : Option V, σ = [some (.ref S.p), some (.int t), some (.int (th : Nat)), v3, v4]) ∧ SgO T.C_Channels T.C_Channel own H' S x { g with os := g.os.drop i } ∧ Fm own own H H') ⟨⟨_, _, rfl⟩, O, Fm.same fun _ _ e => e⟩ ?turn ?done ?ev
    case ev =>
      intro R hR
      walk_at "go"
      exact hR
    case turn =>
      rintro i σ H1 hi ⟨⟨v3, v4, rfl⟩, O1, f1⟩
      have ho := O1.ho
      have hos : g.os[i]? = some (2 * (i : Int) + 2 - t) := by
        rw [eos]
        unfold osL
        rw [List.getElem?_map, List.getElem?_range hi]
        rfl
      have ed : g.os.drop i = (2 * (i : Int) + 2 - t) :: g.os.drop (i + 1) := by
        rw [List.drop_eq_getElem_cons (ls_i hos), (List.getElem?_eq_some_iff.mp hos).2]
      walk_at "go"
      refine ⟨own, S, x, _, rfl, O1, .inr ⟨_, _, ed, fun H2 O2 f2 => ?_⟩⟩
      walk_at "go"
      exact ⟨⟨_, _, rfl⟩, O2, f1.trans (Fm.free f2)⟩
    case done =>
      rintro σ H1 ⟨⟨v3, v4, rfl⟩, O1, f1⟩
      have lo : g.os.length = th := by rw [eos]; unfold osL; rw [List.length_map, List.length_range]
      rw [List.drop_of_length_le (by omega)] at O1
      have ho := O1.ho
      walk_at "go"
      refine ⟨own, S, x, _, rfl, O1, .inl ⟨rfl, ?_⟩⟩
      walk_at "go"
      exact q H1 O1 f1
def Sd.at' (g : Sd) (k : Int) (F : Cg → Cg) : Sd := match ixN? g.cs k with
  | none => g
  | some i => match g.cs[i]? with
    | none => g
    | some c => g.put i (F c)
theorem Sd.at_eq {g : Sd} {k : Int} {F : Cg → Cg} {i : Nat} {c : Cg} (e : ixN? g.cs k = some i) (h : g.cs[i]? = some c) : g.at' k F = g.put i (F c) := by
  simp only [Sd.at', e, h]
def goN (g : Sd) (n : Int) : Int := ((if 200 < g.nh then g else g.open').ns[(n % ((if 200 < g.nh then g else g.open').ns.length : Int)).toNat]?).getD 0
def goG (g : Sd) (n : Int) : Sd := (({ (if 200 < g.nh then g else g.open') with os := [] } : Sd).at' (goN g n) Cg.end').at' (goN g n) fun c => c.off (Str.ofString "here") (n / ((if 200 < g.nh then g else g.open').ns.length : Int) % 65536)

end
end My
namespace My
open PySem PySem.Spec L2
local macro_rules | `(tactic| walk_at "side") => `(tactic| first | assumption | decide | omega | exact ⟨by decide, by decide⟩ | exact ⟨by decide, by decide, by decide⟩ | decide +kernel | exact cdivW (by decide +kernel) (by decide +kernel) | exact Or.inl ⟨by omega, by omega⟩ | exact Or.inr ⟨by omega, by omega⟩ | (simp only [List.length_map, List.length_cons, List.length_nil, List.length_append]; omega))
local macro_rules | `(tactic| walk_at "fact") => `(tactic| first | assumption | omega | with_reducible rfl)
local macro_rules | `(tactic| walk_at "use") => `(tactic| fail "use")
local macro_rules | `(tactic| walk_at "go1") => `(tactic| with_reducible first | refine g_seq ?_ | refine g_asg ?_ | refine g_ret ?_ | refine g_ifS ?_ | refine g_drop ?_ | refine g_star ?_ | refine g_nx ?_ | refine g_rt ?_ | refine g_bkE ?_ | refine g_ctE ?_ | refine g_next ?_ | refine g_retN ?_ | refine g_brk ?_ | refine g_ct ?_ | refine g_c ?_ | refine g_op ?_ | refine g_un ?_ | refine g_rI0 ?_ | refine g_rU ?_ | refine g_rEqI ?_ | refine g_rNeI ?_ | refine g_isN ?_ | refine g_rIsB ?_ | refine g_rNotB ?_ | refine g_test ?_ | refine g_B ?_ | refine g_bl ?_ | refine g_and ?_ | refine g_or ?_ | refine g_not ?_ | refine g_andV ?_ | refine g_orV ?_ | refine g_notV ?_ | refine g_if ?_ | refine g_chain ?_ | refine g_yes ?_ | refine g_lc ?_ | refine g_revR ?_ | refine g_rng1 ?_ | refine g_iList ?_ | refine g_nil ?_ | refine g_cons ?_ | refine g_tup ?_ | refine g_lst ?_ | refine g_call ?_ | refine g_CB ?_ | refine g_sl ?_ | refine g_noPart ?_ | refine g_part ?_ | refine g_intE ?_ | refine g_ref ?_ | refine g_fld ?_ | refine g_sfld ?_ | refine g_meth ?_ | refine g_make ?_ | refine g_prop ?_  | refine g_ipI ?_ | refine g_int1 ?_ | refine g_int1B ?_ | refine g_one ?_ | refine g_two ?_ | refine g_isiI ?_ | refine g_isiIB ?_ | refine g_isiB ?_ | refine g_BM ?_ | refine g_BM0 ?_ | refine g_sub ?_)
local macro_rules | `(tactic| walk_at "go") => `(tactic| repeat (first | walk_at "go1" | ((with_reducible refine' g_nameE ?sd_ ?_); case sd_ => dsimp only [List.set_cons_succ, List.set_cons_zero]) | ((with_reducible refine' g_var ?sd_ ?_); case sd_ => exact rfl) | ((with_reducible refine' g_aug ?sd_ ?_); case sd_ => exact rfl) | ((with_reducible refine' g_rI ?sd_ ?_); case sd_ => walk_at "side") | ((with_reducible refine' g_dT ?sd_ ?_); case sd_ => walk_at "fact") | ((with_reducible refine' g_dF ?sd_ ?_); case sd_ => walk_at "fact") | ((with_reducible refine' g_nT ?sd_ ?_); case sd_ => walk_at "fact") | ((with_reducible refine' g_nF ?sd_ ?_); case sd_ => walk_at "fact") | (with_reducible refine g_iT rfl ?_) | (with_reducible refine g_iF rfl ?_) | walk_at "use"))
local macro_rules | `(tactic| walk_at "nw") => `(tactic| (generalize zq : upd _ _ _ = Hq; have sq : Same _ Hq := (by rw [← zq]; exact same_upd (by assumption)); have kq := (congrFun zq _).symm.trans upd_same; clear zq))
local macro_rules | `(tactic| walk_at "bt") => `(tactic| (generalize zq : upd _ _ _ = Hq; have bq : But _ _ Hq := (by rw [← zq]; exact But.refl.upd); have kq := (congrFun zq _).symm.trans upd_same; clear zq))
local macro_rules | `(tactic| walk_at "use") => `(tactic| first | ((with_reducible refine' fd_Channel_number ?ho_ ?hv_ ?_); (case ho_ => first | assumption | exact upd_same); (case hv_ => exact rfl)) | ((with_reducible refine' fd_Channel_announced ?ho_ ?hv_ ?_); (case ho_ => first | assumption | exact upd_same); (case hv_ => exact rfl)) | ((with_reducible refine' fd_Channel_queue ?ho_ ?hv_ ?_); (case ho_ => first | assumption | exact upd_same); (case hv_ => exact rfl)) | ((with_reducible refine' fd_Channel_credit ?ho_ ?hv_ ?_); (case ho_ => first | assumption | exact upd_same); (case hv_ => exact rfl)) | ((with_reducible refine' fd_Channel_finished ?ho_ ?hv_ ?_); (case ho_ => first | assumption | exact upd_same); (case hv_ => exact rfl)) | ((with_reducible refine' fd_Channel_end_sent ?ho_ ?hv_ ?_); (case ho_ => first | assumption | exact upd_same); (case hv_ => exact rfl)) | ((with_reducible refine' fd_Channel_unread ?ho_ ?hv_ ?_); (case ho_ => first | assumption | exact upd_same); (case hv_ => exact rfl)) | ((with_reducible refine' fd_Channel_due ?ho_ ?hv_ ?_); (case ho_ => first | assumption | exact upd_same); (case hv_ => exact rfl)) | ((with_reducible refine' fd_Channel_end_came ?ho_ ?hv_ ?_); (case ho_ => first | assumption | exact upd_same); (case hv_ => exact rfl)) | ((with_reducible refine' fd_Channel_broken ?ho_ ?hv_ ?_); (case ho_ => first | assumption | exact upd_same); (case hv_ => exact rfl)) | ((with_reducible refine' fd_Channel_reset_told ?ho_ ?hv_ ?_); (case ho_ => first | assumption | exact upd_same); (case hv_ => exact rfl)) | ((with_reducible refine' nw_Channel_number ?ho_ ?hv_ ?_); (case ho_ => first | assumption | exact upd_same); (case hv_ => exact rfl)) | ((with_reducible refine' nw_Channel_announced ?ho_ ?hv_ ?_); (case ho_ => first | assumption | exact upd_same); (case hv_ => exact rfl)) | ((with_reducible refine' nw_Channel_queue ?ho_ ?hv_ ?_); (case ho_ => first | assumption | exact upd_same); (case hv_ => exact rfl)) | ((with_reducible refine' nw_Channel_credit ?ho_ ?hv_ ?_); (case ho_ => first | assumption | exact upd_same); (case hv_ => exact rfl)) | ((with_reducible refine' nw_Channel_finished ?ho_ ?hv_ ?_); (case ho_ => first | assumption | exact upd_same); (case hv_ => exact rfl)) | ((with_reducible refine' nw_Channel_end_sent ?ho_ ?hv_ ?_); (case ho_ => first | assumption | exact upd_same); (case hv_ => exact rfl)) | ((with_reducible refine' nw_Channel_unread ?ho_ ?hv_ ?_); (case ho_ => first | assumption | exact upd_same); (case hv_ => exact rfl)) | ((with_reducible refine' nw_Channel_due ?ho_ ?hv_ ?_); (case ho_ => first | assumption | exact upd_same); (case hv_ => exact rfl)) | ((with_reducible refine' nw_Channel_end_came ?ho_ ?hv_ ?_); (case ho_ => first | assumption | exact upd_same); (case hv_ => exact rfl)) | ((with_reducible refine' nw_Channel_broken ?ho_ ?hv_ ?_); (case ho_ => first | assumption | exact upd_same); (case hv_ => exact rfl)) | ((with_reducible refine' nw_Channel_reset_told ?ho_ ?hv_ ?_); (case ho_ => first | assumption | exact upd_same); (case hv_ => exact rfl)) | ((with_reducible refine' st_Channel_number ?ho_ ?hv_ ?_); (case ho_ => first | assumption | exact upd_same); (case hv_ => exact Nat.le_of_ble_eq_true rfl)) | ((with_reducible refine' st_Channel_announced ?ho_ ?hv_ ?_); (case ho_ => first | assumption | exact upd_same); (case hv_ => exact Nat.le_of_ble_eq_true rfl)) | ((with_reducible refine' st_Channel_queue ?ho_ ?hv_ ?_); (case ho_ => first | assumption | exact upd_same); (case hv_ => exact Nat.le_of_ble_eq_true rfl)) | ((with_reducible refine' st_Channel_credit ?ho_ ?hv_ ?_); (case ho_ => first | assumption | exact upd_same); (case hv_ => exact Nat.le_of_ble_eq_true rfl)) | ((with_reducible refine' st_Channel_finished ?ho_ ?hv_ ?_); (case ho_ => first | assumption | exact upd_same); (case hv_ => exact Nat.le_of_ble_eq_true rfl)) | ((with_reducible refine' st_Channel_end_sent ?ho_ ?hv_ ?_); (case ho_ => first | assumption | exact upd_same); (case hv_ => exact Nat.le_of_ble_eq_true rfl)) | ((with_reducible refine' st_Channel_unread ?ho_ ?hv_ ?_); (case ho_ => first | assumption | exact upd_same); (case hv_ => exact Nat.le_of_ble_eq_true rfl)) | ((with_reducible refine' st_Channel_due ?ho_ ?hv_ ?_); (case ho_ => first | assumption | exact upd_same); (case hv_ => exact Nat.le_of_ble_eq_true rfl)) | ((with_reducible refine' st_Channel_end_came ?ho_ ?hv_ ?_); (case ho_ => first | assumption | exact upd_same); (case hv_ => exact Nat.le_of_ble_eq_true rfl)) | ((with_reducible refine' st_Channel_broken ?ho_ ?hv_ ?_); (case ho_ => first | assumption | exact upd_same); (case hv_ => exact Nat.le_of_ble_eq_true rfl)) | ((with_reducible refine' st_Channel_reset_told ?ho_ ?hv_ ?_); (case ho_ => first | assumption | exact upd_same); (case hv_ => exact Nat.le_of_ble_eq_true rfl)) | ((with_reducible refine' me_Channel_break_off ?ho_ ?_); (case ho_ => first | assumption | exact upd_same)) | ((with_reducible refine' me_Channel_fork ?ho_ ?_); (case ho_ => first | assumption | exact upd_same)))
local macro_rules | `(tactic| walk_at "use") => `(tactic| first | ((with_reducible refine' fd_Channels_failure ?ho_ ?hv_ ?_); (case ho_ => first | assumption | exact upd_same); (case hv_ => exact rfl)) | ((with_reducible refine' fd_Channels__window ?ho_ ?hv_ ?_); (case ho_ => first | assumption | exact upd_same); (case hv_ => exact rfl)) | ((with_reducible refine' fd_Channels__most ?ho_ ?hv_ ?_); (case ho_ => first | assumption | exact upd_same); (case hv_ => exact rfl)) | ((with_reducible refine' fd_Channels__next_here ?ho_ ?hv_ ?_); (case ho_ => first | assumption | exact upd_same); (case hv_ => exact rfl)) | ((with_reducible refine' fd_Channels__next_there ?ho_ ?hv_ ?_); (case ho_ => first | assumption | exact upd_same); (case hv_ => exact rfl)) | ((with_reducible refine' fd_Channels__channels ?ho_ ?hv_ ?_); (case ho_ => first | assumption | exact upd_same); (case hv_ => exact rfl)) | ((with_reducible refine' fd_Channels__numbers ?ho_ ?hv_ ?_); (case ho_ => first | assumption | exact upd_same); (case hv_ => exact rfl)) | ((with_reducible refine' fd_Channels__turns ?ho_ ?hv_ ?_); (case ho_ => first | assumption | exact upd_same); (case hv_ => exact rfl)) | ((with_reducible refine' fd_Channels__offered ?ho_ ?hv_ ?_); (case ho_ => first | assumption | exact upd_same); (case hv_ => exact rfl)) | ((with_reducible refine' fd_Channels__going ?ho_ ?hv_ ?_); (case ho_ => first | assumption | exact upd_same); (case hv_ => exact rfl)) | ((with_reducible refine' fd_Channels__coming ?ho_ ?hv_ ?_); (case ho_ => first | assumption | exact upd_same); (case hv_ => exact rfl)) | ((with_reducible refine' nw_Channels_failure ?ho_ ?hv_ ?_); (case ho_ => first | assumption | exact upd_same); (case hv_ => exact rfl)) | ((with_reducible refine' nw_Channels__window ?ho_ ?hv_ ?_); (case ho_ => first | assumption | exact upd_same); (case hv_ => exact rfl)) | ((with_reducible refine' nw_Channels__most ?ho_ ?hv_ ?_); (case ho_ => first | assumption | exact upd_same); (case hv_ => exact rfl)) | ((with_reducible refine' nw_Channels__next_here ?ho_ ?hv_ ?_); (case ho_ => first | assumption | exact upd_same); (case hv_ => exact rfl)) | ((with_reducible refine' nw_Channels__next_there ?ho_ ?hv_ ?_); (case ho_ => first | assumption | exact upd_same); (case hv_ => exact rfl)) | ((with_reducible refine' nw_Channels__channels ?ho_ ?hv_ ?_); (case ho_ => first | assumption | exact upd_same); (case hv_ => exact rfl)) | ((with_reducible refine' nw_Channels__numbers ?ho_ ?hv_ ?_); (case ho_ => first | assumption | exact upd_same); (case hv_ => exact rfl)) | ((with_reducible refine' nw_Channels__turns ?ho_ ?hv_ ?_); (case ho_ => first | assumption | exact upd_same); (case hv_ => exact rfl)) | ((with_reducible refine' nw_Channels__offered ?ho_ ?hv_ ?_); (case ho_ => first | assumption | exact upd_same); (case hv_ => exact rfl)) | ((with_reducible refine' nw_Channels__going ?ho_ ?hv_ ?_); (case ho_ => first | assumption | exact upd_same); (case hv_ => exact rfl)) | ((with_reducible refine' nw_Channels__coming ?ho_ ?hv_ ?_); (case ho_ => first | assumption | exact upd_same); (case hv_ => exact rfl)) | ((with_reducible refine' st_Channels_failure ?ho_ ?hv_ ?_); (case ho_ => first | assumption | exact upd_same); (case hv_ => exact Nat.le_of_ble_eq_true rfl)) | ((with_reducible refine' st_Channels__window ?ho_ ?hv_ ?_); (case ho_ => first | assumption | exact upd_same); (case hv_ => exact Nat.le_of_ble_eq_true rfl)) | ((with_reducible refine' st_Channels__most ?ho_ ?hv_ ?_); (case ho_ => first | assumption | exact upd_same); (case hv_ => exact Nat.le_of_ble_eq_true rfl)) | ((with_reducible refine' st_Channels__next_here ?ho_ ?hv_ ?_); (case ho_ => first | assumption | exact upd_same); (case hv_ => exact Nat.le_of_ble_eq_true rfl)) | ((with_reducible refine' st_Channels__next_there ?ho_ ?hv_ ?_); (case ho_ => first | assumption | exact upd_same); (case hv_ => exact Nat.le_of_ble_eq_true rfl)) | ((with_reducible refine' st_Channels__channels ?ho_ ?hv_ ?_); (case ho_ => first | assumption | exact upd_same); (case hv_ => exact Nat.le_of_ble_eq_true rfl)) | ((with_reducible refine' st_Channels__numbers ?ho_ ?hv_ ?_); (case ho_ => first | assumption | exact upd_same); (case hv_ => exact Nat.le_of_ble_eq_true rfl)) | ((with_reducible refine' st_Channels__turns ?ho_ ?hv_ ?_); (case ho_ => first | assumption | exact upd_same); (case hv_ => exact Nat.le_of_ble_eq_true rfl)) | ((with_reducible refine' st_Channels__offered ?ho_ ?hv_ ?_); (case ho_ => first | assumption | exact upd_same); (case hv_ => exact Nat.le_of_ble_eq_true rfl)) | ((with_reducible refine' st_Channels__going ?ho_ ?hv_ ?_); (case ho_ => first | assumption | exact upd_same); (case hv_ => exact Nat.le_of_ble_eq_true rfl)) | ((with_reducible refine' st_Channels__coming ?ho_ ?hv_ ?_); (case ho_ => first | assumption | exact upd_same); (case hv_ => exact Nat.le_of_ble_eq_true rfl)) | ((with_reducible refine' me_Channels_len__ ?ho_ ?_); (case ho_ => first | assumption | exact upd_same)) | ((with_reducible refine' me_Channels_iter__ ?ho_ ?_); (case ho_ => first | assumption | exact upd_same)) | ((with_reducible refine' me_Channels_open_channel ?ho_ ?_); (case ho_ => first | assumption | exact upd_same)) | ((with_reducible refine' me_Channels_accept ?ho_ ?_); (case ho_ => first | assumption | exact upd_same)) | ((with_reducible refine' me_Channels_finish ?ho_ ?_); (case ho_ => first | assumption | exact upd_same)) | ((with_reducible refine' me_Channels_reset ?ho_ ?_); (case ho_ => first | assumption | exact upd_same)) | ((with_reducible refine' me_Channels_status ?ho_ ?_); (case ho_ => first | assumption | exact upd_same)) | ((with_reducible refine' me_Channels_take ?ho_ ?_); (case ho_ => first | assumption | exact upd_same)) | ((with_reducible refine' me_Channels_receive ?ho_ ?_); (case ho_ => first | assumption | exact upd_same)) | ((with_reducible refine' me_Channels_fork ?ho_ ?_); (case ho_ => first | assumption | exact upd_same)) | ((with_reducible refine' me_Channels_known ?ho_ ?_); (case ho_ => first | assumption | exact upd_same)) | ((with_reducible refine' me_Channels_add ?ho_ ?_); (case ho_ => first | assumption | exact upd_same)) | ((with_reducible refine' me_Channels_room_of ?ho_ ?_); (case ho_ => first | assumption | exact upd_same)) | ((with_reducible refine' me_Channels_take_frame ?ho_ ?_); (case ho_ => first | assumption | exact upd_same)) | ((with_reducible refine' me_Channels_failure_of ?ho_ ?_); (case ho_ => first | assumption | exact upd_same)) | ((with_reducible refine' me_Channels_apply ?ho_ ?_); (case ho_ => first | assumption | exact upd_same)))
section
variable {P : Program} {w : World} {K : PySem.W.Frag} {mg : Str → Option Value} {base : Heap}
local macro_rules | `(tactic| walk_at "use") => `(tactic| with_reducible first | refine g_rs0 ?_ | refine g_rs1 ?_ | refine g_tryA ?_ | refine g_tryO ?_ | refine g_callS ?_ | refine g_joined ?_ | refine g_jsnil ?_ | refine g_jscons ?_ | refine g_fmt ?_)
local macro_rules | `(tactic| walk_at "fit") => `(tactic| (refine fit2 ?_; (try simp only [PySem.Str.length_append]); omega))
local macro_rules | `(tactic| walk_at "use") => `(tactic| first | ((with_reducible refine' g_addS ?sd_ ?_); case sd_ => (first | omega | (simp only [PySem.Str.length_append]; omega))) | ((with_reducible refine' g_slS ?sd_ ?_); case sd_ => omega) | (with_reducible refine g_m0 ?_))

local macro_rules | `(tactic| walk_at "use") => `(tactic| with_reducible first | refine g_dgetI ?_ | refine g_dputI ?_ | refine g_dget1I ?_ | refine g_dget2I ?_ | refine g_dinI ?_ | refine g_dnotinI ?_ | refine g_dnewK ?_)

section
variable {K : PySem.W.Frag} {H : Hp} {Q : VK}
end
local macro_rules | `(tactic| walk_at "use") => `(tactic| with_reducible first | refine g_rEqS ?_ | refine g_rNeS ?_ | refine g_isiS ?_)

local macro_rules | `(tactic| walk_at "use") => `(tactic| first | ((with_reducible refine' dg_D_writable ?ho_ ?hv_ ?_); (case ho_ => first | assumption | exact upd_same); (case hv_ => exact rfl)) | ((with_reducible refine' dg_D_waiting ?ho_ ?hv_ ?_); (case ho_ => first | assumption | exact upd_same); (case hv_ => exact rfl)) | ((with_reducible refine' dg_D_readable ?ho_ ?hv_ ?_); (case ho_ => first | assumption | exact upd_same); (case hv_ => exact rfl)) | ((with_reducible refine' dg_D_finished ?ho_ ?hv_ ?_); (case ho_ => first | assumption | exact upd_same); (case hv_ => exact rfl)) | ((with_reducible refine' dg_D_at_end ?ho_ ?hv_ ?_); (case ho_ => first | assumption | exact upd_same); (case hv_ => exact rfl)) | ((with_reducible refine' dg_D_reset ?ho_ ?hv_ ?_); (case ho_ => first | assumption | exact upd_same); (case hv_ => exact rfl)) | ((with_reducible refine' dn_D_writable ?ho_ ?hv_ ?_); (case ho_ => first | assumption | exact upd_same); (case hv_ => exact rfl)) | ((with_reducible refine' dn_D_waiting ?ho_ ?hv_ ?_); (case ho_ => first | assumption | exact upd_same); (case hv_ => exact rfl)) | ((with_reducible refine' dn_D_readable ?ho_ ?hv_ ?_); (case ho_ => first | assumption | exact upd_same); (case hv_ => exact rfl)) | ((with_reducible refine' dn_D_finished ?ho_ ?hv_ ?_); (case ho_ => first | assumption | exact upd_same); (case hv_ => exact rfl)) | ((with_reducible refine' dn_D_at_end ?ho_ ?hv_ ?_); (case ho_ => first | assumption | exact upd_same); (case hv_ => exact rfl)) | ((with_reducible refine' dn_D_reset ?ho_ ?hv_ ?_); (case ho_ => first | assumption | exact upd_same); (case hv_ => exact rfl)) | ((with_reducible refine' dp_D_writable ?ho_ ?hv_ ?_); (case ho_ => first | assumption | exact upd_same); (case hv_ => exact Nat.le_of_ble_eq_true rfl)) | ((with_reducible refine' dp_D_waiting ?ho_ ?hv_ ?_); (case ho_ => first | assumption | exact upd_same); (case hv_ => exact Nat.le_of_ble_eq_true rfl)) | ((with_reducible refine' dp_D_readable ?ho_ ?hv_ ?_); (case ho_ => first | assumption | exact upd_same); (case hv_ => exact Nat.le_of_ble_eq_true rfl)) | ((with_reducible refine' dp_D_finished ?ho_ ?hv_ ?_); (case ho_ => first | assumption | exact upd_same); (case hv_ => exact Nat.le_of_ble_eq_true rfl)) | ((with_reducible refine' dp_D_at_end ?ho_ ?hv_ ?_); (case ho_ => first | assumption | exact upd_same); (case hv_ => exact Nat.le_of_ble_eq_true rfl)) | ((with_reducible refine' dp_D_reset ?ho_ ?hv_ ?_); (case ho_ => first | assumption | exact upd_same); (case hv_ => exact Nat.le_of_ble_eq_true rfl)))
local macro_rules | `(tactic| walk_at "use") => `(tactic| with_reducible first | refine g_dgetT ?_ | refine g_dputT ?_)
local macro_rules | `(tactic| walk_at "use") => `(tactic| with_reducible first | refine g_methT ?_ | refine g_iOwnL ?_ | refine u_isint ?_ | refine u_start ?_)

/-- the ghost of tuples is none -/
def trmO (H : Hp) (own : Addr → Option Nat) : Addr → Option Nat := fun b => match H b with
  | none => none
  | some (.tup _) => none
  | some _ => own b
theorem SgO.trm {CS CC : Addr} {own : Addr → Option Nat} {H : Hp} {S : Sg} {x : Nat → Ca} {g : Sd} (O : SgO CS CC own H S x g) : ∃ own', (∀ b, own' b ≠ none → own b ≠ none) ∧ (∀ b, H b = none → own' b = none) ∧ (∀ b k, H b = some (.tup k) → own' b = none) ∧ SgO CS CC own' H S x g := by
  have e1 : ∀ {b : Addr} {o : HO}, H b = some o → (∀ k, o ≠ .tup k) → trmO H own b = own b := fun {b o} h n => by
    unfold trmO
    rw [h]
    cases o with
    | tup k => exact absurd rfl (n k)
    | _ => rfl
  obtain ⟨o1, o2, o3, o4, o5, o6, o7⟩ := O.os
  refine ⟨trmO H own, fun b hb z => hb ?_, fun b h => ?_, fun b k h => ?_, O.ho, O.hd, O.hn, O.ht, O.hl, O.hg, O.hc, O.hx, fun i hi => ?_, ⟨(e1 O.ho nofun).trans o1, (e1 O.hd nofun).trans o2, (e1 O.hn nofun).trans o3, (e1 O.ht nofun).trans o4, (e1 O.hl nofun).trans o5, (e1 O.hg nofun).trans o6, (e1 O.hc nofun).trans o7⟩, O.nd, O.nk⟩
  · unfold trmO
    split
    · rfl
    · rfl
    · exact z
  · unfold trmO
    rw [h]
  · unfold trmO
    rw [h]
  · obtain ⟨c1, c2, c3⟩ := O.oc i hi
    obtain ⟨p1, p2, p3, _⟩ := O.hx i _ (List.getElem?_eq_getElem hi)
    exact ⟨(e1 p1 nofun).trans c1, (e1 p2 nofun).trans c2, (e1 p3 nofun).trans c3⟩

theorem goA {t : Int} {mi th : Nat} {g : Sd} (Z : Zg t mi th g) (h : mi ≤ 100) : ∃ m2 : Nat, (m2 : Int) = (if (mi : Int) + 1 < 100 then (mi : Int) + 1 else 100) ∧ 1 ≤ m2 ∧ Zg t m2 th (if 200 < g.nh then g else g.open') := by
  have e := Z.nh
  have tt := Z.tt
  by_cases z : mi < 100
  · rw [if_neg (show ¬ 200 < g.nh by rcases tt with y | y <;> omega)]
    exact ⟨mi + 1, by split <;> omega, by omega, (Z.open z).2.2⟩
  · rw [if_pos (show 200 < g.nh by rcases tt with y | y <;> omega)]
    exact ⟨mi, by split <;> omega, by omega, Z⟩
theorem Sd.ns_at {g : Sd} {k : Int} {F : Cg → Cg} : (g.at' k F).ns = g.ns := by
  unfold Sd.at'
  split
  · rfl
  · split <;> rfl
theorem sh_many : SeqAt.shaped (.tuple [.str "many", .bool true]) = true := by decide +kernel
theorem sh_here {k : Int} : SeqAt.shaped (brD (some (Str.ofString "here", k))) = true := shaped_of (lay_br fun p e => by cases e; show PyData.canLay0 (.str "here") = true; decide +kernel) (Nat.le_trans dep_br (by decide))
theorem sh_int {k : Int} : SeqAt.shaped (.int k) = true := rfl
def sp_l_goes_on (K : PySem.W.Frag) (CS CC : Addr) : Sp := fun vs H Q _ => ∃ (own : Addr → Option Nat) (S : Sg) (x : Nat → Ca) (g : Sd) (s_ : Addr) (n t : Int) (mi th : Nat), vs = [.ref S.p, .int t, .int mi, .int th, .ref s_] ∧ SgO CS CC own H S x g ∧ own s_ = none ∧ H s_ = some (.lst [.int n]) ∧ Zg t mi th g ∧ mi ≤ 100 ∧
  ∀ own' S' x' H', S'.p = S.p → SgO CS CC own' H' S' x' (goG g n) → (∀ b o, b ≠ s_ → own b = none → H b = some o → own' b = none ∧ H' b = some o) → Q (.bl true) H'
theorem ok_l_goes_on (T : Txt P w K mg) : FnOk P w K mg base (L2.CX P w) 5 T.f_l_goes_on T.d_l_goes_on ["side", "turn", "mine", "theirs", "state"] (sp_l_goes_on K T.C_Channels T.C_Channel) := by
  refine T.F_l_goes_on.okX sc_l_goes_on (fun vs H Q E h => ?_) (fun cdv A outer s H vs Q E hr h => ?_)
  · obtain ⟨own, S, x, g, s_, n, t, mi, th, rfl, O, oS, hs, Z, hmi, q⟩ := h
    rfl
  · obtain ⟨own, S, x, g, s_, n, t, mi, th, rfl, O, oS, hs, Z, hmi, q⟩ := h
    have hu := hu_of hr
    refine ⟨_, (pss_cons (ps_set (i := 5) sc_l_goes_on.nd rfl (Or.inl rfl) (pe_op op_add (pe_op op_add (pe_op op_mul pe_int (pv 2)) pe_int) (pv 1)))
        (C8.pss_cut (ps_if (pt_cmpR op_eq (pv 2) pe_int (nomark _)) (pss_one (ps_set (i := 5) sc_l_goes_on.nd rfl (Or.inl rfl) (pe_tup (pa_cons pe_str (pa_cons pe_bl pa_nil))))) pss_nil)
        (C8.pss_cut (ps_if (PW.pt (pw_or (pt_cmpR (op_neD hr.units) (pe_call (ok_l_open T) (hr.mono (by decide)) rfl T.m_l_open T.F_l_open.kp T.b_l_open .nil pass0 (pa_cons (pv 0) pa_nil)) (pv 5) (nomark _)) (pw_or1 (pt_not (pt_val (pe_call (ok_l_accepts T) (hr.mono (by decide)) rfl T.m_l_accepts T.F_l_accepts.kp T.b_l_accepts .nil pass0 (pa_cons (pv 0) (pa_cons (pv 1) (pa_cons (pv 3) pa_nil))))))))) (pss_one (ps_ret pe_bl)) pss_nil)
        (pss_cons (ps_setLc (i := 6) (own := [("number", 7)]) (g := gName 7) (tt := tYes) rfl sc_l_goes_on.nd rfl rfl (sw_true rfl rfl rfl (by decide +kernel)) (pi_ownL (pv 0) T.a_Channels_iter__ (okN_Channels_iter__ T) (hr.mono (by decide)) T.b_Channels_iter__) (blkOk_by (N := ["side", "turn", "mine", "theirs", "state", "due", "numbers", "number", "code"]) (sc := defScope s_l_goes_on) (by decide +kernel)) (fun _ _ _ _ _ => (pg_name (i := 7) sc_l_goes_on.nd rfl (Or.inl rfl))) (fun _ _ _ _ _ => pts_nil) (fun _ _ _ _ _ => (pv 7)))
        (pss_cons (ps_if (pt_cmpR op_ne (pe_callB call_len_seq (by rfl) T.n_len (by decide +kernel) (pa_cons (pv 6) pa_nil)) (pe_op op_add (pe_callB (call_min2 rfl) (by rfl) T.n_min (by decide +kernel) (pa_cons pe_int (pa_cons (pe_op op_add (pv 2) pe_int) pa_nil))) (pv 3)) (nomark _)) (pss_one (ps_ret pe_bl)) pss_nil)
        (pss_cons (ps_set (i := 7) sc_l_goes_on.nd rfl (Or.inl rfl) (pe_ix ix_list (pv 6) (pe_call (ok_l_digit T) (hr.mono (by decide)) rfl T.m_l_digit T.F_l_digit.kp T.b_l_digit .nil pass0 (pa_cons (pv 4) (pa_cons (pe_callB call_len_seq (by rfl) T.n_len (by decide +kernel) (pa_cons (pv 6) pa_nil)) pa_nil))) (fun _ _ => rfl)))
        (pss_cons (ps_if (PW.pt (pw_or (pt_cmpR op_notN (pe_meth (pv 0) T.k_Channels T.a_Channels_finish (ok_Channels_finish T) (hr.mono (by decide)) T.b_Channels_finish .nil (passes_call (takes_of rfl rfl rfl rfl) (fun _ _ _ _ h => h)) (pa_cons (pv 7) pa_nil)) pe_non (nomark _)) (pw_or1 (pt_cmpR op_notBl (pe_dget hu (pe_meth (pv 0) T.k_Channels T.a_Channels_status (ok_Channels_status T) (hr.mono (by decide)) T.b_Channels_status .nil (passes_call (takes_of rfl rfl rfl rfl) (fun _ _ _ _ h => h)) (pa_cons (pv 7) pa_nil)) pe_str (fun _ _ => rfl)) pe_bl (nomark _))))) (pss_one (ps_ret pe_bl)) pss_nil)
        (pss_cons (ps_set (i := 8) sc_l_goes_on.nd rfl (Or.inl rfl) (pe_call (ok_l_digit T) (hr.mono (by decide)) rfl T.m_l_digit T.F_l_digit.kp T.b_l_digit .nil pass0 (pa_cons (pv 4) (pa_cons pe_int pa_nil))))
        (pss_cons (ps_if (PW.pt (pw_or (pt_cmpR op_notN (pe_meth (pv 0) T.k_Channels T.a_Channels_reset (ok_Channels_reset T) (hr.mono (by decide)) T.b_Channels_reset .nil (passes_call (takes_of rfl rfl rfl rfl) (fun _ _ _ _ h => h)) (pa_cons (pv 7) (pa_cons (pv 8) pa_nil))) pe_non (nomark _)) (pw_or1 (pt_cmpR (op_neD hr.units) (pe_dget hu (pe_meth (pv 0) T.k_Channels T.a_Channels_status (ok_Channels_status T) (hr.mono (by decide)) T.b_Channels_status .nil (passes_call (takes_of rfl rfl rfl rfl) (fun _ _ _ _ h => h)) (pa_cons (pv 7) pa_nil)) pe_str (fun _ _ => rfl)) (pe_tup (pa_cons pe_str (pa_cons (pv 8) pa_nil))) (nomark _))))) (pss_one (ps_ret pe_bl)) pss_nil)
        (pss_one (ps_ret (pe_and (pe_cmpR op_isN (pe_meth (pv 0) T.k_Channels T.a_Channels_reset (ok_Channels_reset T) (hr.mono (by decide)) T.b_Channels_reset .nil (passes_call (takes_of rfl rfl rfl rfl) (fun _ _ _ _ h => h)) (pa_cons (pv 7) (pa_cons pe_int pa_nil))) pe_non (nomark _)) (pe_one (pe_cmpR (op_eqD hr.units) (pe_dget hu (pe_meth (pv 0) T.k_Channels T.a_Channels_status (ok_Channels_status T) (hr.mono (by decide)) T.b_Channels_status .nil (passes_call (takes_of rfl rfl rfl rfl) (fun _ _ _ _ h => h)) (pa_cons (pv 7) pa_nil)) pe_str (fun _ _ => rfl)) (pe_tup (pa_cons pe_str (pa_cons (pv 8) pa_nil))) (nomark _))))))))))))))), ?_⟩
    dsimp only [cxOf, Cx.nox, Cx.wish, L2.start, List.map, List.cons_append, List.nil_append, List.length_cons, List.length_nil, Nat.reduceAdd, Nat.reduceSub, Nat.zero_add, List.replicate_succ, List.replicate_zero]
    walk_at "go"
    refine g_cut (fun σ' H' => ∃ dv : V, σ' = [some (.ref S.p), some (.int t), some (.int (mi : Nat)), some (.int (th : Nat)), some (.ref s_), some dv, none, none, none] ∧ Same H H' ∧ ((mi = 100 ∧ ∃ a, dv = .ref a ∧ H' a = some (.tup [.str "many", .bl true])) ∨ (mi < 100 ∧ dv = .int g.nh))) ?_ ?_
    · walk_at "go"
      refine g_ite (fun e => ?_) (fun e => ?_)
      · walk_at "go"
        refine ⟨by show 2 ≤ sizeLine; decide, fun a ha => ?_⟩
        walk_at "go"
        exact ⟨_, rfl, same_upd ha, .inl ⟨by omega, a, rfl, upd_same⟩⟩
      · walk_at "go"
        exact ⟨_, rfl, fun _ _ e => e, .inr ⟨by omega, by rw [Z.nh]⟩⟩
    · rintro σ1 H1 ⟨dv, rfl, s1, hdv⟩
      have O1 := O.same s1
      obtain ⟨l1, l2, l3, l4⟩ := Z.lens
      have eos := Z.os
      walk_at "go"
      refine g_cut (fun σ' H' => σ' = [some (.ref S.p), some (.int t), some (.int (mi : Nat)), some (.int (th : Nat)), some (.ref s_), some dv, none, none, none] ∧ ∃ own1 S1 x1, S1.p = S.p ∧ SgO T.C_Channels T.C_Channel own1 H' S1 x1 { (if 200 < g.nh then g else g.open') with os := [] } ∧ Fm own own1 H H') ?_ ?_
      · walk_at "go"
        refine ⟨own, S, x, g, rfl, O1, l1, l2, l3, ?_⟩
        have hnh := Z.nh
        have tt := Z.tt
        rcases hdv with ⟨em, a, rfl, ha⟩ | ⟨em, rfl⟩
        · have h200 : 200 < g.nh := by rcases tt with y | y <;> omega
          refine .inl ⟨h200, fun tp H2 htp s2 k2 => ?_⟩
          walk_at "go"
          refine g_neDD (d := .tuple [.str "many", .bool true]) (.tup (st k2) (.cons (.str _) (.cons (.bl _) .nil))) (.tup (st (s2 _ _ ha)) (.cons (.str _) (.cons (.bl _) .nil))) sh_many ?_
          walk_at "go"
          refine ⟨own, S, x, g, t, th, rfl, O1.same s2, eos, Z.t2, fun H3 O3 f3 => ?_⟩
          walk_at "go"
          rw [if_pos h200]
          exact ⟨rfl, own, S, x, rfl, O3, (Fm.same (s1.trans s2)).trans f3⟩
        · have h200 : ¬ 200 < g.nh := by rcases tt with y | y <;> omega
          obtain ⟨a1, a2, a3⟩ := Z.open em
          refine .inr ⟨a1, a2, fun own' l x' H2 O2 f2 => ?_⟩
          walk_at "go"
          refine g_neDD (d := .int g.nh) (.int _) (.int _) sh_int ?_
          walk_at "go"
          refine ⟨own', { S with nl := l }, x', g.open', t, th, rfl, O2, eos, Z.t2, fun H3 O3 f3 => ?_⟩
          walk_at "go"
          rw [if_neg h200]
          exact ⟨rfl, own', { S with nl := l }, x', rfl, O3, ((Fm.same s1).trans f2).trans f3⟩
      · rintro σ2 H2 ⟨rfl, own1, S1, x1, es, O2, f2⟩
        obtain ⟨m2, em2, m21, Z2⟩ := goA Z hmi
        have qq : ∀ own' S' x' H', S'.p = S.p → SgO T.C_Channels T.C_Channel own' H' S' x' ((({ (if 200 < g.nh then g else g.open') with os := [] } : Sd).at' (goN g n) Cg.end').at' (goN g n) fun c => c.off (Str.ofString "here") (n / ((if 200 < g.nh then g else g.open').ns.length : Int) % 65536)) → (∀ b o, b ≠ s_ → own b = none → H b = some o → own' b = none ∧ H' b = some o) → Q (.bl true) H' := q
        have eN : goN g n = ((if 200 < g.nh then g else g.open').ns[(n % ((if 200 < g.nh then g else g.open').ns.length : Int)).toNat]?).getD 0 := rfl
        generalize goN g n = k at qq eN
        generalize hg2 : (if 200 < g.nh then g else g.open') = G at O2 Z2 qq eN
        clear q hg2
        have lG := Z2.ln
        have lG2 := Z2.lens
        rw [← es]
        walk_at "go"
        refine ⟨S1.p, S1.dx, _, rfl, O2.ho, fun nn => ⟨own1, S1, x1, _, rfl, O2, fun it nit hn => ⟨it, S1.nl, rfl, hn, upd_same, ?_⟩⟩⟩
        rw [ItX.dropH_upd nit]
        intro D hD
        have hnlG : H2 S1.nl = some (.lst (G.ns.map V.int)) := O2.hn
        refine lc_vals walk_list (G.ns.map V.int) hD rfl (fun H s => s.seq (sl O2.hn)) ?turn ?done
        case turn =>
          rintro i x' H3 H4 hi2 p2 ⟨rfl, hx'⟩
          refine ⟨rfl, ?_⟩
          walk_at "go"
          exact lc_next hD p2 (by rw [List.length_map]; omega) hx'
        case done =>
          intro H3 s3 k3
          have O3 := O2.same s3
          walk_at "go"
          refine g_len (.inl (sl k3)) ?_
          rw [List.length_map]
          walk_at "go"
          refine g_len (.inl (sl k3)) ?_
          rw [List.length_map]
          walk_at "go"
          have hs2 := f2 _ _ oS (s1 _ _ hs |> fun _ => hs)
          have os1 := hs2.1
          have hs3 := s3 _ _ hs2.2
          refine u_dig hs3 (by omega) (by omega) fun H4 b4 k4 => ?_
          have O4 := O3.but os1 hs3 b4
          have nD : D ≠ s_ := fun z => by rw [z, hs2.2] at hD; cases hD
          have kD := b4 _ _ nD k3
          have z0 := Int.emod_nonneg n (show ((G.ns.length : Nat) : Int) ≠ 0 by omega)
          have z1 := Int.emod_lt_of_pos n (show (0 : Int) < ((G.ns.length : Nat) : Int) by omega)
          have hk : G.ns[(n % (G.ns.length : Int)).toNat]? = some k := by
            rw [eN, List.getElem?_eq_getElem (show (n % (G.ns.length : Int)).toNat < G.ns.length by omega)]
            rfl
          have hkm : k ∈ G.ns := List.mem_of_getElem? hk
          obtain ⟨i, c, ei, hi, enc, ebr, k0, k1⟩ := Z2.at hkm
          refine g_ixL (v := .int k) (sl kD) (at_of (j := (n % (G.ns.length : Int)).toNat) (by omega) (by rw [List.getElem?_map, hk]; rfl)) ?_
          generalize eng : n / (G.ns.length : Int) = n4 at k4 qq
          have f4 : ∀ b o, b ≠ s_ → own b = none → H b = some o → own1 b = none ∧ H4 b = some o := fun b o nb z h => ⟨(f2 b o z h).1, b4 _ _ nb (s3 _ _ (f2 b o z h).2)⟩
          have ho4 := O4.ho
          walk_at "go"
          refine ⟨own1, S1, x1, _, k, rfl, O4, k0, by omega, .inr ⟨i, c, ei, hi, fun H5 O5 f5 => ?_⟩⟩
          have hi5 : (({ G with os := [] } : Sd).put i c.end').cs[i]? = some c.end' := List.getElem?_set_self (ls_i hi)
          have ei5 : ixN? (({ G with os := [] } : Sd).put i c.end').cs k = some i := by
            show ixN? (G.cs.set i c.end') k = some i
            rw [ixN_set (c' := c.end') hi rfl]
            exact ei
          have hs5 := f5 _ _ os1 k4
          have e1 : ({ G with os := [] } : Sd).at' k Cg.end' = ({ G with os := [] } : Sd).put i c.end' := Sd.at_eq ei hi
          rw [e1] at qq
          generalize ({ G with os := [] } : Sd).put i c.end' = g5 at O5 hi5 ei5 qq
          have ho5 := O5.ho
          walk_at "go"
          refine ⟨own1, S1, x1, _, k, rfl, O5, k0, by omega, .inr ⟨i, c.end', ei5, hi5, fun dd H6 hd s6 k6 => ?_⟩⟩
          have O6 := O5.same s6
          have hs6 := s6 _ _ hs5
          have ho6 := O6.ho
          rw [show c.end'.fin = true from rfl] at k6
          walk_at "go"
          refine u_dig hs6 (by decide) (by decide) fun H7 b7 k7 => ?_
          have O7 := O6.but os1 hs6 b7
          have ho7 := O7.ho
          have c0 := Int.emod_nonneg n4 (show (65536 : Int) ≠ 0 by decide)
          have c1 := Int.emod_lt_of_pos n4 (show (0 : Int) < 65536 by decide)
          walk_at "go"
          refine ⟨own1, S1, x1, _, k, n4 % 65536, rfl, O7, by omega, by omega, k0, by omega, .inr ⟨i, c.end', ei5, hi5, .inr ⟨⟨c0, by omega⟩, fun z => absurd ebr z, fun _ own8 x8 H8 e8 O8 f8 => ?_⟩⟩⟩
          have e2 : g5.at' k (fun c => c.off (Str.ofString "here") (n4 % 65536)) = g5.put i (c.end'.off (Str.ofString "here") (n4 % 65536)) := Sd.at_eq ei5 hi5
          rw [e2] at qq
          have hi8 : (g5.put i (c.end'.off (Str.ofString "here") (n4 % 65536))).cs[i]? = some (c.end'.off (Str.ofString "here") (n4 % 65536)) := List.getElem?_set_self (ls_i hi5)
          have ei8 : ixN? (g5.put i (c.end'.off (Str.ofString "here") (n4 % 65536))).cs k = some i := by
            show ixN? (g5.cs.set i _) k = some i
            rw [ixN_set (c' := c.end'.off (Str.ofString "here") (n4 % 65536)) hi5 rfl]
            exact ei5
          generalize g5.put i (c.end'.off (Str.ofString "here") (n4 % 65536)) = g8 at O8 hi8 ei8 qq
          have f8 : ∀ b o, b ≠ s_ → own b = none → H b = some o → own8 b = none ∧ H8 b = some o := fun b o nb z h => by
            obtain ⟨a1, a2⟩ := f4 b o nb z h
            have a7 := b7 _ _ nb (s6 _ _ (f5 _ _ a1 a2))
            exact ⟨(e8 b (by rw [a7]; exact nofun)).trans a1, f8 _ _ a1 a7⟩
          have ho8 := O8.ho
          walk_at "go"
          refine ⟨own8, S1, x8, _, k, rfl, O8, k0, by omega, .inr ⟨i, _, ei8, hi8, fun d9 H9 hd9 s9 k9 => ?_⟩⟩
          have O9 := O8.same s9
          have hb9 := (O9.hx i _ hi8).2.2.2.2
          walk_at "go"
          refine ⟨by show 2 ≤ sizeLine; decide, fun t10 h10 => ?_⟩
          walk_at "nw"
          rename_i H10 s10 k10
          have O10 := O9.same s10
          have ho10 := O10.ho
          have hb10 := hb9.same (H' := H10) fun tt o _ et => s10 _ _ et
          walk_at "go"
          refine g_neDD (d := brD (some (Str.ofString "here", n4 % 65536))) (dp_br hb10) (.tup (st k10) (.cons (.str _) (.cons (.int _) .nil))) sh_here ?_
          walk_at "go"
          refine ⟨own8, S1, x8, _, k, 3, rfl, O10, by omega, by omega, k0, by omega, .inr ⟨i, _, ei8, hi8, .inr ⟨⟨by omega, by omega⟩, fun _ => ?_, fun z => by cases z⟩⟩⟩
          walk_at "go"
          refine ⟨own8, S1, x8, _, k, rfl, O10, k0, by omega, .inr ⟨i, _, ei8, hi8, fun d11 H11 hd11 s11 k11 => ?_⟩⟩
          have O11 := O10.same s11
          have hb11 := (O11.hx i _ hi8).2.2.2.2
          walk_at "go"
          refine ⟨by show 2 ≤ sizeLine; decide, fun t12 h12 => ?_⟩
          walk_at "nw"
          rename_i H12 s12 k12
          have hb12 := hb11.same (H' := H12) fun tt o _ et => s12 _ _ et
          refine g_eqDD (d := brD (some (Str.ofString "here", n4 % 65536))) (dp_br hb12) (.tup (st k12) (.cons (.str _) (.cons (.int _) .nil))) sh_here ?_
          exact qq own8 S1 x8 H12 es (O11.same s12) fun b o nb z h => ⟨(f8 b o nb z h).1, s12 _ _ (s11 _ _ (s10 _ _ (s9 _ _ (f8 b o nb z h).2)))⟩

end
end My
namespace My
open PySem PySem.Spec L2
local macro_rules | `(tactic| walk_at "side") => `(tactic| first | assumption | decide | omega | exact ⟨by decide, by decide⟩ | exact ⟨by decide, by decide, by decide⟩ | decide +kernel | exact cdivW (by decide +kernel) (by decide +kernel) | exact Or.inl ⟨by omega, by omega⟩ | exact Or.inr ⟨by omega, by omega⟩ | (simp only [List.length_map, List.length_cons, List.length_nil, List.length_append]; omega))
local macro_rules | `(tactic| walk_at "fact") => `(tactic| first | assumption | omega | with_reducible rfl)
local macro_rules | `(tactic| walk_at "use") => `(tactic| fail "use")
local macro_rules | `(tactic| walk_at "go1") => `(tactic| with_reducible first | refine g_seq ?_ | refine g_asg ?_ | refine g_ret ?_ | refine g_ifS ?_ | refine g_drop ?_ | refine g_star ?_ | refine g_nx ?_ | refine g_rt ?_ | refine g_bkE ?_ | refine g_ctE ?_ | refine g_next ?_ | refine g_retN ?_ | refine g_brk ?_ | refine g_ct ?_ | refine g_c ?_ | refine g_op ?_ | refine g_un ?_ | refine g_rI0 ?_ | refine g_rU ?_ | refine g_rEqI ?_ | refine g_rNeI ?_ | refine g_isN ?_ | refine g_rIsB ?_ | refine g_rNotB ?_ | refine g_test ?_ | refine g_B ?_ | refine g_bl ?_ | refine g_and ?_ | refine g_or ?_ | refine g_not ?_ | refine g_andV ?_ | refine g_orV ?_ | refine g_notV ?_ | refine g_if ?_ | refine g_chain ?_ | refine g_yes ?_ | refine g_lc ?_ | refine g_revR ?_ | refine g_rng1 ?_ | refine g_iList ?_ | refine g_nil ?_ | refine g_cons ?_ | refine g_tup ?_ | refine g_lst ?_ | refine g_call ?_ | refine g_CB ?_ | refine g_sl ?_ | refine g_noPart ?_ | refine g_part ?_ | refine g_intE ?_ | refine g_ref ?_ | refine g_fld ?_ | refine g_sfld ?_ | refine g_meth ?_ | refine g_make ?_ | refine g_prop ?_  | refine g_ipI ?_ | refine g_int1 ?_ | refine g_int1B ?_ | refine g_one ?_ | refine g_two ?_ | refine g_isiI ?_ | refine g_isiIB ?_ | refine g_isiB ?_ | refine g_BM ?_ | refine g_BM0 ?_ | refine g_sub ?_)
local macro_rules | `(tactic| walk_at "go") => `(tactic| repeat (first | walk_at "go1" | ((with_reducible refine' g_nameE ?sd_ ?_); case sd_ => dsimp only [List.set_cons_succ, List.set_cons_zero]) | ((with_reducible refine' g_var ?sd_ ?_); case sd_ => exact rfl) | ((with_reducible refine' g_aug ?sd_ ?_); case sd_ => exact rfl) | ((with_reducible refine' g_rI ?sd_ ?_); case sd_ => walk_at "side") | ((with_reducible refine' g_dT ?sd_ ?_); case sd_ => walk_at "fact") | ((with_reducible refine' g_dF ?sd_ ?_); case sd_ => walk_at "fact") | ((with_reducible refine' g_nT ?sd_ ?_); case sd_ => walk_at "fact") | ((with_reducible refine' g_nF ?sd_ ?_); case sd_ => walk_at "fact") | (with_reducible refine g_iT rfl ?_) | (with_reducible refine g_iF rfl ?_) | walk_at "use"))
local macro_rules | `(tactic| walk_at "nw") => `(tactic| (generalize zq : upd _ _ _ = Hq; have sq : Same _ Hq := (by rw [← zq]; exact same_upd (by assumption)); have kq := (congrFun zq _).symm.trans upd_same; clear zq))
local macro_rules | `(tactic| walk_at "bt") => `(tactic| (generalize zq : upd _ _ _ = Hq; have bq : But _ _ Hq := (by rw [← zq]; exact But.refl.upd); have kq := (congrFun zq _).symm.trans upd_same; clear zq))
local macro_rules | `(tactic| walk_at "use") => `(tactic| first | ((with_reducible refine' fd_Channel_number ?ho_ ?hv_ ?_); (case ho_ => first | assumption | exact upd_same); (case hv_ => exact rfl)) | ((with_reducible refine' fd_Channel_announced ?ho_ ?hv_ ?_); (case ho_ => first | assumption | exact upd_same); (case hv_ => exact rfl)) | ((with_reducible refine' fd_Channel_queue ?ho_ ?hv_ ?_); (case ho_ => first | assumption | exact upd_same); (case hv_ => exact rfl)) | ((with_reducible refine' fd_Channel_credit ?ho_ ?hv_ ?_); (case ho_ => first | assumption | exact upd_same); (case hv_ => exact rfl)) | ((with_reducible refine' fd_Channel_finished ?ho_ ?hv_ ?_); (case ho_ => first | assumption | exact upd_same); (case hv_ => exact rfl)) | ((with_reducible refine' fd_Channel_end_sent ?ho_ ?hv_ ?_); (case ho_ => first | assumption | exact upd_same); (case hv_ => exact rfl)) | ((with_reducible refine' fd_Channel_unread ?ho_ ?hv_ ?_); (case ho_ => first | assumption | exact upd_same); (case hv_ => exact rfl)) | ((with_reducible refine' fd_Channel_due ?ho_ ?hv_ ?_); (case ho_ => first | assumption | exact upd_same); (case hv_ => exact rfl)) | ((with_reducible refine' fd_Channel_end_came ?ho_ ?hv_ ?_); (case ho_ => first | assumption | exact upd_same); (case hv_ => exact rfl)) | ((with_reducible refine' fd_Channel_broken ?ho_ ?hv_ ?_); (case ho_ => first | assumption | exact upd_same); (case hv_ => exact rfl)) | ((with_reducible refine' fd_Channel_reset_told ?ho_ ?hv_ ?_); (case ho_ => first | assumption | exact upd_same); (case hv_ => exact rfl)) | ((with_reducible refine' nw_Channel_number ?ho_ ?hv_ ?_); (case ho_ => first | assumption | exact upd_same); (case hv_ => exact rfl)) | ((with_reducible refine' nw_Channel_announced ?ho_ ?hv_ ?_); (case ho_ => first | assumption | exact upd_same); (case hv_ => exact rfl)) | ((with_reducible refine' nw_Channel_queue ?ho_ ?hv_ ?_); (case ho_ => first | assumption | exact upd_same); (case hv_ => exact rfl)) | ((with_reducible refine' nw_Channel_credit ?ho_ ?hv_ ?_); (case ho_ => first | assumption | exact upd_same); (case hv_ => exact rfl)) | ((with_reducible refine' nw_Channel_finished ?ho_ ?hv_ ?_); (case ho_ => first | assumption | exact upd_same); (case hv_ => exact rfl)) | ((with_reducible refine' nw_Channel_end_sent ?ho_ ?hv_ ?_); (case ho_ => first | assumption | exact upd_same); (case hv_ => exact rfl)) | ((with_reducible refine' nw_Channel_unread ?ho_ ?hv_ ?_); (case ho_ => first | assumption | exact upd_same); (case hv_ => exact rfl)) | ((with_reducible refine' nw_Channel_due ?ho_ ?hv_ ?_); (case ho_ => first | assumption | exact upd_same); (case hv_ => exact rfl)) | ((with_reducible refine' nw_Channel_end_came ?ho_ ?hv_ ?_); (case ho_ => first | assumption | exact upd_same); (case hv_ => exact rfl)) | ((with_reducible refine' nw_Channel_broken ?ho_ ?hv_ ?_); (case ho_ => first | assumption | exact upd_same); (case hv_ => exact rfl)) | ((with_reducible refine' nw_Channel_reset_told ?ho_ ?hv_ ?_); (case ho_ => first | assumption | exact upd_same); (case hv_ => exact rfl)) | ((with_reducible refine' st_Channel_number ?ho_ ?hv_ ?_); (case ho_ => first | assumption | exact upd_same); (case hv_ => exact Nat.le_of_ble_eq_true rfl)) | ((with_reducible refine' st_Channel_announced ?ho_ ?hv_ ?_); (case ho_ => first | assumption | exact upd_same); (case hv_ => exact Nat.le_of_ble_eq_true rfl)) | ((with_reducible refine' st_Channel_queue ?ho_ ?hv_ ?_); (case ho_ => first | assumption | exact upd_same); (case hv_ => exact Nat.le_of_ble_eq_true rfl)) | ((with_reducible refine' st_Channel_credit ?ho_ ?hv_ ?_); (case ho_ => first | assumption | exact upd_same); (case hv_ => exact Nat.le_of_ble_eq_true rfl)) | ((with_reducible refine' st_Channel_finished ?ho_ ?hv_ ?_); (case ho_ => first | assumption | exact upd_same); (case hv_ => exact Nat.le_of_ble_eq_true rfl)) | ((with_reducible refine' st_Channel_end_sent ?ho_ ?hv_ ?_); (case ho_ => first | assumption | exact upd_same); (case hv_ => exact Nat.le_of_ble_eq_true rfl)) | ((with_reducible refine' st_Channel_unread ?ho_ ?hv_ ?_); (case ho_ => first | assumption | exact upd_same); (case hv_ => exact Nat.le_of_ble_eq_true rfl)) | ((with_reducible refine' st_Channel_due ?ho_ ?hv_ ?_); (case ho_ => first | assumption | exact upd_same); (case hv_ => exact Nat.le_of_ble_eq_true rfl)) | ((with_reducible refine' st_Channel_end_came ?ho_ ?hv_ ?_); (case ho_ => first | assumption | exact upd_same); (case hv_ => exact Nat.le_of_ble_eq_true rfl)) | ((with_reducible refine' st_Channel_broken ?ho_ ?hv_ ?_); (case ho_ => first | assumption | exact upd_same); (case hv_ => exact Nat.le_of_ble_eq_true rfl)) | ((with_reducible refine' st_Channel_reset_told ?ho_ ?hv_ ?_); (case ho_ => first | assumption | exact upd_same); (case hv_ => exact Nat.le_of_ble_eq_true rfl)) | ((with_reducible refine' me_Channel_break_off ?ho_ ?_); (case ho_ => first | assumption | exact upd_same)) | ((with_reducible refine' me_Channel_fork ?ho_ ?_); (case ho_ => first | assumption | exact upd_same)))
local macro_rules | `(tactic| walk_at "use") => `(tactic| first | ((with_reducible refine' fd_Channels_failure ?ho_ ?hv_ ?_); (case ho_ => first | assumption | exact upd_same); (case hv_ => exact rfl)) | ((with_reducible refine' fd_Channels__window ?ho_ ?hv_ ?_); (case ho_ => first | assumption | exact upd_same); (case hv_ => exact rfl)) | ((with_reducible refine' fd_Channels__most ?ho_ ?hv_ ?_); (case ho_ => first | assumption | exact upd_same); (case hv_ => exact rfl)) | ((with_reducible refine' fd_Channels__next_here ?ho_ ?hv_ ?_); (case ho_ => first | assumption | exact upd_same); (case hv_ => exact rfl)) | ((with_reducible refine' fd_Channels__next_there ?ho_ ?hv_ ?_); (case ho_ => first | assumption | exact upd_same); (case hv_ => exact rfl)) | ((with_reducible refine' fd_Channels__channels ?ho_ ?hv_ ?_); (case ho_ => first | assumption | exact upd_same); (case hv_ => exact rfl)) | ((with_reducible refine' fd_Channels__numbers ?ho_ ?hv_ ?_); (case ho_ => first | assumption | exact upd_same); (case hv_ => exact rfl)) | ((with_reducible refine' fd_Channels__turns ?ho_ ?hv_ ?_); (case ho_ => first | assumption | exact upd_same); (case hv_ => exact rfl)) | ((with_reducible refine' fd_Channels__offered ?ho_ ?hv_ ?_); (case ho_ => first | assumption | exact upd_same); (case hv_ => exact rfl)) | ((with_reducible refine' fd_Channels__going ?ho_ ?hv_ ?_); (case ho_ => first | assumption | exact upd_same); (case hv_ => exact rfl)) | ((with_reducible refine' fd_Channels__coming ?ho_ ?hv_ ?_); (case ho_ => first | assumption | exact upd_same); (case hv_ => exact rfl)) | ((with_reducible refine' nw_Channels_failure ?ho_ ?hv_ ?_); (case ho_ => first | assumption | exact upd_same); (case hv_ => exact rfl)) | ((with_reducible refine' nw_Channels__window ?ho_ ?hv_ ?_); (case ho_ => first | assumption | exact upd_same); (case hv_ => exact rfl)) | ((with_reducible refine' nw_Channels__most ?ho_ ?hv_ ?_); (case ho_ => first | assumption | exact upd_same); (case hv_ => exact rfl)) | ((with_reducible refine' nw_Channels__next_here ?ho_ ?hv_ ?_); (case ho_ => first | assumption | exact upd_same); (case hv_ => exact rfl)) | ((with_reducible refine' nw_Channels__next_there ?ho_ ?hv_ ?_); (case ho_ => first | assumption | exact upd_same); (case hv_ => exact rfl)) | ((with_reducible refine' nw_Channels__channels ?ho_ ?hv_ ?_); (case ho_ => first | assumption | exact upd_same); (case hv_ => exact rfl)) | ((with_reducible refine' nw_Channels__numbers ?ho_ ?hv_ ?_); (case ho_ => first | assumption | exact upd_same); (case hv_ => exact rfl)) | ((with_reducible refine' nw_Channels__turns ?ho_ ?hv_ ?_); (case ho_ => first | assumption | exact upd_same); (case hv_ => exact rfl)) | ((with_reducible refine' nw_Channels__offered ?ho_ ?hv_ ?_); (case ho_ => first | assumption | exact upd_same); (case hv_ => exact rfl)) | ((with_reducible refine' nw_Channels__going ?ho_ ?hv_ ?_); (case ho_ => first | assumption | exact upd_same); (case hv_ => exact rfl)) | ((with_reducible refine' nw_Channels__coming ?ho_ ?hv_ ?_); (case ho_ => first | assumption | exact upd_same); (case hv_ => exact rfl)) | ((with_reducible refine' st_Channels_failure ?ho_ ?hv_ ?_); (case ho_ => first | assumption | exact upd_same); (case hv_ => exact Nat.le_of_ble_eq_true rfl)) | ((with_reducible refine' st_Channels__window ?ho_ ?hv_ ?_); (case ho_ => first | assumption | exact upd_same); (case hv_ => exact Nat.le_of_ble_eq_true rfl)) | ((with_reducible refine' st_Channels__most ?ho_ ?hv_ ?_); (case ho_ => first | assumption | exact upd_same); (case hv_ => exact Nat.le_of_ble_eq_true rfl)) | ((with_reducible refine' st_Channels__next_here ?ho_ ?hv_ ?_); (case ho_ => first | assumption | exact upd_same); (case hv_ => exact Nat.le_of_ble_eq_true rfl)) | ((with_reducible refine' st_Channels__next_there ?ho_ ?hv_ ?_); (case ho_ => first | assumption | exact upd_same); (case hv_ => exact Nat.le_of_ble_eq_true rfl)) | ((with_reducible refine' st_Channels__channels ?ho_ ?hv_ ?_); (case ho_ => first | assumption | exact upd_same); (case hv_ => exact Nat.le_of_ble_eq_true rfl)) | ((with_reducible refine' st_Channels__numbers ?ho_ ?hv_ ?_); (case ho_ => first | assumption | exact upd_same); (case hv_ => exact Nat.le_of_ble_eq_true rfl)) | ((with_reducible refine' st_Channels__turns ?ho_ ?hv_ ?_); (case ho_ => first | assumption | exact upd_same); (case hv_ => exact Nat.le_of_ble_eq_true rfl)) | ((with_reducible refine' st_Channels__offered ?ho_ ?hv_ ?_); (case ho_ => first | assumption | exact upd_same); (case hv_ => exact Nat.le_of_ble_eq_true rfl)) | ((with_reducible refine' st_Channels__going ?ho_ ?hv_ ?_); (case ho_ => first | assumption | exact upd_same); (case hv_ => exact Nat.le_of_ble_eq_true rfl)) | ((with_reducible refine' st_Channels__coming ?ho_ ?hv_ ?_); (case ho_ => first | assumption | exact upd_same); (case hv_ => exact Nat.le_of_ble_eq_true rfl)) | ((with_reducible refine' me_Channels_len__ ?ho_ ?_); (case ho_ => first | assumption | exact upd_same)) | ((with_reducible refine' me_Channels_iter__ ?ho_ ?_); (case ho_ => first | assumption | exact upd_same)) | ((with_reducible refine' me_Channels_open_channel ?ho_ ?_); (case ho_ => first | assumption | exact upd_same)) | ((with_reducible refine' me_Channels_accept ?ho_ ?_); (case ho_ => first | assumption | exact upd_same)) | ((with_reducible refine' me_Channels_finish ?ho_ ?_); (case ho_ => first | assumption | exact upd_same)) | ((with_reducible refine' me_Channels_reset ?ho_ ?_); (case ho_ => first | assumption | exact upd_same)) | ((with_reducible refine' me_Channels_status ?ho_ ?_); (case ho_ => first | assumption | exact upd_same)) | ((with_reducible refine' me_Channels_take ?ho_ ?_); (case ho_ => first | assumption | exact upd_same)) | ((with_reducible refine' me_Channels_receive ?ho_ ?_); (case ho_ => first | assumption | exact upd_same)) | ((with_reducible refine' me_Channels_fork ?ho_ ?_); (case ho_ => first | assumption | exact upd_same)) | ((with_reducible refine' me_Channels_known ?ho_ ?_); (case ho_ => first | assumption | exact upd_same)) | ((with_reducible refine' me_Channels_add ?ho_ ?_); (case ho_ => first | assumption | exact upd_same)) | ((with_reducible refine' me_Channels_room_of ?ho_ ?_); (case ho_ => first | assumption | exact upd_same)) | ((with_reducible refine' me_Channels_take_frame ?ho_ ?_); (case ho_ => first | assumption | exact upd_same)) | ((with_reducible refine' me_Channels_failure_of ?ho_ ?_); (case ho_ => first | assumption | exact upd_same)) | ((with_reducible refine' me_Channels_apply ?ho_ ?_); (case ho_ => first | assumption | exact upd_same)))
section
variable {P : Program} {w : World} {K : PySem.W.Frag} {mg : Str → Option Value} {base : Heap}
local macro_rules | `(tactic| walk_at "use") => `(tactic| with_reducible first | refine g_rs0 ?_ | refine g_rs1 ?_ | refine g_tryA ?_ | refine g_tryO ?_ | refine g_callS ?_ | refine g_joined ?_ | refine g_jsnil ?_ | refine g_jscons ?_ | refine g_fmt ?_)
local macro_rules | `(tactic| walk_at "fit") => `(tactic| (refine fit2 ?_; (try simp only [PySem.Str.length_append]); omega))
local macro_rules | `(tactic| walk_at "use") => `(tactic| first | ((with_reducible refine' g_addS ?sd_ ?_); case sd_ => (first | omega | (simp only [PySem.Str.length_append]; omega))) | ((with_reducible refine' g_slS ?sd_ ?_); case sd_ => omega) | (with_reducible refine g_m0 ?_))

local macro_rules | `(tactic| walk_at "use") => `(tactic| with_reducible first | refine g_dgetI ?_ | refine g_dputI ?_ | refine g_dget1I ?_ | refine g_dget2I ?_ | refine g_dinI ?_ | refine g_dnotinI ?_ | refine g_dnewK ?_)

section
variable {K : PySem.W.Frag} {H : Hp} {Q : VK}
end
local macro_rules | `(tactic| walk_at "use") => `(tactic| with_reducible first | refine g_rEqS ?_ | refine g_rNeS ?_ | refine g_isiS ?_)

local macro_rules | `(tactic| walk_at "use") => `(tactic| first | ((with_reducible refine' dg_D_writable ?ho_ ?hv_ ?_); (case ho_ => first | assumption | exact upd_same); (case hv_ => exact rfl)) | ((with_reducible refine' dg_D_waiting ?ho_ ?hv_ ?_); (case ho_ => first | assumption | exact upd_same); (case hv_ => exact rfl)) | ((with_reducible refine' dg_D_readable ?ho_ ?hv_ ?_); (case ho_ => first | assumption | exact upd_same); (case hv_ => exact rfl)) | ((with_reducible refine' dg_D_finished ?ho_ ?hv_ ?_); (case ho_ => first | assumption | exact upd_same); (case hv_ => exact rfl)) | ((with_reducible refine' dg_D_at_end ?ho_ ?hv_ ?_); (case ho_ => first | assumption | exact upd_same); (case hv_ => exact rfl)) | ((with_reducible refine' dg_D_reset ?ho_ ?hv_ ?_); (case ho_ => first | assumption | exact upd_same); (case hv_ => exact rfl)) | ((with_reducible refine' dn_D_writable ?ho_ ?hv_ ?_); (case ho_ => first | assumption | exact upd_same); (case hv_ => exact rfl)) | ((with_reducible refine' dn_D_waiting ?ho_ ?hv_ ?_); (case ho_ => first | assumption | exact upd_same); (case hv_ => exact rfl)) | ((with_reducible refine' dn_D_readable ?ho_ ?hv_ ?_); (case ho_ => first | assumption | exact upd_same); (case hv_ => exact rfl)) | ((with_reducible refine' dn_D_finished ?ho_ ?hv_ ?_); (case ho_ => first | assumption | exact upd_same); (case hv_ => exact rfl)) | ((with_reducible refine' dn_D_at_end ?ho_ ?hv_ ?_); (case ho_ => first | assumption | exact upd_same); (case hv_ => exact rfl)) | ((with_reducible refine' dn_D_reset ?ho_ ?hv_ ?_); (case ho_ => first | assumption | exact upd_same); (case hv_ => exact rfl)) | ((with_reducible refine' dp_D_writable ?ho_ ?hv_ ?_); (case ho_ => first | assumption | exact upd_same); (case hv_ => exact Nat.le_of_ble_eq_true rfl)) | ((with_reducible refine' dp_D_waiting ?ho_ ?hv_ ?_); (case ho_ => first | assumption | exact upd_same); (case hv_ => exact Nat.le_of_ble_eq_true rfl)) | ((with_reducible refine' dp_D_readable ?ho_ ?hv_ ?_); (case ho_ => first | assumption | exact upd_same); (case hv_ => exact Nat.le_of_ble_eq_true rfl)) | ((with_reducible refine' dp_D_finished ?ho_ ?hv_ ?_); (case ho_ => first | assumption | exact upd_same); (case hv_ => exact Nat.le_of_ble_eq_true rfl)) | ((with_reducible refine' dp_D_at_end ?ho_ ?hv_ ?_); (case ho_ => first | assumption | exact upd_same); (case hv_ => exact Nat.le_of_ble_eq_true rfl)) | ((with_reducible refine' dp_D_reset ?ho_ ?hv_ ?_); (case ho_ => first | assumption | exact upd_same); (case hv_ => exact Nat.le_of_ble_eq_true rfl)))
local macro_rules | `(tactic| walk_at "use") => `(tactic| with_reducible first | refine g_dgetT ?_ | refine g_dputT ?_)
local macro_rules | `(tactic| walk_at "use") => `(tactic| with_reducible refine g_makeK ?_)

local macro_rules | `(tactic| walk_at "use") => `(tactic| with_reducible first | refine g_methT ?_ | refine g_iOwnL ?_ | refine u_isint ?_ | refine u_start ?_)

/-! ### len(o), o an own object with a __len__ -/
section
open PyProof.Rows
variable {X : Cx} {C f : Addr} {fd : FuncData} {ps : List Str} {k : Nat}
end

/-! ### the law (k00) -/
def AllOk (g : Sd) : Prop := ∀ c ∈ g.cs, ∀ p, c.br = some p → okS p.1
theorem ok_here : okS (Str.ofString "here") := by show PyData.canLay0 (.str "here") = true; decide +kernel
theorem AllOk.at {g : Sd} {k : Int} {F : Cg → Cg} (h : AllOk g) (hF : ∀ c, (∀ p, c.br = some p → okS p.1) → ∀ p, (F c).br = some p → okS p.1) : AllOk (g.at' k F) := by
  unfold Sd.at'
  split
  · exact h
  · split
    · exact h
    · rename_i i _ c hc
      intro d hd
      rcases List.mem_or_eq_of_mem_set hd with hd | rfl
      · exact h d hd
      · exact hF c (h c (List.mem_of_getElem? hc))
theorem AllOk.ch {g : Sd} (h : AllOk g) (n : Int) : ∀ p, (g.ch n).br = some p → okS p.1 := by
  unfold Sd.ch
  cases e : (ixN? g.cs n).bind fun i => g.cs[i]? with
  | none => intro p hp; cases hp
  | some c =>
    obtain ⟨i, _, hi⟩ := Option.bind_eq_some_iff.mp e
    exact h c (List.mem_of_getElem? hi)
theorem at_names {g : Sd} {k : Int} {F : Cg → Cg} (hF : ∀ c, (F c).n = c.n) : (g.at' k F).cs.map Cg.n = g.cs.map Cg.n := by
  unfold Sd.at'
  split
  · rfl
  · split
    · rfl
    · rename_i i _ c hc
      exact set_names hc (hF c)
theorem at_fl {g : Sd} {k : Int} {F : Cg → Cg} : (g.at' k F).fl = g.fl := by
  unfold Sd.at'
  split
  · rfl
  · split <;> rfl
theorem Zg.allok {t : Int} {mi th : Nat} {g : Sd} (Z : Zg t mi th g) : AllOk g := fun c hc p hp => by rw [(Z.cn c hc).2] at hp; cases hp
theorem go_fl {g : Sd} {n : Int} : (goG g n).fl = g.fl := by
  unfold goG
  rw [at_fl, at_fl]
  show (if 200 < g.nh then g else g.open').fl = _
  split <;> rfl
theorem go_ok {t : Int} {mi th : Nat} {g : Sd} {n : Int} (Z : Zg t mi th g) (h : mi ≤ 100) : AllOk (goG g n) := by
  obtain ⟨m2, _, _, Z2⟩ := goA Z h
  have hA := Z2.allok
  unfold goG
  refine AllOk.at (AllOk.at (g := { (if 200 < g.nh then g else g.open') with os := [] }) hA fun c h => h) fun c h p hp => ?_
  cases hp
  exact ok_here
theorem go_ns {t : Int} {mi th : Nat} {g : Sd} {n : Int} (Z : Zg t mi th g) (h : mi ≤ 100) : (∀ k ∈ (goG g n).ns, 0 ≤ k ∧ k ≤ 1000 ∧ ∃ c ∈ (goG g n).cs, c.n = k) ∧ (goG g n).ns.length < 1000 := by
  obtain ⟨m2, _, _, Z2⟩ := goA Z h
  have e1 : (goG g n).ns = (if 200 < g.nh then g else g.open').ns := by
    unfold goG
    rw [Sd.ns_at, Sd.ns_at]
  have e2 : (goG g n).cs.map Cg.n = (if 200 < g.nh then g else g.open').cs.map Cg.n := by
    unfold goG
    refine (at_names ?_).trans ((at_names ?_).trans ?_)
    · intro c; rfl
    · intro c; rfl
    · rfl
  rw [e1]
  refine ⟨fun k hk => ?_, Z2.lens.2.1⟩
  obtain ⟨i, c, _, h2, h3, _, h5, h6⟩ := Z2.at hk
  have : k ∈ (goG g n).cs.map Cg.n := by rw [e2, ← h3]; exact List.mem_map_of_mem (List.mem_of_getElem? h2)
  obtain ⟨d, hd, ed⟩ := List.mem_map.mp this
  exact ⟨h5, h6, d, hd, ed⟩
theorem Zg.shn {t : Int} {mi th : Nat} {g : Sd} (Z : Zg t mi th g) : ∀ k ∈ g.ns, 0 ≤ k ∧ k ≤ 1000 ∧ ∃ c ∈ g.cs, c.n = k := fun k hk => by
  obtain ⟨i, c, _, h2, h3, _, h5, h6⟩ := Z.at hk
  exact ⟨h5, h6, c, List.mem_of_getElem? h2, h3⟩
def flOk (f : Option Str) : Prop := f = none ∨ f = some (Str.ofString "channel out of order") ∨ f = some (Str.ofString "unknown kind")
theorem flOk.ok {f : Option Str} (h : flOk f) : ∀ s, f = some s → okS s := fun s e => by
  rcases h with h | h | h
  · rw [h] at e; cases e
  · rw [h] at e; cases e; show PyData.canLay0 (.str "channel out of order") = true; decide +kernel
  · rw [h] at e; cases e; show PyData.canLay0 (.str "unknown kind") = true; decide +kernel
theorem rcv_op {t : Int} {mi th : Nat} {g : Sd} (Z : Zg t mi th g) (h : th < 100) (fl : g.fl = none) (co : g.co = []) : ∃ g', Rcv { g with co := g.co ++ enc (.op g.nt) } (g.co ++ enc (.op g.nt)) g' ∧ Zg t mi (th + 1) g' ∧ g'.fl = none ∧ g'.co = [] := by
  obtain ⟨nin, Z2⟩ := Z.opn h
  obtain ⟨l1, l2, l3, l4⟩ := Z.lens
  have e := Z.nt
  have tt := Z.tt
  have ok : FOk (.op g.nt) := by show 0 ≤ g.nt ∧ g.nt < 65536; rcases tt with y | y <;> omega
  have bd : ({ g with co := g.co ++ enc (.op g.nt) } : Sd).bad (.op g.nt) = none := by
    show (if g.nt = g.nt ∧ g.nt ≤ 200 then none else _) = none
    rw [if_pos ⟨rfl, by rcases tt with y | y <;> omega⟩]
  have gk : GOk { g with co := g.co ++ enc (.op g.nt) } (.op g.nt) := ⟨l1, l2, l3, l4, fun k e d hd => (by cases e; exact nin d hd), fun i c ei hi => by
    obtain ⟨d, h1, h2⟩ := ixN_some ei
    exact absurd h2 (nin d (List.mem_of_getElem? h1))⟩
  rw [co, List.nil_append] at bd gk ⊢
  refine ⟨{ ({ g with co := enc (.op g.nt) } : Sd).does (.op g.nt) with co := [] }, ?_, ⟨Z2.w1, Z2.m1, Z2.tt, Z2.nh, Z2.nt, Z2.os, Z2.cn, Z2.lc, Z2.ns, Z2.ln, Z2.lt, Z2.m2, Z2.t2⟩, fl, rfl⟩
  have := Rcv.step (r := []) ok bd gk (.part (.inl (by decide)))
  rw [List.append_nil] at this
  exact this
theorem rcv_full {t : Int} {mi : Nat} {g : Sd} (Z : Zg t mi 100 g) (co : g.co = []) : Rcv { g with co := g.co ++ enc (.op g.nt) } (g.co ++ enc (.op g.nt)) { g with fl := some (Str.ofString "channel out of order"), co := enc (.op g.nt) } := by
  have e := Z.nt
  have tt := Z.tt
  have ok : FOk (.op g.nt) := by show 0 ≤ g.nt ∧ g.nt < 65536; rcases tt with y | y <;> omega
  rw [co, List.nil_append]
  have bd : ({ g with co := enc (.op g.nt) } : Sd).bad (.op g.nt) = some (Str.ofString "channel out of order") := by
    show (if g.nt = g.nt ∧ g.nt ≤ 200 then none else _) = _
    rw [if_neg (fun z => by rcases tt with y | y <;> omega)]
  have := Rcv.bad (r := []) ok bd
  rw [List.append_nil] at this
  exact this
theorem Fm.st {own own' : Addr → Option Nat} {H H' : Hp} (f : Fm own own' H H') {b : Addr} {o : HO} (h1 : own b = none) (h2 : H b = some o) : own' b = none ∧ H' b = some o := f b o h1 h2
theorem Fm.bt {H H1 H2 : Hp} {own : Addr → Option Nat} (f : Fm (fun _ => none) own H H1) {s_ : Addr} (hs : H s_ = none) (b : But s_ H1 H2) : Fm (fun _ => none) own H H2 := fun c o z h => ⟨(f c o z h).1, b _ _ (fun y => by rw [y, hs] at h; cases h) (f c o z h).2⟩
def sp_law (K : PySem.W.Frag) : Sp := fun vs H Q _ => ∃ (a : Addr) (ns : List Int), vs = [.ref a] ∧ SqL K H a (ns.map V.int) ∧ ns.length ≤ 63 ∧ ∀ H', Q (.bl true) H'
theorem ok_law (T : Txt P w K mg) : FnOk P w K mg base CX0 6 T.f_law T.d_law ["script"] (sp_law K) := by
  refine T.F_law.ok sc_law (fun vs H Q E h => ?_) (fun cdv A outer s H vs Q E hr h => ?_)
  · obtain ⟨a, ns, rfl, hS, hlen, q⟩ := h
    rfl
  · obtain ⟨a, ns, rfl, hS, hlen, q⟩ := h
    have hu := hu_of hr
    obtain ⟨gk_1, kb_1⟩ := kbt_1 T
    refine ⟨_, (pss_cons (ps_set (i := 1) sc_law.nd rfl (Or.inl rfl) (pe_call (ok_l_start T) (hr.mono (by decide)) rfl T.m_l_start T.F_l_start.kp T.b_l_start .nil pass0 (pa_cons (pe_call (ok_l_cell T) (hr.mono (by decide)) rfl T.m_l_cell T.F_l_cell.kp T.b_l_cell .nil pass0 (pa_cons (pv 0) (pa_cons pe_int pa_nil))) (pa_cons pe_int pa_nil))))
        (pss_cons (ps_set (i := 2) sc_law.nd rfl (Or.inl rfl) (pe_call (ok_l_digit T) (hr.mono (by decide)) rfl T.m_l_digit T.F_l_digit.kp T.b_l_digit .nil pass0 (pa_cons (pv 1) (pa_cons pe_int pa_nil))))
        (pss_cons (ps_set (i := 3) sc_law.nd rfl (Or.inl rfl) (pe_makeK0 T.mk_Channels (ok_Channels_init__ T) (hr.mono (by decide)) rfl T.c_Channels kb_1 passL (pk_cons (pe_cmpR op_eq (pv 2) pe_int (nomark _)) (pk_cons (pe_op op_add pe_int (pe_call (ok_l_digit T) (hr.mono (by decide)) rfl T.m_l_digit T.F_l_digit.kp T.b_l_digit .nil pass0 (pa_cons (pv 1) (pa_cons pe_int pa_nil)))) (pk_cons (pe_op op_add pe_int (pe_call (ok_l_digit T) (hr.mono (by decide)) rfl T.m_l_digit T.F_l_digit.kp T.b_l_digit .nil pass0 (pa_cons (pv 1) (pa_cons pe_int pa_nil)))) pk_nil)))))
        (pss_cons (ps_set (i := 4) sc_law.nd rfl (Or.inl rfl) (pe_call (ok_l_many T) (hr.mono (by decide)) rfl T.m_l_many T.F_l_many.kp T.b_l_many .nil pass0 (pa_cons (pv 1) pa_nil)))
        (pss_cons (ps_set (i := 5) sc_law.nd rfl (Or.inl rfl) (pe_call (ok_l_many T) (hr.mono (by decide)) rfl T.m_l_many T.F_l_many.kp T.b_l_many .nil pass0 (pa_cons (pv 1) pa_nil)))
        (pss_cons (ps_if (PW.pt (pw_or (pt_not (pt_val (pe_call (ok_l_negative T) (hr.mono (by decide)) rfl T.m_l_negative T.F_l_negative.kp T.b_l_negative .nil pass0 (pa_cons (pv 3) (pa_cons (pv 1) pa_nil))))) (pw_or1 (pt_not (pt_val (pe_call (ok_l_opens T) (hr.mono (by decide)) rfl T.m_l_opens T.F_l_opens.kp T.b_l_opens .nil pass0 (pa_cons (pv 3) (pa_cons (pv 2) (pa_cons (pv 5) pa_nil))))))))) (pss_one (ps_ret pe_bl)) pss_nil)
        (pss_cons (ps_for PassesOwn.never rfl (pi_range1 (by rfl) T.n_range (pa_cons (pv 4) pa_nil)) (pg_name (i := 6) sc_law.nd rfl (Or.inl rfl)) (pss_one (ps_expr (pe_meth (pv 3) T.k_Channels T.a_Channels_receive (ok_Channels_receive T) (hr.mono (by decide)) T.b_Channels_receive .nil pass0 (pa_cons (pe_call (ok_l_frame T) (hr.mono (by decide)) rfl T.m_l_frame T.F_l_frame.kp T.b_l_frame .nil pass0 (pa_cons (pe_op op_sub (pe_op op_add (pe_op op_mul pe_int (pv 6)) pe_int) (pv 2)) pa_nil)) pa_nil)))))
        (pss_cons (ps_if (PW.pt (pw_or (pt_cmpR op_notN (pe_fld (pv 3) rfl) pe_non (nomark _)) (pw_or1 (pt_cmpR op_ne (pe_callB (call_lenO T.a_Channels_len__ (ok_Channels_len__ T) (hr.mono (by decide)) T.b_Channels_len__) (by rfl) T.n_len (by decide +kernel) (pa_cons (pv 3) pa_nil)) (pe_op op_add (pv 5) (pv 4)) (nomark _))))) (pss_one (ps_ret pe_bl)) pss_nil)
        (pss_cons (ps_expr (pe_meth (pv 3) T.k_Channels T.a_Channels_receive (ok_Channels_receive T) (hr.mono (by decide)) T.b_Channels_receive .nil pass0 (pa_cons (pe_call (ok_l_frame T) (hr.mono (by decide)) rfl T.m_l_frame T.F_l_frame.kp T.b_l_frame .nil pass0 (pa_cons (pe_op op_sub (pe_op op_add (pe_op op_mul pe_int (pv 4)) pe_int) (pv 2)) pa_nil)) pa_nil)))
        (C8.pss_cut (ps_if (pt_cmpR op_eq (pv 4) pe_int (nomark _)) (pss_one (ps_if (pt_cmpR op_ne (pe_fld (pv 3) rfl) pe_str (nomark _)) (pss_one (ps_ret pe_bl)) pss_nil)) (pss_cons (ps_set (i := 4) sc_law.nd rfl (Or.inl rfl) (pe_op op_add (pv 4) pe_int))
        (pss_cons (ps_if (pt_cmpR op_notN (pe_fld (pv 3) rfl) pe_non (nomark _)) (pss_one (ps_ret pe_bl)) pss_nil)
        (pss_one (ps_if (pt_cmpR op_eq (pe_call (ok_l_digit T) (hr.mono (by decide)) rfl T.m_l_digit T.F_l_digit.kp T.b_l_digit .nil pass0 (pa_cons (pv 1) (pa_cons pe_int pa_nil))) pe_int (nomark _)) (pss_cons (ps_expr (pe_meth (pv 3) T.k_Channels T.a_Channels_receive (ok_Channels_receive T) (hr.mono (by decide)) T.b_Channels_receive .nil pass0 (pa_cons (pe_lst (pa_cons (pe_ix ix_tup (pe_tup (pa_cons pe_int (pa_cons pe_int (pa_cons pe_int pa_nil)))) (pe_call (ok_l_digit T) (hr.mono (by decide)) rfl T.m_l_digit T.F_l_digit.kp T.b_l_digit .nil pass0 (pa_cons (pv 1) (pa_cons pe_int pa_nil))) (fun _ _ => rfl)) (pa_cons pe_int (pa_cons pe_int pa_nil)))) pa_nil)))
        (pss_one (ps_if (pt_cmpR op_ne (pe_fld (pv 3) rfl) pe_str (nomark _)) (pss_one (ps_ret pe_bl)) pss_nil))) pss_nil)))))
        (pss_cons (ps_if (pt_cmpR op_ne (pe_callB (call_lenO T.a_Channels_len__ (ok_Channels_len__ T) (hr.mono (by decide)) T.b_Channels_len__) (by rfl) T.n_len (by decide +kernel) (pa_cons (pv 3) pa_nil)) (pe_op op_add (pv 5) (pv 4)) (nomark _)) (pss_one (ps_ret pe_bl)) pss_nil)
        (pss_cons (ps_set (i := 7) sc_law.nd rfl (Or.inl rfl) (pe_fld (pv 3) rfl))
        (pss_cons (ps_set (i := 8) sc_law.nd rfl (Or.inl rfl) (pe_call (ok_l_shown T) (hr.mono (by decide)) rfl T.m_l_shown T.F_l_shown.kp T.b_l_shown .nil passL (pa_cons (pv 3) pa_nil)))
        (pss_cons (ps_set (i := 9) sc_law.nd rfl (Or.inl rfl) (pe_meth0 (pv 3) T.k_Channels T.a_Channels_fork (ok_Channels_fork T) (hr.mono (by decide)) T.b_Channels_fork .nil passL))
        (pss_cons (ps_if (PW.pt (pw_or (pt_cmpR (op_neD hr.units) (pe_call (ok_l_shown T) (hr.mono (by decide)) rfl T.m_l_shown T.F_l_shown.kp T.b_l_shown .nil passL (pa_cons (pv 9) pa_nil)) (pv 8) (nomark _)) (pw_or1 (pt_not (pt_val (pe_call (ok_l_negative T) (hr.mono (by decide)) rfl T.m_l_negative T.F_l_negative.kp T.b_l_negative .nil pass0 (pa_cons (pv 3) (pa_cons (pv 1) pa_nil)))))))) (pss_one (ps_ret pe_bl)) pss_nil)
        (pss_cons (ps_set (i := 10) sc_law.nd rfl (Or.inl rfl) (pe_call (ok_l_start T) (hr.mono (by decide)) rfl T.m_l_start T.F_l_start.kp T.b_l_start .nil pass0 (pa_cons (pe_call (ok_l_cell T) (hr.mono (by decide)) rfl T.m_l_cell T.F_l_cell.kp T.b_l_cell .nil pass0 (pa_cons (pv 0) (pa_cons pe_int pa_nil))) (pa_cons pe_int pa_nil))))
        (pss_cons (ps_set (i := 11) sc_law.nd rfl (Or.inl rfl) (pe_call (ok_l_start T) (hr.mono (by decide)) rfl T.m_l_start T.F_l_start.kp T.b_l_start .nil pass0 (pa_cons (pe_call (ok_l_cell T) (hr.mono (by decide)) rfl T.m_l_cell T.F_l_cell.kp T.b_l_cell .nil pass0 (pa_cons (pv 0) (pa_cons pe_int pa_nil))) (pa_cons pe_int pa_nil))))
        (pss_cons (ps_if (PW.pt (pw_or (pt_not (pt_val (pe_call (ok_l_goes_on T) (hr.mono (by decide)) rfl T.m_l_goes_on T.F_l_goes_on.kp T.b_l_goes_on .nil passL (pa_cons (pv 3) (pa_cons (pv 2) (pa_cons (pv 5) (pa_cons (pv 4) (pa_cons (pv 10) pa_nil)))))))) (pw_or1 (pt_not (pt_val (pe_call (ok_l_goes_on T) (hr.mono (by decide)) rfl T.m_l_goes_on T.F_l_goes_on.kp T.b_l_goes_on .nil passL (pa_cons (pv 9) (pa_cons (pv 2) (pa_cons (pv 5) (pa_cons (pv 4) (pa_cons (pv 11) pa_nil))))))))))) (pss_one (ps_ret pe_bl)) pss_nil)
        (pss_cons (ps_if (PW.pt (pw_or (pt_cmpR (op_neD hr.units) (pe_call (ok_l_shown T) (hr.mono (by decide)) rfl T.m_l_shown T.F_l_shown.kp T.b_l_shown .nil passL (pa_cons (pv 3) pa_nil)) (pe_call (ok_l_shown T) (hr.mono (by decide)) rfl T.m_l_shown T.F_l_shown.kp T.b_l_shown .nil passL (pa_cons (pv 9) pa_nil)) (nomark _)) (pw_or1 (pt_cmpR op_ne (pe_fld (pv 3) rfl) (pv 7) (nomark _))))) (pss_one (ps_ret pe_bl)) pss_nil)
        (pss_one (ps_ret (pe_or (pe_cmpR op_isN (pv 7) pe_non (nomark _)) (pe_one (pe_and (pe_cmpR op_eq (pe_callB call_len_seq (by rfl) T.n_len (by decide +kernel) (pa_cons (pe_meth (pv 3) T.k_Channels T.a_Channels_take (ok_Channels_take T) (hr.mono (by decide)) T.b_Channels_take .nil passL (pa_cons pe_int pa_nil)) pa_nil)) pe_int (nomark _)) (pe_one (pe_call (ok_l_negative T) (hr.mono (by decide)) rfl T.m_l_negative T.F_l_negative.kp T.b_l_negative .nil pass0 (pa_cons (pv 3) (pa_cons (pv 1) pa_nil)))))))))))))))))))))))))))), ?_⟩
    dsimp only [cxOf, Cx.nox, Cx.wish, L2.start, List.map, List.cons_append, List.nil_append, List.length_cons, List.length_nil, Nat.reduceAdd, Nat.reduceSub, Nat.zero_add, List.replicate_succ, List.replicate_zero]
    walk_at "go"
    refine ⟨a, ns, 0, rfl, hS, by decide, ?_⟩
    walk_at "go"
    intro sl_ hst
    walk_at "nw"
    rename_i H1 s1 k1
    generalize stN (cell ns 0) 0 = n0 at k1
    walk_at "go"
    refine u_dig k1 (by decide) (by decide) fun H2 b2 k2 => ?_
    have t0 := Int.emod_nonneg n0 (show (2 : Int) ≠ 0 by decide)
    have t1 := Int.emod_lt_of_pos n0 (show (0 : Int) < 2 by decide)
    generalize n0 % 2 = t at t0 t1 ⊢
    generalize n0 / 2 = n2 at k2
    walk_at "go"
    refine u_dig k2 (by decide) (by decide) fun H3 b3 k3 => ?_
    have w0 := Int.emod_nonneg n2 (show (30 : Int) ≠ 0 by decide)
    have w1 := Int.emod_lt_of_pos n2 (show (0 : Int) < 30 by decide)
    generalize n2 / 30 = n3 at k3
    walk_at "go"
    refine u_dig k3 (by decide) (by decide) fun H4 b4 k4 => ?_
    have m0 := Int.emod_nonneg n3 (show (9 : Int) ≠ 0 by decide)
    have m1 := Int.emod_lt_of_pos n3 (show (0 : Int) < 9 by decide)
    generalize n3 / 9 = n4 at k4
    walk_at "go"
    refine ⟨rfl, rfl, fun y dy hy hdy hne => ?_⟩
    have s5 : Same H4 (upd (upd H4 dy (.own y)) y (.ins T.C_Channels dy [])) := (same_upd hdy).trans (same_upd (by rw [upd_ne hne.symm]; exact hy))
    refine ⟨y, dy, _, 1 + n2 % 30, 1 + n3 % 9, rfl, upd_same, (by omega), (by omega), (by omega), (by omega), .inr ⟨⟨by omega, by omega, by omega, by omega⟩, fun own S x H7 hown hSp O b7 => ⟨rfl, ?_⟩⟩⟩
    have e7 : Same H4 H7 := ((But.of s5).trans b7).same hy
    have e4 : Same H H4 := ((((But.of s1).trans b2).trans b3).trans b4).same hst
    have own4 : ∀ b, H4 b ≠ none → own b = none := fun b h => Decidable.byContradiction fun z => (hown b z).elim (fun w => h (w ▸ hy)) fun w => h (free_same s5 w)
    have B7 : Fm (fun _ => none) own H H7 := fun b o _ h => ⟨own4 b (by rw [e4 _ _ h]; exact nofun), e7 _ _ (e4 _ _ h)⟩
    have k7 := e7 _ _ k4
    have os7 : own sl_ = none := own4 _ (by rw [k4]; exact nofun)
    have Z7 : Zg t 0 0 (Sd.new (decide (t = 0)) (1 + n2 % 30) (1 + n3 % 9)) := by
      refine ⟨⟨by show 1 ≤ 1 + n2 % 30; omega, by show 1 + n2 % 30 ≤ 65535; omega⟩, ⟨by show 1 ≤ 1 + n3 % 9; omega, by show 1 + n3 % 9 ≤ 65535; omega⟩, by omega, ?_, ?_, rfl, nofun, rfl, nofun, rfl, rfl, by decide, by decide⟩
      · show (if decide (t = 0) = true then (1 : Int) else 2) = 2 * ((0 : Nat) : Int) + 1 + t
        by_cases z : t = 0
        · rw [if_pos (decide_eq_true z), z]; rfl
        · rw [if_neg (by rw [decide_eq_false z]; exact Bool.false_ne_true), show t = 1 by omega]; rfl
      · show (if decide (t = 0) = true then (2 : Int) else 1) = 2 * ((0 : Nat) : Int) + 2 - t
        by_cases z : t = 0
        · rw [if_pos (decide_eq_true z), z]; rfl
        · rw [if_neg (by rw [decide_eq_false z]; exact Bool.false_ne_true), show t = 1 by omega]; rfl
    have fl7 : (Sd.new (decide (t = 0)) (1 + n2 % 30) (1 + n3 % 9)).fl = none := rfl
    have co7 : (Sd.new (decide (t = 0)) (1 + n2 % 30) (1 + n3 % 9)).co = [] := rfl
    generalize Sd.new (decide (t = 0)) (1 + n2 % 30) (1 + n3 % 9) = g at O Z7 fl7 co7
    clear own4 hown s5 b7 e7 e4 b2 b3 b4 s1 hdy hne k1 k2 k3 k4 w0 w1 m0 m1
    walk_at "go"
    refine ⟨sl_, n4, rfl, k7, fun th H8 hth b8 k8 => ?_⟩
    have O8 := O.but os7 k7 b8
    have B8 := B7.bt hst b8
    generalize n4 / 8 = n5 at k8
    walk_at "go"
    refine ⟨sl_, n5, rfl, k8, fun mi H9 hmi b9 k9 => ?_⟩
    have O9 := O8.but os7 k8 b9
    have B9 := B8.bt hst b9
    walk_at "go"
    rw [← hSp]
    refine ⟨own, S, x, g, sl_, _, rfl, O9, os7, k9, fun H10 n10 b10 k10 => ?_⟩
    have O10 := O9.but os7 k9 b10
    have B10 := B9.bt hst b10
    walk_at "go"
    refine ⟨own, S, x, g, t, mi, rfl, O10, Z7, fl7, co7, hmi, fun own11 S11 x11 g11 H11 es11 O11 f11 Z11 fl11 co11 => ?_⟩
    have B11 := B10.trans f11
    obtain ⟨os11, k11⟩ := f11.st os7 k10
    walk_at "go"
    refine for_r (n := (th : Int)) th (by omega) (by omega) (by omega) (fun i σ H' => (∃ v6 : Option V, σ = [some (.ref a), some (.ref sl_), some (.int t), some (.ref S.p), some (.int (th : Nat)), some (.int (mi : Nat)), v6, none, none, none, none, none]) ∧ ∃ own1 S1 x1 g1, S1.p = S.p ∧ SgO T.C_Channels T.C_Channel own1 H' S1 x1 g1 ∧ Fm (fun _ => none) own1 H H' ∧ own1 sl_ = none ∧ H' sl_ = some (.lst [.int n10]) ∧ Zg t mi i g1 ∧ g1.fl = none ∧ g1.co = []) ⟨⟨_, rfl⟩, own11, S11, x11, g11, es11, O11, B11, os11, k11, Z11, fl11, co11⟩ ?turn ?done ?ev
    case ev =>
      intro R hR
      walk_at "go"
      exact hR
    case turn =>
      rintro i σ H1 hi ⟨⟨v6, rfl⟩, own1, S1, x1, g1, es, O1, B1, os1, k1, Z1, fl1, co1⟩
      have en := Z1.nt
      have ho1 := O1.ho
      rw [es] at ho1
      walk_at "go"
      rw [show (2 : Int) * (i : Int) + 2 - t = g1.nt by omega]
      refine ⟨g1.nt, rfl, by omega, by omega, fun p H2 hp s2 k2 => ?_⟩
      walk_at "go"
      rw [← es]
      obtain ⟨g2, r2, Z2, fl2, co2⟩ := rcv_op Z1 (by omega) fl1 co1
      refine ⟨own1, S1, x1, g1, p, _, rfl, O1.same s2, sl k2, by rw [co1]; show 0 + 3 ≤ 90000; decide, .inr ⟨fl1, g2, r2, fun own3 S3 x3 H3 es3 O3 f3 => ?_⟩⟩
      obtain ⟨os3, k3⟩ := f3.st os1 (s2 _ _ k1)
      rw [es]
      walk_at "go"
      exact ⟨⟨_, rfl⟩, own3, S3, x3, g2, es3.trans es, O3, (B1.trans (Fm.same s2)).trans f3, os3, k3, Z2, fl2, co2⟩
    case done =>
      rintro σ H12 ⟨⟨v6, rfl⟩, own1, S1, x1, g1, es, O1, B1, os1, k1, Z1, fl1, co1⟩
      clear O11 B11 os11 k11 Z11 fl11 co11 O10 B10 O9 B9 O8 B8 O B7 k7 k8 k9 k10 b8 b9 b10
      have ho1 := O1.ho
      rw [es, fl1] at ho1
      have ln1 := Z1.ln
      have en := Z1.nt
      walk_at "go"
      refine ⟨S.p, S1.dx, _, rfl, ho1, own1, S1, x1, g1, by rw [es], O1, (g1.ns.length : Int), rfl, by omega, by omega, ?_⟩
      walk_at "go"
      rw [show (2 : Int) * (th : Int) + 2 - t = g1.nt by omega]
      refine ⟨g1.nt, rfl, by omega, by omega, fun p H2 hp s2 k2 => ?_⟩
      have O2 := O1.same s2
      have ho2 := O2.ho
      rw [es] at ho2
      walk_at "go"
      rw [← es]
      obtain ⟨g2, r2, h2⟩ : ∃ g2, Rcv { g1 with co := g1.co ++ enc (.op g1.nt) } (g1.co ++ enc (.op g1.nt)) g2 ∧ ((th = 100 ∧ Zg t mi th g2 ∧ g2.fl = some (Str.ofString "channel out of order")) ∨ (th < 100 ∧ Zg t mi (th + 1) g2 ∧ g2.fl = none ∧ g2.co = [])) := by
        by_cases z : th = 100
        · subst z
          exact ⟨_, rcv_full Z1 co1, .inl ⟨rfl, ⟨Z1.w1, Z1.m1, Z1.tt, Z1.nh, Z1.nt, Z1.os, Z1.cn, Z1.lc, Z1.ns, Z1.ln, Z1.lt, Z1.m2, Z1.t2⟩, rfl⟩⟩
        · obtain ⟨g2, r2, Z2, fl2, co2⟩ := rcv_op Z1 (by omega) fl1 co1
          exact ⟨g2, r2, .inr ⟨by omega, Z2, fl2, co2⟩⟩
      refine ⟨own1, S1, x1, g1, p, _, rfl, O2, sl k2, by rw [co1]; show 0 + 3 ≤ 90000; decide, .inr ⟨fl1, g2, r2, fun own3 S3 x3 H3 es3 O3 f3 => ?_⟩⟩
      have es3 := es3.trans es
      have B3 := (B1.trans (Fm.same s2)).trans f3
      obtain ⟨os3, k3⟩ := f3.st os1 (s2 _ _ k1)
      have ho3 := O3.ho
      rw [es3] at ho3
      rw [es]
      walk_at "go"
      refine g_cut (fun σ' H' => ∃ (th2 : Nat) (v6 : Option V) (own2 : Addr → Option Nat) (S2 : Sg) (x2 : Nat → Ca) (g2 : Sd) (n2 : Int), σ' = [some (.ref a), some (.ref sl_), some (.int t), some (.ref S.p), some (.int (th2 : Nat)), some (.int (mi : Nat)), v6, none, none, none, none, none] ∧ S2.p = S.p ∧ SgO T.C_Channels T.C_Channel own2 H' S2 x2 g2 ∧ Fm (fun _ => none) own2 H H' ∧ own2 sl_ = none ∧ H' sl_ = some (.lst [.int n2]) ∧ Zg t mi th2 g2 ∧ flOk g2.fl) ?_ ?_
      · rcases h2 with ⟨rfl, Z2, fl2⟩ | ⟨hlt, Z2, fl2, co2⟩
        · rw [fl2] at ho3
          walk_at "go"
          refine g_rNe rfl ?_
          rw [show decide (flV (some (Str.ofString "channel out of order")) = V.str (Str.ofString "channel out of order")) = true from decide_eq_true rfl]
          walk_at "go"
          exact ⟨100, _, own3, S3, x3, g2, n10, rfl, es3, O3, B3, os3, k3, Z2, .inr (.inl fl2)⟩
        · rw [fl2] at ho3
          walk_at "go"
          refine u_dig k3 (by decide) (by decide) fun H4 b4 k4 => ?_
          have O4 := O3.but os3 k3 b4
          have B4 := B3.bt hst b4
          have ho4 := O4.ho
          rw [es3, fl2] at ho4
          generalize n10 / 2 = n11 at k4
          walk_at "go"
          refine g_ite (fun e => ?_) (fun e => ?_)
          · walk_at "go"
            refine ⟨by show 3 ≤ sizeLine; decide, fun t5 h5 => ?_⟩
            walk_at "nw"
            rename_i H5 s5 k5
            have O5 := O4.same s5
            walk_at "go"
            refine u_dig (s5 _ _ k4) (by decide) (by decide) fun H6 b6 k6 => ?_
            have O6 := O5.but os3 (s5 _ _ k4) b6
            have B6 := (B4.trans (Fm.same s5)).bt hst b6
            have k56 := b6 _ _ (ne_of k5 (s5 _ _ k4) (fun z => nomatch z)) k5
            obtain ⟨b, eb, bb⟩ : ∃ b : Int, atI [V.int 0, .int 6, .int 255] (n11 % 3) = some (.int b) ∧ (b = 0 ∨ b = 6 ∨ b = 255) := by
              have h0 := Int.emod_nonneg n11 (show (3 : Int) ≠ 0 by decide)
              have h1 := Int.emod_lt_of_pos n11 (show (0 : Int) < 3 by decide)
              rcases (show n11 % 3 = 0 ∨ n11 % 3 = 1 ∨ n11 % 3 = 2 by omega) with e | e | e <;> rw [e]
              · exact ⟨0, at_of (j := 0) rfl rfl, .inl rfl⟩
              · exact ⟨6, at_of (j := 1) rfl rfl, .inr (.inl rfl)⟩
              · exact ⟨255, at_of (j := 2) rfl rfl, .inr (.inr rfl)⟩
            refine g_ixT (st k56) eb ?_
            have ho6 := O6.ho
            rw [es3, fl2] at ho6
            walk_at "go"
            refine ⟨by show 3 ≤ sizeLine; decide, fun l7 h7 => ?_⟩
            walk_at "nw"
            rename_i H7 s7 k7
            have O7 := O6.same s7
            walk_at "go"
            rw [← es3]
            have unk : Unk [b, 0, 1] := ⟨b, [0, 1], rfl, by decide, by omega, by omega, by rcases bb with rfl | rfl | rfl <;> decide⟩
            refine ⟨own3, S3, x3, g2, l7, [b, 0, 1], rfl, O7, sl k7, by rw [co2]; show 0 + 3 ≤ 90000; decide, .inr ⟨fl2, _, by rw [co2]; exact .unk unk, fun own8 S8 x8 H8 es8 O8 f8 => ?_⟩⟩
            obtain ⟨os8, k8⟩ := f8.st os3 (s7 _ _ k6)
            have ho8 := O8.ho
            rw [es8, es3] at ho8
            rw [es3]
            change H8 S.p = some (.ins T.C_Channels S8.dx (obj ky_Channels [.str (Str.ofString "unknown kind"), .int g2.w, .int g2.m, .int g2.nh, .int g2.nt, .ref S8.cd, .ref S8.nl, .ref S8.tl, .ref S8.ol, .ref S8.gl, .ref S8.cl])) at ho8
            walk_at "go"
            exact ⟨th + 1, _, own8, S8, x8, _, _, rfl, es8.trans es3, O8, (B6.trans (Fm.same s7)).trans f8, os8, k8, ⟨Z2.w1, Z2.m1, Z2.tt, Z2.nh, Z2.nt, Z2.os, Z2.cn, Z2.lc, Z2.ns, Z2.ln, Z2.lt, Z2.m2, Z2.t2⟩, .inr (.inr rfl)⟩
          · walk_at "go"
            exact ⟨th + 1, _, own3, S3, x3, g2, _, rfl, es3, O4, B4, os3, k4, Z2, .inl fl2⟩
      · rintro σ' H4 ⟨th2, v6', own2, S2, x2, g, n2, rfl, es2, O4', B4, os4, k4, Z, hfl⟩
        clear O3 B3 os3 k3 ho3 O2 ho2 O1 B1 os1 k1 ho1 h2 r2 f3
        obtain ⟨own4, eo4, n4', tp4, O4⟩ := O4'.trm
        have sub : ∀ {b : Addr}, own2 b = none → own4 b = none := fun h => Decidable.byContradiction fun z => eo4 _ z h
        have B4 : Fm (fun _ => none) own4 H H4 := fun b o z h => ⟨sub (B4 b o z h).1, (B4 b o z h).2⟩
        have os4 : own4 sl_ = none := sub os4
        have ho4 := O4.ho
        rw [es2] at ho4
        have ln4 := Z.ln
        have ln42 := Z.lens.2.1
        walk_at "go"
        refine ⟨S.p, S2.dx, _, rfl, ho4, own4, S2, x2, g, by rw [es2], O4, (g.ns.length : Int), rfl, by omega, by omega, ?_⟩
        walk_at "go"
        rw [← es2]
        refine ⟨own4, S2, x2, g, rfl, O4, Z.shn, ln42, fun ts H5 hts s5 d5 => ?_⟩
        have O5 := O4.same s5
        have ho5 := O5.ho
        walk_at "go"
        refine ⟨own4, S2, x2, g, rfl, O5, Z.w1.1, Z.w1.2, Z.m1.1, Z.m1.2, Z.lens.1, fun oB SB xB H6 hoB s6 OB' => ?_⟩
        have O6 := O5.same s6
        have d6 := Dp.same s6 d5
        obtain ⟨own6, eo6, n6, tp6, OB⟩ := OB'.trm
        have dis6 : ∀ {b : Addr} {o : HO}, H5 b = some o → own6 b = none := fun h => Decidable.byContradiction fun z => by
          have := hoB _ (eo6 _ z)
          rw [h] at this
          cases this
        clear OB' hoB eo6 tp4 sub eo4
        walk_at "go"
        refine ⟨own6, SB, xB, g, rfl, OB, Z.shn, ln42, fun tb H7 htb s7 d7 => ?_⟩
        have OB7 := OB.same s7
        have O7 := O6.same s7
        have shp := shaped_sh (g := g) hfl.ok fun n _ => Z.allok.ch n
        walk_at "go"
        refine g_neDD d7 (Dp.same s7 d6) shp ?_
        have k7 := s7 _ _ (s6 _ _ (s5 _ _ k4))
        have os6 : own6 sl_ = none := dis6 (s5 _ _ k4)
        walk_at "go"
        refine ⟨own4, S2, x2, g, sl_, _, rfl, O7, os4, k7, fun H8 n8 b8 k8 => ?_⟩
        have O8 := O7.but os4 k7 b8
        have OB8 := OB7.but os6 k7 b8
        have B8 : Fm (fun _ => none) own4 H H8 := (((B4.trans (Fm.same s5)).trans (Fm.same s6)).trans (Fm.same s7)).bt hst b8
        have e8 : Same H H8 := fun b o h => (B8 b o rfl h).2
        walk_at "go"
        refine ⟨a, ns, 1, rfl, e8.seq hS, by decide, ?_⟩
        walk_at "go"
        intro la hla
        walk_at "nw"
        rename_i H9 s9 k9
        walk_at "go"
        refine ⟨a, ns, 1, rfl, (e8.trans s9).seq hS, by decide, ?_⟩
        walk_at "go"
        intro lb hlb
        walk_at "nw"
        rename_i H10 s10 k10
        have O10 := (O8.same s9).same s10
        have OB10 := (OB8.same s9).same s10
        -- the ghosts anew: only what stands
        have al6 : ∀ b, own6 b ≠ none → H8 b ≠ none := fun b h => by
          have h6 : H6 b ≠ none := fun z => h (n6 b z)
          obtain ⟨o, e⟩ := Option.ne_none_iff_exists'.mp h6
          by_cases z : b = sl_
          · rw [z, k8]; exact nofun
          · rw [b8 _ _ z (s7 _ _ e)]; exact nofun
        have al4 : ∀ b, own4 b ≠ none → H5 b ≠ none := fun b h => by
          have h4 : H4 b ≠ none := fun z => h (n4' b z)
          obtain ⟨o, e⟩ := Option.ne_none_iff_exists'.mp h4
          rw [s5 _ _ e]; exact nofun
        have dis4 : ∀ b, own6 b ≠ none → own4 b = none := fun b h => Decidable.byContradiction fun z => by
          obtain ⟨o, e⟩ := Option.ne_none_iff_exists'.mp (al4 b z)
          exact h (dis6 e)
        have o6a : own6 la = none := Decidable.byContradiction fun z => al6 _ z hla
        have o4a : own4 la = none := Decidable.byContradiction fun z => by
          obtain ⟨o, e⟩ := Option.ne_none_iff_exists'.mp (al4 la z)
          have h6 := s6 _ _ e
          by_cases w : la = sl_
          · rw [w, k8] at hla; cases hla
          · rw [b8 _ _ w (s7 _ _ h6)] at hla; cases hla
        have o6b : own6 lb = none := Decidable.byContradiction fun z => by
          obtain ⟨o, e⟩ := Option.ne_none_iff_exists'.mp (al6 _ z)
          rw [s9 _ _ e] at hlb
          cases hlb
        have o4b : own4 lb = none := Decidable.byContradiction fun z => by
          obtain ⟨o, e⟩ := Option.ne_none_iff_exists'.mp (al4 lb z)
          have h6 := s6 _ _ e
          by_cases w : lb = sl_
          · rw [w, s9 _ _ k8] at hlb; cases hlb
          · rw [s9 _ _ (b8 _ _ w (s7 _ _ h6))] at hlb; cases hlb
        have nab : la ≠ lb := fun z => by rw [← z, k9] at hlb; cases hlb
        have nas : sl_ ≠ la := fun z => by rw [← z, k8] at hla; cases hla
        have nbs : sl_ ≠ lb := fun z => by rw [← z, s9 _ _ k8] at hlb; cases hlb
        generalize stN (cell ns 1) 1 = n1 at k9 k10
        -- both go on
        obtain ⟨own10, eo10, n10', tp10, OT⟩ := O10.trm
        have sub : ∀ {b : Addr}, own4 b = none → own10 b = none := fun h => Decidable.byContradiction fun z => eo10 _ z h
        have k10a := s10 _ _ k9
        have ks10 := s10 _ _ (s9 _ _ k8)
        walk_at "go"
        refine ⟨own10, S2, x2, g, la, n1, t, mi, th2, rfl, OT, sub o4a, k10a, Z, hmi, fun own11 S11 x11 H11 es11 O11 f11 => ?_⟩
        have OB11 : SgO T.C_Channels T.C_Channel own6 H11 SB xB g := OB10.keep fun b o h e => by
          rcases h with h | ⟨kk, rfl⟩
          · exact (f11 b o (fun z => h (z ▸ o6a)) (sub (dis4 b h)) e).2
          · exact (f11 b _ (ne_of e k10a (fun z => nomatch z)) (tp10 b kk e) e).2
        have k11b := (f11 lb _ nab.symm (sub o4b) k10)
        have ks11 := f11 sl_ _ nas (sub os4) ks10
        have dis11 : ∀ b, own6 b ≠ none → own11 b = none := fun b h => by
          obtain ⟨o, e⟩ := Option.ne_none_iff_exists'.mp (al6 b h)
          have e10 := s10 _ _ (s9 _ _ e)
          exact (f11 b o (fun z => h (z ▸ o6a)) (sub (dis4 b h)) e10).1
        obtain ⟨own12, eo12, n12, tp12, OB12⟩ := OB11.trm
        have sub12 : ∀ {b : Addr}, own6 b = none → own12 b = none := fun h => Decidable.byContradiction fun z => eo12 _ z h
        walk_at "go"
        refine ⟨own12, SB, xB, g, lb, n1, t, mi, th2, rfl, OB12, sub12 o6b, k11b.2, Z, hmi, fun own13 S13 x13 H13 es13 O13 f13 => ?_⟩
        have O1x : SgO T.C_Channels T.C_Channel own11 H13 S11 x11 (goG g n1) := O11.keep fun b o h e => by
          rcases h with h | ⟨kk, rfl⟩
          · refine (f13 b o (fun z => h (z ▸ k11b.1)) (sub12 (Decidable.byContradiction fun z => h (dis11 b z))) e).2
          · exact (f13 b _ (ne_of e k11b.2 (fun z => nomatch z)) (tp12 b kk e) e).2
        have ks13 := f13 sl_ _ nbs (sub12 os6) ks11.2
        obtain ⟨gn1, gn2⟩ := go_ns (n := n1) Z hmi
        have gf : (goG g n1).fl = g.fl := go_fl
        have gok := go_ok (n := n1) Z hmi
        have ho13 := O1x.ho
        rw [gf] at ho13
        have shg := shaped_sh (g := goG g n1) (by rw [gf]; exact hfl.ok) fun n _ => gok.ch n
        generalize goG g n1 = G at O1x O13 gn1 gn2 gf ho13 shg
        rw [← es11]
        walk_at "go"
        refine ⟨own11, S11, x11, G, rfl, O1x, gn1, gn2, fun t14 H14 h14 s14 d14 => ?_⟩
        walk_at "go"
        rw [← es13]
        refine ⟨own13, S13, x13, G, rfl, O13.same s14, gn1, gn2, fun t15 H15 h15 s15 d15 => ?_⟩
        refine g_neDD (Dp.same s15 d14) d15 shg ?_
        have O15 := (O1x.same s14).same s15
        have ho15 := O15.ho
        rw [gf] at ho15
        have ks15 := s15 _ _ (s14 _ _ ks13.2)
        walk_at "go"
        have nex : ∀ {Q2 : VK} {H2 : Hp} {f : Option Str}, flOk f → Q2 (.bl false) H2 → rNe (flV f) (flV f) H2 Q2 := fun {Q2 H2 f} h q => by
          refine g_rNe ?_ ?_
          · rcases h with h | h | h <;> rw [h] <;> rfl
          · rw [decide_eq_true rfl]; exact q
        refine nex hfl ?_
        walk_at "go"
        rcases hfl with h | h
        · rw [h]
          walk_at "go"
          exact q _
        · have hne : g.fl ≠ none := by rcases h with h | h <;> rw [h] <;> exact nofun
          refine g_dF (by rcases h with h | h <;> rw [h] <;> exact nofun) ?_
          walk_at "go"
          refine ⟨own11, S11, x11, G, 50, rfl, O15, by decide, by decide, .inr ⟨by decide, by rw [gf]; exact hne, fun l H16 hl s16 k16 => ?_⟩⟩
          walk_at "go"
          refine g_len (.inl (sl k16)) ?_
          have O16 := O15.same s16
          walk_at "go"
          refine ⟨own11, S11, x11, G, sl_, _, rfl, O16, ks11.1, s16 _ _ ks15, fun H17 n17 b17 k17 => ?_⟩
          walk_at "go"
          exact q _

end
end My
namespace My
open PySem PySem.Spec L2
local macro_rules | `(tactic| walk_at "side") => `(tactic| first | assumption | decide | omega | exact ⟨by decide, by decide⟩ | exact ⟨by decide, by decide, by decide⟩ | decide +kernel | exact cdivW (by decide +kernel) (by decide +kernel) | exact Or.inl ⟨by omega, by omega⟩ | exact Or.inr ⟨by omega, by omega⟩ | (simp only [List.length_map, List.length_cons, List.length_nil, List.length_append]; omega))
local macro_rules | `(tactic| walk_at "fact") => `(tactic| first | assumption | omega | with_reducible rfl)
local macro_rules | `(tactic| walk_at "use") => `(tactic| fail "use")
local macro_rules | `(tactic| walk_at "go1") => `(tactic| with_reducible first | refine g_seq ?_ | refine g_asg ?_ | refine g_ret ?_ | refine g_ifS ?_ | refine g_drop ?_ | refine g_star ?_ | refine g_nx ?_ | refine g_rt ?_ | refine g_bkE ?_ | refine g_ctE ?_ | refine g_next ?_ | refine g_retN ?_ | refine g_brk ?_ | refine g_ct ?_ | refine g_c ?_ | refine g_op ?_ | refine g_un ?_ | refine g_rI0 ?_ | refine g_rU ?_ | refine g_rEqI ?_ | refine g_rNeI ?_ | refine g_isN ?_ | refine g_rIsB ?_ | refine g_rNotB ?_ | refine g_test ?_ | refine g_B ?_ | refine g_bl ?_ | refine g_and ?_ | refine g_or ?_ | refine g_not ?_ | refine g_andV ?_ | refine g_orV ?_ | refine g_notV ?_ | refine g_if ?_ | refine g_chain ?_ | refine g_yes ?_ | refine g_lc ?_ | refine g_revR ?_ | refine g_rng1 ?_ | refine g_iList ?_ | refine g_nil ?_ | refine g_cons ?_ | refine g_tup ?_ | refine g_lst ?_ | refine g_call ?_ | refine g_CB ?_ | refine g_sl ?_ | refine g_noPart ?_ | refine g_part ?_ | refine g_intE ?_ | refine g_ref ?_ | refine g_fld ?_ | refine g_sfld ?_ | refine g_meth ?_ | refine g_make ?_ | refine g_prop ?_  | refine g_ipI ?_ | refine g_int1 ?_ | refine g_int1B ?_ | refine g_one ?_ | refine g_two ?_ | refine g_isiI ?_ | refine g_isiIB ?_ | refine g_isiB ?_ | refine g_BM ?_ | refine g_BM0 ?_ | refine g_sub ?_)
local macro_rules | `(tactic| walk_at "go") => `(tactic| repeat (first | walk_at "go1" | ((with_reducible refine' g_nameE ?sd_ ?_); case sd_ => dsimp only [List.set_cons_succ, List.set_cons_zero]) | ((with_reducible refine' g_var ?sd_ ?_); case sd_ => exact rfl) | ((with_reducible refine' g_aug ?sd_ ?_); case sd_ => exact rfl) | ((with_reducible refine' g_rI ?sd_ ?_); case sd_ => walk_at "side") | ((with_reducible refine' g_dT ?sd_ ?_); case sd_ => walk_at "fact") | ((with_reducible refine' g_dF ?sd_ ?_); case sd_ => walk_at "fact") | ((with_reducible refine' g_nT ?sd_ ?_); case sd_ => walk_at "fact") | ((with_reducible refine' g_nF ?sd_ ?_); case sd_ => walk_at "fact") | (with_reducible refine g_iT rfl ?_) | (with_reducible refine g_iF rfl ?_) | walk_at "use"))
local macro_rules | `(tactic| walk_at "nw") => `(tactic| (generalize zq : upd _ _ _ = Hq; have sq : Same _ Hq := (by rw [← zq]; exact same_upd (by assumption)); have kq := (congrFun zq _).symm.trans upd_same; clear zq))
local macro_rules | `(tactic| walk_at "bt") => `(tactic| (generalize zq : upd _ _ _ = Hq; have bq : But _ _ Hq := (by rw [← zq]; exact But.refl.upd); have kq := (congrFun zq _).symm.trans upd_same; clear zq))
theorem all_mk {l : PySem.W.OpenLaw} {w : World} {K : PySem.W.Frag} {h : Heap} {mg : Str → Option Value} {fa : Addr} (X : K.In h) (G : h.Ns mainGlobals mg) (hfa : mg "law" = some (.ref fa))
    {t_KINDS : Addr} {dn_KINDS : Nat} {hk_KINDS_0 : Int} {tk_KINDS_0 : Tok} {tt_KINDS_0 : Tok} {hk_KINDS_1 : Int} {tk_KINDS_1 : Tok} {tt_KINDS_1 : Tok} {hk_KINDS_2 : Int} {tk_KINDS_2 : Tok} {tt_KINDS_2 : Tok} {hk_KINDS_3 : Int} {tk_KINDS_3 : Tok} {tt_KINDS_3 : Tok} {hk_KINDS_4 : Int} {tk_KINDS_4 : Tok} {tt_KINDS_4 : Tok} {t_HEAD : Tok} {t_LONG_HEAD : Tok} {t_GREATEST_SIZE : Tok} {t_GREATEST_CODE : Tok} {t_WORDS : Addr} {dn_WORDS : Nat} {hk_WORDS_0 : Int} {tk_WORDS_0 : Tok} {tt_WORDS_0 : Tok} {hk_WORDS_1 : Int} {tk_WORDS_1 : Tok} {tt_WORDS_1 : Tok} {hk_WORDS_2 : Int} {tk_WORDS_2 : Tok} {tt_WORDS_2 : Tok} {hk_WORDS_3 : Int} {tk_WORDS_3 : Tok} {tt_WORDS_3 : Tok} {hk_WORDS_4 : Int} {tk_WORDS_4 : Tok} {tt_WORDS_4 : Tok} {C_ThroughlineError : Addr} {C_InvalidOptions : Addr} {C_InvalidAmount : Addr} {C_InvalidFrame : Addr} {C_UnknownChannel : Addr} {C_TooManyChannels : Addr} {C_Channel : Addr} {C_Channels : Addr} {tcc_Channels_MOST_CHANNELS : Tok} {f_Channel_init__ : Addr} {od_Channel_init__ an_Channel_init__ : Option Addr} {sl_Channel_init__ : Array (Option Value)} {oc_Channel_init__ dc_Channel_init__ pm_Channel_init__ cd_Channel_init__ ct_Channel_init__ : Value} {kV_Channel_init__ : Value} {f_Channel_break_off : Addr} {od_Channel_break_off an_Channel_break_off : Option Addr} {sl_Channel_break_off : Array (Option Value)} {oc_Channel_break_off kV_Channel_break_off dc_Channel_break_off pm_Channel_break_off cd_Channel_break_off ct_Channel_break_off : Value} {f_Channel_fork : Addr} {od_Channel_fork an_Channel_fork : Option Addr} {sl_Channel_fork : Array (Option Value)} {oc_Channel_fork kV_Channel_fork dc_Channel_fork pm_Channel_fork cd_Channel_fork ct_Channel_fork : Value} {f_read_number : Addr} {od_read_number an_read_number : Option Addr} {sl_read_number : Array (Option Value)} {oc_read_number kV_read_number dc_read_number pm_read_number cd_read_number ct_read_number : Value} {f_frame_at : Addr} {od_frame_at an_frame_at : Option Addr} {sl_frame_at : Array (Option Value)} {oc_frame_at kV_frame_at dc_frame_at pm_frame_at cd_frame_at ct_frame_at : Value} {f_Channels_init__ : Addr} {od_Channels_init__ an_Channels_init__ : Option Addr} {sl_Channels_init__ : Array (Option Value)} {oc_Channels_init__ dc_Channels_init__ pm_Channels_init__ cd_Channels_init__ ct_Channels_init__ : Value} {kV_Channels_init__ : Value} {f_Channels_len__ : Addr} {od_Channels_len__ an_Channels_len__ : Option Addr} {sl_Channels_len__ : Array (Option Value)} {oc_Channels_len__ kV_Channels_len__ dc_Channels_len__ pm_Channels_len__ cd_Channels_len__ ct_Channels_len__ : Value} {f_Channels_iter__ : Addr} {od_Channels_iter__ an_Channels_iter__ : Option Addr} {sl_Channels_iter__ : Array (Option Value)} {oc_Channels_iter__ kV_Channels_iter__ dc_Channels_iter__ pm_Channels_iter__ cd_Channels_iter__ ct_Channels_iter__ : Value} {f_Channels_open_channel : Addr} {od_Channels_open_channel an_Channels_open_channel : Option Addr} {sl_Channels_open_channel : Array (Option Value)} {oc_Channels_open_channel kV_Channels_open_channel dc_Channels_open_channel pm_Channels_open_channel cd_Channels_open_channel ct_Channels_open_channel : Value} {f_Channels_accept : Addr} {od_Channels_accept an_Channels_accept : Option Addr} {sl_Channels_accept : Array (Option Value)} {oc_Channels_accept kV_Channels_accept dc_Channels_accept pm_Channels_accept cd_Channels_accept ct_Channels_accept : Value} {f_Channels_finish : Addr} {od_Channels_finish an_Channels_finish : Option Addr} {sl_Channels_finish : Array (Option Value)} {oc_Channels_finish kV_Channels_finish dc_Channels_finish pm_Channels_finish cd_Channels_finish ct_Channels_finish : Value} {f_Channels_reset : Addr} {od_Channels_reset an_Channels_reset : Option Addr} {sl_Channels_reset : Array (Option Value)} {oc_Channels_reset kV_Channels_reset dc_Channels_reset pm_Channels_reset cd_Channels_reset ct_Channels_reset : Value} {f_Channels_status : Addr} {od_Channels_status an_Channels_status : Option Addr} {sl_Channels_status : Array (Option Value)} {oc_Channels_status kV_Channels_status dc_Channels_status pm_Channels_status cd_Channels_status ct_Channels_status : Value} {f_Channels_take : Addr} {od_Channels_take an_Channels_take : Option Addr} {sl_Channels_take : Array (Option Value)} {oc_Channels_take kV_Channels_take dc_Channels_take pm_Channels_take cd_Channels_take ct_Channels_take : Value} {f_Channels_receive : Addr} {od_Channels_receive an_Channels_receive : Option Addr} {sl_Channels_receive : Array (Option Value)} {oc_Channels_receive kV_Channels_receive dc_Channels_receive pm_Channels_receive cd_Channels_receive ct_Channels_receive : Value} {f_Channels_fork : Addr} {od_Channels_fork an_Channels_fork : Option Addr} {sl_Channels_fork : Array (Option Value)} {oc_Channels_fork kV_Channels_fork dc_Channels_fork pm_Channels_fork cd_Channels_fork ct_Channels_fork : Value} {f_Channels_known : Addr} {od_Channels_known an_Channels_known : Option Addr} {sl_Channels_known : Array (Option Value)} {oc_Channels_known kV_Channels_known dc_Channels_known pm_Channels_known cd_Channels_known ct_Channels_known : Value} {f_Channels_add : Addr} {od_Channels_add an_Channels_add : Option Addr} {sl_Channels_add : Array (Option Value)} {oc_Channels_add kV_Channels_add dc_Channels_add pm_Channels_add cd_Channels_add ct_Channels_add : Value} {f_Channels_room_of : Addr} {od_Channels_room_of an_Channels_room_of : Option Addr} {sl_Channels_room_of : Array (Option Value)} {oc_Channels_room_of kV_Channels_room_of dc_Channels_room_of pm_Channels_room_of cd_Channels_room_of ct_Channels_room_of : Value} {f_Channels_take_frame : Addr} {od_Channels_take_frame an_Channels_take_frame : Option Addr} {sl_Channels_take_frame : Array (Option Value)} {oc_Channels_take_frame kV_Channels_take_frame dc_Channels_take_frame pm_Channels_take_frame cd_Channels_take_frame ct_Channels_take_frame : Value} {f_Channels_failure_of : Addr} {od_Channels_failure_of an_Channels_failure_of : Option Addr} {sl_Channels_failure_of : Array (Option Value)} {oc_Channels_failure_of kV_Channels_failure_of dc_Channels_failure_of pm_Channels_failure_of cd_Channels_failure_of ct_Channels_failure_of : Value} {f_Channels_apply : Addr} {od_Channels_apply an_Channels_apply : Option Addr} {sl_Channels_apply : Array (Option Value)} {oc_Channels_apply kV_Channels_apply dc_Channels_apply pm_Channels_apply cd_Channels_apply ct_Channels_apply : Value} {f_failure_on : Addr} {od_failure_on an_failure_on : Option Addr} {sl_failure_on : Array (Option Value)} {oc_failure_on kV_failure_on dc_failure_on pm_failure_on cd_failure_on ct_failure_on : Value} {f_l_cell : Addr} {od_l_cell an_l_cell : Option Addr} {sl_l_cell : Array (Option Value)} {oc_l_cell kV_l_cell dc_l_cell pm_l_cell cd_l_cell ct_l_cell : Value} {f_l_is_integer : Addr} {od_l_is_integer an_l_is_integer : Option Addr} {sl_l_is_integer : Array (Option Value)} {oc_l_is_integer kV_l_is_integer dc_l_is_integer pm_l_is_integer cd_l_is_integer ct_l_is_integer : Value} {f_l_start : Addr} {od_l_start an_l_start : Option Addr} {sl_l_start : Array (Option Value)} {oc_l_start kV_l_start dc_l_start pm_l_start cd_l_start ct_l_start : Value} {f_l_digit : Addr} {od_l_digit an_l_digit : Option Addr} {sl_l_digit : Array (Option Value)} {oc_l_digit kV_l_digit dc_l_digit pm_l_digit cd_l_digit ct_l_digit : Value} {f_l_many : Addr} {od_l_many an_l_many : Option Addr} {sl_l_many : Array (Option Value)} {oc_l_many kV_l_many dc_l_many pm_l_many cd_l_many ct_l_many : Value} {f_l_frame : Addr} {od_l_frame an_l_frame : Option Addr} {sl_l_frame : Array (Option Value)} {oc_l_frame kV_l_frame dc_l_frame pm_l_frame cd_l_frame ct_l_frame : Value} {f_l_negative : Addr} {od_l_negative an_l_negative : Option Addr} {sl_l_negative : Array (Option Value)} {oc_l_negative kV_l_negative dc_l_negative pm_l_negative cd_l_negative ct_l_negative : Value} {f_l_open : Addr} {od_l_open an_l_open : Option Addr} {sl_l_open : Array (Option Value)} {oc_l_open kV_l_open dc_l_open pm_l_open cd_l_open ct_l_open : Value} {f_l_opens : Addr} {od_l_opens an_l_opens : Option Addr} {sl_l_opens : Array (Option Value)} {oc_l_opens kV_l_opens dc_l_opens pm_l_opens cd_l_opens ct_l_opens : Value} {f_l_shown : Addr} {od_l_shown an_l_shown : Option Addr} {sl_l_shown : Array (Option Value)} {oc_l_shown kV_l_shown dc_l_shown pm_l_shown cd_l_shown ct_l_shown : Value} {f_l_accepts : Addr} {od_l_accepts an_l_accepts : Option Addr} {sl_l_accepts : Array (Option Value)} {oc_l_accepts kV_l_accepts dc_l_accepts pm_l_accepts cd_l_accepts ct_l_accepts : Value} {f_l_goes_on : Addr} {od_l_goes_on an_l_goes_on : Option Addr} {sl_l_goes_on : Array (Option Value)} {oc_l_goes_on kV_l_goes_on dc_l_goes_on pm_l_goes_on cd_l_goes_on ct_l_goes_on : Value} {f_law : Addr} {od_law an_law : Option Addr} {sl_law : Array (Option Value)} {oc_law kV_law dc_law pm_law cd_law ct_law : Value}
    (v_KINDS : PySem.W.nsIn K mainGlobals "KINDS" = some (some (.ref t_KINDS)))
    (dk_KINDS : K.lookup t_KINDS = some ⟨.type "dict", none, .dict #[⟨hk_KINDS_0, .str (PySem.Str.ofString "open") tk_KINDS_0, .int 1 tt_KINDS_0⟩, ⟨hk_KINDS_1, .str (PySem.Str.ofString "octets") tk_KINDS_1, .int 2 tt_KINDS_1⟩, ⟨hk_KINDS_2, .str (PySem.Str.ofString "permit") tk_KINDS_2, .int 3 tt_KINDS_2⟩, ⟨hk_KINDS_3, .str (PySem.Str.ofString "end") tk_KINDS_3, .int 4 tt_KINDS_3⟩, ⟨hk_KINDS_4, .str (PySem.Str.ofString "reset") tk_KINDS_4, .int 5 tt_KINDS_4⟩] dn_KINDS, #[]⟩)
    (lit_KINDS : PySem.W.KeysLit w.params [⟨hk_KINDS_0, .str (PySem.Str.ofString "open") tk_KINDS_0, .int 1 tt_KINDS_0⟩, ⟨hk_KINDS_1, .str (PySem.Str.ofString "octets") tk_KINDS_1, .int 2 tt_KINDS_1⟩, ⟨hk_KINDS_2, .str (PySem.Str.ofString "permit") tk_KINDS_2, .int 3 tt_KINDS_2⟩, ⟨hk_KINDS_3, .str (PySem.Str.ofString "end") tk_KINDS_3, .int 4 tt_KINDS_3⟩, ⟨hk_KINDS_4, .str (PySem.Str.ofString "reset") tk_KINDS_4, .int 5 tt_KINDS_4⟩])
    (low_KINDS : (t_KINDS == PySem.sysModules) = false)
    (v_HEAD : PySem.W.nsIn K mainGlobals "HEAD" = some (some (.int 3 t_HEAD)))
    (v_LONG_HEAD : PySem.W.nsIn K mainGlobals "LONG_HEAD" = some (some (.int 5 t_LONG_HEAD)))
    (v_GREATEST_SIZE : PySem.W.nsIn K mainGlobals "GREATEST_SIZE" = some (some (.int 65535 t_GREATEST_SIZE)))
    (v_GREATEST_CODE : PySem.W.nsIn K mainGlobals "GREATEST_CODE" = some (some (.int 65535 t_GREATEST_CODE)))
    (v_WORDS : PySem.W.nsIn K mainGlobals "WORDS" = some (some (.ref t_WORDS)))
    (dk_WORDS : K.lookup t_WORDS = some ⟨.type "dict", none, .dict #[⟨hk_WORDS_0, .int 1 tk_WORDS_0, .str (PySem.Str.ofString "open") tt_WORDS_0⟩, ⟨hk_WORDS_1, .int 2 tk_WORDS_1, .str (PySem.Str.ofString "octets") tt_WORDS_1⟩, ⟨hk_WORDS_2, .int 3 tk_WORDS_2, .str (PySem.Str.ofString "permit") tt_WORDS_2⟩, ⟨hk_WORDS_3, .int 4 tk_WORDS_3, .str (PySem.Str.ofString "end") tt_WORDS_3⟩, ⟨hk_WORDS_4, .int 5 tk_WORDS_4, .str (PySem.Str.ofString "reset") tt_WORDS_4⟩] dn_WORDS, #[]⟩)
    (hh_WORDS_0 : hk_WORDS_0 = hashInt 1)
    (hh_WORDS_1 : hk_WORDS_1 = hashInt 2)
    (hh_WORDS_2 : hk_WORDS_2 = hashInt 3)
    (hh_WORDS_3 : hk_WORDS_3 = hashInt 4)
    (hh_WORDS_4 : hk_WORDS_4 = hashInt 5)
    (low_WORDS : (t_WORDS == PySem.sysModules) = false)
    (c_ThroughlineError : PySem.W.nsIn K mainGlobals "ThroughlineError" = some (some (.ref C_ThroughlineError)))
    (be_ThroughlineError : PySem.W.subIn K (.ref C_ThroughlineError) (.type "BaseException") = some true)
    (te_ThroughlineError : PySem.W.typeIn K (.ref C_ThroughlineError) = some (.type "type"))
    (hd_ThroughlineError : PySem.W.hasDictIn K C_ThroughlineError = true)
    (ic_ThroughlineError : PySem.W.isClsIn K C_ThroughlineError = true)
    (c_InvalidOptions : PySem.W.nsIn K mainGlobals "InvalidOptions" = some (some (.ref C_InvalidOptions)))
    (be_InvalidOptions : PySem.W.subIn K (.ref C_InvalidOptions) (.type "BaseException") = some true)
    (te_InvalidOptions : PySem.W.typeIn K (.ref C_InvalidOptions) = some (.type "type"))
    (hd_InvalidOptions : PySem.W.hasDictIn K C_InvalidOptions = true)
    (ic_InvalidOptions : PySem.W.isClsIn K C_InvalidOptions = true)
    (c_InvalidAmount : PySem.W.nsIn K mainGlobals "InvalidAmount" = some (some (.ref C_InvalidAmount)))
    (be_InvalidAmount : PySem.W.subIn K (.ref C_InvalidAmount) (.type "BaseException") = some true)
    (te_InvalidAmount : PySem.W.typeIn K (.ref C_InvalidAmount) = some (.type "type"))
    (hd_InvalidAmount : PySem.W.hasDictIn K C_InvalidAmount = true)
    (ic_InvalidAmount : PySem.W.isClsIn K C_InvalidAmount = true)
    (c_InvalidFrame : PySem.W.nsIn K mainGlobals "InvalidFrame" = some (some (.ref C_InvalidFrame)))
    (be_InvalidFrame : PySem.W.subIn K (.ref C_InvalidFrame) (.type "BaseException") = some true)
    (te_InvalidFrame : PySem.W.typeIn K (.ref C_InvalidFrame) = some (.type "type"))
    (hd_InvalidFrame : PySem.W.hasDictIn K C_InvalidFrame = true)
    (ic_InvalidFrame : PySem.W.isClsIn K C_InvalidFrame = true)
    (c_UnknownChannel : PySem.W.nsIn K mainGlobals "UnknownChannel" = some (some (.ref C_UnknownChannel)))
    (be_UnknownChannel : PySem.W.subIn K (.ref C_UnknownChannel) (.type "BaseException") = some true)
    (te_UnknownChannel : PySem.W.typeIn K (.ref C_UnknownChannel) = some (.type "type"))
    (hd_UnknownChannel : PySem.W.hasDictIn K C_UnknownChannel = true)
    (ic_UnknownChannel : PySem.W.isClsIn K C_UnknownChannel = true)
    (c_TooManyChannels : PySem.W.nsIn K mainGlobals "TooManyChannels" = some (some (.ref C_TooManyChannels)))
    (be_TooManyChannels : PySem.W.subIn K (.ref C_TooManyChannels) (.type "BaseException") = some true)
    (te_TooManyChannels : PySem.W.typeIn K (.ref C_TooManyChannels) = some (.type "type"))
    (hd_TooManyChannels : PySem.W.hasDictIn K C_TooManyChannels = true)
    (ic_TooManyChannels : PySem.W.isClsIn K C_TooManyChannels = true)
    (xP_InvalidFrame : PySem.W.excIn K C_InvalidFrame [.type "ValueError", .type "Exception", .type "BaseException", .type "object"] "ValueError.__new__" = true)
    (ke_InvalidFrame : PySem.W.keepIn K (.ref C_InvalidFrame) = true)
    (xg_InvalidFrame : PySem.W.findIn K (.ref C_InvalidFrame) "__getattribute__" = some (some (.builtin "BaseException.__getattribute__")))
    (xk_InvalidFrame : PySem.W.findIn K (.ref C_InvalidFrame) "__getattr__" = some none)
    (xa_InvalidFrame : PySem.W.findIn K (.ref C_InvalidFrame) "__class__" = some (some (.builtin "object.__class__")))
    (xm_InvalidFrame : PySem.W.mroIn K C_InvalidFrame (.type "object") = some true)
    (hn_all : PySem.W.specialIn K (.builtin "object.__class__") "__get__" = some (some (.builtin "getset_descriptor.__get__")))
    (ht_all : PySem.W.takesIn K (.builtin "object.__class__") = some true)
    (su_InvalidFrame_InvalidFrame : PySem.W.subIn K (.ref C_InvalidFrame) (.ref C_InvalidFrame) = some true)
    (su_InvalidFrame_InvalidAmount : PySem.W.subIn K (.ref C_InvalidFrame) (.ref C_InvalidAmount) = some false)
    (su_InvalidFrame_TooManyChannels : PySem.W.subIn K (.ref C_InvalidFrame) (.ref C_TooManyChannels) = some false)
    (su_InvalidFrame_ThroughlineError : PySem.W.subIn K (.ref C_InvalidFrame) (.ref C_ThroughlineError) = some true)
    (su_InvalidFrame_InvalidOptions : PySem.W.subIn K (.ref C_InvalidFrame) (.ref C_InvalidOptions) = some false)
    (sr_InvalidFrame : PySem.W.subIn K (.ref C_InvalidFrame) (.ref C_InvalidFrame) = some true)
    (xP_InvalidOptions : PySem.W.excIn K C_InvalidOptions [.type "ValueError", .type "Exception", .type "BaseException", .type "object"] "ValueError.__new__" = true)
    (ke_InvalidOptions : PySem.W.keepIn K (.ref C_InvalidOptions) = true)
    (xg_InvalidOptions : PySem.W.findIn K (.ref C_InvalidOptions) "__getattribute__" = some (some (.builtin "BaseException.__getattribute__")))
    (xk_InvalidOptions : PySem.W.findIn K (.ref C_InvalidOptions) "__getattr__" = some none)
    (xa_InvalidOptions : PySem.W.findIn K (.ref C_InvalidOptions) "__class__" = some (some (.builtin "object.__class__")))
    (xm_InvalidOptions : PySem.W.mroIn K C_InvalidOptions (.type "object") = some true)
    (su_InvalidOptions_InvalidFrame : PySem.W.subIn K (.ref C_InvalidOptions) (.ref C_InvalidFrame) = some false)
    (su_InvalidOptions_InvalidAmount : PySem.W.subIn K (.ref C_InvalidOptions) (.ref C_InvalidAmount) = some false)
    (su_InvalidOptions_TooManyChannels : PySem.W.subIn K (.ref C_InvalidOptions) (.ref C_TooManyChannels) = some false)
    (su_InvalidOptions_ThroughlineError : PySem.W.subIn K (.ref C_InvalidOptions) (.ref C_ThroughlineError) = some true)
    (su_InvalidOptions_InvalidOptions : PySem.W.subIn K (.ref C_InvalidOptions) (.ref C_InvalidOptions) = some true)
    (xP_TooManyChannels : PySem.W.excIn K C_TooManyChannels [.type "ValueError", .type "Exception", .type "BaseException", .type "object"] "ValueError.__new__" = true)
    (ke_TooManyChannels : PySem.W.keepIn K (.ref C_TooManyChannels) = true)
    (xg_TooManyChannels : PySem.W.findIn K (.ref C_TooManyChannels) "__getattribute__" = some (some (.builtin "BaseException.__getattribute__")))
    (xk_TooManyChannels : PySem.W.findIn K (.ref C_TooManyChannels) "__getattr__" = some none)
    (xa_TooManyChannels : PySem.W.findIn K (.ref C_TooManyChannels) "__class__" = some (some (.builtin "object.__class__")))
    (xm_TooManyChannels : PySem.W.mroIn K C_TooManyChannels (.type "object") = some true)
    (su_TooManyChannels_InvalidFrame : PySem.W.subIn K (.ref C_TooManyChannels) (.ref C_InvalidFrame) = some false)
    (su_TooManyChannels_InvalidAmount : PySem.W.subIn K (.ref C_TooManyChannels) (.ref C_InvalidAmount) = some false)
    (su_TooManyChannels_TooManyChannels : PySem.W.subIn K (.ref C_TooManyChannels) (.ref C_TooManyChannels) = some true)
    (su_TooManyChannels_ThroughlineError : PySem.W.subIn K (.ref C_TooManyChannels) (.ref C_ThroughlineError) = some true)
    (su_TooManyChannels_InvalidOptions : PySem.W.subIn K (.ref C_TooManyChannels) (.ref C_InvalidOptions) = some false)
    (sr_TooManyChannels : PySem.W.subIn K (.ref C_TooManyChannels) (.ref C_TooManyChannels) = some true)
    (xP_InvalidAmount : PySem.W.excIn K C_InvalidAmount [.type "ValueError", .type "Exception", .type "BaseException", .type "object"] "ValueError.__new__" = true)
    (ke_InvalidAmount : PySem.W.keepIn K (.ref C_InvalidAmount) = true)
    (xg_InvalidAmount : PySem.W.findIn K (.ref C_InvalidAmount) "__getattribute__" = some (some (.builtin "BaseException.__getattribute__")))
    (xk_InvalidAmount : PySem.W.findIn K (.ref C_InvalidAmount) "__getattr__" = some none)
    (xa_InvalidAmount : PySem.W.findIn K (.ref C_InvalidAmount) "__class__" = some (some (.builtin "object.__class__")))
    (xm_InvalidAmount : PySem.W.mroIn K C_InvalidAmount (.type "object") = some true)
    (su_InvalidAmount_InvalidFrame : PySem.W.subIn K (.ref C_InvalidAmount) (.ref C_InvalidFrame) = some false)
    (su_InvalidAmount_InvalidAmount : PySem.W.subIn K (.ref C_InvalidAmount) (.ref C_InvalidAmount) = some true)
    (su_InvalidAmount_TooManyChannels : PySem.W.subIn K (.ref C_InvalidAmount) (.ref C_TooManyChannels) = some false)
    (su_InvalidAmount_ThroughlineError : PySem.W.subIn K (.ref C_InvalidAmount) (.ref C_ThroughlineError) = some true)
    (su_InvalidAmount_InvalidOptions : PySem.W.subIn K (.ref C_InvalidAmount) (.ref C_InvalidOptions) = some false)
    (sr_InvalidAmount : PySem.W.subIn K (.ref C_InvalidAmount) (.ref C_InvalidAmount) = some true)
    (xP_UnknownChannel : PySem.W.excIn K C_UnknownChannel [.type "ValueError", .type "Exception", .type "BaseException", .type "object"] "ValueError.__new__" = true)
    (ke_UnknownChannel : PySem.W.keepIn K (.ref C_UnknownChannel) = true)
    (xg_UnknownChannel : PySem.W.findIn K (.ref C_UnknownChannel) "__getattribute__" = some (some (.builtin "BaseException.__getattribute__")))
    (xk_UnknownChannel : PySem.W.findIn K (.ref C_UnknownChannel) "__getattr__" = some none)
    (xa_UnknownChannel : PySem.W.findIn K (.ref C_UnknownChannel) "__class__" = some (some (.builtin "object.__class__")))
    (xm_UnknownChannel : PySem.W.mroIn K C_UnknownChannel (.type "object") = some true)
    (su_UnknownChannel_InvalidFrame : PySem.W.subIn K (.ref C_UnknownChannel) (.ref C_InvalidFrame) = some false)
    (su_UnknownChannel_InvalidAmount : PySem.W.subIn K (.ref C_UnknownChannel) (.ref C_InvalidAmount) = some false)
    (su_UnknownChannel_TooManyChannels : PySem.W.subIn K (.ref C_UnknownChannel) (.ref C_TooManyChannels) = some false)
    (su_UnknownChannel_ThroughlineError : PySem.W.subIn K (.ref C_UnknownChannel) (.ref C_ThroughlineError) = some true)
    (su_UnknownChannel_InvalidOptions : PySem.W.subIn K (.ref C_UnknownChannel) (.ref C_InvalidOptions) = some false)
    (sr_UnknownChannel : PySem.W.subIn K (.ref C_UnknownChannel) (.ref C_UnknownChannel) = some true)
    (c_Channel : PySem.W.nsIn K mainGlobals "Channel" = some (some (.ref C_Channel)))
    (pg_Channel : PySem.W.plainGet K C_Channel Str.empty = true)
    (hd_Channel : PySem.W.hasDictIn K C_Channel = true)
    (po_Channel : PySem.W.plainOver K C_Channel = true)
    (sa_Channel : PySem.W.findIn K (.ref C_Channel) "__setattr__" = some (some (.builtin "object.__setattr__")))
    (mk0_Channel : PySem.W.makesIn K C_Channel = true)
    (kc_Channel : PySem.W.keepIn K (.ref C_Channel) = true)
    (n_Channel_number : PySem.W.findIn K (.ref C_Channel) "number" = some none)
    (n_Channel_announced : PySem.W.findIn K (.ref C_Channel) "announced" = some none)
    (n_Channel_queue : PySem.W.findIn K (.ref C_Channel) "queue" = some none)
    (n_Channel_credit : PySem.W.findIn K (.ref C_Channel) "credit" = some none)
    (n_Channel_finished : PySem.W.findIn K (.ref C_Channel) "finished" = some none)
    (n_Channel_end_sent : PySem.W.findIn K (.ref C_Channel) "end_sent" = some none)
    (n_Channel_unread : PySem.W.findIn K (.ref C_Channel) "unread" = some none)
    (n_Channel_due : PySem.W.findIn K (.ref C_Channel) "due" = some none)
    (n_Channel_end_came : PySem.W.findIn K (.ref C_Channel) "end_came" = some none)
    (n_Channel_broken : PySem.W.findIn K (.ref C_Channel) "broken" = some none)
    (n_Channel_reset_told : PySem.W.findIn K (.ref C_Channel) "reset_told" = some none)
    (c_Channels : PySem.W.nsIn K mainGlobals "Channels" = some (some (.ref C_Channels)))
    (pg_Channels : PySem.W.plainGet K C_Channels Str.empty = true)
    (hd_Channels : PySem.W.hasDictIn K C_Channels = true)
    (po_Channels : PySem.W.plainOver K C_Channels = true)
    (sa_Channels : PySem.W.findIn K (.ref C_Channels) "__setattr__" = some (some (.builtin "object.__setattr__")))
    (mk0_Channels : PySem.W.makesIn K C_Channels = true)
    (kc_Channels : PySem.W.keepIn K (.ref C_Channels) = true)
    (n_Channels_failure : PySem.W.findIn K (.ref C_Channels) "failure" = some none)
    (n_Channels__window : PySem.W.findIn K (.ref C_Channels) "_window" = some none)
    (n_Channels__most : PySem.W.findIn K (.ref C_Channels) "_most" = some none)
    (n_Channels__next_here : PySem.W.findIn K (.ref C_Channels) "_next_here" = some none)
    (n_Channels__next_there : PySem.W.findIn K (.ref C_Channels) "_next_there" = some none)
    (n_Channels__channels : PySem.W.findIn K (.ref C_Channels) "_channels" = some none)
    (n_Channels__numbers : PySem.W.findIn K (.ref C_Channels) "_numbers" = some none)
    (n_Channels__turns : PySem.W.findIn K (.ref C_Channels) "_turns" = some none)
    (n_Channels__offered : PySem.W.findIn K (.ref C_Channels) "_offered" = some none)
    (n_Channels__going : PySem.W.findIn K (.ref C_Channels) "_going" = some none)
    (n_Channels__coming : PySem.W.findIn K (.ref C_Channels) "_coming" = some none)
    (rd_Channels : PySem.W.readsIn K C_Channels (.type "type") = true)
    (gg_Channels : PySem.W.specialIn K (.ref C_Channels) "__getattribute__" = some (some (.builtin "type.__getattribute__")))
    (cva_Channels_MOST_CHANNELS : PySem.W.findCls K (.ref C_Channels) (.type "type") "MOST_CHANNELS" = some (.val (.int 100 tcc_Channels_MOST_CHANNELS)))
    (a_Channel_init__ : PySem.W.findIn K (.ref C_Channel) "__init__" = some (some (.ref f_Channel_init__)))
    (i_Channel_init__ : PySem.W.isFn K (.ref f_Channel_init__) = true)
    (l_Channel_init__ : K.lookup f_Channel_init__ = some ⟨oc_Channel_init__, od_Channel_init__, .func (PySem.W.fnOf "__init__" "Channel.__init__" (defArgs s_Channel_init__) (defBody s_Channel_init__) (defScope s_Channel_init__) .none kV_Channel_init__ dc_Channel_init__ pm_Channel_init__ an_Channel_init__ cd_Channel_init__ ct_Channel_init__), sl_Channel_init__⟩)
    (cc_Channel_init__ : PySem.W.codeIn K cd_Channel_init__ "Channel.__init__" = true)
    (kk_Channel_init__ : PySem.W.keepIn K (.ref f_Channel_init__) = true)
    (a_Channel_break_off : PySem.W.findIn K (.ref C_Channel) "break_off" = some (some (.ref f_Channel_break_off)))
    (i_Channel_break_off : PySem.W.isFn K (.ref f_Channel_break_off) = true)
    (l_Channel_break_off : K.lookup f_Channel_break_off = some ⟨oc_Channel_break_off, od_Channel_break_off, .func (PySem.W.fnOf "break_off" "Channel.break_off" (defArgs s_Channel_break_off) (defBody s_Channel_break_off) (defScope s_Channel_break_off) .none kV_Channel_break_off dc_Channel_break_off pm_Channel_break_off an_Channel_break_off cd_Channel_break_off ct_Channel_break_off), sl_Channel_break_off⟩)
    (cc_Channel_break_off : PySem.W.codeIn K cd_Channel_break_off "Channel.break_off" = true)
    (kk_Channel_break_off : PySem.W.keepIn K (.ref f_Channel_break_off) = true)
    (a_Channel_fork : PySem.W.findIn K (.ref C_Channel) "fork" = some (some (.ref f_Channel_fork)))
    (i_Channel_fork : PySem.W.isFn K (.ref f_Channel_fork) = true)
    (l_Channel_fork : K.lookup f_Channel_fork = some ⟨oc_Channel_fork, od_Channel_fork, .func (PySem.W.fnOf "fork" "Channel.fork" (defArgs s_Channel_fork) (defBody s_Channel_fork) (defScope s_Channel_fork) .none kV_Channel_fork dc_Channel_fork pm_Channel_fork an_Channel_fork cd_Channel_fork ct_Channel_fork), sl_Channel_fork⟩)
    (cc_Channel_fork : PySem.W.codeIn K cd_Channel_fork "Channel.fork" = true)
    (kk_Channel_fork : PySem.W.keepIn K (.ref f_Channel_fork) = true)
    (a_read_number : PySem.W.nsIn K mainGlobals "read_number" = some (some (.ref f_read_number)))
    (l_read_number : K.lookup f_read_number = some ⟨oc_read_number, od_read_number, .func (PySem.W.fnOf "read_number" "read_number" (defArgs s_read_number) (defBody s_read_number) (defScope s_read_number) .none kV_read_number dc_read_number pm_read_number an_read_number cd_read_number ct_read_number), sl_read_number⟩)
    (cc_read_number : PySem.W.codeIn K cd_read_number "read_number" = true)
    (kk_read_number : PySem.W.keepIn K (.ref f_read_number) = true)
    (a_frame_at : PySem.W.nsIn K mainGlobals "frame_at" = some (some (.ref f_frame_at)))
    (l_frame_at : K.lookup f_frame_at = some ⟨oc_frame_at, od_frame_at, .func (PySem.W.fnOf "frame_at" "frame_at" (defArgs s_frame_at) (defBody s_frame_at) (defScope s_frame_at) .none kV_frame_at dc_frame_at pm_frame_at an_frame_at cd_frame_at ct_frame_at), sl_frame_at⟩)
    (cc_frame_at : PySem.W.codeIn K cd_frame_at "frame_at" = true)
    (kk_frame_at : PySem.W.keepIn K (.ref f_frame_at) = true)
    (a_Channels_init__ : PySem.W.findIn K (.ref C_Channels) "__init__" = some (some (.ref f_Channels_init__)))
    (i_Channels_init__ : PySem.W.isFn K (.ref f_Channels_init__) = true)
    (l_Channels_init__ : K.lookup f_Channels_init__ = some ⟨oc_Channels_init__, od_Channels_init__, .func (PySem.W.fnOf "__init__" "Channels.__init__" (defArgs s_Channels_init__) (defBody s_Channels_init__) (defScope s_Channels_init__) .none kV_Channels_init__ dc_Channels_init__ pm_Channels_init__ an_Channels_init__ cd_Channels_init__ ct_Channels_init__), sl_Channels_init__⟩)
    (cc_Channels_init__ : PySem.W.codeIn K cd_Channels_init__ "Channels.__init__" = true)
    (kk_Channels_init__ : PySem.W.keepIn K (.ref f_Channels_init__) = true)
    (a_Channels_len__ : PySem.W.findIn K (.ref C_Channels) "__len__" = some (some (.ref f_Channels_len__)))
    (i_Channels_len__ : PySem.W.isFn K (.ref f_Channels_len__) = true)
    (l_Channels_len__ : K.lookup f_Channels_len__ = some ⟨oc_Channels_len__, od_Channels_len__, .func (PySem.W.fnOf "__len__" "Channels.__len__" (defArgs s_Channels_len__) (defBody s_Channels_len__) (defScope s_Channels_len__) .none kV_Channels_len__ dc_Channels_len__ pm_Channels_len__ an_Channels_len__ cd_Channels_len__ ct_Channels_len__), sl_Channels_len__⟩)
    (cc_Channels_len__ : PySem.W.codeIn K cd_Channels_len__ "Channels.__len__" = true)
    (kk_Channels_len__ : PySem.W.keepIn K (.ref f_Channels_len__) = true)
    (a_Channels_iter__ : PySem.W.findIn K (.ref C_Channels) "__iter__" = some (some (.ref f_Channels_iter__)))
    (i_Channels_iter__ : PySem.W.isFn K (.ref f_Channels_iter__) = true)
    (l_Channels_iter__ : K.lookup f_Channels_iter__ = some ⟨oc_Channels_iter__, od_Channels_iter__, .func (PySem.W.fnOf "__iter__" "Channels.__iter__" (defArgs s_Channels_iter__) (defBody s_Channels_iter__) (defScope s_Channels_iter__) .none kV_Channels_iter__ dc_Channels_iter__ pm_Channels_iter__ an_Channels_iter__ cd_Channels_iter__ ct_Channels_iter__), sl_Channels_iter__⟩)
    (cc_Channels_iter__ : PySem.W.codeIn K cd_Channels_iter__ "Channels.__iter__" = true)
    (kk_Channels_iter__ : PySem.W.keepIn K (.ref f_Channels_iter__) = true)
    (a_Channels_open_channel : PySem.W.findIn K (.ref C_Channels) "open_channel" = some (some (.ref f_Channels_open_channel)))
    (i_Channels_open_channel : PySem.W.isFn K (.ref f_Channels_open_channel) = true)
    (l_Channels_open_channel : K.lookup f_Channels_open_channel = some ⟨oc_Channels_open_channel, od_Channels_open_channel, .func (PySem.W.fnOf "open_channel" "Channels.open_channel" (defArgs s_Channels_open_channel) (defBody s_Channels_open_channel) (defScope s_Channels_open_channel) .none kV_Channels_open_channel dc_Channels_open_channel pm_Channels_open_channel an_Channels_open_channel cd_Channels_open_channel ct_Channels_open_channel), sl_Channels_open_channel⟩)
    (cc_Channels_open_channel : PySem.W.codeIn K cd_Channels_open_channel "Channels.open_channel" = true)
    (kk_Channels_open_channel : PySem.W.keepIn K (.ref f_Channels_open_channel) = true)
    (a_Channels_accept : PySem.W.findIn K (.ref C_Channels) "accept" = some (some (.ref f_Channels_accept)))
    (i_Channels_accept : PySem.W.isFn K (.ref f_Channels_accept) = true)
    (l_Channels_accept : K.lookup f_Channels_accept = some ⟨oc_Channels_accept, od_Channels_accept, .func (PySem.W.fnOf "accept" "Channels.accept" (defArgs s_Channels_accept) (defBody s_Channels_accept) (defScope s_Channels_accept) .none kV_Channels_accept dc_Channels_accept pm_Channels_accept an_Channels_accept cd_Channels_accept ct_Channels_accept), sl_Channels_accept⟩)
    (cc_Channels_accept : PySem.W.codeIn K cd_Channels_accept "Channels.accept" = true)
    (kk_Channels_accept : PySem.W.keepIn K (.ref f_Channels_accept) = true)
    (a_Channels_finish : PySem.W.findIn K (.ref C_Channels) "finish" = some (some (.ref f_Channels_finish)))
    (i_Channels_finish : PySem.W.isFn K (.ref f_Channels_finish) = true)
    (l_Channels_finish : K.lookup f_Channels_finish = some ⟨oc_Channels_finish, od_Channels_finish, .func (PySem.W.fnOf "finish" "Channels.finish" (defArgs s_Channels_finish) (defBody s_Channels_finish) (defScope s_Channels_finish) .none kV_Channels_finish dc_Channels_finish pm_Channels_finish an_Channels_finish cd_Channels_finish ct_Channels_finish), sl_Channels_finish⟩)
    (cc_Channels_finish : PySem.W.codeIn K cd_Channels_finish "Channels.finish" = true)
    (kk_Channels_finish : PySem.W.keepIn K (.ref f_Channels_finish) = true)
    (a_Channels_reset : PySem.W.findIn K (.ref C_Channels) "reset" = some (some (.ref f_Channels_reset)))
    (i_Channels_reset : PySem.W.isFn K (.ref f_Channels_reset) = true)
    (l_Channels_reset : K.lookup f_Channels_reset = some ⟨oc_Channels_reset, od_Channels_reset, .func (PySem.W.fnOf "reset" "Channels.reset" (defArgs s_Channels_reset) (defBody s_Channels_reset) (defScope s_Channels_reset) .none kV_Channels_reset dc_Channels_reset pm_Channels_reset an_Channels_reset cd_Channels_reset ct_Channels_reset), sl_Channels_reset⟩)
    (cc_Channels_reset : PySem.W.codeIn K cd_Channels_reset "Channels.reset" = true)
    (kk_Channels_reset : PySem.W.keepIn K (.ref f_Channels_reset) = true)
    (a_Channels_status : PySem.W.findIn K (.ref C_Channels) "status" = some (some (.ref f_Channels_status)))
    (i_Channels_status : PySem.W.isFn K (.ref f_Channels_status) = true)
    (l_Channels_status : K.lookup f_Channels_status = some ⟨oc_Channels_status, od_Channels_status, .func (PySem.W.fnOf "status" "Channels.status" (defArgs s_Channels_status) (defBody s_Channels_status) (defScope s_Channels_status) .none kV_Channels_status dc_Channels_status pm_Channels_status an_Channels_status cd_Channels_status ct_Channels_status), sl_Channels_status⟩)
    (cc_Channels_status : PySem.W.codeIn K cd_Channels_status "Channels.status" = true)
    (kk_Channels_status : PySem.W.keepIn K (.ref f_Channels_status) = true)
    (a_Channels_take : PySem.W.findIn K (.ref C_Channels) "take" = some (some (.ref f_Channels_take)))
    (i_Channels_take : PySem.W.isFn K (.ref f_Channels_take) = true)
    (l_Channels_take : K.lookup f_Channels_take = some ⟨oc_Channels_take, od_Channels_take, .func (PySem.W.fnOf "take" "Channels.take" (defArgs s_Channels_take) (defBody s_Channels_take) (defScope s_Channels_take) .none kV_Channels_take dc_Channels_take pm_Channels_take an_Channels_take cd_Channels_take ct_Channels_take), sl_Channels_take⟩)
    (cc_Channels_take : PySem.W.codeIn K cd_Channels_take "Channels.take" = true)
    (kk_Channels_take : PySem.W.keepIn K (.ref f_Channels_take) = true)
    (a_Channels_receive : PySem.W.findIn K (.ref C_Channels) "receive" = some (some (.ref f_Channels_receive)))
    (i_Channels_receive : PySem.W.isFn K (.ref f_Channels_receive) = true)
    (l_Channels_receive : K.lookup f_Channels_receive = some ⟨oc_Channels_receive, od_Channels_receive, .func (PySem.W.fnOf "receive" "Channels.receive" (defArgs s_Channels_receive) (defBody s_Channels_receive) (defScope s_Channels_receive) .none kV_Channels_receive dc_Channels_receive pm_Channels_receive an_Channels_receive cd_Channels_receive ct_Channels_receive), sl_Channels_receive⟩)
    (cc_Channels_receive : PySem.W.codeIn K cd_Channels_receive "Channels.receive" = true)
    (kk_Channels_receive : PySem.W.keepIn K (.ref f_Channels_receive) = true)
    (a_Channels_fork : PySem.W.findIn K (.ref C_Channels) "fork" = some (some (.ref f_Channels_fork)))
    (i_Channels_fork : PySem.W.isFn K (.ref f_Channels_fork) = true)
    (l_Channels_fork : K.lookup f_Channels_fork = some ⟨oc_Channels_fork, od_Channels_fork, .func (PySem.W.fnOf "fork" "Channels.fork" (defArgs s_Channels_fork) (defBody s_Channels_fork) (defScope s_Channels_fork) .none kV_Channels_fork dc_Channels_fork pm_Channels_fork an_Channels_fork cd_Channels_fork ct_Channels_fork), sl_Channels_fork⟩)
    (cc_Channels_fork : PySem.W.codeIn K cd_Channels_fork "Channels.fork" = true)
    (kk_Channels_fork : PySem.W.keepIn K (.ref f_Channels_fork) = true)
    (a_Channels_known : PySem.W.findIn K (.ref C_Channels) "_known" = some (some (.ref f_Channels_known)))
    (i_Channels_known : PySem.W.isFn K (.ref f_Channels_known) = true)
    (l_Channels_known : K.lookup f_Channels_known = some ⟨oc_Channels_known, od_Channels_known, .func (PySem.W.fnOf "_known" "Channels._known" (defArgs s_Channels_known) (defBody s_Channels_known) (defScope s_Channels_known) .none kV_Channels_known dc_Channels_known pm_Channels_known an_Channels_known cd_Channels_known ct_Channels_known), sl_Channels_known⟩)
    (cc_Channels_known : PySem.W.codeIn K cd_Channels_known "Channels._known" = true)
    (kk_Channels_known : PySem.W.keepIn K (.ref f_Channels_known) = true)
    (a_Channels_add : PySem.W.findIn K (.ref C_Channels) "_add" = some (some (.ref f_Channels_add)))
    (i_Channels_add : PySem.W.isFn K (.ref f_Channels_add) = true)
    (l_Channels_add : K.lookup f_Channels_add = some ⟨oc_Channels_add, od_Channels_add, .func (PySem.W.fnOf "_add" "Channels._add" (defArgs s_Channels_add) (defBody s_Channels_add) (defScope s_Channels_add) .none kV_Channels_add dc_Channels_add pm_Channels_add an_Channels_add cd_Channels_add ct_Channels_add), sl_Channels_add⟩)
    (cc_Channels_add : PySem.W.codeIn K cd_Channels_add "Channels._add" = true)
    (kk_Channels_add : PySem.W.keepIn K (.ref f_Channels_add) = true)
    (a_Channels_room_of : PySem.W.findIn K (.ref C_Channels) "_room_of" = some (some (.ref f_Channels_room_of)))
    (i_Channels_room_of : PySem.W.isFn K (.ref f_Channels_room_of) = true)
    (l_Channels_room_of : K.lookup f_Channels_room_of = some ⟨oc_Channels_room_of, od_Channels_room_of, .func (PySem.W.fnOf "_room_of" "Channels._room_of" (defArgs s_Channels_room_of) (defBody s_Channels_room_of) (defScope s_Channels_room_of) .none kV_Channels_room_of dc_Channels_room_of pm_Channels_room_of an_Channels_room_of cd_Channels_room_of ct_Channels_room_of), sl_Channels_room_of⟩)
    (cc_Channels_room_of : PySem.W.codeIn K cd_Channels_room_of "Channels._room_of" = true)
    (kk_Channels_room_of : PySem.W.keepIn K (.ref f_Channels_room_of) = true)
    (a_Channels_take_frame : PySem.W.findIn K (.ref C_Channels) "_take_frame" = some (some (.ref f_Channels_take_frame)))
    (i_Channels_take_frame : PySem.W.isFn K (.ref f_Channels_take_frame) = true)
    (l_Channels_take_frame : K.lookup f_Channels_take_frame = some ⟨oc_Channels_take_frame, od_Channels_take_frame, .func (PySem.W.fnOf "_take_frame" "Channels._take_frame" (defArgs s_Channels_take_frame) (defBody s_Channels_take_frame) (defScope s_Channels_take_frame) .none kV_Channels_take_frame dc_Channels_take_frame pm_Channels_take_frame an_Channels_take_frame cd_Channels_take_frame ct_Channels_take_frame), sl_Channels_take_frame⟩)
    (cc_Channels_take_frame : PySem.W.codeIn K cd_Channels_take_frame "Channels._take_frame" = true)
    (kk_Channels_take_frame : PySem.W.keepIn K (.ref f_Channels_take_frame) = true)
    (a_Channels_failure_of : PySem.W.findIn K (.ref C_Channels) "_failure_of" = some (some (.ref f_Channels_failure_of)))
    (i_Channels_failure_of : PySem.W.isFn K (.ref f_Channels_failure_of) = true)
    (l_Channels_failure_of : K.lookup f_Channels_failure_of = some ⟨oc_Channels_failure_of, od_Channels_failure_of, .func (PySem.W.fnOf "_failure_of" "Channels._failure_of" (defArgs s_Channels_failure_of) (defBody s_Channels_failure_of) (defScope s_Channels_failure_of) .none kV_Channels_failure_of dc_Channels_failure_of pm_Channels_failure_of an_Channels_failure_of cd_Channels_failure_of ct_Channels_failure_of), sl_Channels_failure_of⟩)
    (cc_Channels_failure_of : PySem.W.codeIn K cd_Channels_failure_of "Channels._failure_of" = true)
    (kk_Channels_failure_of : PySem.W.keepIn K (.ref f_Channels_failure_of) = true)
    (a_Channels_apply : PySem.W.findIn K (.ref C_Channels) "_apply" = some (some (.ref f_Channels_apply)))
    (i_Channels_apply : PySem.W.isFn K (.ref f_Channels_apply) = true)
    (l_Channels_apply : K.lookup f_Channels_apply = some ⟨oc_Channels_apply, od_Channels_apply, .func (PySem.W.fnOf "_apply" "Channels._apply" (defArgs s_Channels_apply) (defBody s_Channels_apply) (defScope s_Channels_apply) .none kV_Channels_apply dc_Channels_apply pm_Channels_apply an_Channels_apply cd_Channels_apply ct_Channels_apply), sl_Channels_apply⟩)
    (cc_Channels_apply : PySem.W.codeIn K cd_Channels_apply "Channels._apply" = true)
    (kk_Channels_apply : PySem.W.keepIn K (.ref f_Channels_apply) = true)
    (a_failure_on : PySem.W.nsIn K mainGlobals "_failure_on" = some (some (.ref f_failure_on)))
    (l_failure_on : K.lookup f_failure_on = some ⟨oc_failure_on, od_failure_on, .func (PySem.W.fnOf "_failure_on" "_failure_on" (defArgs s_failure_on) (defBody s_failure_on) (defScope s_failure_on) .none kV_failure_on dc_failure_on pm_failure_on an_failure_on cd_failure_on ct_failure_on), sl_failure_on⟩)
    (cc_failure_on : PySem.W.codeIn K cd_failure_on "_failure_on" = true)
    (kk_failure_on : PySem.W.keepIn K (.ref f_failure_on) = true)
    (a_l_cell : PySem.W.nsIn K mainGlobals "_law_cell" = some (some (.ref f_l_cell)))
    (l_l_cell : K.lookup f_l_cell = some ⟨oc_l_cell, od_l_cell, .func (PySem.W.fnOf "_law_cell" "_law_cell" (defArgs s_l_cell) (defBody s_l_cell) (defScope s_l_cell) .none kV_l_cell dc_l_cell pm_l_cell an_l_cell cd_l_cell ct_l_cell), sl_l_cell⟩)
    (cc_l_cell : PySem.W.codeIn K cd_l_cell "_law_cell" = true)
    (kk_l_cell : PySem.W.keepIn K (.ref f_l_cell) = true)
    (a_l_is_integer : PySem.W.nsIn K mainGlobals "_law_is_integer" = some (some (.ref f_l_is_integer)))
    (l_l_is_integer : K.lookup f_l_is_integer = some ⟨oc_l_is_integer, od_l_is_integer, .func (PySem.W.fnOf "_law_is_integer" "_law_is_integer" (defArgs s_l_is_integer) (defBody s_l_is_integer) (defScope s_l_is_integer) .none kV_l_is_integer dc_l_is_integer pm_l_is_integer an_l_is_integer cd_l_is_integer ct_l_is_integer), sl_l_is_integer⟩)
    (cc_l_is_integer : PySem.W.codeIn K cd_l_is_integer "_law_is_integer" = true)
    (kk_l_is_integer : PySem.W.keepIn K (.ref f_l_is_integer) = true)
    (a_l_start : PySem.W.nsIn K mainGlobals "_law_start" = some (some (.ref f_l_start)))
    (l_l_start : K.lookup f_l_start = some ⟨oc_l_start, od_l_start, .func (PySem.W.fnOf "_law_start" "_law_start" (defArgs s_l_start) (defBody s_l_start) (defScope s_l_start) .none kV_l_start dc_l_start pm_l_start an_l_start cd_l_start ct_l_start), sl_l_start⟩)
    (cc_l_start : PySem.W.codeIn K cd_l_start "_law_start" = true)
    (kk_l_start : PySem.W.keepIn K (.ref f_l_start) = true)
    (a_l_digit : PySem.W.nsIn K mainGlobals "_law_digit" = some (some (.ref f_l_digit)))
    (l_l_digit : K.lookup f_l_digit = some ⟨oc_l_digit, od_l_digit, .func (PySem.W.fnOf "_law_digit" "_law_digit" (defArgs s_l_digit) (defBody s_l_digit) (defScope s_l_digit) .none kV_l_digit dc_l_digit pm_l_digit an_l_digit cd_l_digit ct_l_digit), sl_l_digit⟩)
    (cc_l_digit : PySem.W.codeIn K cd_l_digit "_law_digit" = true)
    (kk_l_digit : PySem.W.keepIn K (.ref f_l_digit) = true)
    (a_l_many : PySem.W.nsIn K mainGlobals "_law_many" = some (some (.ref f_l_many)))
    (l_l_many : K.lookup f_l_many = some ⟨oc_l_many, od_l_many, .func (PySem.W.fnOf "_law_many" "_law_many" (defArgs s_l_many) (defBody s_l_many) (defScope s_l_many) .none kV_l_many dc_l_many pm_l_many an_l_many cd_l_many ct_l_many), sl_l_many⟩)
    (cc_l_many : PySem.W.codeIn K cd_l_many "_law_many" = true)
    (kk_l_many : PySem.W.keepIn K (.ref f_l_many) = true)
    (a_l_frame : PySem.W.nsIn K mainGlobals "_law_frame" = some (some (.ref f_l_frame)))
    (l_l_frame : K.lookup f_l_frame = some ⟨oc_l_frame, od_l_frame, .func (PySem.W.fnOf "_law_frame" "_law_frame" (defArgs s_l_frame) (defBody s_l_frame) (defScope s_l_frame) .none kV_l_frame dc_l_frame pm_l_frame an_l_frame cd_l_frame ct_l_frame), sl_l_frame⟩)
    (cc_l_frame : PySem.W.codeIn K cd_l_frame "_law_frame" = true)
    (kk_l_frame : PySem.W.keepIn K (.ref f_l_frame) = true)
    (a_l_negative : PySem.W.nsIn K mainGlobals "_law_negative" = some (some (.ref f_l_negative)))
    (l_l_negative : K.lookup f_l_negative = some ⟨oc_l_negative, od_l_negative, .func (PySem.W.fnOf "_law_negative" "_law_negative" (defArgs s_l_negative) (defBody s_l_negative) (defScope s_l_negative) .none kV_l_negative dc_l_negative pm_l_negative an_l_negative cd_l_negative ct_l_negative), sl_l_negative⟩)
    (cc_l_negative : PySem.W.codeIn K cd_l_negative "_law_negative" = true)
    (kk_l_negative : PySem.W.keepIn K (.ref f_l_negative) = true)
    (a_l_open : PySem.W.nsIn K mainGlobals "_law_open" = some (some (.ref f_l_open)))
    (l_l_open : K.lookup f_l_open = some ⟨oc_l_open, od_l_open, .func (PySem.W.fnOf "_law_open" "_law_open" (defArgs s_l_open) (defBody s_l_open) (defScope s_l_open) .none kV_l_open dc_l_open pm_l_open an_l_open cd_l_open ct_l_open), sl_l_open⟩)
    (cc_l_open : PySem.W.codeIn K cd_l_open "_law_open" = true)
    (kk_l_open : PySem.W.keepIn K (.ref f_l_open) = true)
    (a_l_opens : PySem.W.nsIn K mainGlobals "_law_opens" = some (some (.ref f_l_opens)))
    (l_l_opens : K.lookup f_l_opens = some ⟨oc_l_opens, od_l_opens, .func (PySem.W.fnOf "_law_opens" "_law_opens" (defArgs s_l_opens) (defBody s_l_opens) (defScope s_l_opens) .none kV_l_opens dc_l_opens pm_l_opens an_l_opens cd_l_opens ct_l_opens), sl_l_opens⟩)
    (cc_l_opens : PySem.W.codeIn K cd_l_opens "_law_opens" = true)
    (kk_l_opens : PySem.W.keepIn K (.ref f_l_opens) = true)
    (a_l_shown : PySem.W.nsIn K mainGlobals "_law_shown" = some (some (.ref f_l_shown)))
    (l_l_shown : K.lookup f_l_shown = some ⟨oc_l_shown, od_l_shown, .func (PySem.W.fnOf "_law_shown" "_law_shown" (defArgs s_l_shown) (defBody s_l_shown) (defScope s_l_shown) .none kV_l_shown dc_l_shown pm_l_shown an_l_shown cd_l_shown ct_l_shown), sl_l_shown⟩)
    (cc_l_shown : PySem.W.codeIn K cd_l_shown "_law_shown" = true)
    (kk_l_shown : PySem.W.keepIn K (.ref f_l_shown) = true)
    (a_l_accepts : PySem.W.nsIn K mainGlobals "_law_accepts" = some (some (.ref f_l_accepts)))
    (l_l_accepts : K.lookup f_l_accepts = some ⟨oc_l_accepts, od_l_accepts, .func (PySem.W.fnOf "_law_accepts" "_law_accepts" (defArgs s_l_accepts) (defBody s_l_accepts) (defScope s_l_accepts) .none kV_l_accepts dc_l_accepts pm_l_accepts an_l_accepts cd_l_accepts ct_l_accepts), sl_l_accepts⟩)
    (cc_l_accepts : PySem.W.codeIn K cd_l_accepts "_law_accepts" = true)
    (kk_l_accepts : PySem.W.keepIn K (.ref f_l_accepts) = true)
    (a_l_goes_on : PySem.W.nsIn K mainGlobals "_law_goes_on" = some (some (.ref f_l_goes_on)))
    (l_l_goes_on : K.lookup f_l_goes_on = some ⟨oc_l_goes_on, od_l_goes_on, .func (PySem.W.fnOf "_law_goes_on" "_law_goes_on" (defArgs s_l_goes_on) (defBody s_l_goes_on) (defScope s_l_goes_on) .none kV_l_goes_on dc_l_goes_on pm_l_goes_on an_l_goes_on cd_l_goes_on ct_l_goes_on), sl_l_goes_on⟩)
    (cc_l_goes_on : PySem.W.codeIn K cd_l_goes_on "_law_goes_on" = true)
    (kk_l_goes_on : PySem.W.keepIn K (.ref f_l_goes_on) = true)
    (a_law : PySem.W.nsIn K mainGlobals "law" = some (some (.ref f_law)))
    (l_law : K.lookup f_law = some ⟨oc_law, od_law, .func (PySem.W.fnOf "law" "law" (defArgs s_law) (defBody s_law) (defScope s_law) .none kV_law dc_law pm_law an_law cd_law ct_law), sl_law⟩)
    (cc_law : PySem.W.codeIn K cd_law "law" = true)
    (kk_law : PySem.W.keepIn K (.ref f_law) = true)
    (z_bool : PySem.W.nsIn K mainGlobals "bool" = some none)
    (z_int : PySem.W.nsIn K mainGlobals "int" = some none)
    (z_isinstance : PySem.W.nsIn K mainGlobals "isinstance" = some none)
    (z_iter : PySem.W.nsIn K mainGlobals "iter" = some none)
    (z_len : PySem.W.nsIn K mainGlobals "len" = some none)
    (z_list : PySem.W.nsIn K mainGlobals "list" = some none)
    (z_min : PySem.W.nsIn K mainGlobals "min" = some none)
    (z_range : PySem.W.nsIn K mainGlobals "range" = some none)
    (z_sorted : PySem.W.nsIn K mainGlobals "sorted" = some none)
    : ∃ fd : FuncData, (∀ (s : Shared) (v : Value), BindsTo s fd ⟨[v], []⟩ [("script", v)]) ∧ ∀ base : Heap, K.In base → base.Ns mainGlobals mg → FnOk l.prog w K mg base CX0 6 fa fd ["script"] (sp_law K) := by
  have e := hfa.symm.trans (PySem.W.mg_of X G a_law)
  have e2 : f_law = fa := by
    injection e with e
    injection e with e
    exact e.symm
  subst e2
  have lit_WORDS : ∀ e ∈ ([⟨hk_WORDS_0, .int 1 tk_WORDS_0, .str (PySem.Str.ofString "open") tt_WORDS_0⟩, ⟨hk_WORDS_1, .int 2 tk_WORDS_1, .str (PySem.Str.ofString "octets") tt_WORDS_1⟩, ⟨hk_WORDS_2, .int 3 tk_WORDS_2, .str (PySem.Str.ofString "permit") tt_WORDS_2⟩, ⟨hk_WORDS_3, .int 4 tk_WORDS_3, .str (PySem.Str.ofString "end") tt_WORDS_3⟩, ⟨hk_WORDS_4, .int 5 tk_WORDS_4, .str (PySem.Str.ofString "reset") tt_WORDS_4⟩] : List DictEntry), ∃ (i : Int) (t : Tok), e.key = .int i t ∧ e.hash = hashInt i := by
    intro e he
    simp only [List.mem_cons, List.not_mem_nil, or_false] at he
    rcases he with rfl | rfl | rfl | rfl | rfl
    · exact ⟨_, _, rfl, hh_WORDS_0⟩
    · exact ⟨_, _, rfl, hh_WORDS_1⟩
    · exact ⟨_, _, rfl, hh_WORDS_2⟩
    · exact ⟨_, _, rfl, hh_WORDS_3⟩
    · exact ⟨_, _, rfl, hh_WORDS_4⟩
  have F_Channel_init__ : FunD K "__init__" "Channel.__init__" (defArgs s_Channel_init__) (defBody s_Channel_init__) (defScope s_Channel_init__) [] [] f_Channel_init__ _ := ⟨⟨_, _, _, _, _, _, _, _, _, _, rfl, l_Channel_init__, cc_Channel_init__, .inl ⟨rfl, rfl⟩, .inl rfl⟩, kk_Channel_init__⟩
  have F_Channel_break_off := fun_mk (st := s_Channel_break_off) l_Channel_break_off cc_Channel_break_off kk_Channel_break_off
  have b_Channel_break_off := F_Channel_break_off.binds (ps := ["self", "place", "code"]) fun _ _ _ _ _ _ us hl => match us, hl with | [_, _, _], _ => rfl
  have F_Channel_fork := fun_mk (st := s_Channel_fork) l_Channel_fork cc_Channel_fork kk_Channel_fork
  have b_Channel_fork := F_Channel_fork.binds (ps := ["self"]) fun _ _ _ _ _ _ us hl => match us, hl with | [_], _ => rfl
  have F_read_number := fun_mk (st := s_read_number) l_read_number cc_read_number kk_read_number
  have b_read_number := F_read_number.binds (ps := ["octets"]) fun _ _ _ _ _ _ us hl => match us, hl with | [_], _ => rfl
  have F_frame_at := fun_mk (st := s_frame_at) l_frame_at cc_frame_at kk_frame_at
  have b_frame_at := F_frame_at.binds (ps := ["octets", "at"]) fun _ _ _ _ _ _ us hl => match us, hl with | [_, _], _ => rfl
  have F_Channels_init__ : FunD K "__init__" "Channels.__init__" (defArgs s_Channels_init__) (defBody s_Channels_init__) (defScope s_Channels_init__) [] [] f_Channels_init__ _ := ⟨⟨_, _, _, _, _, _, _, _, _, _, rfl, l_Channels_init__, cc_Channels_init__, .inl ⟨rfl, rfl⟩, .inl rfl⟩, kk_Channels_init__⟩
  have F_Channels_len__ := fun_mk (st := s_Channels_len__) l_Channels_len__ cc_Channels_len__ kk_Channels_len__
  have b_Channels_len__ := F_Channels_len__.binds (ps := ["self"]) fun _ _ _ _ _ _ us hl => match us, hl with | [_], _ => rfl
  have F_Channels_iter__ := fun_mk (st := s_Channels_iter__) l_Channels_iter__ cc_Channels_iter__ kk_Channels_iter__
  have b_Channels_iter__ := F_Channels_iter__.binds (ps := ["self"]) fun _ _ _ _ _ _ us hl => match us, hl with | [_], _ => rfl
  have F_Channels_open_channel := fun_mk (st := s_Channels_open_channel) l_Channels_open_channel cc_Channels_open_channel kk_Channels_open_channel
  have b_Channels_open_channel := F_Channels_open_channel.binds (ps := ["self"]) fun _ _ _ _ _ _ us hl => match us, hl with | [_], _ => rfl
  have F_Channels_accept := fun_mk (st := s_Channels_accept) l_Channels_accept cc_Channels_accept kk_Channels_accept
  have b_Channels_accept := F_Channels_accept.binds (ps := ["self"]) fun _ _ _ _ _ _ us hl => match us, hl with | [_], _ => rfl
  have F_Channels_finish := fun_mk (st := s_Channels_finish) l_Channels_finish cc_Channels_finish kk_Channels_finish
  have b_Channels_finish := F_Channels_finish.binds (ps := ["self", "channel"]) fun _ _ _ _ _ _ us hl => match us, hl with | [_, _], _ => rfl
  have F_Channels_reset := fun_mk (st := s_Channels_reset) l_Channels_reset cc_Channels_reset kk_Channels_reset
  have b_Channels_reset := F_Channels_reset.binds (ps := ["self", "channel", "code"]) fun _ _ _ _ _ _ us hl => match us, hl with | [_, _, _], _ => rfl
  have F_Channels_status := fun_mk (st := s_Channels_status) l_Channels_status cc_Channels_status kk_Channels_status
  have b_Channels_status := F_Channels_status.binds (ps := ["self", "channel"]) fun _ _ _ _ _ _ us hl => match us, hl with | [_, _], _ => rfl
  have F_Channels_take := fun_mk (st := s_Channels_take) l_Channels_take cc_Channels_take kk_Channels_take
  have b_Channels_take := F_Channels_take.binds (ps := ["self", "count"]) fun _ _ _ _ _ _ us hl => match us, hl with | [_, _], _ => rfl
  have F_Channels_receive := fun_mk (st := s_Channels_receive) l_Channels_receive cc_Channels_receive kk_Channels_receive
  have b_Channels_receive := F_Channels_receive.binds (ps := ["self", "octets"]) fun _ _ _ _ _ _ us hl => match us, hl with | [_, _], _ => rfl
  have F_Channels_fork := fun_mk (st := s_Channels_fork) l_Channels_fork cc_Channels_fork kk_Channels_fork
  have b_Channels_fork := F_Channels_fork.binds (ps := ["self"]) fun _ _ _ _ _ _ us hl => match us, hl with | [_], _ => rfl
  have F_Channels_known := fun_mk (st := s_Channels_known) l_Channels_known cc_Channels_known kk_Channels_known
  have b_Channels_known := F_Channels_known.binds (ps := ["self", "number"]) fun _ _ _ _ _ _ us hl => match us, hl with | [_, _], _ => rfl
  have F_Channels_add := fun_mk (st := s_Channels_add) l_Channels_add cc_Channels_add kk_Channels_add
  have b_Channels_add := F_Channels_add.binds (ps := ["self", "channel"]) fun _ _ _ _ _ _ us hl => match us, hl with | [_, _], _ => rfl
  have F_Channels_room_of := fun_mk (st := s_Channels_room_of) l_Channels_room_of cc_Channels_room_of kk_Channels_room_of
  have b_Channels_room_of := F_Channels_room_of.binds (ps := ["self", "channel"]) fun _ _ _ _ _ _ us hl => match us, hl with | [_, _], _ => rfl
  have F_Channels_take_frame := fun_mk (st := s_Channels_take_frame) l_Channels_take_frame cc_Channels_take_frame kk_Channels_take_frame
  have b_Channels_take_frame := F_Channels_take_frame.binds (ps := ["self", "at"]) fun _ _ _ _ _ _ us hl => match us, hl with | [_, _], _ => rfl
  have F_Channels_failure_of := fun_mk (st := s_Channels_failure_of) l_Channels_failure_of cc_Channels_failure_of kk_Channels_failure_of
  have b_Channels_failure_of := F_Channels_failure_of.binds (ps := ["self", "frame"]) fun _ _ _ _ _ _ us hl => match us, hl with | [_, _], _ => rfl
  have F_Channels_apply := fun_mk (st := s_Channels_apply) l_Channels_apply cc_Channels_apply kk_Channels_apply
  have b_Channels_apply := F_Channels_apply.binds (ps := ["self", "frame"]) fun _ _ _ _ _ _ us hl => match us, hl with | [_, _], _ => rfl
  have F_failure_on := fun_mk (st := s_failure_on) l_failure_on cc_failure_on kk_failure_on
  have b_failure_on := F_failure_on.binds (ps := ["channel", "frame"]) fun _ _ _ _ _ _ us hl => match us, hl with | [_, _], _ => rfl
  have F_l_cell := fun_mk (st := s_l_cell) l_l_cell cc_l_cell kk_l_cell
  have b_l_cell := F_l_cell.binds (ps := ["script", "k"]) fun _ _ _ _ _ _ us hl => match us, hl with | [_, _], _ => rfl
  have F_l_is_integer := fun_mk (st := s_l_is_integer) l_l_is_integer cc_l_is_integer kk_l_is_integer
  have b_l_is_integer := F_l_is_integer.binds (ps := ["told"]) fun _ _ _ _ _ _ us hl => match us, hl with | [_], _ => rfl
  have F_l_start := fun_mk (st := s_l_start) l_l_start cc_l_start kk_l_start
  have b_l_start := F_l_start.binds (ps := ["cell", "k"]) fun _ _ _ _ _ _ us hl => match us, hl with | [_, _], _ => rfl
  have F_l_digit := fun_mk (st := s_l_digit) l_l_digit cc_l_digit kk_l_digit
  have b_l_digit := F_l_digit.binds (ps := ["state", "many"]) fun _ _ _ _ _ _ us hl => match us, hl with | [_, _], _ => rfl
  have F_l_many := fun_mk (st := s_l_many) l_l_many cc_l_many kk_l_many
  have b_l_many := F_l_many.binds (ps := ["state"]) fun _ _ _ _ _ _ us hl => match us, hl with | [_], _ => rfl
  have F_l_frame := fun_mk (st := s_l_frame) l_l_frame cc_l_frame kk_l_frame
  have b_l_frame := F_l_frame.binds (ps := ["number"]) fun _ _ _ _ _ _ us hl => match us, hl with | [_], _ => rfl
  have F_l_negative := fun_mk (st := s_l_negative) l_l_negative cc_l_negative kk_l_negative
  have b_l_negative := F_l_negative.binds (ps := ["side", "state"]) fun _ _ _ _ _ _ us hl => match us, hl with | [_, _], _ => rfl
  have F_l_open := fun_mk (st := s_l_open) l_l_open cc_l_open kk_l_open
  have b_l_open := F_l_open.binds (ps := ["side"]) fun _ _ _ _ _ _ us hl => match us, hl with | [_], _ => rfl
  have F_l_opens := fun_mk (st := s_l_opens) l_l_opens cc_l_opens kk_l_opens
  have b_l_opens := F_l_opens.binds (ps := ["side", "turn", "many"]) fun _ _ _ _ _ _ us hl => match us, hl with | [_, _, _], _ => rfl
  have F_l_shown := fun_mk (st := s_l_shown) l_l_shown cc_l_shown kk_l_shown
  have b_l_shown := F_l_shown.binds (ps := ["side"]) fun _ _ _ _ _ _ us hl => match us, hl with | [_], _ => rfl
  have F_l_accepts := fun_mk (st := s_l_accepts) l_l_accepts cc_l_accepts kk_l_accepts
  have b_l_accepts := F_l_accepts.binds (ps := ["side", "turn", "many"]) fun _ _ _ _ _ _ us hl => match us, hl with | [_, _, _], _ => rfl
  have F_l_goes_on := fun_mk (st := s_l_goes_on) l_l_goes_on cc_l_goes_on kk_l_goes_on
  have b_l_goes_on := F_l_goes_on.binds (ps := ["side", "turn", "mine", "theirs", "state"]) fun _ _ _ _ _ _ us hl => match us, hl with | [_, _, _, _, _], _ => rfl
  have F_law := fun_mk (st := s_law) l_law cc_law kk_law
  have b_law := F_law.binds (ps := ["script"]) fun _ _ _ _ _ _ us hl => match us, hl with | [_], _ => rfl
  let T : Txt l.prog w K mg := { t_KINDS := t_KINDS, de_KINDS := _, dn_KINDS := _, t_HEAD := t_HEAD, t_LONG_HEAD := t_LONG_HEAD, t_GREATEST_SIZE := t_GREATEST_SIZE, t_GREATEST_CODE := t_GREATEST_CODE, t_WORDS := t_WORDS, de_WORDS := _, dn_WORDS := _, C_ThroughlineError := C_ThroughlineError, C_InvalidOptions := C_InvalidOptions, C_InvalidAmount := C_InvalidAmount, C_InvalidFrame := C_InvalidFrame, C_UnknownChannel := C_UnknownChannel, C_TooManyChannels := C_TooManyChannels, C_Channel := C_Channel, C_Channels := C_Channels, f_Channel_init__ := f_Channel_init__, d_Channel_init__ := _, f_Channel_break_off := f_Channel_break_off, d_Channel_break_off := _, f_Channel_fork := f_Channel_fork, d_Channel_fork := _, f_read_number := f_read_number, d_read_number := _, f_frame_at := f_frame_at, d_frame_at := _, f_Channels_init__ := f_Channels_init__, d_Channels_init__ := _, f_Channels_len__ := f_Channels_len__, d_Channels_len__ := _, f_Channels_iter__ := f_Channels_iter__, d_Channels_iter__ := _, f_Channels_open_channel := f_Channels_open_channel, d_Channels_open_channel := _, f_Channels_accept := f_Channels_accept, d_Channels_accept := _, f_Channels_finish := f_Channels_finish, d_Channels_finish := _, f_Channels_reset := f_Channels_reset, d_Channels_reset := _, f_Channels_status := f_Channels_status, d_Channels_status := _, f_Channels_take := f_Channels_take, d_Channels_take := _, f_Channels_receive := f_Channels_receive, d_Channels_receive := _, f_Channels_fork := f_Channels_fork, d_Channels_fork := _, f_Channels_known := f_Channels_known, d_Channels_known := _, f_Channels_add := f_Channels_add, d_Channels_add := _, f_Channels_room_of := f_Channels_room_of, d_Channels_room_of := _, f_Channels_take_frame := f_Channels_take_frame, d_Channels_take_frame := _, f_Channels_failure_of := f_Channels_failure_of, d_Channels_failure_of := _, f_Channels_apply := f_Channels_apply, d_Channels_apply := _, f_failure_on := f_failure_on, d_failure_on := _, f_l_cell := f_l_cell, d_l_cell := _, f_l_is_integer := f_l_is_integer, d_l_is_integer := _, f_l_start := f_l_start, d_l_start := _, f_l_digit := f_l_digit, d_l_digit := _, f_l_many := f_l_many, d_l_many := _, f_l_frame := f_l_frame, d_l_frame := _, f_l_negative := f_l_negative, d_l_negative := _, f_l_open := f_l_open, d_l_open := _, f_l_opens := f_l_opens, d_l_opens := _, f_l_shown := f_l_shown, d_l_shown := _, f_l_accepts := f_l_accepts, d_l_accepts := _, f_l_goes_on := f_l_goes_on, d_l_goes_on := _, f_law := f_law, d_law := _, v_KINDS := PySem.W.mg_of X G v_KINDS, kd_KINDS := ⟨dk_KINDS, lit_KINDS, low_KINDS⟩, ik_KINDS_open := ⟨.int 1 tt_KINDS_0, ns_entry dk_KINDS (by kernel_rfl), ⟨tt_KINDS_0, rfl⟩⟩, ik_KINDS_octets := ⟨.int 2 tt_KINDS_1, ns_entry dk_KINDS (by kernel_rfl), ⟨tt_KINDS_1, rfl⟩⟩, ik_KINDS_permit := ⟨.int 3 tt_KINDS_2, ns_entry dk_KINDS (by kernel_rfl), ⟨tt_KINDS_2, rfl⟩⟩, ik_KINDS_end := ⟨.int 4 tt_KINDS_3, ns_entry dk_KINDS (by kernel_rfl), ⟨tt_KINDS_3, rfl⟩⟩, ik_KINDS_reset := ⟨.int 5 tt_KINDS_4, ns_entry dk_KINDS (by kernel_rfl), ⟨tt_KINDS_4, rfl⟩⟩, nk_KINDS := fun z hz => ns_out dk_KINDS rfl hz, v_HEAD := PySem.W.mg_of X G v_HEAD, v_LONG_HEAD := PySem.W.mg_of X G v_LONG_HEAD, v_GREATEST_SIZE := PySem.W.mg_of X G v_GREATEST_SIZE, v_GREATEST_CODE := PySem.W.mg_of X G v_GREATEST_CODE, v_WORDS := PySem.W.mg_of X G v_WORDS, kd_WORDS := ⟨dk_WORDS, lit_WORDS, low_WORDS⟩, ik_WORDS_1 := ⟨.str (PySem.Str.ofString "open") tt_WORDS_0, fI_entry (by kernel_rfl), ⟨tt_WORDS_0, rfl⟩⟩, ik_WORDS_2 := ⟨.str (PySem.Str.ofString "octets") tt_WORDS_1, fI_entry (by kernel_rfl), ⟨tt_WORDS_1, rfl⟩⟩, ik_WORDS_3 := ⟨.str (PySem.Str.ofString "permit") tt_WORDS_2, fI_entry (by kernel_rfl), ⟨tt_WORDS_2, rfl⟩⟩, ik_WORDS_4 := ⟨.str (PySem.Str.ofString "end") tt_WORDS_3, fI_entry (by kernel_rfl), ⟨tt_WORDS_3, rfl⟩⟩, ik_WORDS_5 := ⟨.str (PySem.Str.ofString "reset") tt_WORDS_4, fI_entry (by kernel_rfl), ⟨tt_WORDS_4, rfl⟩⟩, nk_WORDS := fun z hz => fI_out rfl hz, c_ThroughlineError := PySem.W.mg_of X G c_ThroughlineError, c_InvalidOptions := PySem.W.mg_of X G c_InvalidOptions, c_InvalidAmount := PySem.W.mg_of X G c_InvalidAmount, c_InvalidFrame := PySem.W.mg_of X G c_InvalidFrame, c_UnknownChannel := PySem.W.mg_of X G c_UnknownChannel, c_TooManyChannels := PySem.W.mg_of X G c_TooManyChannels, xP_InvalidFrame := xP_InvalidFrame, ke_InvalidFrame := ke_InvalidFrame, be_InvalidFrame := be_InvalidFrame, te_InvalidFrame := te_InvalidFrame, xc_InvalidFrame := ⟨xg_InvalidFrame, xk_InvalidFrame, be_InvalidFrame, hd_InvalidFrame, xa_InvalidFrame, hn_all, ht_all, xm_InvalidFrame⟩, em_InvalidFrame_InvalidFrame := PySem.W.exm_ref be_InvalidFrame hd_InvalidFrame te_InvalidFrame su_InvalidFrame_InvalidFrame, em_InvalidFrame_InvalidAmount := PySem.W.exm_ref be_InvalidAmount hd_InvalidAmount te_InvalidAmount su_InvalidFrame_InvalidAmount, em_InvalidFrame_TooManyChannels := PySem.W.exm_ref be_TooManyChannels hd_TooManyChannels te_TooManyChannels su_InvalidFrame_TooManyChannels, ko_InvalidFrame_ThroughlineError := kit_refT ic_ThroughlineError te_ThroughlineError su_InvalidFrame_ThroughlineError, ko_InvalidFrame_InvalidOptions := kit_refF ic_InvalidOptions te_InvalidOptions su_InvalidFrame_InvalidOptions sr_InvalidFrame, xP_InvalidOptions := xP_InvalidOptions, ke_InvalidOptions := ke_InvalidOptions, be_InvalidOptions := be_InvalidOptions, te_InvalidOptions := te_InvalidOptions, xc_InvalidOptions := ⟨xg_InvalidOptions, xk_InvalidOptions, be_InvalidOptions, hd_InvalidOptions, xa_InvalidOptions, hn_all, ht_all, xm_InvalidOptions⟩, em_InvalidOptions_InvalidFrame := PySem.W.exm_ref be_InvalidFrame hd_InvalidFrame te_InvalidFrame su_InvalidOptions_InvalidFrame, em_InvalidOptions_InvalidAmount := PySem.W.exm_ref be_InvalidAmount hd_InvalidAmount te_InvalidAmount su_InvalidOptions_InvalidAmount, em_InvalidOptions_TooManyChannels := PySem.W.exm_ref be_TooManyChannels hd_TooManyChannels te_TooManyChannels su_InvalidOptions_TooManyChannels, ko_InvalidOptions_ThroughlineError := kit_refT ic_ThroughlineError te_ThroughlineError su_InvalidOptions_ThroughlineError, ko_InvalidOptions_InvalidOptions := kit_refT ic_InvalidOptions te_InvalidOptions su_InvalidOptions_InvalidOptions, xP_TooManyChannels := xP_TooManyChannels, ke_TooManyChannels := ke_TooManyChannels, be_TooManyChannels := be_TooManyChannels, te_TooManyChannels := te_TooManyChannels, xc_TooManyChannels := ⟨xg_TooManyChannels, xk_TooManyChannels, be_TooManyChannels, hd_TooManyChannels, xa_TooManyChannels, hn_all, ht_all, xm_TooManyChannels⟩, em_TooManyChannels_InvalidFrame := PySem.W.exm_ref be_InvalidFrame hd_InvalidFrame te_InvalidFrame su_TooManyChannels_InvalidFrame, em_TooManyChannels_InvalidAmount := PySem.W.exm_ref be_InvalidAmount hd_InvalidAmount te_InvalidAmount su_TooManyChannels_InvalidAmount, em_TooManyChannels_TooManyChannels := PySem.W.exm_ref be_TooManyChannels hd_TooManyChannels te_TooManyChannels su_TooManyChannels_TooManyChannels, ko_TooManyChannels_ThroughlineError := kit_refT ic_ThroughlineError te_ThroughlineError su_TooManyChannels_ThroughlineError, ko_TooManyChannels_InvalidOptions := kit_refF ic_InvalidOptions te_InvalidOptions su_TooManyChannels_InvalidOptions sr_TooManyChannels, xP_InvalidAmount := xP_InvalidAmount, ke_InvalidAmount := ke_InvalidAmount, be_InvalidAmount := be_InvalidAmount, te_InvalidAmount := te_InvalidAmount, xc_InvalidAmount := ⟨xg_InvalidAmount, xk_InvalidAmount, be_InvalidAmount, hd_InvalidAmount, xa_InvalidAmount, hn_all, ht_all, xm_InvalidAmount⟩, em_InvalidAmount_InvalidFrame := PySem.W.exm_ref be_InvalidFrame hd_InvalidFrame te_InvalidFrame su_InvalidAmount_InvalidFrame, em_InvalidAmount_InvalidAmount := PySem.W.exm_ref be_InvalidAmount hd_InvalidAmount te_InvalidAmount su_InvalidAmount_InvalidAmount, em_InvalidAmount_TooManyChannels := PySem.W.exm_ref be_TooManyChannels hd_TooManyChannels te_TooManyChannels su_InvalidAmount_TooManyChannels, ko_InvalidAmount_ThroughlineError := kit_refT ic_ThroughlineError te_ThroughlineError su_InvalidAmount_ThroughlineError, ko_InvalidAmount_InvalidOptions := kit_refF ic_InvalidOptions te_InvalidOptions su_InvalidAmount_InvalidOptions sr_InvalidAmount, xP_UnknownChannel := xP_UnknownChannel, ke_UnknownChannel := ke_UnknownChannel, be_UnknownChannel := be_UnknownChannel, te_UnknownChannel := te_UnknownChannel, xc_UnknownChannel := ⟨xg_UnknownChannel, xk_UnknownChannel, be_UnknownChannel, hd_UnknownChannel, xa_UnknownChannel, hn_all, ht_all, xm_UnknownChannel⟩, em_UnknownChannel_InvalidFrame := PySem.W.exm_ref be_InvalidFrame hd_InvalidFrame te_InvalidFrame su_UnknownChannel_InvalidFrame, em_UnknownChannel_InvalidAmount := PySem.W.exm_ref be_InvalidAmount hd_InvalidAmount te_InvalidAmount su_UnknownChannel_InvalidAmount, em_UnknownChannel_TooManyChannels := PySem.W.exm_ref be_TooManyChannels hd_TooManyChannels te_TooManyChannels su_UnknownChannel_TooManyChannels, ko_UnknownChannel_ThroughlineError := kit_refT ic_ThroughlineError te_ThroughlineError su_UnknownChannel_ThroughlineError, ko_UnknownChannel_InvalidOptions := kit_refF ic_InvalidOptions te_InvalidOptions su_UnknownChannel_InvalidOptions sr_UnknownChannel, c_Channel := PySem.W.mg_of X G c_Channel, k_Channel := ⟨pg_Channel, hd_Channel, po_Channel, sa_Channel⟩, n_Channel_number := n_Channel_number, n_Channel_announced := n_Channel_announced, n_Channel_queue := n_Channel_queue, n_Channel_credit := n_Channel_credit, n_Channel_finished := n_Channel_finished, n_Channel_end_sent := n_Channel_end_sent, n_Channel_unread := n_Channel_unread, n_Channel_due := n_Channel_due, n_Channel_end_came := n_Channel_end_came, n_Channel_broken := n_Channel_broken, n_Channel_reset_told := n_Channel_reset_told, c_Channels := PySem.W.mg_of X G c_Channels, k_Channels := ⟨pg_Channels, hd_Channels, po_Channels, sa_Channels⟩, n_Channels_failure := n_Channels_failure, n_Channels__window := n_Channels__window, n_Channels__most := n_Channels__most, n_Channels__next_here := n_Channels__next_here, n_Channels__next_there := n_Channels__next_there, n_Channels__channels := n_Channels__channels, n_Channels__numbers := n_Channels__numbers, n_Channels__turns := n_Channels__turns, n_Channels__offered := n_Channels__offered, n_Channels__going := n_Channels__going, n_Channels__coming := n_Channels__coming, F_Channel_init__ := F_Channel_init__, mk_Channel := ⟨mk0_Channel, a_Channel_init__, i_Channel_init__, kc_Channel⟩, F_Channel_break_off := F_Channel_break_off, b_Channel_break_off := b_Channel_break_off, a_Channel_break_off := ⟨a_Channel_break_off, i_Channel_break_off, kk_Channel_break_off⟩, F_Channel_fork := F_Channel_fork, b_Channel_fork := b_Channel_fork, a_Channel_fork := ⟨a_Channel_fork, i_Channel_fork, kk_Channel_fork⟩, F_read_number := F_read_number, b_read_number := b_read_number, m_read_number := PySem.W.mg_of X G a_read_number, F_frame_at := F_frame_at, b_frame_at := b_frame_at, m_frame_at := PySem.W.mg_of X G a_frame_at, F_Channels_init__ := F_Channels_init__, mk_Channels := ⟨mk0_Channels, a_Channels_init__, i_Channels_init__, kc_Channels⟩, F_Channels_len__ := F_Channels_len__, b_Channels_len__ := b_Channels_len__, a_Channels_len__ := ⟨a_Channels_len__, i_Channels_len__, kk_Channels_len__⟩, F_Channels_iter__ := F_Channels_iter__, b_Channels_iter__ := b_Channels_iter__, a_Channels_iter__ := ⟨a_Channels_iter__, i_Channels_iter__, kk_Channels_iter__⟩, F_Channels_open_channel := F_Channels_open_channel, b_Channels_open_channel := b_Channels_open_channel, a_Channels_open_channel := ⟨a_Channels_open_channel, i_Channels_open_channel, kk_Channels_open_channel⟩, F_Channels_accept := F_Channels_accept, b_Channels_accept := b_Channels_accept, a_Channels_accept := ⟨a_Channels_accept, i_Channels_accept, kk_Channels_accept⟩, F_Channels_finish := F_Channels_finish, b_Channels_finish := b_Channels_finish, a_Channels_finish := ⟨a_Channels_finish, i_Channels_finish, kk_Channels_finish⟩, F_Channels_reset := F_Channels_reset, b_Channels_reset := b_Channels_reset, a_Channels_reset := ⟨a_Channels_reset, i_Channels_reset, kk_Channels_reset⟩, F_Channels_status := F_Channels_status, b_Channels_status := b_Channels_status, a_Channels_status := ⟨a_Channels_status, i_Channels_status, kk_Channels_status⟩, F_Channels_take := F_Channels_take, b_Channels_take := b_Channels_take, a_Channels_take := ⟨a_Channels_take, i_Channels_take, kk_Channels_take⟩, F_Channels_receive := F_Channels_receive, b_Channels_receive := b_Channels_receive, a_Channels_receive := ⟨a_Channels_receive, i_Channels_receive, kk_Channels_receive⟩, F_Channels_fork := F_Channels_fork, b_Channels_fork := b_Channels_fork, a_Channels_fork := ⟨a_Channels_fork, i_Channels_fork, kk_Channels_fork⟩, F_Channels_known := F_Channels_known, b_Channels_known := b_Channels_known, a_Channels_known := ⟨a_Channels_known, i_Channels_known, kk_Channels_known⟩, F_Channels_add := F_Channels_add, b_Channels_add := b_Channels_add, a_Channels_add := ⟨a_Channels_add, i_Channels_add, kk_Channels_add⟩, F_Channels_room_of := F_Channels_room_of, b_Channels_room_of := b_Channels_room_of, a_Channels_room_of := ⟨a_Channels_room_of, i_Channels_room_of, kk_Channels_room_of⟩, F_Channels_take_frame := F_Channels_take_frame, b_Channels_take_frame := b_Channels_take_frame, a_Channels_take_frame := ⟨a_Channels_take_frame, i_Channels_take_frame, kk_Channels_take_frame⟩, F_Channels_failure_of := F_Channels_failure_of, b_Channels_failure_of := b_Channels_failure_of, a_Channels_failure_of := ⟨a_Channels_failure_of, i_Channels_failure_of, kk_Channels_failure_of⟩, F_Channels_apply := F_Channels_apply, b_Channels_apply := b_Channels_apply, a_Channels_apply := ⟨a_Channels_apply, i_Channels_apply, kk_Channels_apply⟩, F_failure_on := F_failure_on, b_failure_on := b_failure_on, m_failure_on := PySem.W.mg_of X G a_failure_on, F_l_cell := F_l_cell, b_l_cell := b_l_cell, m_l_cell := PySem.W.mg_of X G a_l_cell, F_l_is_integer := F_l_is_integer, b_l_is_integer := b_l_is_integer, m_l_is_integer := PySem.W.mg_of X G a_l_is_integer, F_l_start := F_l_start, b_l_start := b_l_start, m_l_start := PySem.W.mg_of X G a_l_start, F_l_digit := F_l_digit, b_l_digit := b_l_digit, m_l_digit := PySem.W.mg_of X G a_l_digit, F_l_many := F_l_many, b_l_many := b_l_many, m_l_many := PySem.W.mg_of X G a_l_many, F_l_frame := F_l_frame, b_l_frame := b_l_frame, m_l_frame := PySem.W.mg_of X G a_l_frame, F_l_negative := F_l_negative, b_l_negative := b_l_negative, m_l_negative := PySem.W.mg_of X G a_l_negative, F_l_open := F_l_open, b_l_open := b_l_open, m_l_open := PySem.W.mg_of X G a_l_open, F_l_opens := F_l_opens, b_l_opens := b_l_opens, m_l_opens := PySem.W.mg_of X G a_l_opens, F_l_shown := F_l_shown, b_l_shown := b_l_shown, m_l_shown := PySem.W.mg_of X G a_l_shown, F_l_accepts := F_l_accepts, b_l_accepts := b_l_accepts, m_l_accepts := PySem.W.mg_of X G a_l_accepts, F_l_goes_on := F_l_goes_on, b_l_goes_on := b_l_goes_on, m_l_goes_on := PySem.W.mg_of X G a_l_goes_on, F_law := F_law, b_law := b_law, m_law := PySem.W.mg_of X G a_law, cr_Channels := ⟨rd_Channels, gg_Channels⟩, cv_Channels_MOST_CHANNELS := ⟨_, cva_Channels_MOST_CHANNELS, by first | exact rfl | exact ⟨_, rfl⟩⟩, n_bool := PySem.W.mg_none_of X G z_bool, n_int := PySem.W.mg_none_of X G z_int, n_isinstance := PySem.W.mg_none_of X G z_isinstance, n_iter := PySem.W.mg_none_of X G z_iter, n_len := PySem.W.mg_none_of X G z_len, n_list := PySem.W.mg_none_of X G z_list, n_min := PySem.W.mg_none_of X G z_min, n_range := PySem.W.mg_none_of X G z_range, n_sorted := PySem.W.mg_none_of X G z_sorted }
  exact ⟨PySem.W.fnOf "law" "law" (defArgs s_law) (defBody s_law) (defScope s_law) .none kV_law dc_law pm_law an_law cd_law ct_law, fun s v => .of_eq rfl, fun base _ _ => ok_law T⟩
theorem walk {l : PySem.W.OpenLaw} {q : Program} {loose : List Str} {XP : (Str → Option Value) → Heap → Prop} {YP : World → Heap → Prop} {d : DefRec} {K : Params → PySem.W.Frag} (hn : l.most = some 63) (hdf : d.params.defaults = [])
    (hY : ∀ (w : World) (h : Heap), YP w h → (K w.params).In h)
    (F : ∀ (w : World) (mg : Str → Option Value) (fa : Addr) (h : Heap), (K w.params).In h → h.Ns mainGlobals mg → mg d.name = some (.ref fa) →
      ∃ fd : FuncData, (∀ (s : Shared) (u : Value), BindsTo s fd ⟨[u], []⟩ [("script", u)]) ∧ ∀ base : Heap, (K w.params).In base → base.Ns mainGlobals mg → FnOk l.prog w (K w.params) mg base CX0 6 fa fd ["script"] (sp_law (K w.params))) :
    PySem.W.WalkO q loose XP YP l.row.toRowW d [] (fun f vs => PySem.call f vs) :=
  L2.walk_of (n := 63) (k := 6) (x := "script") (CX := fun _ => CX0) (sp := fun w => sp_law (K w.params)) hn (by decide) hdf ⟨rfl, by decide, by decide⟩ hY F (fun _ _ a ns hl _ hS => ⟨a, ns, rfl, hS, hl, fun _ => rfl⟩) fun _ _ _ _ _ z => z
end My
open PySem PySem.W PyProof.Rows
set_option maxRecDepth 100000 in
set_option maxHeartbeats 0 in
theorem PySem.Challenge.cw_throughline_k00_sides_at_their_bounds_holds : PySem.Challenge.rw_throughline_k00_sides_at_their_bounds.Holds := by
  w_on; o_law; k_head; (case hw => w_witness2)
  k_fill
  refine My.walk (l := PySem.Challenge.rw_throughline_k00_sides_at_their_bounds) rfl rfl (fun w h Y => PySem.W.kIn_of Y) ?F
  case F =>
    intro w mg fa h KX G hmg
    refine' My.all_mk KX G hmg ?v_KINDS ?dk_KINDS ?lit_KINDS ?low_KINDS ?v_HEAD ?v_LONG_HEAD ?v_GREATEST_SIZE ?v_GREATEST_CODE ?v_WORDS ?dk_WORDS ?hh_WORDS_0 ?hh_WORDS_1 ?hh_WORDS_2 ?hh_WORDS_3 ?hh_WORDS_4 ?low_WORDS ?c_ThroughlineError ?be_ThroughlineError ?te_ThroughlineError ?hd_ThroughlineError ?ic_ThroughlineError ?c_InvalidOptions ?be_InvalidOptions ?te_InvalidOptions ?hd_InvalidOptions ?ic_InvalidOptions ?c_InvalidAmount ?be_InvalidAmount ?te_InvalidAmount ?hd_InvalidAmount ?ic_InvalidAmount ?c_InvalidFrame ?be_InvalidFrame ?te_InvalidFrame ?hd_InvalidFrame ?ic_InvalidFrame ?c_UnknownChannel ?be_UnknownChannel ?te_UnknownChannel ?hd_UnknownChannel ?ic_UnknownChannel ?c_TooManyChannels ?be_TooManyChannels ?te_TooManyChannels ?hd_TooManyChannels ?ic_TooManyChannels ?xP_InvalidFrame ?ke_InvalidFrame ?xg_InvalidFrame ?xk_InvalidFrame ?xa_InvalidFrame ?xm_InvalidFrame ?hn_all ?ht_all ?su_InvalidFrame_InvalidFrame ?su_InvalidFrame_InvalidAmount ?su_InvalidFrame_TooManyChannels ?su_InvalidFrame_ThroughlineError ?su_InvalidFrame_InvalidOptions ?sr_InvalidFrame ?xP_InvalidOptions ?ke_InvalidOptions ?xg_InvalidOptions ?xk_InvalidOptions ?xa_InvalidOptions ?xm_InvalidOptions ?su_InvalidOptions_InvalidFrame ?su_InvalidOptions_InvalidAmount ?su_InvalidOptions_TooManyChannels ?su_InvalidOptions_ThroughlineError ?su_InvalidOptions_InvalidOptions ?xP_TooManyChannels ?ke_TooManyChannels ?xg_TooManyChannels ?xk_TooManyChannels ?xa_TooManyChannels ?xm_TooManyChannels ?su_TooManyChannels_InvalidFrame ?su_TooManyChannels_InvalidAmount ?su_TooManyChannels_TooManyChannels ?su_TooManyChannels_ThroughlineError ?su_TooManyChannels_InvalidOptions ?sr_TooManyChannels ?xP_InvalidAmount ?ke_InvalidAmount ?xg_InvalidAmount ?xk_InvalidAmount ?xa_InvalidAmount ?xm_InvalidAmount ?su_InvalidAmount_InvalidFrame ?su_InvalidAmount_InvalidAmount ?su_InvalidAmount_TooManyChannels ?su_InvalidAmount_ThroughlineError ?su_InvalidAmount_InvalidOptions ?sr_InvalidAmount ?xP_UnknownChannel ?ke_UnknownChannel ?xg_UnknownChannel ?xk_UnknownChannel ?xa_UnknownChannel ?xm_UnknownChannel ?su_UnknownChannel_InvalidFrame ?su_UnknownChannel_InvalidAmount ?su_UnknownChannel_TooManyChannels ?su_UnknownChannel_ThroughlineError ?su_UnknownChannel_InvalidOptions ?sr_UnknownChannel ?c_Channel ?pg_Channel ?hd_Channel ?po_Channel ?sa_Channel ?mk0_Channel ?kc_Channel ?n_Channel_number ?n_Channel_announced ?n_Channel_queue ?n_Channel_credit ?n_Channel_finished ?n_Channel_end_sent ?n_Channel_unread ?n_Channel_due ?n_Channel_end_came ?n_Channel_broken ?n_Channel_reset_told ?c_Channels ?pg_Channels ?hd_Channels ?po_Channels ?sa_Channels ?mk0_Channels ?kc_Channels ?n_Channels_failure ?n_Channels__window ?n_Channels__most ?n_Channels__next_here ?n_Channels__next_there ?n_Channels__channels ?n_Channels__numbers ?n_Channels__turns ?n_Channels__offered ?n_Channels__going ?n_Channels__coming ?rd_Channels ?gg_Channels ?cva_Channels_MOST_CHANNELS ?a_Channel_init__ ?i_Channel_init__ ?l_Channel_init__ ?cc_Channel_init__ ?kk_Channel_init__ ?a_Channel_break_off ?i_Channel_break_off ?l_Channel_break_off ?cc_Channel_break_off ?kk_Channel_break_off ?a_Channel_fork ?i_Channel_fork ?l_Channel_fork ?cc_Channel_fork ?kk_Channel_fork ?a_read_number ?l_read_number ?cc_read_number ?kk_read_number ?a_frame_at ?l_frame_at ?cc_frame_at ?kk_frame_at ?a_Channels_init__ ?i_Channels_init__ ?l_Channels_init__ ?cc_Channels_init__ ?kk_Channels_init__ ?a_Channels_len__ ?i_Channels_len__ ?l_Channels_len__ ?cc_Channels_len__ ?kk_Channels_len__ ?a_Channels_iter__ ?i_Channels_iter__ ?l_Channels_iter__ ?cc_Channels_iter__ ?kk_Channels_iter__ ?a_Channels_open_channel ?i_Channels_open_channel ?l_Channels_open_channel ?cc_Channels_open_channel ?kk_Channels_open_channel ?a_Channels_accept ?i_Channels_accept ?l_Channels_accept ?cc_Channels_accept ?kk_Channels_accept ?a_Channels_finish ?i_Channels_finish ?l_Channels_finish ?cc_Channels_finish ?kk_Channels_finish ?a_Channels_reset ?i_Channels_reset ?l_Channels_reset ?cc_Channels_reset ?kk_Channels_reset ?a_Channels_status ?i_Channels_status ?l_Channels_status ?cc_Channels_status ?kk_Channels_status ?a_Channels_take ?i_Channels_take ?l_Channels_take ?cc_Channels_take ?kk_Channels_take ?a_Channels_receive ?i_Channels_receive ?l_Channels_receive ?cc_Channels_receive ?kk_Channels_receive ?a_Channels_fork ?i_Channels_fork ?l_Channels_fork ?cc_Channels_fork ?kk_Channels_fork ?a_Channels_known ?i_Channels_known ?l_Channels_known ?cc_Channels_known ?kk_Channels_known ?a_Channels_add ?i_Channels_add ?l_Channels_add ?cc_Channels_add ?kk_Channels_add ?a_Channels_room_of ?i_Channels_room_of ?l_Channels_room_of ?cc_Channels_room_of ?kk_Channels_room_of ?a_Channels_take_frame ?i_Channels_take_frame ?l_Channels_take_frame ?cc_Channels_take_frame ?kk_Channels_take_frame ?a_Channels_failure_of ?i_Channels_failure_of ?l_Channels_failure_of ?cc_Channels_failure_of ?kk_Channels_failure_of ?a_Channels_apply ?i_Channels_apply ?l_Channels_apply ?cc_Channels_apply ?kk_Channels_apply ?a_failure_on ?l_failure_on ?cc_failure_on ?kk_failure_on ?a_l_cell ?l_l_cell ?cc_l_cell ?kk_l_cell ?a_l_is_integer ?l_l_is_integer ?cc_l_is_integer ?kk_l_is_integer ?a_l_start ?l_l_start ?cc_l_start ?kk_l_start ?a_l_digit ?l_l_digit ?cc_l_digit ?kk_l_digit ?a_l_many ?l_l_many ?cc_l_many ?kk_l_many ?a_l_frame ?l_l_frame ?cc_l_frame ?kk_l_frame ?a_l_negative ?l_l_negative ?cc_l_negative ?kk_l_negative ?a_l_open ?l_l_open ?cc_l_open ?kk_l_open ?a_l_opens ?l_l_opens ?cc_l_opens ?kk_l_opens ?a_l_shown ?l_l_shown ?cc_l_shown ?kk_l_shown ?a_l_accepts ?l_l_accepts ?cc_l_accepts ?kk_l_accepts ?a_l_goes_on ?l_l_goes_on ?cc_l_goes_on ?kk_l_goes_on ?a_law ?l_law ?cc_law ?kk_law ?z_bool ?z_int ?z_isinstance ?z_iter ?z_len ?z_list ?z_min ?z_range ?z_sorted
    (case v_KINDS => k_is)
    (case dk_KINDS => k_is)
    (case lit_KINDS => exact ⟨⟨_, _, rfl, rfl⟩, ⟨_, _, rfl, rfl⟩, ⟨_, _, rfl, rfl⟩, ⟨_, _, rfl, rfl⟩, ⟨_, _, rfl, rfl⟩, trivial⟩)
    (case low_KINDS => first | rfl | decide)
    (case v_HEAD => k_is)
    (case v_LONG_HEAD => k_is)
    (case v_GREATEST_SIZE => k_is)
    (case v_GREATEST_CODE => k_is)
    (case v_WORDS => k_is)
    (case dk_WORDS => k_is)
    (case hh_WORDS_0 => first | rfl | decide +kernel)
    (case hh_WORDS_1 => first | rfl | decide +kernel)
    (case hh_WORDS_2 => first | rfl | decide +kernel)
    (case hh_WORDS_3 => first | rfl | decide +kernel)
    (case hh_WORDS_4 => first | rfl | decide +kernel)
    (case low_WORDS => first | rfl | decide)
    (case c_ThroughlineError => k_is)
    (case be_ThroughlineError => k_is)
    (case te_ThroughlineError => k_is)
    (case hd_ThroughlineError => k_is)
    (case ic_ThroughlineError => k_is)
    (case c_InvalidOptions => k_is)
    (case be_InvalidOptions => k_is)
    (case te_InvalidOptions => k_is)
    (case hd_InvalidOptions => k_is)
    (case ic_InvalidOptions => k_is)
    (case c_InvalidAmount => k_is)
    (case be_InvalidAmount => k_is)
    (case te_InvalidAmount => k_is)
    (case hd_InvalidAmount => k_is)
    (case ic_InvalidAmount => k_is)
    (case c_InvalidFrame => k_is)
    (case be_InvalidFrame => k_is)
    (case te_InvalidFrame => k_is)
    (case hd_InvalidFrame => k_is)
    (case ic_InvalidFrame => k_is)
    (case c_UnknownChannel => k_is)
    (case be_UnknownChannel => k_is)
    (case te_UnknownChannel => k_is)
    (case hd_UnknownChannel => k_is)
    (case ic_UnknownChannel => k_is)
    (case c_TooManyChannels => k_is)
    (case be_TooManyChannels => k_is)
    (case te_TooManyChannels => k_is)
    (case hd_TooManyChannels => k_is)
    (case ic_TooManyChannels => k_is)
    (case xP_InvalidFrame => k_exc)
    (case ke_InvalidFrame => k_is)
    (case xg_InvalidFrame => k_is)
    (case xk_InvalidFrame => k_is)
    (case xa_InvalidFrame => k_is)
    (case xm_InvalidFrame => k_is)
    (case hn_all => k_is)
    (case ht_all => k_is)
    (case su_InvalidFrame_InvalidFrame => first | k_is | rfl)
    (case su_InvalidFrame_InvalidAmount => first | k_is | rfl)
    (case su_InvalidFrame_TooManyChannels => first | k_is | rfl)
    (case su_InvalidFrame_ThroughlineError => first | k_is | rfl)
    (case su_InvalidFrame_InvalidOptions => first | k_is | rfl)
    (case sr_InvalidFrame => first | rfl | k_is)
    (case xP_InvalidOptions => k_exc)
    (case ke_InvalidOptions => k_is)
    (case xg_InvalidOptions => k_is)
    (case xk_InvalidOptions => k_is)
    (case xa_InvalidOptions => k_is)
    (case xm_InvalidOptions => k_is)
    (case su_InvalidOptions_InvalidFrame => first | k_is | rfl)
    (case su_InvalidOptions_InvalidAmount => first | k_is | rfl)
    (case su_InvalidOptions_TooManyChannels => first | k_is | rfl)
    (case su_InvalidOptions_ThroughlineError => first | k_is | rfl)
    (case su_InvalidOptions_InvalidOptions => first | k_is | rfl)
    (case xP_TooManyChannels => k_exc)
    (case ke_TooManyChannels => k_is)
    (case xg_TooManyChannels => k_is)
    (case xk_TooManyChannels => k_is)
    (case xa_TooManyChannels => k_is)
    (case xm_TooManyChannels => k_is)
    (case su_TooManyChannels_InvalidFrame => first | k_is | rfl)
    (case su_TooManyChannels_InvalidAmount => first | k_is | rfl)
    (case su_TooManyChannels_TooManyChannels => first | k_is | rfl)
    (case su_TooManyChannels_ThroughlineError => first | k_is | rfl)
    (case su_TooManyChannels_InvalidOptions => first | k_is | rfl)
    (case sr_TooManyChannels => first | rfl | k_is)
    (case xP_InvalidAmount => k_exc)
    (case ke_InvalidAmount => k_is)
    (case xg_InvalidAmount => k_is)
    (case xk_InvalidAmount => k_is)
    (case xa_InvalidAmount => k_is)
    (case xm_InvalidAmount => k_is)
    (case su_InvalidAmount_InvalidFrame => first | k_is | rfl)
    (case su_InvalidAmount_InvalidAmount => first | k_is | rfl)
    (case su_InvalidAmount_TooManyChannels => first | k_is | rfl)
    (case su_InvalidAmount_ThroughlineError => first | k_is | rfl)
    (case su_InvalidAmount_InvalidOptions => first | k_is | rfl)
    (case sr_InvalidAmount => first | rfl | k_is)
    (case xP_UnknownChannel => k_exc)
    (case ke_UnknownChannel => k_is)
    (case xg_UnknownChannel => k_is)
    (case xk_UnknownChannel => k_is)
    (case xa_UnknownChannel => k_is)
    (case xm_UnknownChannel => k_is)
    (case su_UnknownChannel_InvalidFrame => first | k_is | rfl)
    (case su_UnknownChannel_InvalidAmount => first | k_is | rfl)
    (case su_UnknownChannel_TooManyChannels => first | k_is | rfl)
    (case su_UnknownChannel_ThroughlineError => first | k_is | rfl)
    (case su_UnknownChannel_InvalidOptions => first | k_is | rfl)
    (case sr_UnknownChannel => first | rfl | k_is)
    (case c_Channel => k_is)
    (case pg_Channel => k_is)
    (case hd_Channel => k_is)
    (case po_Channel => k_is)
    (case sa_Channel => k_is)
    (case mk0_Channel => k_is)
    (case kc_Channel => k_is)
    (case n_Channel_number => k_is)
    (case n_Channel_announced => k_is)
    (case n_Channel_queue => k_is)
    (case n_Channel_credit => k_is)
    (case n_Channel_finished => k_is)
    (case n_Channel_end_sent => k_is)
    (case n_Channel_unread => k_is)
    (case n_Channel_due => k_is)
    (case n_Channel_end_came => k_is)
    (case n_Channel_broken => k_is)
    (case n_Channel_reset_told => k_is)
    (case c_Channels => k_is)
    (case pg_Channels => k_is)
    (case hd_Channels => k_is)
    (case po_Channels => k_is)
    (case sa_Channels => k_is)
    (case mk0_Channels => k_is)
    (case kc_Channels => k_is)
    (case n_Channels_failure => k_is)
    (case n_Channels__window => k_is)
    (case n_Channels__most => k_is)
    (case n_Channels__next_here => k_is)
    (case n_Channels__next_there => k_is)
    (case n_Channels__channels => k_is)
    (case n_Channels__numbers => k_is)
    (case n_Channels__turns => k_is)
    (case n_Channels__offered => k_is)
    (case n_Channels__going => k_is)
    (case n_Channels__coming => k_is)
    (case rd_Channels => k_is)
    (case gg_Channels => k_is)
    (case cva_Channels_MOST_CHANNELS => k_is)
    (case a_Channel_init__ => k_is)
    (case i_Channel_init__ => k_is)
    (case l_Channel_init__ => k_is)
    (case cc_Channel_init__ => k_is)
    (case kk_Channel_init__ => k_is)
    (case a_Channel_break_off => k_is)
    (case i_Channel_break_off => k_is)
    (case l_Channel_break_off => k_is)
    (case cc_Channel_break_off => k_is)
    (case kk_Channel_break_off => k_is)
    (case a_Channel_fork => k_is)
    (case i_Channel_fork => k_is)
    (case l_Channel_fork => k_is)
    (case cc_Channel_fork => k_is)
    (case kk_Channel_fork => k_is)
    (case a_read_number => k_is)
    (case l_read_number => k_is)
    (case cc_read_number => k_is)
    (case kk_read_number => k_is)
    (case a_frame_at => k_is)
    (case l_frame_at => k_is)
    (case cc_frame_at => k_is)
    (case kk_frame_at => k_is)
    (case a_Channels_init__ => k_is)
    (case i_Channels_init__ => k_is)
    (case l_Channels_init__ => k_is)
    (case cc_Channels_init__ => k_is)
    (case kk_Channels_init__ => k_is)
    (case a_Channels_len__ => k_is)
    (case i_Channels_len__ => k_is)
    (case l_Channels_len__ => k_is)
    (case cc_Channels_len__ => k_is)
    (case kk_Channels_len__ => k_is)
    (case a_Channels_iter__ => k_is)
    (case i_Channels_iter__ => k_is)
    (case l_Channels_iter__ => k_is)
    (case cc_Channels_iter__ => k_is)
    (case kk_Channels_iter__ => k_is)
    (case a_Channels_open_channel => k_is)
    (case i_Channels_open_channel => k_is)
    (case l_Channels_open_channel => k_is)
    (case cc_Channels_open_channel => k_is)
    (case kk_Channels_open_channel => k_is)
    (case a_Channels_accept => k_is)
    (case i_Channels_accept => k_is)
    (case l_Channels_accept => k_is)
    (case cc_Channels_accept => k_is)
    (case kk_Channels_accept => k_is)
    (case a_Channels_finish => k_is)
    (case i_Channels_finish => k_is)
    (case l_Channels_finish => k_is)
    (case cc_Channels_finish => k_is)
    (case kk_Channels_finish => k_is)
    (case a_Channels_reset => k_is)
    (case i_Channels_reset => k_is)
    (case l_Channels_reset => k_is)
    (case cc_Channels_reset => k_is)
    (case kk_Channels_reset => k_is)
    (case a_Channels_status => k_is)
    (case i_Channels_status => k_is)
    (case l_Channels_status => k_is)
    (case cc_Channels_status => k_is)
    (case kk_Channels_status => k_is)
    (case a_Channels_take => k_is)
    (case i_Channels_take => k_is)
    (case l_Channels_take => k_is)
    (case cc_Channels_take => k_is)
    (case kk_Channels_take => k_is)
    (case a_Channels_receive => k_is)
    (case i_Channels_receive => k_is)
    (case l_Channels_receive => k_is)
    (case cc_Channels_receive => k_is)
    (case kk_Channels_receive => k_is)
    (case a_Channels_fork => k_is)
    (case i_Channels_fork => k_is)
    (case l_Channels_fork => k_is)
    (case cc_Channels_fork => k_is)
    (case kk_Channels_fork => k_is)
    (case a_Channels_known => k_is)
    (case i_Channels_known => k_is)
    (case l_Channels_known => k_is)
    (case cc_Channels_known => k_is)
    (case kk_Channels_known => k_is)
    (case a_Channels_add => k_is)
    (case i_Channels_add => k_is)
    (case l_Channels_add => k_is)
    (case cc_Channels_add => k_is)
    (case kk_Channels_add => k_is)
    (case a_Channels_room_of => k_is)
    (case i_Channels_room_of => k_is)
    (case l_Channels_room_of => k_is)
    (case cc_Channels_room_of => k_is)
    (case kk_Channels_room_of => k_is)
    (case a_Channels_take_frame => k_is)
    (case i_Channels_take_frame => k_is)
    (case l_Channels_take_frame => k_is)
    (case cc_Channels_take_frame => k_is)
    (case kk_Channels_take_frame => k_is)
    (case a_Channels_failure_of => k_is)
    (case i_Channels_failure_of => k_is)
    (case l_Channels_failure_of => k_is)
    (case cc_Channels_failure_of => k_is)
    (case kk_Channels_failure_of => k_is)
    (case a_Channels_apply => k_is)
    (case i_Channels_apply => k_is)
    (case l_Channels_apply => k_is)
    (case cc_Channels_apply => k_is)
    (case kk_Channels_apply => k_is)
    (case a_failure_on => k_is)
    (case l_failure_on => k_is)
    (case cc_failure_on => k_is)
    (case kk_failure_on => k_is)
    (case a_l_cell => k_is)
    (case l_l_cell => k_is)
    (case cc_l_cell => k_is)
    (case kk_l_cell => k_is)
    (case a_l_is_integer => k_is)
    (case l_l_is_integer => k_is)
    (case cc_l_is_integer => k_is)
    (case kk_l_is_integer => k_is)
    (case a_l_start => k_is)
    (case l_l_start => k_is)
    (case cc_l_start => k_is)
    (case kk_l_start => k_is)
    (case a_l_digit => k_is)
    (case l_l_digit => k_is)
    (case cc_l_digit => k_is)
    (case kk_l_digit => k_is)
    (case a_l_many => k_is)
    (case l_l_many => k_is)
    (case cc_l_many => k_is)
    (case kk_l_many => k_is)
    (case a_l_frame => k_is)
    (case l_l_frame => k_is)
    (case cc_l_frame => k_is)
    (case kk_l_frame => k_is)
    (case a_l_negative => k_is)
    (case l_l_negative => k_is)
    (case cc_l_negative => k_is)
    (case kk_l_negative => k_is)
    (case a_l_open => k_is)
    (case l_l_open => k_is)
    (case cc_l_open => k_is)
    (case kk_l_open => k_is)
    (case a_l_opens => k_is)
    (case l_l_opens => k_is)
    (case cc_l_opens => k_is)
    (case kk_l_opens => k_is)
    (case a_l_shown => k_is)
    (case l_l_shown => k_is)
    (case cc_l_shown => k_is)
    (case kk_l_shown => k_is)
    (case a_l_accepts => k_is)
    (case l_l_accepts => k_is)
    (case cc_l_accepts => k_is)
    (case kk_l_accepts => k_is)
    (case a_l_goes_on => k_is)
    (case l_l_goes_on => k_is)
    (case cc_l_goes_on => k_is)
    (case kk_l_goes_on => k_is)
    (case a_law => k_is)
    (case l_law => k_is)
    (case cc_law => k_is)
    (case kk_law => k_is)
    (case z_bool => k_is)
    (case z_int => k_is)
    (case z_isinstance => k_is)
    (case z_iter => k_is)
    (case z_len => k_is)
    (case z_list => k_is)
    (case z_min => k_is)
    (case z_range => k_is)
    (case z_sorted => k_is)
#print axioms PySem.Challenge.cw_throughline_k00_sides_at_their_bounds_holds

